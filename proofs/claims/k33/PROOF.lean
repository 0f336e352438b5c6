import PyProof.Rows.All
import Wide.All
import OpenK.AllK
import Wide.FinOn
import Lean
import PyProof.EqAt
import PyProof.EqKinds
import PyProof.TupleCall
import PySem.SetOps
import PyProof.SetScanFacts
import PyProof.TupleKey
import PyProof.SetKind
import PyProof.SetRoads
import PyProof.IsRules
import PyProof.ZipIter
import PyProof.TupleIter
import PyProof.ListMulRoad
import PyProof.FactsAll.tuple
import PyProof.ListRange
import PyProof.Draws
import PyProof.EnumFor
import PyProof.Rows.ListMul
import PyProof.AutoListH
import PyProof.ExcInit
import PyProof.ExcClass2
import PyProof.InstStore
import PyProof.InstStoreFacts
import PyProof.ExcArgsOwn
import PyProof.IsInstance
import PyProof.IsInstanceH
import PyProof.StationsW
import PyProof.Rows.CatchOwn
import PyProof.FactsAll.dict_1
import PySem.Challenge.RW_purseborder_k33_lasting_refused
set_option Elab.async false
set_option linter.all false
set_option maxRecDepth 100000
set_option genSizeOf false
abbrev Ae:=PySem.Value->PySem.Shared->Prop
abbrev Ag:=List (PySem.Addr×PySem.Obj)
abbrev Ad:=List PySem.Value
abbrev Aq:=PySem.Str->Option PySem.Value
abbrev Av:=Array PySem.Value
def AG {p:Prop}[Decidable p](h:decide p=true:=by decide +kernel):p:=of_decide_eq_true h
noncomputable section
def JI:=@PySem.wpAny_bind
def KC:=@PySem.Heap.get?_push_of_some
def KD:=@PySem.wpAny_loadPart_at
def KG:=@PySem.wpAny_mono
def KH:=@PySem.wpAny_field
def KI:=@decide_eq_false
def KJ:=@PySem.wpAny_holding
def KN:=@PySem.Heap.get?_update_self
def KL:=@PySem.PassesOwn.never
def KO:=@PySem.Heap.get?_update_other
def KQ:=@PySem.wpAny_call_entry
def KP:=@PySem.wpAny_setState_of
def KU:=@decide_eq_true
def KS:=@PySem.wpAny_setField
def KR:=@PySem.wpAny_isSubtype_exc
def KY:=@PySem.wpAny_newObj_type
def KW:=@PySem.wpAny_seqItems
def KZ:=@PySem.wpAny_truthy_bool
def K2:=@PySem.wpAny_execs_nil
def K1:=@PySem.wpAny_passesOwn
def K0:=@PySem.wpAny_callSpecial?_slot
def K4:=@PySem.wpAny_pyIter_list
def K3:=@PySem.wpAny_setField_rec
def K7:=@PySem.wpAny_Call_Name_kw
def K6:=@PySem.Heap.get?_update_ne
def K5:=@PySem.wpAny_askSetting
def K8:=@PySem.Heap.get?_none_of_le
def Ak:=@Option.bind_eq_some_iff
def Ap:=@List.mem_cons_self
def Ax:=@List.mem_cons_of_mem
def AB:=@Option.map_eq_some_iff
def AV:=@List.not_mem_nil
def A9:=@List.map_nil
def Bh:=@List.nodup_cons
def Bg:=@List.lookup_cons
def Bf:=@List.contains_cons
def Bs:=@Nat.lt_or_ge
def Bz:=@List.pairwise_cons
def BI:=@Nat.ne_of_gt
def BH:=@Nat.lt_succ_of_lt
def BG:=@List.any_cons
def BN:=@Bool.false_ne_true
def BZ:=@List.replicate_succ
def B4:=@List.length_nil
def B3:=@List.mem_iff_getElem
def B2:=@List.ext_getElem
def Ci:=@List.append_nil
def Cg:=@List.flatten_cons
def Cf:=@List.pairwise_map
def Ce:=@Nat.le_add_right
def Cu:=@List.filterMap_cons
def Ct:=@List.getElem?_append_left
def Cs:=@List.pairwise_iff_getElem
def Cr:=@Nat.le_succ
def Cq:=@List.find?_cons
def Cp:=@Array.getElem_toList
def Co:=@List.mem_flatMap
def CQ:=@List.mem_append_left
def CP:=@List.mem_filterMap
def CO:=@List.length_set
def CN:=@Bool.and_false
def CM:=@List.getElem?_set
def CL:=@List.map_congr_left
def CK:=@Array.getElem?_eq_none
def CJ:=@Int.toNat_natCast
def CI:=@Bool.or_true
def C8:=@List.getElem?_append_right
def C7:=@Nat.lt_trans
def C6:=@Array.size_map
def C5:=@List.range_succ_eq_map
def C4:=@Nat.mod_lt
def C3:=@List.toList_toArray
def C2:=@Int.zero_add
def C1:=@Nat.zero_add
def C0:=@Int.natCast_add
def CZ:=@List.mem_nil_iff
def DH:=@List.of_mem_zip
def DG:=@Option.isSome_iff_exists
def DF:=@List.getElem?_replicate
def DE:=@List.forIn_cons
def DD:=@Array.getD_eq_getD_getElem?
def DC:=@Bool.and_self
def DB:=@Int.emod_nonneg
def DA:=@Nat.mul_comm
def Dz:=@Nat.lt_trichotomy
def Dy:=@Array.getElem?_setIfInBounds
def Dx:=@List.foldl_cons
def Dw:=@List.mem_iff_getElem?
def Dv:=@List.map_take
def Du:=@List.map_drop
def Dt:=@List.zipIdx_cons
def Ds:=@List.length_filter_le
def D1:=@Array.append_assoc
def D0:=@List.getElem?_set_self
def DZ:=@List.getElem?_set_ne
def DY:=@List.length_take
def DX:=@Bool.not_eq_true'
def DW:=@List.getElem_range
def DV:=@List.mem_erase_of_ne
def DU:=@List.length_erase_of_mem
def DT:=@List.length_pos_of_mem
def DS:=@List.nodup_range
def DR:=@List.getElem?_cons_succ
def DQ:=@List.take_append_drop
def DP:=@List.perm_ext_iff_of_nodup
def zc6:=@Array.getElem?_setIfInBounds_ne
def zc7:=@Int.mul_le_mul_of_nonneg_right
def AA:=@List.size_toArray
def A3:=@List.getElem?_eq_getElem
def AK:=@List.getElem?_eq_some_iff
def AE:=@List.getElem?_map
def Aj:=@Nat.le_refl
def Ai:=@List.mem_cons
def Au:=@List.map_cons
def AD:=@List.length_map
def Al:=@PySem.Heap.lt_size
def AF:=@PySem.Heap.get?_push_size
def Ay:=@List.mem_map
def Bv:=@List.getD_eq_getElem?_getD
def Cy:=@Bool.not_false
def Ar:=@Nat.ne_of_lt
def AY:=@List.mem_append_right
def CS:=@Bool.not_true
def AX:=@List.mem_singleton
def Bl:=@List.mem_of_getElem?
def Bk:=@Array.getElem?_eq_getElem
def A0:=@List.mem_append
def AW:=@List.length_cons
def AR:=@List.mem_range
def A_:=@PySem.W.mg_none_of
def A2:=@Nat.lt_of_lt_of_le
def Bc:=@Bool.false_eq_true
def B7:=@List.length_range
def AQ:=@Int.le_refl
def BL:=@Bool.eq_iff_iff
def Bu:=@List.mem_filter
def BP:=@Option.bind_some
def Bb:=@List.any_eq_true
def Ac:=@PySem.wpAny_pure
def BB:=@Array.length_toList
def BK:=@Array.getElem?_toList
def AO:=@Nat.zero_le
def A5:=@Option.some.inj
def AZ:=@List.map_map
def B6:=@List.length_append
def BJ:=@List.getElem_mem
def BA:=@Nat.le_trans
def B5:=@Nat.lt_irrefl
def Cj:=@Nat.lt_succ_self
def BO:=@Nat.le_of_lt
def Bj:=@List.all_eq_true
def Bi:=@Bool.and_eq_true
def Cw:=@List.map_append
def Cv:=@Int.toNat_of_nonneg
abbrev Ab:=PySem.W.Frag
namespace L2
open PySem PySem.Spec PyProof.Rows
abbrev Key:=Sum Int Str
noncomputable def pC:Key->Value->Bool
 | .inl k,v=>Value.isInt k v
 | .inr x,v=>Value.isStrOf x v
noncomputable def QL (w:World):Key->Int
 | .inl k=>hashInt k
 | .inr x=>hashStr w x
theorem tV:∀ {k:Key}{v:Value},pC k v=true->(∃ i t,k=Sum.inl i/\v=Value.int i t)\/(∃ x t,k=Sum.inr x/\v=Value.str x t)
 | .inl i,v,h=>by
  obtain⟨t,e⟩:=Value.isInt_shape (k:=i) (v:=v) h
  exact .inl ⟨i,t,rfl,e⟩
 | .inr x,v,h=>by
  obtain⟨t,e⟩:=Value.isStrOf_shape (x:=x) (v:=v) h
  exact .inr ⟨x,t,rfl,e⟩
def QK (i:Int) (t:Tok):pC (.inl i) (.int i t)=true:=by simp[pC,Value.isInt]
def QJ (x:Str) (t:Tok):pC (.inr x) (.str x t)=true:=by simp[pC,Value.isStrOf]
def QI (a b:Int):decide ((Sum.inl a:Key)=Sum.inl b)=(a == b):=by
 by_cases e:a=b
 ·subst e;simp
 ·have h:¬ (Sum.inl a:Key)=Sum.inl b:=λ q=>e (Sum.inl.inj q)
  rw[KI h]
  exact (beq_eq_false_iff_ne.mpr e).symm
def QF (a b:Str):decide ((Sum.inr a:Key)=Sum.inr b)=decide (a=b):=by
 by_cases e:a=b
 ·subst e;simp
 ·have h:¬ (Sum.inr a:Key)=Sum.inr b:=λ q=>e (Sum.inr.inj q)
  rw[KI h,KI e]
def QH (a:Int) (b:Str):decide ((Sum.inl a:Key)=Sum.inr b)=false:=KI (λ q=>nomatch q)
def QG (a:Str) (b:Int):decide ((Sum.inr a:Key)=Sum.inl b)=false:=KI (λ q=>nomatch q)
def wI (prog:Program) (w:World):PySem.KeyKind prog w Key where
 is:=pC
 hash:=QL w
 inj:=λ v a b ha hb=>by
  rcases tV ha with ⟨i,t,rfl,rfl⟩ | ⟨x,t,rfl,rfl⟩
  ·rcases tV hb with ⟨j,u,rfl,e⟩ | ⟨y,u,rfl,e⟩
   ·injection e with e1 _;rw[e1]
   ·exact nomatch e
  ·rcases tV hb with ⟨j,u,rfl,e⟩ | ⟨y,u,rfl,e⟩
   ·exact nomatch e
   ·injection e with e1 _;rw[e1]
 byValue:=λ k v h=>by
  rcases tV h with ⟨i,t,rfl,rfl⟩ | ⟨x,t,rfl,rfl⟩ <;> rfl
 pyHash:=λ hv h=>by
  rcases tV hv with ⟨i,t,rfl,rfl⟩ | ⟨x,t,rfl,rfl⟩
  ·exact wpAny_pyHash_int h
  ·exact wpAny_pyHash_str h
 eqBool:=λ hu hv h=>by
  rcases tV hu with ⟨i,t,rfl,rfl⟩ | ⟨x,t,rfl,rfl⟩
  ·rcases tV hv with ⟨j,u,rfl,rfl⟩ | ⟨y,u,rfl,rfl⟩
   ·rw[QI] at h;exact wpAny_eqBool_int h
   ·rw[QH] at h;exact SeqAt.EqAt.int_str i t y u _ _ _ _ h
  ·rcases tV hv with ⟨j,u,rfl,rfl⟩ | ⟨y,u,rfl,rfl⟩
   ·rw[QG] at h;exact SeqAt.EqAt.str_int x t j u _ _ _ _ h
   ·rw[QF] at h;exact wpAny_eqBool_str h
 «strs»:=λ k x t v h=>by
  rcases tV h with ⟨i,u,rfl,e⟩ | ⟨y,u,rfl,e⟩
  ·exact nomatch e
  ·injection e with e1 _
   subst e1
   cases v <;> rfl
def Qk (prog:Program) (w:World) (i:Int) (t:Tok):(wI prog w).is (.inl i) (.int i t)=true:=QK i t
def Qj (prog:Program) (w:World) (x:Str) (t:Tok):(wI prog w).is (.inr x) (.str x t)=true:=QJ x t
inductive V where
 | zk | bl (b:Bool) | int (i:Int) | str (x:Str) | mv (b:Array UInt8) | fD (b:UInt64) | ref (a:Addr) | ty (n:String)
 deriving DecidableEq
noncomputable def RelV:V->Value->Prop
 | .zk,u=>u=Value.none
 | .bl b,u=>u=Value.bool b
 | .int i,u=>∃ t,u=Value.int i t
 | .str x,u=>∃ t,u=Value.str x t
 | .mv b,u=>∃ t,u=Value.bytes b t
 | .fD b,u=>∃ t,u=Value.float b t
 | .ref a,u=>u=Value.ref a
 | .ty n,u=>u=Value.type n
abbrev Vals:List V->List Value->Prop:=Paired RelV
theorem Vals.length {xs:List V}{us:Ad}(r:Vals xs us):xs.length=us.length:=Paired.length r
theorem Vals.get:∀ {xs:List V}{us:Ad}{i:Nat}{x:V},Vals xs us->xs[i]?=some x->∃ u,us[i]?=some u/\RelV x u
 | _,_,_,_,.nil,e=>by simp at e
 | _,_,0,_,.cons r _,e=>by simp at e;subst e;exact⟨_,rfl,r⟩
 | _,_,i+1,x,.cons _ t,e=>by
  obtain⟨u,h1,h2⟩:=Vals.get (i:=i) (x:=x) t (by simpa using e)
  exact⟨u,by simpa using h1,h2⟩
theorem Vals.set {x:V}{u:Value}(r:RelV x u):∀ {xs:List V}{us:Ad}(i:Nat),Vals xs us->Vals (xs.set i x) (us.set i u)
 | _,_,_,.nil=>.nil
 | _,_,0,.cons _ t=>.cons r t
 | _,_,i+1,.cons q t=>.cons q (Vals.set r i t)
theorem Vals.append:∀ {xs ys:List V}{us ws:Ad},Vals xs us->Vals ys ws->Vals (xs++ys) (us++ws)
 | _,_,_,_,.nil,s=>s
 | _,_,_,_,.cons r t,s=>.cons r (Vals.append t s)
noncomputable def vU:Option V->Option Value->Prop
 | some v,some u=>RelV v u
 | none,none=>True
 | _,_=>False
def KV {κ:Type}:List (κ × V)->List (κ × Value)->Prop:=Paired λ(p:κ × V) (q:κ × Value)=>p.1=q.1/\RelV p.2 q.2
noncomputable def kV:Key->V
 | .inl i=>.int i
 | .inr x=>.str x
inductive HO where
 /-- a list -/
 | lst (xs:List V)
 /-- a tuple (never changes) -/
 | tup (xs:List V)
 /-- a dict Iu keys are ints and texts;one Iu keys are tuples of ints and texts (Ig empty one is both) -/
 | dK (Aa:List (Key×V)) | dT (Aa:List (List Key×V))
 /-- a set of ints: its members,its size -/
 | set (S:Int->Bool) (n:Nat)
 /-- an instance of Ig class at C,its dict at dx,its attributes -/
 | ins (C dx:Addr) (fs:List (Str×V))
 /-- Ig dict of Ig instance at x -/
 | own (x:Addr)
 /-- Ig dict of an exception -/
 | xd (fs:List (Str×V))
 /-- a bound method,f of x -/
 | met (f x:Addr)
 /-- a range object lo,lo+1,.. below hi -/
 | iK (lo hi:Int)
 /-- a Iy that is known to Ig object (Ig JM;a dict while a loop walks it): read,never written while it is so -/
 | wa (o:Obj) (u:HO)
 /-- a code ID table -/
 | rQ (ps:Av)
 /-- any other Iy,by what is true of its one object (a def of one's own: yO a S n:=HO.ext λ h=>..) -/
 | ext (φ:Heap->Prop)
abbrev Hp:=Addr->Option HO
noncomputable def upd (H:Hp) (a:Addr) (o:HO):Hp:=λ b=>if b=a then some o else H b
def ye {H:Hp}{a:Addr}{o:HO}:upd H a o a=some o:=by unfold upd;rw[if_pos rfl]
def zF {H:Hp}{a b:Addr}{o:HO}(h:b≠a):upd H a o b=H b:=by unfold upd;rw[if_neg h]
def uo {H:Hp}{a b:Addr}{o u:HO}(h:H a=some o) (h':H b=some u) (d:o≠u):a≠b:=by
 intro e;subst e;rw[h] at h';exact d (A5 h')
def xC {H:Hp}{a b:Addr}{o:HO}(h:H a=some o) (h':H b=none):a≠b:=by
 intro e;subst e;rw[h] at h';cases h'
section
variable (P:Program)(w:World)
noncomputable def y_ (H:Hp) (h:Heap) (a:Addr):HO->Prop
 | .lst xs=>xs.length<=sizeLine/\∃ (its:Ad) (n:Nat),Vals xs its/\h.get? a=some { cls:=.type "list",data:=.seq its.toArray n }
 | .tup xs=>xs.length<=sizeLine/\∃ its:List Value,Vals xs its/\IsTup h a its.toArray
 | .dK Aa=>Aa.length<=sizeLine/\(a == sysModules)=false/\∃ vs,KV Aa vs/\h.DictOf (wI P w) a vs
 | .dT Aa=>Aa.length<=sizeLine/\(a == sysModules)=false/\∃ xs:List (List Key×Addr×Value),
   Paired (λ(p:List Key×V) (q:List Key×Addr×Value)=>p.1=q.1/\H q.2.1=some (.tup (p.1.map kV))/\RelV p.2 q.2.2) Aa xs/\
   ∃ o es ep,h.get? a=some o/\o.ExactDict/\o.data=.dict es ep/\es.toList=xs.map (entryOfKey (tupleKind (wI P w)))/\(xs.map (·.1)).Nodup
 | .set S n=>h.SetOf (intKind P w) a S n
 | .ins C dx fs=>H dx=some (.own a)/\fs.length<=1000/\dx≠a/\h.get? a=some (PySem.W.instObj C dx)/\
   ∃ mA,h.Ns1 dx mA/\(∀ f,vU (fs.lookup f) (mA f))/\PySem.Within mA (fs.map (·.1))
 | .own _=>∃ o,h.get? a=some o
 | .xd fs=>∃ mA,h.Ns1 a mA/\∀ f,vU (fs.lookup f) (mA f)
 | .iK lo hi=>∃ t u v,h.get? a=some { cls:=.type "range",data:=.fields #[.int lo t,.int hi u,.int 1 v] }
 | .wa o u=>h.get? a=some o/\y_ H h a u
 | .rQ ps=>h.get? a=some { cls:=.none,data:=.fields ps }
 | .met f x=>h.get? a=some (PySem.W.methodObj (.ref f) (.ref x))
 | .ext φ=>φ h/\(∃ o,h.get? a=some o)/\∀ h1 h2:Heap,φ h1->(∀ o,h1.get? a=some o->h2.get? a=some o)->φ h2
def yf (H:Hp) (h:Heap):Prop:=∀ a o,H a=some o->y_ P w H h a o
end
section
variable {P:Program}{w:World}{H H':Hp}{h h':Heap}{a:Addr}{o:HO}
theorem y_.lt (x:y_ P w H h a o):a<h.objs.size:=by
 cases o with
 | lst xs=>obtain⟨_,_,_,_,e⟩:=x;exact Al e
 | tup xs=>obtain⟨_,_,_,p⟩:=x;exact p.lt
 | dK Aa=>obtain⟨_,_,_,_,o,_,_,e,_⟩:=x;exact Al e
 | dT Aa=>obtain⟨_,_,_,_,o,_,_,e,_⟩:=x;exact Al e
 | set S n=>obtain⟨o,_,_,_,e,_⟩:=x;exact Al e
 | ins C dx fs=>obtain⟨_,_,_,e,_⟩:=x;exact Al e
 | own y=>obtain⟨_,e⟩:=x;exact Al e
 | xd fs=>obtain⟨_,⟨_,_,_,e,_⟩,_⟩:=x;exact Al e
 | iK lo hi=>obtain⟨_,_,_,e⟩:=x;exact Al e
 | wa ob u=>obtain⟨e,_⟩:=x;exact Al e
 | rQ ps=>exact Al (show h.get? a=some _ from x)
 | met f y=>exact Al (show h.get? a=some _ from x)
 | ext φ=>obtain⟨_,⟨_,e⟩,_⟩:=x;exact Al e
theorem Paired.kz {α β:Type}{F G:α->β->Prop}:∀ {l₁:List α}{l₂:List β},Paired F l₁ l₂->(∀ a b,F a b->G a b)->Paired G l₁ l₂
 | _,_,.nil,_=>.nil
 | _,_,.cons r t,f=>.cons (f _ _ r) (Paired.kz t f)
def y_.vj (x:y_ P w H h a o) (k:∀ b u,(b=a\/H b=some (.own a))->h.get? b=some u->h'.get? b=some u)
  (ho:∀ b,H b=some (.own a)->H' b=some (.own a)) (ht:∀ b xs,H b=some (.tup xs)->H' b=some (.tup xs)):y_ P w H' h' a o:=by
 induction o with
 | lst xs=>obtain⟨z,its,n,r,e⟩:=x;exact⟨z,its,n,r,k _ _ (.inl rfl) e⟩
 | tup xs=>obtain⟨z,its,r,ob,e,c⟩:=x;exact⟨z,its,r,ob,k _ _ (.inl rfl) e,c⟩
 | dK Aa=>obtain⟨z,y,vs,r,ob,es,ep,e,c⟩:=x;exact⟨z,y,vs,r,ob,es,ep,k _ _ (.inl rfl) e,c⟩
 | dT Aa=>
  obtain⟨z,y,xs,r,ob,es,ep,e,c⟩:=x
  exact⟨z,y,xs,Paired.kz r λ p q z=>⟨z.1,ht _ _ z.2.1,z.2.2⟩,ob,es,ep,k _ _ (.inl rfl) e,c⟩
 | set S n=>obtain⟨ob,es,ep,t,e,c⟩:=x;exact⟨ob,es,ep,t,k _ _ (.inl rfl) e,c⟩
 | ins C dx fs=>
  obtain⟨d,z,ne,e,mA,⟨od,es,ep,e2,c⟩,r⟩:=x
  exact⟨ho _ d,z,ne,k _ _ (.inl rfl) e,mA,⟨od,es,ep,k _ _ (.inr d) e2,c⟩,r⟩
 | own y=>obtain⟨ob,e⟩:=x;exact⟨ob,k _ _ (.inl rfl) e⟩
 | xd fs=>obtain⟨mA,⟨od,es,ep,e,c⟩,r⟩:=x;exact⟨mA,⟨od,es,ep,k _ _ (.inl rfl) e,c⟩,r⟩
 | iK lo hi=>obtain⟨t,u,v,e⟩:=x;exact⟨t,u,v,k _ _ (.inl rfl) e⟩
 | wa ob u ih=>obtain⟨e,q⟩:=x;exact⟨k _ _ (.inl rfl) e,ih q⟩
 | rQ ps=>
  have e:h.get? a=some { cls:=.none,data:=.fields ps }:=x
  show h'.get? a=some { cls:=.none,data:=.fields ps }
  exact k a _ (.inl rfl) e
 | met f y=>
  have e:h.get? a=some (PySem.W.methodObj (.ref f) (.ref y)):=x
  show h'.get? a=some (PySem.W.methodObj (.ref f) (.ref y))
  exact k a _ (.inl rfl) e
 | ext φ=>obtain⟨p,⟨o,e⟩,st⟩:=x;exact⟨st _ _ p λ o q=>k _ _ (.inl rfl) q,⟨o,k _ _ (.inl rfl) e⟩,st⟩
theorem yf.lt (x:yf P w H h) (e:H a=some o):a<h.objs.size:=(x a o e).lt
def yf.fresh (x:yf P w H h) (e:h.objs.size<=a):H a=none:=by
 cases q:H a with
 | none=>rfl
 | some u=>exact absurd (A2 (x.lt q) e) (B5 _)
def yf.kept (x:yf P w H h) (k:∀ b u,h.get? b=some u->h'.get? b=some u):yf P w H h':=λ a o e=>
 (x a o e).vj (λ b u _ q=>k b u q) (λ _ q=>q) λ _ _ q=>q
def yf.laid (x:yf P w H h) (k:∀ b u,h.get? b=some u->h'.get? b=some u) (hp:h.objs.size<=a) (new:y_ P w (upd H a o) h' a o):yf P w (upd H a o) h':=λ b u e=>by
 have hn:=x.fresh hp
 by_cases hb:b=a
 ·subst hb;rw[ye] at e;cases e;exact new
 ·rw[zF hb] at e
  exact (x b u e).vj (λ c v _ q=>k c v q) (λ c q=>by rw[zF (xC q hn)];exact q) λ c xs q=>by rw[zF (xC q hn)];exact q
end
def Rd (H:Hp) (a:Addr) (u:HO):Prop:=H a=some u\/∃ o,H a=some (.wa o u)
def Rd.ok {P:Program}{w:World}{H:Hp}{h:Heap}{a:Addr}{u:HO}(r:Rd H a u) (x:yf P w H h):y_ P w H h a u:=by
 rcases r with r | ⟨o,r⟩
 ·exact x a u r
 ·obtain⟨_,q⟩:=x a _ r
  exact q
noncomputable def mJ:Option HO->Prop
 | some (.lst _)=>True
 | some (.dK _)=>True
 | some (.dT _)=>True
 | some (.set _ _)=>True
 | some (.ins _ _ _)=>True
 | some (.ext _)=>True
 | _=>False
section
variable {P:Program}{w:World}{H:Hp}{h h':Heap}{x e:Addr}{o':HO}
def yf.write (ok:yf P w H h) (mu:mJ (H x)) (he:e=x\/H e=some (.own x)) (k:∀ b u,b≠e->h.get? b=some u->h'.get? b=some u) (Cc:∃ u,h'.get? e=some u)
  (new:y_ P w (upd H x o') h' x o'):yf P w (upd H x o') h':=λ b u q=>by
 have IE:∀ c y,H c=some (.own y)->c≠x:=λ c y r z=>by subst z;rw[r] at mu;exact mu
 have JU:∀ c xs,H c=some (.tup xs)->c≠x:=λ c xs r z=>by subst z;rw[r] at mu;exact mu
 by_cases hb:b=x
 ·subst hb;rw[ye] at q;cases q;exact new
 ·rw[zF hb] at q
  by_cases Br:b=e
  ·have q':H b=some (.own x):=by
    rcases he with z | z
    ·exact absurd (Br.trans z) hb
    ·rw[Br];exact z
   rw[q] at q';cases q'
   obtain⟨v,hv⟩:=Cc
   exact⟨v,by rw[Br];exact hv⟩
  ·refine (ok b u q).vj (λ c v hc r=>k c v ?_ r) (λ c r=>by rw[zF (IE c b r)];exact r) λ c xs r=>by rw[zF (JU c xs r)];exact r
   rcases hc with rfl | hc
   ·exact Br
   ·rintro rfl
    rcases he with z | z
    ·exact IE c b hc z
    ·rw[hc] at z;cases z;exact hb rfl
end
structure Un (fs ex:List Addr) (H H':Hp) (h h':Heap):Prop where
 keep:∀ b o,h.get? b=some o->H b=none->b∉fs->b∉ex->h'.get? b=some o
 slot:∀ b o,h.get? b=some o->H b=none->b∈fs->b∉ex->∃ sl,h'.get? b=some { o with slots:=sl }
 free:∀ b o,h.get? b=some o->H b=none->b∉ex->H' b=none
 there:∀ b o,h.get? b=some o->b∉ex->∃ o',h'.get? b=some o'
 vi:∀ b xs,H b=some (.tup xs)->H' b=some (.tup xs)
 vG:∀ b o u,H b=some (.wa o u)->H' b=some (.wa o u)
 uf:∀ b ps,H b=some (.rQ ps)->∃ more,H' b=some (.rQ (ps++more))
section
variable {fs ex:List Addr}{H H1:Hp}{h h1 h':Heap}{a x e:Addr}{o:HO}
def Un.any (u:Un fs ex H H1 h h1) {b:Addr}{ob:Obj}(q:h.get? b=some ob) (n:H b=none) (hx:b∉ex):∃ sl,h1.get? b=some { ob with slots:=sl }:=by
 by_cases hb:b∈fs
 ·exact u.slot b ob q n hb hx
 ·exact⟨ob.slots,u.keep b ob q n hb hx⟩
def Un.kept (k:∀ b u,h.get? b=some u->h'.get? b=some u):Un fs ex H H h h':=
 ⟨λ b ob q _ _ _=>k b ob q,λ b ob q _ _ _=>⟨ob.slots,k b ob q⟩,λ _ _ _ n _=>n,λ b ob q _=>⟨ob,k b ob q⟩,λ _ _ q=>q,λ _ _ _ q=>q,λ _ ps q=>⟨#[],by rw[q];simp⟩⟩
def Un.refl:Un fs ex H H h h:=Un.kept λ _ _ q=>q
def Un.laid (k:∀ b u,h.get? b=some u->h'.get? b=some u) (hp:h.objs.size<=a) (hn:H a=none):Un fs ex H (upd H a o) h h' where
 keep:=λ b u q _ _ _=>k b u q
 slot:=λ b u q _ _ _=>⟨u.slots,k b u q⟩
 free:=λ b u q n _=>by rw[zF (Ar (A2 (Al q) hp))];exact n
 there:=λ b u q _=>⟨u,k b u q⟩
 vi:=λ b xs q=>by rw[zF (xC q hn)];exact q
 vG:=λ b u xs q=>by rw[zF (xC q hn)];exact q
 uf:=λ b ps q=>⟨#[],by rw[zF (xC q hn),q];simp⟩
def Un.write (mu:mJ (H x)) (he:e=x\/H e=some (.own x)) (k:∀ b u,b≠e->h.get? b=some u->h'.get? b=some u) (Cc:∃ u,h'.get? e=some u):Un fs ex H (upd H x o) h h':=by
 have hx:∀ b,H b=none->b≠x:=λ b n z=>by subst z;rw[n] at mu;exact mu
 have hb:∀ b,H b=none->b≠e:=λ b n z=>by
  subst z
  rcases he with r | r
  ·exact hx b n r
  ·rw[n] at r;cases r
 have hm:∀ b u,H b=some u->¬ mJ (some u)->b≠x:=λ b u q nm z=>by subst z;rw[q] at mu;exact nm mu
 refine⟨λ b u q n _ _=>k b u (hb b n) q,λ b u q n _ _=>⟨u.slots,k b u (hb b n) q⟩,λ b u q n _=>by rw[zF (hx b n)];exact n,λ b u q _=>?_,
  λ b xs q=>by rw[zF (hm b _ q λ z=>z)];exact q,λ b u xs q=>by rw[zF (hm b _ q λ z=>z)];exact q,λ b ps q=>⟨#[],by rw[zF (hm b _ q λ z=>z),q];simp⟩⟩
 by_cases Br:b=e
 ·subst Br;exact Cc
 ·exact⟨u,k b u Br q⟩
end
noncomputable def lD (h:Heap) (H:Hp):List Addr:=(List.range h.objs.size).filter λ a=>(H a).isSome
def tW (h:Heap) (H:Hp):Heap:=PySem.W.hideAll h (lD h H)
def Pn (h:Heap) (H:Hp):(tW h H).objs.size=h.objs.size:=PySem.W.hideAll_size _ _
def Po {h:Heap}{H:Hp}{b:Addr}{o:Obj}(e:h.get? b=some o) (n:H b=none):(tW h H).get? b=some o:=
 PySem.W.hideAll_get _ e λ hm=>by
  have q:(H b).isSome=true:=(Bu.mp hm).2
  rw[n] at q;simp at q
def RQ {h:Heap}{H:Hp}{b:Addr}{o:Obj}(e:(tW h H).get? b=some o):h.get? b=some o/\H b=none:=by
 have e':h.get? b=some o:=PySem.W.of_hideAll (lD h H) e
 refine⟨e',?_⟩
 cases q:H b with
 | none=>rfl
 | some x=>
  have hm:b∈lD h H:=Bu.mpr ⟨AR.mpr (Al e'),by simp[q]⟩
  have z:(tW h H).get? b=none:=PySem.W.hideAll_none (lD h H) hm
  rw[z] at e;cases e
structure Mod (K:Ab) (mg:Aq) (base:Heap):Prop where
 pB:K.In base
 glob:base.Ns mainGlobals mg
 blt:∃ mb,base.Ns builtinsNs mb/\∀ x:Str,x≠"__name__"->mb x=bootBuiltins x
 nolimit:base.NoLimit
structure Cx where
 prog:Program
 w:World
 K:Ab
 mg:Str->Option Value
 base:Heap
 A:Around
 N:List Str
 s₀:Shared
 H₀:Hp
 env:Env
 outer:List Env
 stack:List Env
 ex:List Addr
 fn:Str->Bool
 calm:Bool
 pn:Ag
 xe:Ae
noncomputable def yS (l:List Env):List Addr:=l.filterMap (·.frame)
abbrev Cx.fs (X:Cx):List Addr:=yS X.outer
def mF (sc:Scope) (x:Str):Prop:=sc.names.lookup x=some .local\/sc.names.lookup x=some .cell\/sc.names.lookup x=some .free
def Loc (sc:Scope) (x:Str):Prop:=sc.names.lookup x=some .local\/sc.names.lookup x=some .cell
def Look (env:Env) (h:Heap) (m:Aq) (x:Str) (u:Value):Prop:=
 (env.kindOf x=some .local/\m x=some u)\/((env.kindOf x=some .cell\/env.kindOf x=some .free)/\∃ c,env.cells.lookup x=some c/\h.IsCell c (some u))
structure Cx.Ok (X:Cx):Prop where
 mod:Mod X.K X.mg X.base
 kind:X.env.scope.kind=.function
 glob:X.env.globals=mainGlobals
 blt:X.env.builtins=builtinsNs
 above:X.s₀.heap.objs.size<=X.env.locals
 inj:∀ x y c,X.env.cells.lookup x=some c->X.env.cells.lookup y=some c->x=y
 has:∀ x,(X.env.kindOf x=some .cell\/X.env.kindOf x=some .free)->∃ c,X.env.cells.lookup x=some c
 qu:∀ x c,X.fn x=true->X.env.cells.lookup x=some c->X.s₀.heap.objs.size<=c
 hd:X.calm=true->X.A.handled=none
 frames:X.A.frames=some X.stack
 qL:X.stack=X.outer\/(X.stack=X.env::X.outer/\X.env.frame=some X.env.locals)
 nN:∀ b∈X.ex,b≠X.env.locals/\∀ x c,X.env.cells.lookup x=some c->c≠b
 bs:∀ b o,X.base.get? b=some o->X.s₀.heap.get? b=some o/\X.H₀ b=none
 t9:X.base.objs.size<=X.s₀.heap.objs.size
 qe:∀ b o,X.base.get? b=some o->b∉X.ex
 qo:∀ b∈X.ex,b∉X.fs
 vl:X.s₀.heap.FunFrames X.base X.outer
 tY:∀ b∈X.fs,X.H₀ b=none
structure Inv (X:Cx) (EC:Ag) (Y:List (Option V)) (H:Hp) (s:Shared):Prop where
 ok:X.Ok
 os:s.os=X.s₀.os
 bare:AllBare s.gens
 base:Un X.fs X.ex X.H₀ H X.s₀.heap s.heap
 loc:∃ m,s.heap.Ns X.env.locals m/\∀ (i:Nat) (x:Str) (v:V),X.N[i]?=some x->Y[i]?=some (some v)->mF X.env.scope x->∃ u,RelV v u/\Look X.env s.heap m x u
 cell:∀ x c,X.env.cells.lookup x=some c->∃ v,s.heap.IsCell c v
 free:H X.env.locals=none
 vc:∀ x c,X.env.cells.lookup x=some c->H c=none
 pin:∀ p∈X.pn++EC,s.heap.get? p.1=some p.2/\H p.1=none/\p.1≠X.env.locals/\p.1∉X.fs/\∀ v,p.2.data≠.cell v
 zp:yf X.prog X.w H s.heap
 len:Y.length=X.N.length
section
variable {X:Cx}{EC:Ag}{Y:List (Option V)}{H H':Hp}{s:Shared}{h':Heap}
def Cx.Ok.RY (ok:X.Ok) {b:Addr}{o:Obj}(e:X.base.get? b=some o):b∉X.fs:=λ hb=>by
 have:=(ok.vl.mem hb).1
 rw[e] at this;cases this
theorem Inv.bs (I:Inv X EC Y H s):∀ b o,X.base.get? b=some o->s.heap.get? b=some o/\H b=none:=λ b o e=>
 ⟨I.base.keep b o (I.ok.bs b o e).1 (I.ok.bs b o e).2 (I.ok.RY e) (I.ok.qe b o e),I.base.free b o (I.ok.bs b o e).1 (I.ok.bs b o e).2 (I.ok.qe b o e)⟩
def Inv.bk (I:Inv X EC Y H s):∀ b o,X.base.get? b=some o->s.heap.get? b=some o:=λ b o e=>(I.bs b o e).1
theorem Inv.mod (I:Inv X EC Y H s):Mod X.K X.mg X.base:=I.ok.mod
def Inv.yr (I:Inv X EC Y H s):X.K.In s.heap:=I.ok.mod.pB.keeps I.bk
theorem Inv.lt (I:Inv X EC Y H s):X.env.locals<s.heap.objs.size:=let ⟨_,hn,_⟩:=I.loc;hn.lt
def Inv.sz (I:Inv X EC Y H s):X.s₀.heap.objs.size<=s.heap.objs.size:=BA I.ok.above (BO I.lt)
def Inv.aw (I:Inv X EC Y H s) {a:Addr}(h:s.heap.objs.size<=a):a∉X.fs:=λ hb=>by
 obtain⟨_,o,ho,_⟩:=I.ok.vl.mem hb
 exact absurd (A2 (Al ho) (BA I.sz h)) (B5 _)
def Inv.uO (I:Inv X EC Y H s):∀ x c,X.env.cells.lookup x=some c->c≠X.env.locals:=λ x c e z=>by
 obtain⟨v,o,ho,hd⟩:=I.cell x c e
 obtain⟨m,⟨o',es,ep,FE,Hq,_⟩,_⟩:=I.loc
 rw[z,FE] at ho;cases ho;rw[Hq] at hd;cases hd
theorem Inv.vl (I:Inv X EC Y H s):s.heap.FunFrames X.base X.outer:=by
 have all:∀ (l:List Env),(∀ b∈yS l,b∈X.fs)->X.s₀.heap.FunFrames X.base l->s.heap.FunFrames X.base l:=by
  intro l
  induction l with
  | nil=>intro _ _;trivial
  | cons env r ih=>
   intro hs hl
   obtain⟨hk,⟨L,o,hf,hn,ho,hd⟩,hr⟩:=hl
   have hL:L∈X.fs:=hs L (by unfold yS;rw[Cu,hf];exact Ap)
   obtain⟨sl,e⟩:=I.base.slot L o ho (I.ok.tY L hL) hL λ z=>I.ok.qo L z hL
   exact⟨hk,⟨L,_,hf,hn,e,hd⟩,ih (λ b hb=>hs b (by unfold yS;rw[Cu,hf];exact Ax _ hb)) hr⟩
 exact all X.outer (λ _ hb=>hb) I.ok.vl
theorem Inv.stack (I:Inv X EC Y H s):s.heap.FunFrames X.base X.stack:=by
 rcases I.ok.qL with e | ⟨e,hf⟩
 ·rw[e];exact I.vl
 ·rw[e]
  obtain⟨m,hn,_⟩:=I.loc
  refine .cons (by rw[I.ok.kind];decide) hf hn ?_ I.vl
  exact K8 (BA I.ok.t9 I.ok.above)
def Inv.jN (I:Inv X EC Y H s):∀ b∈yS X.stack,b∈X.env.locals::X.fs:=λ b hb=>by
 rcases I.ok.qL with e | ⟨e,hf⟩
 ·rw[e] at hb;exact Ax _ hb
 ·rw[e] at hb
  unfold yS at hb
  rw[Cu,hf] at hb
  exact hb
def Inv.jO (I:Inv X EC Y H s):∀ b∈yS X.stack,H b=none:=λ b hb=>by
 rcases Ai.mp (I.jN b hb) with e | hb
 ·rw[e];exact I.free
 ·obtain⟨_,o,ho,_⟩:=I.ok.vl.mem hb
  exact I.base.free b o ho (I.ok.tY b hb) λ z=>I.ok.qo b z hb
def Inv.step {g':Array GenState}{t':Nat}{d':Drawn}{ch:List Addr}(I:Inv X EC Y H s)
  (B1:∀ b∈ch,(b∈X.ex\/X.s₀.heap.objs.size<=b)/\b≠X.env.locals/\(∀ x c,X.env.cells.lookup x=some c->c≠b)/\∀ p∈X.pn++EC,p.1≠b)
  (keep:∀ b o,b≠X.env.locals->b∉X.fs->b∉ch->s.heap.get? b=some o->H b=none->h'.get? b=some o)
  (slot:∀ b o,b≠X.env.locals->b∈X.fs->b∉ch->s.heap.get? b=some o->H b=none->∃ sl,h'.get? b=some { o with slots:=sl }) (free:∀ b o,b∉ch->s.heap.get? b=some o->H b=none->H' b=none)
  (there:∀ b o,b∉ch->s.heap.get? b=some o->∃ o',h'.get? b=some o')
  (vi:∀ b xs,H b=some (.tup xs)->H' b=some (.tup xs)) (vG:∀ b o u,H b=some (.wa o u)->H' b=some (.wa o u)) (uf:∀ b ps,H b=some (.rQ ps)->∃ more,H' b=some (.rQ (ps++more)))
  (ns:∀ m,s.heap.Ns X.env.locals m->h'.Ns X.env.locals m) (zp:yf X.prog X.w H' h') (hg:AllBare g'):
  Inv X EC Y H' { s with heap:=h',gens:=g',drawn:=d',toks:=t' }:=by
 have neL:∀ b o,X.s₀.heap.get? b=some o->b≠X.env.locals:=λ b o e=>Ar (A2 (Al e) I.ok.above)
 have Jt:∀ b o,X.s₀.heap.get? b=some o->b∉X.ex->b∉ch:=λ b o e hx hb=>by
  rcases (B1 b hb).1 with z | z
  ·exact hx z
  ·exact absurd (A2 (Al e) z) (B5 _)
 have cellK:∀ x c,X.env.cells.lookup x=some c->∀ v,s.heap.IsCell c v->h'.IsCell c v:=λ x c e v ⟨o,ho,hd⟩=>by
  have II:c∉ch:=λ z=>(B1 c z).2.2.1 x c e rfl
  by_cases hc:c∈X.fs
  ·obtain⟨sl,q⟩:=slot c o (I.uO x c e) hc II ho (I.vc x c e)
   exact⟨_,q,hd⟩
  ·exact⟨o,keep c o (I.uO x c e) hc II ho (I.vc x c e),hd⟩
 refine⟨I.ok,I.os,hg,⟨λ b o e n hb hx=>?_,λ b o e n hb hx=>?_,λ b o e n hx=>?_,λ b o e hx=>?_,λ b xs e=>vi b xs (I.base.vi b xs e),λ b o xs e=>vG b o xs (I.base.vG b o xs e),λ b ps e=>?_⟩,?_,λ x c e=>?_,?_,λ x c e=>?_,λ p hp=>?_,zp,I.len⟩
 ·exact keep b o (neL b o e) hb (Jt b o e hx) (I.base.keep b o e n hb hx) (I.base.free b o e n hx)
 ·obtain⟨sl,e1⟩:=I.base.slot b o e n hb hx
  obtain⟨JL,e2⟩:=slot b _ (neL b o e) hb (Jt b o e hx) e1 (I.base.free b o e n hx)
  exact⟨JL,e2⟩
 ·obtain⟨o',e1⟩:=I.base.there b o e hx
  exact free b o' (Jt b o e hx) e1 (I.base.free b o e n hx)
 ·obtain⟨o',e1⟩:=I.base.there b o e hx
  exact there b o' (Jt b o e hx) e1
 ·obtain⟨m1,e1⟩:=I.base.uf b ps e
  obtain⟨m2,e2⟩:=uf b _ e1
  exact⟨m1++m2,by rw[e2,D1]⟩
 ·obtain⟨m,hn,hl⟩:=I.loc
  refine⟨m,ns m hn,λ i x v e1 e2 e3=>?_⟩
  obtain⟨u,r,l⟩:=hl i x v e1 e2 e3
  refine⟨u,r,?_⟩
  rcases l with l | ⟨k,c,e,z⟩
  ·exact .inl l
  ·exact .inr ⟨k,c,e,cellK x c e _ z⟩
 ·obtain⟨v,z⟩:=I.cell x c e
  exact⟨v,cellK x c e v z⟩
 ·obtain⟨m,⟨o,_,_,ho,_⟩,_⟩:=I.loc
  exact free _ o (λ z=>(B1 _ z).2.1 rfl) ho I.free
 ·obtain⟨v,o,ho,hd⟩:=I.cell x c e
  exact free c o (λ z=>(B1 c z).2.2.1 x c e rfl) ho (I.vc x c e)
 ·obtain⟨e,n,ne,nf,d⟩:=I.pin p hp
  have II:p.1∉ch:=λ z=>(B1 p.1 z).2.2.2 p hp rfl
  exact⟨keep p.1 p.2 ne nf II e n,free p.1 p.2 II e n,ne,nf,d⟩
def Inv.un {t':Nat}(I:Inv X EC Y H s) (u:Un X.fs [] H H' s.heap h') (zp:yf X.prog X.w H' h'):Inv X EC Y H' { s with heap:=h',toks:=t' }:=by
 obtain⟨m,⟨o,es,ep,ho,r⟩,_⟩:=id I.loc
 obtain⟨sl,hL⟩:=u.any ho I.free (by simp)
 exact I.step (g':=s.gens) (d':=s.drawn) (ch:=[]) (λ _ z=>nomatch z) (λ b o _ hb _ e n=>u.keep b o e n hb (by simp)) (λ b o _ hb _ e n=>u.slot b o e n hb (by simp)) (λ b o _ e n=>u.free b o e n (by simp)) (λ b o _ e=>u.there b o e (by simp)) u.vi u.vG u.uf (λ m' hm=>by
  obtain⟨o',FT,Kt,FE,r'⟩:=hm
  rw[ho] at FE;cases FE
  exact⟨_,FT,Kt,hL,r'⟩) zp I.bare
def Inv.call {g':Array GenState}{t':Nat}{d':Drawn}{ch:List Addr}(I:Inv X EC Y H s) (u:Un (yS X.stack) ch H H' s.heap h') (zp:yf X.prog X.w H' h') (hg:AllBare g')
  (B1:∀ b∈ch,(b∈X.ex\/X.s₀.heap.objs.size<=b)/\b≠X.env.locals/\(∀ x c,X.env.cells.lookup x=some c->c≠b)/\∀ p∈X.pn++EC,p.1≠b):
  Inv X EC Y H' { s with heap:=h',gens:=g',drawn:=d',toks:=t' }:=by
 obtain⟨m,⟨o,es,ep,ho,r⟩,_⟩:=id I.loc
 obtain⟨sl,hL⟩:=u.any ho I.free λ z=>(B1 _ z).2.1 rfl
 exact I.step (ch:=ch) B1 (λ b o hL hb hc e n=>u.keep b o e n (λ z=>(Ai.mp (I.jN b z)).elim hL hb) hc) (λ b o _ _ hc e n=>u.any e n hc) (λ b o hc e n=>u.free b o e n hc) (λ b o hc e=>u.there b o e hc) u.vi u.vG u.uf (λ m' hm=>by
  obtain⟨o',FT,Kt,FE,r'⟩:=hm
  rw[ho] at FE;cases FE
  exact⟨_,FT,Kt,hL,r'⟩) zp hg
def Inv.turned {t':Nat}{it:Addr}(I:Inv X EC Y H s) (k:∀ b o,b≠it->s.heap.get? b=some o->h'.get? b=some o) (hn:H it=none) (hL:it≠X.env.locals)
  (h1:it∈X.ex\/X.s₀.heap.objs.size<=it) (h2:∀ x c,X.env.cells.lookup x=some c->c≠it) (h3:∀ p∈X.pn++EC,p.1≠it):Inv X EC Y H { s with heap:=h',toks:=t' }:=by
 have IH:∀ b u,H b=some u->b≠it:=λ b u e z=>by rw[z,hn] at e;cases e
 refine I.step (g':=s.gens) (d':=s.drawn) (ch:=[it]) (λ b hb=>?_) (λ b o _ _ hc e _=>k b o (λ z=>hc (by simp[z])) e) (λ b o _ _ hc e _=>⟨o.slots,k b o (λ z=>hc (by simp[z])) e⟩) (λ _ _ _ _ n=>n)
  (λ b o hc e=>⟨o,k b o (λ z=>hc (by simp[z])) e⟩) (λ _ _ e=>e) (λ _ _ _ e=>e) (λ b ps e=>⟨#[],by rw[e];simp⟩) (λ m hm=>?_) (λ b u e=>?_) I.bare
 ·have e:b=it:=by simpa using hb
  subst e
  exact⟨h1,hL,h2,h3⟩
 ·obtain⟨o,es,ep,ho,r⟩:=hm
  exact⟨o,es,ep,k _ o (Ne.symm hL) ho,r⟩
 ·refine (I.zp b u e).vj (λ c v hc q=>k c v ?_ q) (λ _ q=>q) λ _ _ q=>q
  rcases hc with z | z
  ·rw[z];exact IH b u e
  ·exact IH c _ z
def Inv.tok (I:Inv X EC Y H s) (t:Nat):Inv X EC Y H { s with toks:=t }:=I.un (h':=s.heap) (t':=t) Un.refl I.zp
theorem Inv.kept {t':Nat}(I:Inv X EC Y H s) (k:∀ b u,s.heap.get? b=some u->h'.get? b=some u):Inv X EC Y H { s with heap:=h',toks:=t' }:=I.un (Un.kept k) (I.zp.kept k)
theorem Inv.laid {a:Addr}{o:HO}{t':Nat}(I:Inv X EC Y H s) (k:∀ b u,s.heap.get? b=some u->h'.get? b=some u) (hp:s.heap.objs.size<=a) (new:y_ X.prog X.w (upd H a o) h' a o):
  Inv X EC Y (upd H a o) { s with heap:=h',toks:=t' }:=I.un (Un.laid k hp (I.zp.fresh hp)) (I.zp.laid k hp new)
theorem Inv.write {x e:Addr}{o:HO}{t':Nat}(I:Inv X EC Y H s) (mu:mJ (H x)) (he:e=x\/H e=some (.own x)) (k:∀ b u,b≠e->s.heap.get? b=some u->h'.get? b=some u) (Cc:∃ u,h'.get? e=some u)
  (new:y_ X.prog X.w (upd H x o) h' x o):Inv X EC Y (upd H x o) { s with heap:=h',toks:=t' }:=I.un (Un.write mu he k Cc) (I.zp.write mu he k Cc new)
def Inv.iV {Fu:Ag}(I:Inv X EC Y H s) (h:∀ p∈Fu,s.heap.get? p.1=some p.2/\H p.1=none/\p.1≠X.env.locals/\p.1∉X.fs/\∀ v,p.2.data≠.cell v):Inv X Fu Y H s:=
 ⟨I.ok,I.os,I.bare,I.base,I.loc,I.cell,I.free,I.vc,λ p hp=>(A0.mp hp).elim (λ z=>I.pin p (CQ _ z)) (h p),I.zp,I.len⟩
def gq {N:List Str}(hN:N.Nodup) {i j:Nat}{x:Str}(a:N[i]?=some x) (b:N[j]?=some x):i=j:=by
 obtain⟨h1,e1⟩:=AK.mp a
 obtain⟨h2,e2⟩:=AK.mp b
 exact (List.getElem_inj hN).mp (e1.trans e2.symm)
def WH {M:Model}{A:Around}{E:Ae}{i:Nat}{x:Str}{v:V}{u:Value}{Q:Unit->Shared->Prop}(I:Inv X EC Y H s) (hN:X.N.Nodup) (hi:X.N[i]?=some x) (hx:Loc X.env.scope x) (r:RelV v u)
  (h:∀ s',Inv X EC (Y.set i (some v)) H s'->(∃ a,Heap.SameBut a s.heap s'.heap/\(a=X.env.locals\/X.env.cells.lookup x=some a))->Q () s') (hf:X.fn x=true\/X.env.scope.names.lookup x=some .local:=by first | exact .inl rfl | exact .inr rfl | assumption):wpAny M A (storeName X.env x u) Q E s:=by
 obtain⟨m,hn,hl⟩:=id I.loc
 have A8:(X.env.scope.kind == .class||(X.env.scope.kind == .module&&X.env.locals != X.env.globals))=false:=by rw[I.ok.kind];rfl
 have hiσ:i < Y.length:=by rw[I.len];exact (AK.mp hi).1
 have uO:=I.uO
 have tracked:∀ {a:Addr}{h':Heap},(∃ o,s.heap.get? a=some o/\H a=none)->Heap.SameBut a s.heap h'->yf X.prog X.w H h':=λ{a h'} ha hs b ob e=>by
  obtain⟨_,_,Hz⟩:=ha
  refine (I.zp b ob e).vj (λ c w' hc q=>(hs.2 c ?_).trans q) (λ _ q=>q) λ _ _ q=>q
  rintro rfl
  rcases hc with rfl | hc
  ·rw[Hz] at e;cases e
  ·rw[Hz] at hc;cases hc
 rcases hx with hk | hk
 ·refine wpAny_storeName_local hk hn (λ h' Gk hs=>?_) A8
  obtain⟨oL,_,_,Hn,_⟩:=id hn
  refine h _ ⟨I.ok,I.os,I.bare,⟨λ b o e n hb hx=>?_,λ b o e n hb hx=>?_,I.base.free,λ b o e hx=>?_,I.base.vi,I.base.vG,I.base.uf⟩,⟨_,Gk,λ j y v' e1 e2 e3=>?_⟩,λ y c e=>?_,I.free,I.vc,λ p hp=>?_,tracked ⟨oL,Hn,I.free⟩ hs,by simpa using I.len⟩ ⟨_,hs,.inl rfl⟩
  ·exact (hs.2 b (Ar (A2 (Al e) I.ok.above))).trans (I.base.keep b o e n hb hx)
  ·obtain⟨sl,e1⟩:=I.base.slot b o e n hb hx
   exact⟨sl,(hs.2 b (Ar (A2 (Al e) I.ok.above))).trans e1⟩
  ·obtain⟨o',e1⟩:=I.base.there b o e hx
   exact⟨o',(hs.2 b (Ar (A2 (Al e) I.ok.above))).trans e1⟩
  ·by_cases hj:j=i
   ·subst hj
    rw[hi] at e1;cases e1
    rw[D0 hiσ] at e2
    cases e2
    exact⟨u,r,.inl ⟨hk,by simp⟩⟩
   ·rw[DZ (Ne.symm hj)] at e2
    obtain⟨u',r',q⟩:=hl j y v' e1 e2 e3
    refine⟨u',r',?_⟩
    rcases q with ⟨k,e⟩ | ⟨k,c,e,z⟩
    ·refine .inl ⟨k,?_⟩
     have:y≠x:=λ e=>hj (gq hN e1 (e▸hi))
     simp[this,e]
    ·exact .inr ⟨k,c,e,z.sameBut hs (uO y c e)⟩
  ·obtain⟨w',z⟩:=I.cell y c e
   exact⟨w',z.sameBut hs (uO y c e)⟩
  ·obtain⟨e,n,ne,nf,d⟩:=I.pin p hp
   exact⟨(hs.2 p.1 ne).trans e,n,ne,nf,d⟩
 ·have Cb:X.fn x=true:=by
   rcases hf with z | z
   ·exact z
   ·rw[z] at hk;cases hk
  obtain⟨c,hc⟩:=I.ok.has x (.inl hk)
  obtain⟨w',z⟩:=I.cell x c hc
  refine wpAny_storeName_cell I.ok.kind hk hc z (λ h' FV hs=>?_)
  obtain⟨oc,hoc,Ek⟩:=id z
  refine h { s with heap:=h' } ⟨I.ok,I.os,I.bare,⟨λ b o e n hb hx=>?_,λ b o e n hb hx=>?_,I.base.free,λ b o e hx=>?_,I.base.vi,I.base.vG,I.base.uf⟩,⟨m,hn.sameBut hs (Ne.symm (uO x c hc)),λ j y v' e1 e2 e3=>?_⟩,λ y c' e=>?_,I.free,I.vc,λ p hp=>?_,tracked ⟨oc,hoc,I.vc x c hc⟩ hs,by simpa using I.len⟩ ⟨c,hs,.inr hc⟩
  ·exact (hs.2 b (Ar (A2 (Al e) (I.ok.qu x c Cb hc)))).trans (I.base.keep b o e n hb hx)
  ·obtain⟨sl,e1⟩:=I.base.slot b o e n hb hx
   exact⟨sl,(hs.2 b (Ar (A2 (Al e) (I.ok.qu x c Cb hc)))).trans e1⟩
  ·obtain⟨o',e1⟩:=I.base.there b o e hx
   exact⟨o',(hs.2 b (Ar (A2 (Al e) (I.ok.qu x c Cb hc)))).trans e1⟩
  ·by_cases hj:j=i
   ·subst hj
    rw[hi] at e1;cases e1
    rw[D0 hiσ] at e2
    cases e2
    exact⟨u,r,.inr ⟨.inl hk,c,hc,FV⟩⟩
   ·rw[DZ (Ne.symm hj)] at e2
    obtain⟨u',r',q⟩:=hl j y v' e1 e2 e3
    refine⟨u',r',?_⟩
    rcases q with q | ⟨k,c',e,z'⟩
    ·exact .inl q
    ·refine .inr ⟨k,c',e,z'.sameBut hs ?_⟩
     rintro rfl
     exact hj (gq hN e1 (I.ok.inj _ _ _ e hc▸hi))
  ·by_cases Bx:c'=c
   ·subst Bx;exact⟨_,FV⟩
   ·obtain⟨w2,z2⟩:=I.cell y c' e
    exact⟨w2,z2.sameBut hs Bx⟩
  ·obtain⟨e,n,ne,nf,d⟩:=I.pin p hp
   refine⟨(hs.2 p.1 ?_).trans e,n,ne,nf,d⟩
   intro q
   rw[q,hoc] at e
   have q':oc=p.2:=A5 e
   exact d w' (by rw[<- q'];exact Ek)
def lG {M:Model}{A:Around}{E:Ae}{i:Nat}{x:Str}{v:V}{u:Value}{Q:Unit->Shared->Prop}(I:Inv X EC Y H s) (hN:X.N.Nodup) (hi:X.N[i]?=some x) (hx:Loc X.env.scope x) (r:RelV v u)
  (h:∀ s',Inv X EC (Y.set i (some v)) H s'->Q () s') (hf:X.fn x=true\/X.env.scope.names.lookup x=some .local:=by first | exact .inl rfl | exact .inr rfl | assumption):wpAny M A (storeName X.env x u) Q E s:=
 WH I hN hi hx r (λ s' I' _=>h s' I') hf
def Inv.Yt {s':Shared}{ch:List Addr}(I:Inv X EC Y H s) (ho:s'.os=s.os) (u:Un (yS X.stack) ch H H' s.heap s'.heap) (zp:yf X.prog X.w H' s'.heap) (hg:AllBare s'.gens)
  (B1:∀ b∈ch,(b∈X.ex\/X.s₀.heap.objs.size<=b)/\b≠X.env.locals/\(∀ x c,X.env.cells.lookup x=some c->c≠b)/\∀ p∈X.pn++EC,p.1≠b):Inv X EC Y H' s':=by
 obtain⟨h',g',d',t',o'⟩:=s'
 have e:o'=s.os:=ho
 subst e
 exact I.call (g':=g') (t':=t') (d':=d') u zp hg B1
end
abbrev XK:=Value->Option Addr->Hp->Prop
abbrev St:=List (Option V)
abbrev VK:=V->Hp->Prop
abbrev TE:=St->Hp->VK->Prop
abbrev TT:=St->Hp->(Bool->Hp->Prop)->Prop
abbrev TA:=St->Hp->(List V->Hp->Prop)->Prop
structure Ends where
 nx:St->Hp->Prop
 rt:VK
 bk:St->Hp->Prop:=λ _ _=>False
 ct:St->Hp->Prop:=λ _ _=>False
abbrev TS:=Ends->St->Hp->Prop
def EP (X:Cx) (EC:Ag) (Y:St) (Q:VK) (u:Value) (s':Shared):Prop:=∃ v H',Inv X EC Y H' s'/\RelV v u/\Q v H'
def TP (X:Cx) (EC:Ag) (Y:St) (Q:Bool->Hp->Prop) (b:Bool) (s':Shared):Prop:=∃ H',Inv X EC Y H' s'/\Q b H'
def AP (X:Cx) (EC:Ag) (Y:St) (Q:List V->Hp->Prop) (us:Ad) (s':Shared):Prop:=∃ vs H',Inv X EC Y H' s'/\Vals vs us/\Q vs H'
def SP (X:Cx) (EC:Ag) (D:Ends) (f:Flow) (s':Shared):Prop:=
 match f with
 | .next=>∃ Y' H',Inv X EC Y' H' s'/\D.nx Y' H'
 | .brk=>∃ Y' H',Inv X EC Y' H' s'/\D.bk Y' H'
 | .cont=>∃ Y' H',Inv X EC Y' H' s'/\D.ct Y' H'
 | .ret u=>∃ v Y' H',Inv X EC Y' H' s'/\RelV v u/\D.rt v H'
def PE (X:Cx) (e:Expr) (t:TE):Prop:=
 ∀ (EC:Ag) (s:Shared) (Y:St) (H:Hp) (Q:VK),Inv X EC Y H s->t Y H Q->wpAny (model X.prog X.w) X.A (eval e X.env) (EP X EC Y Q) X.xe s
def PT (X:Cx) (e:Expr) (t:TT):Prop:=
 ∀ (EC:Ag) (s:Shared) (Y:St) (H:Hp) (Q:Bool->Hp->Prop),Inv X EC Y H s->t Y H Q->wpAny (model X.prog X.w) X.A (isTrue e X.env (eval e X.env)) (TP X EC Y Q) X.xe s
def PW (X:Cx) (e:Expr) (t:TT):Prop:=
 ∀ (whole:Sem Value) (EC:Ag) (s:Shared) (Y:St) (H:Hp) (Q:Bool->Hp->Prop),Inv X EC Y H s->t Y H Q->wpAny (model X.prog X.w) X.A (isTrue e X.env whole) (TP X EC Y Q) X.xe s
def PW.pt {X:Cx}{e:Expr}{t:TT}(h:PW X e t):PT X e t:=h _
def PA (X:Cx) (es:List Expr) (t:TA):Prop:=
 ∀ (pos:Pos) (EC:Ag) (s:Shared) (Y:St) (H:Hp) (Q:List V->Hp->Prop),Inv X EC Y H s->t Y H Q->wpAny (model X.prog X.w) X.A (spliced (backTo pos (starEach es X.env))) (AP X EC Y Q) X.xe s
def PS (X:Cx) (st:Stmt) (t:TS):Prop:=
 ∀ (EC:Ag) (s:Shared) (Y:St) (H:Hp) (D:Ends),Inv X EC Y H s->t D Y H->wpAny (model X.prog X.w) X.A (exec st X.env) (SP X EC D) X.xe s
def xV (X:Cx) (st:List Stmt) (t:TS):Prop:=
 ∀ (EC:Ag) (s:Shared) (Y:St) (H:Hp) (D:Ends),Inv X EC Y H s->t D Y H->wpAny (model X.prog X.w) X.A (execs st X.env) (SP X EC D) X.xe s
def zC {α:Type}{t:Sem α}{Q Q':α->Shared->Prop}{M:Model}{A:Around}{E:Ae}{s:Shared}(h:wpAny M A t Q E s) (hQ:∀ a s,Q a s->Q' a s):wpAny M A t Q' E s:=KG h hQ λ _ _ x=>x
section
variable {X:Cx}
def o8 (i:Nat):TE:=fun Y H Q=>∃ v,Y[i]?=some (some v)/\Q v H
def tC (v:V):TE:=λ _ H Q=>Q v H
def Ul {i:Nat}{x:Str}{pos:Pos}(hN:X.N[i]?=some x) (hv:mF X.env.scope x) (hd:(x == ("__debug__":Str))=false:=by decide) (A4:(x == ("__classdict__":Str))=false:=by decide):PE X (.Name x pos) (o8 i):=by
 intro EC s Y H Q I h
 obtain⟨v,e,h⟩:=h
 obtain⟨m,hn,hl⟩:=I.loc
 obtain⟨u,r,l⟩:=hl i x v hN e hv
 have fin:EP X EC Y Q u s:=⟨v,H,I,r,h⟩
 rcases l with ⟨hk,hm⟩ | ⟨hk,c,hc,HD⟩
 ·exact wpAny_Name (wpAny_loadName_local I.ok.kind hk hn hm fin) hd
 ·rcases hk with hk | hk
  ·exact wpAny_Name (wpAny_loadName_cell I.ok.kind hk hc HD fin) hd
  ·exact wpAny_Name (wpAny_loadName_free I.ok.kind hk hc HD fin A4) hd
def Ux {i j pos}:PE X (.Constant (.int i) j pos) (tC (.int i)):=λ _ _ _ H _ I h=>wpAny_Constant_int ⟨.int i,H,I.tok _,⟨_,rfl⟩,h⟩
def U6 {b j pos}:PE X (.Constant (.bool b) j pos) (tC (.bl b)):=λ _ _ _ H _ I h=>Constant_bool ⟨.bl b,H,I,rfl,h⟩
def Ut {j pos}:PE X (.Constant .none j pos) (tC .zk):=λ _ _ _ H _ I h=>Constant_none ⟨.zk,H,I,rfl,h⟩
def Uo {x j pos}:PE X (.Constant (.str x) j pos) (tC (.str x)):=λ _ _ _ H _ I h=>Calls.Constant_str ⟨.str x,H,I.tok _,⟨_,rfl⟩,h⟩
def Gl (X:Cx) (x:Str):Prop:=X.env.kindOf x=some .globalImplicit
def nC {E:Ae}{EC:Ag}{s:Shared}{Y:St}{H:Hp}{x:Str}{u:Value}{pos:Pos}{Q:Ae}(I:Inv X EC Y H s) (hg:Gl X x) (hm:X.mg x=some u) (h:Q u s)
  (hd:(x == ("__debug__":Str))=false:=by decide):wpAny (model X.prog X.w) X.A (eval (.Name x pos) X.env) Q E s:=
 Calls.Name_function_global I.ok.kind hg (Calls.loadGlobal_global (by rw[I.ok.glob];exact I.mod.glob.keeps I.bk) hm h) hd
def pA {E:Ae}{EC:Ag}{s:Shared}{Y:St}{H:Hp}{x:Str}{u:Value}{pos:Pos}{Q:Ae}(I:Inv X EC Y H s) (hg:Gl X x) (hm:X.mg x=none) (hv:bootBuiltins x=some u) (h:Q u s)
  (hn:x≠"__name__":=by decide) (hd:(x == ("__debug__":Str))=false:=by decide):wpAny (model X.prog X.w) X.A (eval (.Name x pos) X.env) Q E s:=by
 obtain⟨mb,h1,h2⟩:=I.mod.blt
 exact Calls.Name_function_global I.ok.kind hg (Calls.loadGlobal_builtin (by rw[I.ok.glob];exact I.mod.glob.keeps I.bk) hm (by rw[I.ok.blt];exact h1.keeps I.bk) ((h2 x hn).trans hv) h) hd
def iY {x:Str}{v:V}{u:Value}{pos:Pos}(hg:Gl X x) (hm:X.mg x=some u) (r:RelV v u) (hd:(x == ("__debug__":Str))=false:=by decide):PE X (.Name x pos) (tC v):=
 λ _ _ _ H _ I h=>nC I hg hm ⟨v,H,I,r,h⟩ hd
def bF {x:Str}{v:V}{u:Value}{pos:Pos}(hg:Gl X x) (hm:X.mg x=none) (hv:bootBuiltins x=some u) (r:RelV v u) (hn:x≠"__name__":=by decide) (hd:(x == ("__debug__":Str))=false:=by decide):PE X (.Name x pos) (tC v):=
 λ _ _ _ H _ I h=>pA I hg hm hv ⟨v,H,I,r,h⟩ hn hd
variable {a b:Expr}{ta tb:TE}{pos:Pos}
variable {tA Jq:TT}{EI:List Expr}
def WE (t u:TT):TT:=fun Y H Q=>t Y H λ c H1=>if c=true then u Y H1 Q else Q false H1
def W0 (t u:TT):TT:=fun Y H Q=>t Y H λ c H1=>if c=true then Q true H1 else u Y H1 Q
def W3 (t:TT):TT:=fun Y H Q=>t Y H λ c H1=>Q (!c) H1
def VA (ha:PT X a tA):PW X (.BoolOp .And [a] pos) tA:=by
 intro wh EC s Y H Q I h
 refine isTrue_and (zC (ha EC s Y H Q I h) λ c s1 e=>?_)
 cases c with
 | true=>exact isTrue_and_nil e
 | false=>exact e
def V8 (ha:PT X a tA):PW X (.BoolOp .Or [a] pos) tA:=by
 intro wh EC s Y H Q I h
 refine isTrue_or (zC (ha EC s Y H Q I h) λ c s1 e=>?_)
 cases c with
 | false=>exact isTrue_or_nil e
 | true=>exact e
def VB (ha:PT X a tA) (hb:PW X (.BoolOp .And (b::EI) pos) Jq):PW X (.BoolOp .And (a::b::EI) pos) (WE tA Jq):=by
 intro wh EC s Y H Q I h
 refine isTrue_and (zC (ha EC s Y H _ I h) λ c s1 ⟨H1,I1,q1⟩=>?_)
 cases c with
 | true=>exact hb wh EC s1 Y H1 Q I1 q1
 | false=>exact⟨H1,I1,q1⟩
def V9 (ha:PT X a tA) (hb:PW X (.BoolOp .Or (b::EI) pos) Jq):PW X (.BoolOp .Or (a::b::EI) pos) (W0 tA Jq):=by
 intro wh EC s Y H Q I h
 refine isTrue_or (zC (ha EC s Y H _ I h) λ c s1 ⟨H1,I1,q1⟩=>?_)
 cases c with
 | true=>exact⟨H1,I1,q1⟩
 | false=>exact hb wh EC s1 Y H1 Q I1 q1
def VF (ha:PT X a tA):PT X (.UnaryOp .Not a pos) (W3 tA):=by
 intro EC s Y H Q I h
 exact isTrue_not (ha EC s Y H (λ c H1=>Q (!c) H1) I h)
def WD (ta tb:TE):TE:=fun Y H Q=>ta Y H λ x H1=>∃ c,x=.bl c/\if c=true then tb Y H1 Q else Q (.bl false) H1
def W2 (ta:TE):TE:=fun Y H Q=>ta Y H λ x H1=>∃ c,x=.bl c/\Q (.bl (!c)) H1
def Ur {op} {t:TE}(h:PE X a t):PE X (.BoolOp op [a] pos) t:=λ EC s Y H Q I hw=>BoolOp_one (h EC s Y H Q I hw)
def U7 (ha:PE X a ta) (hb:PE X (.BoolOp .And (b::EI) pos) tb):PE X (.BoolOp .And (a::b::EI) pos) (WD ta tb):=by
 intro EC s Y H Q I h
 refine BoolOp_and (zC (ha EC s Y H _ I h) λ v s1 ⟨x,H1,I1,r1,q1⟩=>?_)
 obtain⟨c,rfl,q1⟩:=q1
 cases r1
 refine KZ ?_
 cases c with
 | true=>exact hb EC s1 Y H1 Q I1 q1
 | false=>exact⟨.bl false,H1,I1,rfl,q1⟩
def Us (ha:PE X a ta):PE X (.UnaryOp .Not a pos) (W2 ta):=by
 intro EC s Y H Q I h
 refine UnaryOp_ (zC (ha EC s Y H _ I h) λ v s1 ⟨x,H1,I1,r1,q1⟩=>?_)
 obtain⟨c,rfl,q1⟩:=q1
 cases r1
 exact not_of (KZ ⟨.bl (!c),H1,I1,rfl,q1⟩)
def W7 (t:TT) (ta tb:TE):TE:=fun Y H Q=>t Y H λ c H1=>if c=true then ta Y H1 Q else tb Y H1 Q
def Uy {c:Expr}(hc:PT X c tA) (ha:PE X a ta) (hb:PE X b tb):PE X (.IfExp c a b pos) (W7 tA ta tb):=by
 intro EC s Y H Q I h
 refine wpAny_IfExp (zC (hc EC s Y H _ I h) λ d s1 ⟨H1,I1,q1⟩=>?_)
 cases d with
 | true=>exact ha EC s1 Y H1 Q I1 q1
 | false=>exact hb EC s1 Y H1 Q I1 q1
end
def zO (K:Ab) (H:Hp) (a:Addr) (xs:List V):Prop:=
 Rd H a (.lst xs)\/
  ∃ (o:Obj) (its:Av) (n:Nat),K.lookup a=some o/\o.cls=.type "list"/\o.dict=none/\o.data=.seq its n/\its.size<=sizeLine/\Vals xs its.toList
def zX (K:Ab) (H:Hp) (a:Addr) (xs:List V):Prop:=
 Rd H a (.tup xs)\/
  ∃ (o:Obj) (its:Av) (n:Nat),K.lookup a=some o/\o.cls=.type "tuple"/\o.data=.seq its n/\its.size<=sizeLine/\Vals xs its.toList
noncomputable def NF:Value->Option V
 | .none=>some .zk
 | .bool b=>some (.bl b)
 | .int i _=>some (.int i)
 | .str x _=>some (.str x)
 | .bytes b _=>some (.mv b)
 | .float b _=>some (.fD b)
 | .ref a=>some (.ref a)
 | .type n=>some (.ty n)
 | _=>none
def RelV.abs {x:V}{u:Value}(r:RelV x u):NF u=some x:=by
 cases x with
 | zk=>cases r;rfl
 | bl _=>cases r;rfl
 | ref _=>cases r;rfl
 | ty _=>cases r;rfl
 | _=>obtain⟨t,rfl⟩:=r;rfl
theorem RelV.inj {x y:V}{u:Value}(r:RelV x u) (q:RelV y u):x=y:=A5 (r.abs.symm.trans q.abs)
theorem Vals.inj:∀ {xs ys:List V}{us:Ad},Vals xs us->Vals ys us->xs=ys
 | _,_,_,.nil,.nil=>rfl
 | _,_,_,.cons r t,.cons r' t'=>by rw[r.inj r',Vals.inj t t']
section
variable {X:Cx}{EC:Ag}{Y:St}{H:Hp}{s:Shared}{a:Addr}{xs ys:List V}
def zO.of {K:Ab}(h:H a=some (.lst xs)):zO K H a xs:=.inl (.inl h)
def zX.of {K:Ab}(h:H a=some (.tup xs)):zX K H a xs:=.inl (.inl h)
def Inv.list (I:Inv X EC Y H s) (h:zO X.K H a xs):∃ its:List Value,Vals xs its/\PlainL s.heap a its.toArray/\xs.length<=sizeLine:=by
 rcases h with h | ⟨o,its,n,hk,hc,hd,hs,hz,r⟩
 ·obtain⟨z,its,n,r,e⟩:=h.ok I.zp
  exact⟨its,r,⟨_,n,e,rfl,rfl,rfl⟩,z⟩
 ·refine⟨its.toList,r,⟨o,n,I.yr a o hk,hc,hd,by simpa using hs⟩,?_⟩
  have e:=r.length
  simp only[BB] at e
  lia
def Inv.tuple (I:Inv X EC Y H s) (h:zX X.K H a xs):∃ its:List Value,Vals xs its/\IsTup s.heap a its.toArray/\xs.length<=sizeLine:=by
 rcases h with h | ⟨o,its,n,hk,hc,hs,hz,r⟩
 ·obtain⟨z,its,r,p⟩:=h.ok I.zp
  exact⟨its,r,p,z⟩
 ·refine⟨its.toList,r,⟨o,I.yr a o hk,hc,n,by simpa using hs⟩,?_⟩
  have e:=r.length
  simp only[BB] at e
  lia
def Inv.gG (I:Inv X EC Y H s) (h:zO X.K H a xs) (h':zO X.K H a ys):xs=ys:=by
 obtain⟨its,r,⟨o,n,e,_,_,d⟩,_⟩:=I.list h
 obtain⟨AI,r',⟨o',n',e',_,_,d'⟩,_⟩:=I.list h'
 rw[e] at e';cases e'
 rw[d] at d'
 injection d' with d1 _
 have:its=AI:=by simpa using congrArg Array.toList d1
 subst this
 exact r.inj r'
def Inv.jI (I:Inv X EC Y H s) (h:zX X.K H a xs) (h':zX X.K H a ys):xs=ys:=by
 obtain⟨its,r,⟨o,e,_,n,d⟩,_⟩:=I.tuple h
 obtain⟨AI,r',⟨o',e',_,n',d'⟩,_⟩:=I.tuple h'
 rw[e] at e';cases e'
 rw[d] at d'
 injection d' with d1 _
 have:its=AI:=by simpa using congrArg Array.toList d1
 subst this
 exact r.inj r'
end
abbrev Cx.uT (X:Cx) (E:Ae):Cx:={ X with xe:=E }
abbrev Cx.vA (X:Cx):Cx:=X.uT λ _ _=>False
theorem Cx.Ok.uT {X:Cx}(ok:X.Ok) (E:Ae):(X.uT E).Ok:=
 ⟨ok.mod,ok.kind,ok.glob,ok.blt,ok.above,ok.inj,ok.has,ok.qu,ok.hd,ok.frames,ok.qL,ok.nN,ok.bs,ok.t9,ok.qe,ok.qo,ok.vl,ok.tY⟩
def Cx.Ok.qK {X:Cx}{E:Ae}(ok:(X.uT E).Ok):X.Ok:=
 ⟨ok.mod,ok.kind,ok.glob,ok.blt,ok.above,ok.inj,ok.has,ok.qu,ok.hd,ok.frames,ok.qL,ok.nN,ok.bs,ok.t9,ok.qe,ok.qo,ok.vl,ok.tY⟩
section
variable {X:Cx}{EC:Ag}{Y:St}{H:Hp}{s:Shared}{E:Ae}
theorem Inv.uT (I:Inv X EC Y H s) (E:Ae):Inv (X.uT E) EC Y H s:=⟨I.ok.uT E,I.os,I.bare,I.base,I.loc,I.cell,I.free,I.vc,I.pin,I.zp,I.len⟩
theorem Inv.qK (I:Inv (X.uT E) EC Y H s):Inv X EC Y H s:=⟨I.ok.qK,I.os,I.bare,I.base,I.loc,I.cell,I.free,I.vc,I.pin,I.zp,I.len⟩
theorem SP.qK {D:Ends}{f:Flow}{s':Shared}(h:SP (X.uT E) EC D f s'):SP X EC D f s':=by
 cases f with
 | ret u=>obtain⟨v,Y',H',I,r,q⟩:=h;exact⟨v,Y',H',I.qK,r,q⟩
 | _=>obtain⟨Y',H',I,q⟩:=h;exact⟨Y',H',I.qK,q⟩
theorem xV.vA {st:List Stmt}{t:TS}(h:xV X.vA st t):xV X st t:=λ EC s Y H D I hw=>
 KG (h EC s Y H D (I.uT _) hw) (λ _ _ q=>q.qK) λ _ _ z=>False.elim z
end
section
variable {X:Cx}{st:Stmt}{EI:List Stmt}{t u:TS}{e:Expr}{te:TE}{pos:Pos}
def W4:TS:=λ D Y H=>D.nx Y H
def Ww (t u:TS):TS:=λ D Y H=>t { D with nx:=u D } Y H
def VI:xV X [] W4:=λ _ _ Y H _ I h=>K2 ⟨Y,H,I,h⟩
def VJ (h1:PS X st t) (h2:xV X EI u):xV X (st::EI) (Ww t u):=by
 intro EC s Y H D I h
 refine wpAny_execs_cons (zC (h1 EC s Y H { D with nx:=u D } I h) λ f s1 q=>?_)
 cases f with
 | next=>
  obtain⟨Y',H',I',q⟩:=q
  exact h2 EC s1 Y' H' D I' q
 | ret v=>exact q
 | _=>exact q
def iT (h1:PS X st t):xV X [st] t:=by
 intro EC s Y H D I h
 refine wpAny_execs_cons (zC (h1 EC s Y H D I h) λ f s1 q=>?_)
 cases f with
 | next=>exact K2 q
 | ret v=>exact q
 | _=>exact q
def Inv.quiet {EC:Ag}{Y:St}{H:Hp}{s:Shared}(I:Inv X EC Y H s):interactive X.env=false:=by simp[interactive,I.ok.kind]
def W9 (te:TE):TS:=λ D Y H=>te Y H λ _ H1=>D.nx Y H1
def VR (he:PE X e te) (hs:swapsWith e none pos.line X.env=pure false:=by rfl):PS X (.Expr e pos) (W9 te):=by
 intro EC s Y H D I h
 exact wpAny_Expr_any (zC (he EC s Y H _ I h) λ v s1 ⟨x,H1,I1,r1,q1⟩=>⟨Y,H1,I1,q1⟩) I.quiet hs
def Wz (te:TE):TS:=λ D Y H=>te Y H D.rt
def VO (he:PE X e te):PS X (.Return (some e) pos) (Wz te):=by
 intro EC s Y H D I h
 exact wpAny_Return_some (zC (he EC s Y H _ I h) λ v s1 ⟨x,H1,I1,r1,q1⟩=>⟨x,Y,H1,I1,r1,q1⟩)
def W6 (c:TT) (t u:TS):TS:=λ D Y H=>c Y H λ b H1=>if b=true then t D Y H1 else u D Y H1
def VP {c:Expr}{a b:List Stmt}{tc:TT}(hc:PT X c tc) (ha:xV X a t) (hb:xV X b u):PS X (.If c a b pos) (W6 tc t u):=by
 intro EC s Y H D I h
 refine wpAny_If (zC (hc EC s Y H _ I h) λ d s1 ⟨H1,I1,q1⟩=>?_)
 cases d with
 | true=>exact ha EC s1 Y H1 D I1 q1
 | false=>exact hb EC s1 Y H1 D I1 q1
end
abbrev TG:=V->St->Hp->(St->Hp->Prop)->Prop
abbrev sC:=List V->St->Hp->(St->Hp->Prop)->Prop
def PG (X:Cx) (target:Expr) (t:TG):Prop:=
 ∀ (EC:Ag) (s:Shared) (Y:St) (H:Hp) (v:V) (u:Value) (Q:St->Hp->Prop),Inv X EC Y H s->RelV v u->t v Y H Q->
  wpAny (model X.prog X.w) X.A (assign target X.env u) (λ _ s'=>∃ Y' H',Inv X EC Y' H' s'/\Q Y' H') X.xe s
def tH (X:Cx) (ts:List Expr) (t:sC):Prop:=
 ∀ (EC:Ag) (s:Shared) (Y:St) (H:Hp) (vs:List V) (us:Ad) (Q:St->Hp->Prop),Inv X EC Y H s->Vals vs us->t vs Y H Q->
  wpAny (model X.prog X.w) X.A (assignInOrder ((assignEach ts X.env).map (·.2)) us) (λ _ s'=>∃ Y' H',Inv X EC Y' H' s'/\Q Y' H') X.xe s
abbrev eJ:=V->V->V->Hp->(Hp->Prop)->Prop
def YH (X:Cx) (t:eJ):Prop:=
 ∀ (EC:Ag) (s:Shared) (Y:St) (H:Hp) (o i v:V) (ov iv u:Value) (Q:Hp->Prop),Inv X EC Y H s->RelV o ov->RelV i iv->RelV v u->t o i v H Q->
  wpAny (model X.prog X.w) X.A (setItem ov iv u) (λ _ s'=>∃ H',Inv X EC Y H' s'/\Q H') X.xe s
section
variable {X:Cx}{pos:Pos}
noncomputable def pK (i:Nat):TG:=λ v Y H Q=>Q (Y.set i (some v)) H
def Uh {i:Nat}{x:Str}(hN:X.N.Nodup) (hi:X.N[i]?=some x) (hx:Loc X.env.scope x) (hf:X.fn x=true\/X.env.scope.names.lookup x=some .local:=by first | exact .inl rfl | exact .inr rfl | assumption):PG X (.Name x pos) (pK i):=by
 intro EC s Y H v u Q I r h
 exact wpAny_assign_Name (lG I hN hi hx r (λ s' I'=>⟨_,H,I',h⟩) hf)
noncomputable def PV:sC:=λ vs Y H Q=>vs=[]/\Q Y H
noncomputable def PX (t:TG) (u:sC):sC:=λ vs Y H Q=>∃ v r,vs=v::r/\t v Y H fun Y' H'=>u r Y' H' Q
def Uc:tH X [] PV:=by
 intro EC s Y H vs us Q I r h
 obtain⟨e,h⟩:=h
 subst e
 cases r
 exact assignInOrder_nil ⟨Y,H,I,h⟩
def Ud {e:Expr}{es:List Expr}{t:TG}{u:sC}(h1:PG X e t) (h2:tH X es u)
  (hs:(assignEach (e::es) X.env).map (·.2)=assign e X.env::(assignEach es X.env).map (·.2):=by rfl):tH X (e::es) (PX t u):=by
 intro EC s Y H vs us Q I r h
 obtain⟨v,vr,e1,h⟩:=h
 subst e1
 cases r with
 | cons r rr=>
  rw[hs]
  refine assignInOrder_cons (zC (h1 EC s Y H _ _ _ I r h) λ _ s1 ⟨Y1,H1,I1,q1⟩=>?_)
  exact h2 EC s1 Y1 H1 _ _ Q I1 rr q1
noncomputable def Z5 (K:Ab) (n:Nat) (t:sC):TG:=λ v Y H Q=>∃ a xs,v=.ref a/\zX K H a xs/\xs.length=n/\t xs Y H Q
def Ue {es:List Expr}{k:Nat}{t:sC}{n:Nat}(hc:X.calm=true) (h:tH X es t)
  (hn:(assignEach es X.env).length=n:=by rfl) (AJ:(assignEach es X.env).findIdx? (·.1)=none:=by rfl):PG X (.Tuple es k pos) (Z5 X.K n t):=by
 intro EC s Y H v u Q I r hw
 obtain⟨a,xs,e1,hq,hl,hw⟩:=hw
 subst e1
 cases r
 obtain⟨its,rv,ht,hz⟩:=I.tuple hq
 refine assign_Tuple_tuple (I.ok.hd hc) ht (by simp[hn,<- hl,rv.length]) AJ λ h' hx=>?_
 have I1:Inv X EC Y H { s with heap:=h' }:=I.kept (t':=s.toks) λ b o e=>hx b o (Ar (Al e)) e
 exact h EC _ Y H xs _ Q I1 (by simpa using rv) hw
noncomputable def PU (to ti:TE) (t:eJ):TG:=λ v Y H Q=>to Y H λ o H1=>ti Y H1 λ i H2=>t o i v H2 λ H3=>Q Y H3
def Ug {o i:Expr}{to ti:TE}{t:eJ}(ho:PE X o to) (hi:PE X i ti) (hs:YH X t)
  (ha:∀ v,assign (.Subscript o i pos) X.env v=(do
   let ov <- holding [v] (eval o X.env)
   let iv <- holding [v,ov] (eval i X.env)
   standAt pos
   holding [v,ov,iv] (setItem ov iv v)
   release [v,ov,iv] []):=by intro _;rfl):PG X (.Subscript o i pos) (PU to ti t):=by
 intro EC s Y H v u Q I r h
 rw[ha]
 refine JI (KJ (zC (ho EC s Y H _ I h) λ ov s1 ⟨x,H1,I1,r1,q1⟩=>?_))
 refine JI (KJ (zC (hi EC s1 Y H1 _ I1 q1) λ iv s2 ⟨y,H2,I2,r2,q2⟩=>?_))
 refine JI (wpAny_standAt (JI (KJ (zC (hs EC s2 Y H2 x y v ov iv u _ I2 r1 r2 r q2) λ _ s3 ⟨H3,I3,q3⟩=>?_))))
 exact wpAny_release ⟨Y,H3,I3,q3⟩
def lF (te:TE) (g:TG):TS:=λ D Y H=>te Y H λ x H1=>g x Y H1 D.nx
def VT {tg e:Expr}{te:TE}{g:TG}(he:PE X e te) (hg:PG X tg g) (hs:swapsWithSole [tg] e pos.line X.env=pure false:=by rfl) (hw:swappedStores [tg] e X.env=pure none:=by rfl)
  (h1:(assignEach [tg] X.env).map (·.2)=[assign tg X.env]:=by rfl):PS X (.Assign [tg] e pos) (lF te g):=by
 intro EC s Y H D I h
 refine wpAny_Assign_stores (zC (he EC s Y H _ I h) λ v s1 ⟨x,H1,I1,r1,q1⟩=>?_) hs hw
 rw[h1]
 exact zC (hg EC s1 Y H1 x v _ I1 r1 q1) λ _ s2 q=>q
def b7 {i:Nat}{x:Str}{e:Expr}{te:TE}{pos':Pos}(hN:X.N.Nodup) (hi:X.N[i]?=some x) (hx:Loc X.env.scope x) (he:PE X e te) (hs:swapsWith e (some (.Name x pos')) pos.line X.env=pure false:=by rfl) (hf:X.fn x=true\/X.env.scope.names.lookup x=some .local:=by first | exact .inl rfl | exact .inr rfl | assumption):
  PS X (.Assign [.Name x pos'] e pos) (lF te (pK i)):=by
 intro EC s Y H D I h
 refine wpAny_Assign_Name (zC (he EC s Y H _ I h) λ v s1 ⟨y,H1,I1,r1,q1⟩=>?_) hs
 exact lG I1 hN hi hx r1 (λ s2 I2=>⟨_,H1,I2,q1⟩) hf
def Wt (c:TT) (tb:TS):TS:=λ D Y H=>∃ W:Nat->St->Hp->Prop,(∃ m,W m Y H)/\∀ m Y H,W m Y H->
 c Y H λ b H1=>if b=true then ∃ N:St->Hp->Prop,(∀ Y' H',N Y' H'->∃ m',m'<m/\W m' Y' H')/\tb { D with nx:=N,ct:=N,bk:=D.nx } Y H1 else D.nx Y H1
def VL {c:Expr}{body:List Stmt}{tc:TT}{tb:TS}(hp:PassesOwn (model X.prog X.w) X.A X.env X.xe) (hc:PT X c tc) (hb:xV X body tb):PS X (.While c body [] pos) (Wt tc tb):=by
 intro EC s Y H D I h
 obtain⟨W,⟨m0,w0⟩,turn⟩:=h
 refine wpAny_While (codeAny_whileLoop (λ n s'=>∃ Y' H',Inv X EC Y' H' s'/\W n Y' H') ?_ m0 ⟨Y,H,I,w0⟩)
 rintro n s1 ⟨Y1,H1,I1,w1⟩
 refine K1 hp (zC (hc EC s1 Y1 H1 _ I1 (turn n Y1 H1 w1)) λ b s2 ⟨H2,I2,q2⟩=>?_)
 cases b with
 | true=>
  obtain⟨N,hN,q2⟩:=q2
  rw[if_pos rfl]
  refine K1 hp (zC (hb EC s2 Y1 H2 _ I2 q2) λ f s3 q3=>?_)
  cases f with
  | next=>
   obtain⟨Y3,H3,I3,n3⟩:=q3
   obtain⟨m',hm,w3⟩:=hN Y3 H3 n3
   exact⟨m',hm,Y3,H3,I3,w3⟩
  | cont=>
   obtain⟨Y3,H3,I3,n3⟩:=q3
   obtain⟨m',hm,w3⟩:=hN Y3 H3 n3
   exact⟨m',hm,Y3,H3,I3,w3⟩
  | brk=>exact q3
  | ret v=>exact q3
 | false=>
  rw[if_neg BN]
  exact K2 ⟨Y1,H2,I2,q2⟩
end
structure It where
 go:Nat->Hp->Prop
 qI:Nat->Hp->V->Hp->Prop
 stop:Nat->Hp->Prop
def vY (X:Cx) (EC:Ag) (H:Hp) (b:Addr):Prop:=
 H b=none/\b≠X.env.locals/\b∉X.fs/\(b∈X.ex\/X.s₀.heap.objs.size<=b)/\(∀ x c,X.env.cells.lookup x=some c->c≠b)/\∀ p∈X.pn++EC,p.1≠b
def Inv.kI {X:Cx}{EC:Ag}{Y:St}{H H':Hp}{s:Shared}{b:Addr}(I:Inv X EC Y H s) (hb:s.heap.objs.size<=b) (hn:H' b=none):vY X EC H' b:=by
 refine⟨hn,BI (A2 I.lt hb),I.aw hb,.inr (BA I.sz hb),λ x c e z=>?_,λ p hp z=>?_⟩
 ·obtain⟨v,q⟩:=I.cell x c e
  exact absurd (A2 q.lt (by rw[z];exact hb)) (B5 _)
 ·exact absurd (A2 (Al (I.pin p hp).1) (by rw[z];exact hb)) (B5 _)
structure Turn (P:Program) (w:World) (K:Ab) (tg:Expr) (J:It) (fp:List Addr) (it:Addr) (tn:Nat->Heap->Prop):Prop where
 mem:it∈fp
 obj:∀ i h,tn i h->∀ b∈fp,∃ o,h.get? b=some o/\∀ v,o.data≠.cell v
 keep:∀ i h h',tn i h->(∀ b∈fp,∀ o,h.get? b=some o->h'.get? b=some o)->tn i h'
 item:∀ (X:Cx),X.prog=P->X.w=w->X.K=K->X.calm=true->∀ (i:Nat) (EC:Ag) (s:Shared) (Y:St) (H:Hp) (E:Ae),Inv X EC Y H s->(∀ b∈fp,vY X EC H b)->tn i s.heap->J.go i H->
  wpAny (model P w) X.A (pyNext (.ref it)) (λ r s1=>∃ u,r=some u/\
   wpAny (model P w) X.A (letOwnedTupleGo tg (.ref it) u) (λ _ s2=>∃ x H',Inv X EC Y H' s2/\RelV x u/\J.qI i H x H'/\tn (i+1) s2.heap/\∀ b∈fp,H' b=none) E s1) E s
 done:∀ (X:Cx),X.prog=P->X.w=w->X.K=K->X.calm=true->∀ (i:Nat) (EC:Ag) (s:Shared) (Y:St) (H:Hp) (E:Ae),Inv X EC Y H s->(∀ b∈fp,vY X EC H b)->tn i s.heap->J.stop i H->
  wpAny (model P w) X.A (pyNext (.ref it)) (λ r s1=>r=none/\Inv X EC Y H s1) E s
 self:∀ (A:Around) (i:Nat) (s:Shared) (Q:Ae) (E:Ae),tn i s.heap->Q (.ref it) s->wpAny (model P w) A (pyIter (.ref it)) Q E s
abbrev TI:=St->Hp->(It->Hp->Prop)->Prop
def YI (X:Cx) (EC:Ag) (Y:St) (tg:Expr) (R:It->Hp->Prop) (Jw:Value) (s2:Shared):Prop:=
 ∃ (it:Addr) (fp:List Addr) (tn:Nat->Heap->Prop) (J:It) (H':Hp),Jw=.ref it/\Inv X EC Y H' s2/\Turn X.prog X.w X.K tg J fp it tn/\tn 0 s2.heap/\(∀ b∈fp,vY X EC H' b)/\R J H'
def PI (X:Cx) (tg iter:Expr) (wi:TI):Prop:=
 ∀ (EC:Ag) (s:Shared) (Y:St) (H:Hp) (R:It->Hp->Prop),Inv X EC Y H s->wi Y H R->
  wpAny (model X.prog X.w) X.A (eval iter X.env) (λ v s1=>wpAny (model X.prog X.w) X.A (pyIter v) (YI X EC Y tg R) X.xe s1) X.xe s
def fk {M:Model}{A:Around}{E:Ae}{s:Shared}{tg:Expr}{it:Addr}{u:Value}{o:Obj}{n:String}{vs:Av}{Q:Unit->Shared->Prop}(ho:s.heap.get? it=some o) (hc:o.cls=.type n) (hd:o.data=.fields vs)
  (hn:["enumerate","zip","dict_itemiterator","dict_reverseitemiterator","odict_iterator","itertools.zip_longest","itertools.pairwise"].contains n=false) (hQ:Q () s):wpAny M A (letOwnedTupleGo tg (.ref it) u) Q E s:=by
 unfold letOwnedTupleGo
 cases tg <;> first
  | exact Ac hQ
  | (cases u <;> first
    | exact Ac hQ
    | (refine JI (wpAny_load ho ?_)
       rw[hc,hd]
       show wpAny M A (if (["enumerate","zip","dict_itemiterator","dict_reverseitemiterator","odict_iterator","itertools.zip_longest","itertools.pairwise"].contains n&&vs[0]? == some (rawInt _))=true then _ else _) Q E s
       rw[if_neg (by intro h;rw[hn,Bool.false_and] at h;cases h)]
       exact Ac hQ))
def YO (K:Ab) (a:Addr):It:=
 ⟨λ i H=>∃ xs x,zO K H a xs/\xs[i]?=some x,λ i H x H'=>H'=H/\∀ xs,zO K H a xs->xs[i]?=some x,λ i H=>∃ xs,zO K H a xs/\xs.length<=i⟩
def YN (K:Ab) (a:Addr):It:=
 ⟨λ i H=>∃ xs x,zX K H a xs/\xs[i]?=some x,λ i H x H'=>H'=H/\∀ xs,zX K H a xs->xs[i]?=some x,λ i H=>∃ xs,zX K H a xs/\xs.length<=i⟩
def jq (lo:Int) (n:Nat):It:=⟨λ i _=>i<n,λ i H x H'=>H'=H/\x=.int (lo+i),λ i _=>n<=i⟩
def Wl {P:Program}{w:World}{K:Ab}{tg:Expr}(a it:Addr):Turn P w K tg (YO K a) [it] it (λ i h=>h.IsListIter it a i) where
 mem:=by simp
 obj:=λ i h st b hb=>by
  have e:b=it:=by simpa using hb
  subst e
  obtain⟨o,e,c,d⟩:=st
  exact⟨o,e,λ v z=>by rw[d] at z;cases z⟩
 keep:=λ i h h' st k=>st.at λ o e=>k it (by simp) o e
 item:=by
  intro X hP hw hK hc i EC s Y H E I hf st hg
  subst hP hw hK
  obtain⟨xs,x,hq,hx⟩:=hg
  obtain⟨its,rv,p,hz⟩:=I.list hq
  obtain⟨u,hu,ru⟩:=rv.get hx
  obtain⟨f0,f1,f2,f3,f4,f5⟩:=hf it (by simp)
  refine wpAny_pyNext_list_item st p.isList (x:=u) (by simpa using hu) λ h' Gi sb=>?_
  have I1:Inv X EC Y H { s with heap:=h' }:=I.turned (t':=s.toks) (λ b o hb e=>(sb.2 b hb).trans e) f0 f1 f3 f4 f5
  obtain⟨o,e,c,d⟩:=id Gi
  exact⟨u,rfl,fk (s:={ s with heap:=h' }) e c d (by decide) ⟨x,H,I1,ru,⟨rfl,λ ys hy=>by rw[I.gG hy hq];exact hx⟩,Gi,λ b hb=>(hf b hb).1⟩⟩
 done:=by
  intro X hP hw hK hc i EC s Y H E I hf st hg
  subst hP hw hK
  obtain⟨xs,hq,hx⟩:=hg
  obtain⟨its,rv,p,hz⟩:=I.list hq
  obtain⟨f0,f1,f2,f3,f4,f5⟩:=hf it (by simp)
  have hl:=rv.length
  exact wpAny_pyNext_list_end (I.ok.hd hc) st p.isList (by simp;lia) λ h' eb=>⟨rfl,I.turned (t':=s.toks) (λ b o hb e=>eb b o hb e) f0 f1 f3 f4 f5⟩
 self:=λ _ _ _ _ _ st h=>wpAny_pyIter_listiter st h
def Wj {P:Program}{w:World}{K:Ab}{tg:Expr}(a it:Addr):Turn P w K tg (YN K a) [it] it (λ i h=>h.IsTupleIter it a i) where
 mem:=by simp
 obj:=λ i h st b hb=>by
  have e:b=it:=by simpa using hb
  subst e
  obtain⟨o,e,c,d⟩:=st
  exact⟨o,e,λ v z=>by rw[d] at z;cases z⟩
 keep:=λ i h h' st k=>st.at λ o e=>k it (by simp) o e
 item:=by
  intro X hP hw hK hc i EC s Y H E I hf st hg
  subst hP hw hK
  obtain⟨xs,x,hq,hx⟩:=hg
  obtain⟨its,rv,p,hz⟩:=I.tuple hq
  obtain⟨u,hu,ru⟩:=rv.get hx
  obtain⟨f0,f1,f2,f3,f4,f5⟩:=hf it (by simp)
  refine wpAny_pyNext_tuple_item st (show s.heap.IsTuple a its.toArray from p) (x:=u) (by simpa using hu) λ h' Gi sb=>?_
  have I1:Inv X EC Y H { s with heap:=h' }:=I.turned (t':=s.toks) (λ b o hb e=>(sb.2 b hb).trans e) f0 f1 f3 f4 f5
  obtain⟨o,e,c,d⟩:=id Gi
  exact⟨u,rfl,fk (s:={ s with heap:=h' }) e c d (by decide) ⟨x,H,I1,ru,⟨rfl,λ ys hy=>by rw[I.jI hy hq];exact hx⟩,Gi,λ b hb=>(hf b hb).1⟩⟩
 done:=by
  intro X hP hw hK hc i EC s Y H E I hf st hg
  subst hP hw hK
  obtain⟨xs,hq,hx⟩:=hg
  obtain⟨its,rv,p,hz⟩:=I.tuple hq
  obtain⟨f0,f1,f2,f3,f4,f5⟩:=hf it (by simp)
  have hl:=rv.length
  exact wpAny_pyNext_tuple_end (I.ok.hd hc) st (show s.heap.IsTuple a its.toArray from p) (by simp;lia) λ h' eb=>⟨rfl,I.turned (t':=s.toks) (λ b o hb e=>eb b o hb e) f0 f1 f3 f4 f5⟩
 self:=λ _ _ _ _ _ st h=>wpAny_pyIter_tupleiter st h
def Wk {P:Program}{w:World}{K:Ab}{tg:Expr}(it:Addr) (lo:Int) (n:Nat):Turn P w K tg (jq lo n) [it] it (λ i h=>IsRangeIter h it (lo+(i:Nat)*1) ((n:Int)-(i:Nat)) 1) where
 mem:=by simp
 obj:=λ i h st b hb=>by
  have e:b=it:=by simpa using hb
  subst e
  exact⟨_,st,λ v z=>by
   have z':Data.fields _=Data.cell v:=z
   cases z'⟩
 keep:=λ i h h' st k=>k it (by simp) _ st
 item:=by
  intro X hP hw hK hc i EC s Y H E I hf st hg
  subst hP hw hK
  obtain⟨f0,f1,f2,f3,f4,f5⟩:=hf it (by simp)
  have W:=Walks.range (prog:=X.prog) (w:=X.w) (I.ok.hd hc) it lo 1 n
  refine W.item i s _ _ hg st λ v h' tk hv Gi kk=>?_
  obtain⟨t,rfl⟩:=hv
  have I1:Inv X EC Y H { s with heap:=h',toks:=tk }:=I.turned (λ b o hb e=>kk b o (by simpa using hb) e) f0 f1 f3 f4 f5
  refine⟨_,rfl,fk (s:={ s with heap:=h',toks:=tk }) (n:="range_iterator") Gi rfl rfl (by decide) ⟨.int (lo+i),H,I1,⟨t,?_⟩,⟨rfl,rfl⟩,Gi,λ b hb=>(hf b hb).1⟩⟩
  rw[Int.mul_one]
 done:=by
  intro X hP hw hK hc i EC s Y H E I hf st hg
  subst hP hw hK
  obtain⟨f0,f1,f2,f3,f4,f5⟩:=hf it (by simp)
  exact wpAny_pyNext_range_end (I.ok.hd hc) st (by have:n<=i:=hg;lia) λ h' eb=>⟨rfl,I.turned (t':=s.toks) (λ b o hb e=>eb b o hb e) f0 f1 f3 f4 f5⟩
 self:=λ _ _ _ _ _ st h=>wpAny_pyIter_rangeiter st h
section
variable {X:Cx}{tg:Expr}
def V3 {EC:Ag}{Y:St}{H:Hp}{s:Shared}{R:It->Hp->Prop}{E:Ae}{lo hi:Int}{t u v:Tok}{tk:Nat}(I:Inv X EC Y H s) (h1:-(2 ^ 62)<=lo) (h2:lo<2 ^ 62) (h3:-(2 ^ 62)<=hi) (h4:hi<2 ^ 62)
  (q:R (jq lo (hi-lo).toNat) H):wpAny (model X.prog X.w) X.A (pyIter (.ref s.heap.objs.size)) (YI X EC Y tg R) E { s with heap:=s.heap.push { cls:=.type "range",data:=.fields #[.int lo t,.int hi u,.int 1 v] },toks:=tk }:=by
 refine wpAny_pyIter_range (IsRange.new ..) (small_one h1 h2 h3 h4) ?_
 have I1:Inv X EC Y H { s with heap:=s.heap.push { cls:=.type "range",data:=.fields #[.int lo t,.int hi u,.int 1 v] },toks:=tk }:=I.kept λ b o e=>KC _ e
 refine⟨(s.heap.push { cls:=.type "range",data:=.fields #[.int lo t,.int hi u,.int 1 v] }).objs.size,[(s.heap.push { cls:=.type "range",data:=.fields #[.int lo t,.int hi u,.int 1 v] }).objs.size],_,_,H,rfl,
  I1.kept (t':=tk) λ b o e=>KC _ e,Wk _ lo (hi-lo).toNat,?_,λ b hb=>?_,q⟩
 ·have e1:lo+((0:Nat):Int)*1=lo:=by simp
  have e2:(((hi-lo).toNat:Nat):Int)-((0:Nat):Int)=Builtin.Range.rangeSize lo hi 1:=by rw[rangeSize_one];split <;> lia
  show IsRangeIter _ _ (lo+((0:Nat):Int)*1) ((((hi-lo).toNat:Nat):Int)-((0:Nat):Int)) 1
  rw[e1,e2]
  exact AF _ rfl
 ·have e:b=(s.heap.push { cls:=.type "range",data:=.fields #[.int lo t,.int hi u,.int 1 v] }).objs.size:=by simpa using hb
  subst e
  exact I1.kI (Aj _) (I1.zp.fresh (Aj _))
def Zu (ta:TA):TI:=fun Y H R=>ta Y H λ vs H1=>∃ j:Int,vs=[.int j]/\-(2 ^ 62)<=j/\j<2 ^ 62/\R (jq 0 j.toNat) H1
def Ua {a:Expr}{ta:TA}{p pos:Pos}(hg:Gl X "range") (hm:X.mg "range"=none) (ha:PA X [a] ta) (hs:starEach [a] X.env=[(false,eval a X.env)]:=by rfl):PI X tg (.Call (.Name "range" p) [a] [] pos) (Zu ta):=by
 intro EC s Y H R I h
 refine Call_ (pA I hg hm boot_range (PyProof.Rows.callWith_type1 (zC (ha pos EC s Y H _ I h) λ us s1 ⟨vs,H1,I1,r1,q1⟩=>?_) hs rfl))
 obtain⟨j,e,q1,q2,q⟩:=q1
 subst e
 cases r1 with
 | cons r rr=>
  cases rr
  obtain⟨t,rfl⟩:=r
  exact call_range_1 (V3 I1 (by lia) (by lia) q1 q2 (by simpa using q))
def W8 (wi:TI) (g:TG) (tb:TS):TS:=λ D Y H=>wi Y H λ J H1=>∃ W:Nat->Nat->St->Hp->Prop,(∃ m,W 0 m Y H1)/\∀ i m Y H,W i m Y H->
 (J.stop i H/\D.nx Y H)\/(J.go i H/\∃ N:St->Hp->Prop,(∀ Y' H',N Y' H'->∃ m',m'<m/\W (i+1) m' Y' H')/\∀ x H',J.qI i H x H'->g x Y H' fun Y2 H2=>tb { D with nx:=N,ct:=N,bk:=D.nx } Y2 H2)
noncomputable def oY (fp:List Addr) (h:Heap):Ag:=fp.filterMap λ b=>(h.get? b).map λ o=>(b,o)
def kx {fp:List Addr}{h:Heap}{b:Addr}{o:Obj}(hb:b∈fp) (e:h.get? b=some o):(b,o)∈oY fp h:=CP.mpr ⟨b,hb,by rw[e];rfl⟩
def RP {fp:List Addr}{h:Heap}{p:Addr×Obj}(hp:p∈oY fp h):p.1∈fp/\h.get? p.1=some p.2:=by
 obtain⟨b,hb,e⟩:=CP.mp hp
 cases q:h.get? b with
 | none=>rw[q] at e;cases e
 | some o=>
  rw[q] at e
  have e':(b,o)=p:=A5 e
  subst e'
  exact⟨hb,q⟩
def Inv.pinned {EC:Ag}{Y:St}{H:Hp}{s:Shared}{fp:List Addr}(I:Inv X EC Y H s) (hf:∀ b∈fp,vY X EC H b) (ho:∀ b∈fp,∃ o,s.heap.get? b=some o/\∀ v,o.data≠.cell v):Inv X (EC++oY fp s.heap) Y H s:=
 I.iV λ p hp=>(A0.mp hp).elim (λ z=>I.pin p (AY _ z)) λ z=>by
  obtain⟨hb,e⟩:=RP z
  obtain⟨f0,f1,f2,_⟩:=hf p.1 hb
  obtain⟨o,e',d⟩:=ho p.1 hb
  rw[e] at e';cases e'
  exact⟨e,f0,f1,f2,d⟩
def Inv.o7 {EC pl:Ag}{Y:St}{H:Hp}{s:Shared}(I:Inv X (EC++pl) Y H s):Inv X EC Y H s:=I.iV λ p hp=>I.pin p (AY _ (CQ _ hp))
def VQ {iter:Expr}{body:List Stmt}{wi:TI}{g:TG}{tb:TS}{pos:Pos}(hp:PassesOwn (model X.prog X.w) X.A X.env X.xe) (hc:X.calm=true) (hi:PI X tg iter wi) (hg:PG X tg g) (hb:xV X body tb)
  (hs:∀ x,foldedSetIterable iter X.env x=pure x:=by intro _;rfl):PS X (.For tg iter body [] pos) (W8 wi g tb):=by
 intro EC s Y H D I h
 refine wpAny_For (zC (hi EC s Y H _ I h) λ v s1 h1=>zC h1 λ Jw s2 h2=>?_) hs
 obtain⟨it,fp,tn,J,H2,e,I2,T,IB,f2,W,⟨m0,w0⟩,turn⟩:=h2
 subst e
 have GA:∀ {H':Hp},(∀ b∈fp,H' b=none)->∀ b∈fp,vY X EC H' b:=λ hn b hb=>⟨hn b hb,(f2 b hb).2⟩
 refine codeAny_forLoop_any (λ n s'=>∃ i Y' H',Inv X EC Y' H' s'/\tn i s'.heap/\(∀ b∈fp,H' b=none)/\W i n Y' H') ?_ m0 ⟨0,Y,H2,I2,IB,λ b hb=>(f2 b hb).1,w0⟩
 rintro n s3 ⟨i,Y3,H3,I3,IA,Ji,w3⟩
 rcases turn i n Y3 H3 w3 with ⟨stop,qn⟩ | ⟨go,N,hN,step⟩
 ·refine K1 hp (zC (T.done X rfl rfl rfl hc i EC s3 Y3 H3 X.xe I3 (GA Ji) IA stop) λ r s4 ⟨hr,I4⟩=>?_)
  subst hr
  exact K2 ⟨Y3,H3,I4,qn⟩
 ·refine K1 hp (zC (T.item X rfl rfl rfl hc i EC s3 Y3 H3 X.xe I3 (GA Ji) IA go) λ r s4 ⟨u,hr,h4⟩=>?_)
  subst hr
  refine K1 hp (zC h4 λ _ s5 ⟨x,H5,I5,r5,y5,HL,Kq⟩=>?_)
  have KA:=I5.pinned (GA Kq) (T.obj _ _ HL)
  refine K1 hp (zC (hg _ s5 Y3 H5 x u _ KA r5 (step x H5 y5)) λ _ s6 ⟨Y6,H6,I6,q6⟩=>?_)
  refine K1 hp (zC (hb _ s6 Y6 H6 _ I6 q6) λ f s7 q7=>?_)
  have again:∀ {Y7:St}{H7:Hp},Inv X (EC++oY fp s5.heap) Y7 H7 s7->N Y7 H7->∃ m,m<n/\∃ i Y' H',Inv X EC Y' H' s7/\tn i s7.heap/\(∀ b∈fp,H' b=none)/\W i m Y' H':=λ{Y7 H7} I7 n7=>by
   obtain⟨m',hm,w7⟩:=hN Y7 H7 n7
   refine⟨m',hm,i+1,Y7,H7,I7.o7,T.keep _ _ _ HL λ b hb o e=>(I7.pin (b,o) (AY _ (AY _ (kx hb e)))).1,λ b hb=>?_,w7⟩
   obtain⟨o,e,d⟩:=T.obj _ _ HL b hb
   exact (I7.pin (b,o) (AY _ (AY _ (kx hb e)))).2.1
  cases f with
  | brk=>obtain⟨Y7,H7,I7,q7⟩:=q7;exact⟨Y7,H7,I7.o7,q7⟩
  | ret v=>obtain⟨x7,Y7,H7,I7,r7,q7⟩:=q7;exact⟨x7,Y7,H7,I7.o7,r7,q7⟩
  | _=>obtain⟨Y7,H7,I7,n7⟩:=q7;exact again I7 n7
end
abbrev R2:=V->V->Hp->VK->Prop
def yd (X:Cx) (f:Value->Value->Sem Value) (r:R2):Prop:=
 ∀ (EC:Ag) (s:Shared) (Y:St) (H:Hp) (x y:V) (v u:Value) (Q:VK),Inv X EC Y H s->RelV x v->RelV y u->r x y H Q->
  wpAny (model X.prog X.w) X.A (f v u) (EP X EC Y Q) X.xe s
def eG (X:Cx) (f:Value->Sem Value) (r:V->Hp->VK->Prop):Prop:=
 ∀ (EC:Ag) (s:Shared) (Y:St) (H:Hp) (x:V) (v:Value) (Q:VK),Inv X EC Y H s->RelV x v->r x H Q->
  wpAny (model X.prog X.w) X.A (f v) (EP X EC Y Q) X.xe s
def yB (X:Cx) (f:Value) (r:List V->Hp->VK->Prop):Prop:=
 ∀ (EC:Ag) (s:Shared) (Y:St) (H:Hp) (xs:List V) (us:Ad) (Q:VK),Inv X EC Y H s->Vals xs us->r xs H Q->
  wpAny (model X.prog X.w) X.A (call f us) (EP X EC Y Q) X.xe s
def NG (X:Cx) (r:V->Hp->(Bool->Hp->Prop)->Prop):Prop:=
 ∀ (EC:Ag) (s:Shared) (Y:St) (H:Hp) (x:V) (v:Value) (Q:Bool->Hp->Prop),Inv X EC Y H s->RelV x v->r x H Q->
  wpAny (model X.prog X.w) X.A (truthy v) (TP X EC Y Q) X.xe s
def o9 (r:R2) (ta tb:TE):TE:=fun Y H Q=>ta Y H λ x H1=>tb Y H1 λ y H2=>r x y H2 Q
def Wu (r:V->Hp->VK->Prop) (ta:TE):TE:=fun Y H Q=>ta Y H λ x H1=>r x H1 Q
def rI (C:Int->Int->Prop) (g:Int->Int->V):R2:=λ x y H Q=>∃ i j,x=.int i/\y=.int j/\C i j/\Q (g i j) H
def wW (g:Int->Int->V):R2:=λ x y H Q=>∃ i j,x=.int i/\y=.int j/\Q (g i j) H
def rU (g:Int->V):V->Hp->VK->Prop:=λ x H Q=>∃ i,x=.int i/\Q (g i) H
section
variable {X:Cx}{a b:Expr}{ta tb:TE}{pos:Pos}
def ei (ha:PE X a ta) (hb:PE X b tb) {EC:Ag}{s:Shared}{Y:St}{H:Hp}{R:V->V->Hp->Prop}(I:Inv X EC Y H s)
  (h:ta Y H λ x H1=>tb Y H1 λ y H2=>R x y H2) {Q:Ae}{f:Value->Value->Sem Value}
  (hf:∀ v u s2 x y H2,Inv X EC Y H2 s2->RelV x v->RelV y u->R x y H2->wpAny (model X.prog X.w) X.A (f v u) Q X.xe s2):
  wpAny (model X.prog X.w) X.A (eval a X.env) (λ v s₁=>wpAny (model X.prog X.w) X.A (eval b X.env) (λ u s₂=>wpAny (model X.prog X.w) X.A (f v u) Q X.xe s₂) X.xe s₁) X.xe s:=by
 refine zC (ha EC s Y H _ I h) λ v s1 ⟨x,H1,I1,r1,q1⟩=>?_
 refine zC (hb EC s1 Y H1 _ I1 q1) λ u s2 ⟨y,H2,I2,r2,q2⟩=>?_
 exact hf v u s2 x y H2 I2 r1 r2 q2
def Uq {op:Operator}{r:R2}(ho:yd X (binaryOp op) r) (ha:PE X a ta) (hb:PE X b tb):PE X (.BinOp a op b pos) (o9 r ta tb):=by
 intro EC s Y H Q I h
 exact wpAny_BinOp (ei ha hb I h λ v u s2 x y H2 I2 rx ry q=>ho EC s2 Y H2 x y v u Q I2 rx ry q)
def Um {op:UnaryOp}{r:V->Hp->VK->Prop}(ho:eG X (unaryOp op) r) (ha:PE X a ta):PE X (.UnaryOp op a pos) (Wu r ta):=by
 intro EC s Y H Q I h
 exact UnaryOp_ (zC (ha EC s Y H _ I h) λ v s1 ⟨x,H1,I1,r1,q1⟩=>ho EC s1 Y H1 x v Q I1 r1 q1)
def ki {f:Value->Value->Sem Value}{C:Int->Int->Prop}{g:Int->Int->Int}
  (rule:∀ (i j:Int) (t u:Tok) (s:Shared) (Q:Ae) (E:Ae),C i j->Q (.int (g i j) s.toks) { s with toks:=s.toks+1 }->wpAny (model X.prog X.w) X.A (f (.int i t) (.int j u)) Q E s):
  yd X f (rI C λ i j=>.int (g i j)):=by
 intro EC s Y H x y v u Q I rx ry h
 obtain⟨i,j,rfl,rfl,hc,q⟩:=h
 obtain⟨t,rfl⟩:=rx
 obtain⟨t',rfl⟩:=ry
 exact rule i j t t' s _ _ hc ⟨.int (g i j),H,I.tok _,⟨_,rfl⟩,q⟩
def aj {f:Value->Value->Sem Value}{g:Int->Int->Int}
  (rule:∀ (i j:Int) (t u:Tok) (s:Shared) (Q:Ae) (E:Ae),Q (.int (g i j) s.toks) { s with toks:=s.toks+1 }->wpAny (model X.prog X.w) X.A (f (.int i t) (.int j u)) Q E s):
  yd X f (wW λ i j=>.int (g i j)):=by
 intro EC s Y H x y v u Q I rx ry h
 obtain⟨i,j,rfl,rfl,q⟩:=h
 obtain⟨t,rfl⟩:=rx
 obtain⟨t',rfl⟩:=ry
 exact rule i j t t' s _ _ ⟨.int (g i j),H,I.tok _,⟨_,rfl⟩,q⟩
def kj {f:Value->Value->Sem Value}{g:Int->Int->Bool}
  (rule:∀ (i j:Int) (t u:Tok) (s:Shared) (Q:Ae) (E:Ae),Q (.bool (g i j)) s->wpAny (model X.prog X.w) X.A (f (.int i t) (.int j u)) Q E s):
  yd X f (wW λ i j=>.bl (g i j)):=by
 intro EC s Y H x y v u Q I rx ry h
 obtain⟨i,j,rfl,rfl,q⟩:=h
 obtain⟨t,rfl⟩:=rx
 obtain⟨t',rfl⟩:=ry
 exact rule i j t t' s _ _ ⟨.bl (g i j),H,I,rfl,q⟩
def xg (i j:Int):Prop:=0<j/\j<1073741824
def sL (i j:Int):Prop:=0<=j/\j<=1000000/\i.natAbs<2 ^ 64
def wo (i j:Int):Prop:=(-(2 ^ 64)<i/\i<2 ^ 64)\/(-(2 ^ 64)<j/\j<2 ^ 64)
def wo.ok {i j:Int}(h:wo i j):IntMulOk i j:=by
 rcases h with ⟨h1,h2⟩ | ⟨h1,h2⟩
 ·exact .of_left (intBits_le_64 h1 h2)
 ·exact .of_right (intBits_le_64 h1 h2)
def T2:yd X (binaryOp .Add) (wW λ i j=>.int (i+j)):=aj λ _ _ _ _ _ _ _ q=>add_int q
def Tf:yd X (binaryOp .Sub) (wW λ i j=>.int (i-j)):=aj λ _ _ _ _ _ _ _ q=>sub_int q
def Tn:yd X (binaryOp .Mult) (rI wo λ i j=>.int (i*j)):=ki λ _ _ _ _ _ _ _ hc q=>mul_int q hc.ok
def Tu:yd X (binaryOp .FloorDiv) (rI xg λ i j=>.int (i/j)):=ki λ i j _ _ _ _ _ hc q=>by
 have h1:(0:Int)<j:=hc.1
 have h2:j<1073741824:=hc.2
 exact floordiv_int (by lia) (by rw[Int.fdiv_eq_ediv_of_nonneg i (by lia)];exact q) (.inl (PyProof.noPylong_small (by lia)))
def Tp:yd X (binaryOp .Mod) (rI (λ _ j=>0<j) λ i j=>.int (i%j)):=ki λ i j _ _ _ _ _ hc q=>by
 have h1:(0:Int)<j:=hc
 exact mod_int' (by lia) (by rw[Int.fmod_eq_emod_of_nonneg i (by lia)];exact q)
def Tg:yd X (binaryOp .Pow) (rI sL λ i j=>.int (i ^ j.toNat)):=ki λ _ _ _ _ _ _ _ hc q=>pow_int_small hc.1 hc.2.1 hc.2.2 q
def We {f:Value->Sem Value}{g:Int->Int}
  (rule:∀ (i:Int) (t:Tok) (s:Shared) (Q:Ae) (E:Ae),Q (.int (g i) s.toks) { s with toks:=s.toks+1 }->wpAny (model X.prog X.w) X.A (f (.int i t)) Q E s):
  eG X f (rU λ i=>.int (g i)):=by
 intro EC s Y H x v Q I rx h
 obtain⟨i,rfl,q⟩:=h
 obtain⟨t,rfl⟩:=rx
 exact rule i t s _ _ ⟨.int (g i),H,I.tok _,⟨_,rfl⟩,q⟩
def Wc:eG X (unaryOp .USub) (rU λ i=>.int (-i)):=We λ _ _ _ _ _ q=>neg_int q
end
section
variable {X:Cx}{a b c:Expr}{ta tb tc:TE}{pos:Pos}
def Oe {EC:Ag}{Y:St}{H:Hp}{s:Shared}{Q:VK}{k k':Bool}(I:Inv X EC Y H s) (q:Q (.bl k) H) (e:k=k'):EP X EC Y Q (.bool k') s:=by
 subst e
 exact⟨.bl k,H,I,rfl,q⟩
def Tr:yd X (compareOp .Lt) (wW λ i j=>.bl (decide (i<j))):=kj λ _ _ _ _ _ _ _ q=>lt_int q
def qb:yd X (compareOp .LtE) (wW λ i j=>.bl (decide (i<=j))):=kj λ _ _ _ _ _ _ _ q=>le_int q
def Tt:yd X (compareOp .Gt) (wW λ i j=>.bl (decide (j<i))):=kj λ _ _ _ _ _ _ _ q=>gt_int q
def ah:yd X (compareOp .GtE) (wW λ i j=>.bl (decide (j<=i))):=kj λ _ _ _ _ _ _ _ q=>ge_int q
def af:yd X (compareOp .Is) (λ x y H Q=>y=.zk/\Q (.bl (decide (x=.zk))) H):=by
 intro EC s Y H x y v u Q I rx ry h
 obtain⟨rfl,q⟩:=h
 cases ry
 refine is_none_gen (Oe I q ?_)
 cases x <;> first
  | (cases rx;rfl)
  | (obtain⟨t,rfl⟩:=rx;rfl)
def yd.or {f:Value->Value->Sem Value}{r r':R2}(h:yd X f r) (h':yd X f r'):yd X f (λ x y H Q=>r x y H Q\/r' x y H Q):=by
 intro EC s Y H x y v u Q I rx ry q
 rcases q with q | q
 ·exact h EC s Y H x y v u Q I rx ry q
 ·exact h' EC s Y H x y v u Q I rx ry q
def uK (b:Expr) {op:CmpOp}(h:op≠.In:=by decide) (h2:op≠.NotIn:=by decide):behindInMarks op b=false:=by
 have e1:(op == CmpOp.In)=false:=by cases op <;> first | rfl | exact absurd rfl h
 have e2:(op == CmpOp.NotIn)=false:=by cases op <;> first | rfl | exact absurd rfl h2
 cases b <;> simp[behindInMarks,e1,e2]
def U3 {op:CmpOp}{r:R2}(ho:yd X (compareOp op) r) (ha:PE X a ta) (hb:PE X b tb) (hm:behindInMarks op b=false):PE X (.Compare a [op] [b] pos) (o9 r ta tb):=by
 intro EC s Y H Q I h
 exact wpAny_Compare1 (ei ha hb I h λ v u s2 x y H2 I2 rx ry q=>ho EC s2 Y H2 x y v u Q I2 rx ry q) hm
def c7 (t:TE):TT:=fun Y H Q=>t Y H λ x H'=>∃ k,x=.bl k/\Q k H'
def VG {op:CmpOp}{r:R2}(ho:yd X (compareOp op) r) (ha:PE X a ta) (hb:PE X b tb) (hm:behindInMarks op b=false):PT X (.Compare a [op] [b] pos) (c7 (o9 r ta tb)):=by
 intro EC s Y H Q I h
 refine wpAny_isTrue_Compare1 (zC (ha EC s Y H _ I h) λ v s1 ⟨x,H1,I1,r1,q1⟩=>zC (hb EC s1 Y H1 _ I1 q1) λ u s2 ⟨y,H2,I2,r2,q2⟩=>
  zC (ho EC s2 Y H2 x y v u _ I2 r1 r2 q2) λ c s3 ⟨z,H3,I3,r3,k,e,q3⟩=>?_) hm
 subst e
 cases r3
 exact KZ ⟨H3,I3,q3⟩
def jL (r r':R2) (ta tb tc:TE):TE:=fun Y H Q=>ta Y H λ x H1=>tb Y H1 λ y H2=>r x y H2 λ z H3=>∃ k,z=.bl k/\
 (if k=true then tc Y H3 λ w' H4=>r' y w' H4 Q else Q (.bl false) H3)
def U4 {op GC:CmpOp}{r r':R2}(ho:yd X (compareOp op) r) (FE:yd X (compareOp GC) r') (ha:PE X a ta) (hb:PE X b tb) (hc:PE X c tc)
  (hm:lastMarks [op,GC] [b,c]=false:=by with_unfolding_all rfl):PE X (.Compare a [op,GC] [b,c] pos) (jL r r' ta tb tc):=by
 intro EC s Y H Q I h
 refine Compare_chain (zC (ha EC s Y H _ I h) λ v s1 ⟨x,H1,I1,r1,q1⟩=>chain_link (zC (hb EC s1 Y H1 _ I1 q1) λ u s2 ⟨y,H2,I2,r2,q2⟩=>
  zC (ho EC s2 Y H2 x y v u _ I2 r1 r2 q2) λ d s3 ⟨z,H3,I3,r3,k,e,q3⟩=>?_)) hm
 subst e
 cases r3
 refine KZ ?_
 cases k with
 | false=>exact ite_ff ⟨.bl false,H3,I3,rfl,q3⟩
 | true=>exact ite_tt (chain_last (zC (hc EC s3 Y H3 _ I3 q3) λ w' s4 ⟨z',H4,I4,r4,q4⟩=>FE EC s4 Y H4 y z' u w' Q I4 r2 r4 q4))
def VH {op GC:CmpOp}{r r':R2}(ho:yd X (compareOp op) r) (FE:yd X (compareOp GC) r') (ha:PE X a ta) (hb:PE X b tb) (hc:PE X c tc)
  (hm:lastMarks [op,GC] [b,c]=false:=by with_unfolding_all rfl):PT X (.Compare a [op,GC] [b,c] pos) (c7 (jL r r' ta tb tc)):=by
 intro EC s Y H Q I h
 refine isTrue_chain (zC (ha EC s Y H _ I h) λ v s1 ⟨x,H1,I1,r1,q1⟩=>test_link (zC (hb EC s1 Y H1 _ I1 q1) λ u s2 ⟨y,H2,I2,r2,q2⟩=>
  zC (ho EC s2 Y H2 x y v u _ I2 r1 r2 q2) λ d s3 ⟨z,H3,I3,r3,k,e,q3⟩=>?_)) hm
 subst e
 cases r3
 refine KZ ?_
 cases k with
 | false=>
  obtain⟨k',e',q'⟩:=q3
  cases e'
  exact ite_ff ⟨H3,I3,q'⟩
 | true=>
  refine ite_tt (test_last (zC (hc EC s3 Y H3 _ I3 q3) λ w' s4 ⟨z',H4,I4,r4,q4⟩=>zC (FE EC s4 Y H4 y z' u w' _ I4 r2 r4 q4) λ d' s5 ⟨z2,H5,I5,r5,k2,e2,q5⟩=>?_))
  subst e2
  cases r5
  exact KZ ⟨H5,I5,q5⟩
def eI (K:Ab) (x:V) (H:Hp) (k:Bool):Prop:=
 match x with
 | .zk=>k=false
 | .bl b=>k=b
 | .int i=>k=(i != 0)
 | .str y=>y.length<=sizeLine/\k=((y.length:Int) != 0)
 | .mv y=>y.size<=sizeLine/\k=((y.size:Int) != 0)
 | .ref p=>(∃ xs,zO K H p xs/\k=!xs.isEmpty)\/(∃ xs,zX K H p xs/\k=!xs.isEmpty)\/∃ Aa,H p=some (.dK Aa)/\k=!Aa.isEmpty
 | _=>False
def QW {κ:Type}{Aa:List (κ × V)}{vs:List (κ × Value)}(r:KV Aa vs):(!vs.isEmpty)=!Aa.isEmpty:=by
 cases r <;> rfl
def Zb {xs:List V}{its:Ad}(r:Vals xs its):(!its.toArray.isEmpty)=!xs.isEmpty:=by
 cases r <;> simp
def qh:(sizeLine:Nat)<2 ^ 63:=by rw[sizeLine_eq];decide
def Wq:NG X (λ x H Q=>∃ k,eI X.K x H k/\Q k H):=by
 intro EC s Y H x v Q I rx h
 obtain⟨k,e,q⟩:=h
 have hl:=qh
 have hs:sizeLine=16777216:=sizeLine_eq
 cases x with
 | zk=>
  cases rx
  have e':k=false:=e
  subst e'
  exact truthy_none ⟨H,I,q⟩
 | bl b=>
  cases rx
  have e':k=b:=e
  subst e'
  exact KZ ⟨H,I,q⟩
 | int i=>
  obtain⟨t,rfl⟩:=rx
  have e':k=(i != 0):=e
  subst e'
  exact PySem.P.truthy_int ⟨H,I,q⟩
 | str y=>
  obtain⟨t,rfl⟩:=rx
  obtain⟨hy,e'⟩:y.length<=sizeLine/\k=((y.length:Int) != 0):=e
  subst e'
  exact PySem.P.truthy_str (by lia) ⟨H,I.tok _,q⟩
 | mv y=>
  obtain⟨t,rfl⟩:=rx
  obtain⟨hy,e'⟩:y.size<=sizeLine/\k=((y.size:Int) != 0):=e
  subst e'
  exact PySem.W.truthy_bytes (by lia) ⟨H,I.tok _,q⟩
 | ref p=>
  cases rx
  have e':(∃ xs,zO X.K H p xs/\k=!xs.isEmpty)\/(∃ xs,zX X.K H p xs/\k=!xs.isEmpty)\/∃ Aa,H p=some (.dK Aa)/\k=!Aa.isEmpty:=e
  rcases e' with ⟨xs,hx,e'⟩ | ⟨xs,hx,e'⟩ | ⟨Aa,hx,e'⟩
  ·subst e'
   obtain⟨its,r,pl,hz⟩:=I.list hx
   have hlen:=r.length
   exact wpAny_truthy_list pl.isList (by simp only[AA];lia) ⟨H,I.tok _,by rw[Zb r];exact q⟩
  ·subst e'
   obtain⟨its,r,pl,hz⟩:=I.tuple hx
   have hlen:=r.length
   exact truthy_tuple pl (by simp only[AA];lia) ⟨H,I.tok _,by rw[Zb r];exact q⟩
  ·subst e'
   obtain⟨hz,hS,vs,r,m⟩:Aa.length<=sizeLine/\(p == sysModules)=false/\∃ vs,KV Aa vs/\s.heap.DictOf (wI X.prog X.w) p vs:=I.zp p _ hx
   have hlen:Aa.length=vs.length:=Paired.length r
   exact wpAny_truthy_dict hS m (by lia) ⟨H,I.tok _,by rw[QW r];exact q⟩
 | _=>exact (show False from e).elim
def VE (ha:PE X a ta) (he:∀ whole,isTrue a X.env whole=(do let v <- whole;standAt a.pos;holding [v] (truthy v))):
  PT X a (fun Y H Q=>ta Y H λ x H'=>∃ k,eI X.K x H' k/\Q k H'):=by
 intro EC s Y H Q I h
 exact isTrue_plain (zC (ha EC s Y H _ I h) λ v s1 ⟨x,H1,I1,r1,q1⟩=>Wq EC s1 Y H1 x v Q I1 r1 q1) (he _)
def Tz:yd X (binaryOp .Add) (λ x y H Q=>∃ i j,x=.str i/\y=.str j/\i.length+j.length<=sizeLine/\Q (.str (i++j)) H):=by
 intro EC s Y H x y v u Q I rx ry h
 obtain⟨i,j,rfl,rfl,hz,q⟩:=h
 obtain⟨t,rfl⟩:=rx
 obtain⟨t',rfl⟩:=ry
 exact add_str (λ t' tk=>⟨.str (i++j),H,I.tok _,⟨_,rfl⟩,q⟩) hz
def vals1 {x:V}{us:Ad}(r:Vals [x] us):∃ u,us=[u]/\RelV x u:=by
 cases r with
 | cons r1 r2=>cases r2;exact⟨_,rfl,r1⟩
def vals2 {x y:V}{us:Ad}(r:Vals [x,y] us):∃ u w',us=[u,w']/\RelV x u/\RelV y w':=by
 cases r with
 | cons r1 r2=>
  cases r2 with
  | cons r3 r4=>cases r4;exact⟨_,_,rfl,r1,r3⟩
def Nj (hc:X.calm=true):yB X (.builtin "max") (λ xs H Q=>∃ i j,xs=[.int i,.int j]/\Q (.int (if j>i then j else i)) H):=by
 intro EC s Y H xs us Q I r h
 obtain⟨i,j,rfl,q⟩:=h
 obtain⟨u,w',rfl,⟨t,rfl⟩,⟨t',rfl⟩⟩:=vals2 r
 refine max_two_ints (I.ok.hd hc) λ h' tk k=>⟨_,H,I.kept k,?_,q⟩
 by_cases hj:j>i
 ·rw[if_pos hj,if_pos hj];exact⟨_,rfl⟩
 ·rw[if_neg hj,if_neg hj];exact⟨_,rfl⟩
def Ni (hc:X.calm=true):yB X (.builtin "min") (λ xs H Q=>∃ i j,xs=[.int i,.int j]/\Q (.int (if j<i then j else i)) H):=by
 intro EC s Y H xs us Q I r h
 obtain⟨i,j,rfl,q⟩:=h
 obtain⟨u,w',rfl,⟨t,rfl⟩,⟨t',rfl⟩⟩:=vals2 r
 refine min_two_ints (I.ok.hd hc) λ h' tk k=>⟨_,H,I.kept k,?_,q⟩
 by_cases hj:j<i
 ·rw[if_pos hj,if_pos hj];exact⟨_,rfl⟩
 ·rw[if_neg hj,if_neg hj];exact⟨_,rfl⟩
def Nt:yB X (.type "int") (λ xs H Q=>(∃ i,xs=[.int i]/\Q (.int i) H)\/∃ k,xs=[.bl k]/\Q (.int (if k then 1 else 0)) H):=by
 intro EC s Y H xs us Q I r h
 rcases h with ⟨i,rfl,q⟩ | ⟨k,rfl,q⟩
 ·obtain⟨u,rfl,t,rfl⟩:=vals1 r
  exact call_int_int ⟨.int i,H,I,⟨_,rfl⟩,q⟩
 ·obtain⟨u,rfl,r1⟩:=vals1 r
  cases r1
  exact call_int_bool ⟨.int (if k then 1 else 0),H,I.tok _,⟨_,rfl⟩,q⟩
end
def vU.some_of {v:V}{o:Option Value}(r:vU (some v) o):∃ u,o=some u/\RelV v u:=by
 cases o with
 | none=>exact (show False from r).elim
 | some u=>exact⟨u,rfl,r⟩
def Pt {v:V}{u:Value}(r:RelV v u):PySem.W.handedIn u=true:=by
 cases v with
 | zk=>cases (show u=Value.none from r);rfl
 | bl b=>cases (show u=Value.bool b from r);rfl
 | int i=>obtain⟨t,e⟩:=(show ∃ t,u=Value.int i t from r);cases e;rfl
 | str x=>obtain⟨t,e⟩:=(show ∃ t,u=Value.str x t from r);cases e;rfl
 | mv b=>obtain⟨t,e⟩:=(show ∃ t,u=Value.bytes b t from r);cases e;rfl
 | fD b=>obtain⟨t,e⟩:=(show ∃ t,u=Value.float b t from r);cases e;rfl
 | ref a=>cases (show u=Value.ref a from r);rfl
 | ty n=>cases (show u=Value.type n from r);rfl
section
variable {s:Shared}{f:Str}{A:Around}{E:Ae}
def N5 {prog:Program}{w:World}{env:Env}{e:Expr}{f:Str}{pos:Pos}{s:Shared}{Q:Ae}(hb:attributeBase e f env (eval e env)=eval e env)
  (h:wpAny (model prog w) A (eval e env) (λ o s₁=>wpAny (model prog w) A (getAttr o f true) Q E s₁) E s):wpAny (model prog w) A (eval (.Attribute e f pos) env) Q E s:=
 Attribute_any_ h (by rw[arm_eval_Attribute,hb])
end
structure ya (k:Nat) (A:Around):Prop where
 hd:A.handled=none
 dp:A.depth+3*k+5<recursionLimit
 un:A.units+16*k+200<cLine
def ya.mono {j k:Nat}{A:Around}(r:ya k A) (h:j<=k):ya j A:=⟨r.hd,by have:=r.dp;lia,by have:=r.un;lia⟩
theorem ya.deeper {k:Nat}{A:Around}(r:ya (k+1) A) (env:Env):ya k (A.deeper env):=
 ⟨r.hd,by have:=r.dp;show A.depth+1+3*k+5<_;lia,by have:=r.un;show A.units+3+16*k+200<_;lia⟩
def Qp {A:Around}{C:Addr}{us:Ad}{kw:List (Str×Value)}:(A.under (.builtin "type.__call__" ⟨.ref C::us,kw⟩)).depth=A.depth+1:=by
 first | rfl | simp[Around.under,Code.weight,Code.isCreation,Code.isGuard,Code.isCaller,Code.frames,Code.isFrame,guardIds]
def Qo {A:Around}{C:Addr}{us:Ad}{kw:List (Str×Value)}:(A.under (.builtin "type.__call__" ⟨.ref C::us,kw⟩)).units=A.units+1:=by
 first | rfl | simp[Around.under,Code.cUnits,Code.frames,Code.isFrame]
def ya.make {k:Nat}{A:Around}(r:ya (k+1) A) (C:Addr) (us:Ad) (kw:List (Str×Value)):ya k (A.under (.builtin "type.__call__" ⟨.ref C::us,kw⟩)):=
 ⟨r.hd,by have:=r.dp;rw[Qp];lia,by have:=r.un;rw[Qo];lia⟩
theorem ya.depth {k:Nat}{A:Around}(r:ya k A):A.depth<recursionLimit:=by have:=r.dp;lia
theorem ya.units {k:Nat}{A:Around}(r:ya k A):A.units+64<cLine:=by have:=r.un;lia
def oA:TA:=λ _ H Q=>Q [] H
def oB (ta:TE) (tr:TA):TA:=fun Y H Q=>ta Y H λ x H1=>tr Y H1 λ xs H2=>Q (x::xs) H2
section
variable {X:Cx}{e:Expr}{es:List Expr}{te:TE}{t:TA}{pos:Pos}
def tf:PA X [] oA:=λ _ _ _ _ H Q I h=>Calls.spliced_nil ⟨[],H,I,.nil,h⟩
def v9 (ha:PE X e te) (hr:PA X es t) (hs:starEach (e::es) X.env=(false,eval e X.env)::starEach es X.env:=by rfl):PA X (e::es) (oB te t):=by
 intro pos EC s Y H Q I h
 rw[hs]
 show wpAny _ _ (spliced ((false,eval e X.env)::backTo pos (starEach es X.env))) _ _ s
 refine Calls.spliced_cons (zC (ha EC s Y H _ I h) λ u s1 ⟨x,H1,I1,r1,q1⟩=>?_)
 exact zC (hr pos EC s1 Y H1 _ I1 q1) λ us s2 ⟨xs,H2,I2,r2,q2⟩=>⟨x::xs,H2,I2,.cons r1 r2,q2⟩
def Wv (t:TA):TE:=fun Y H Q=>t Y H λ xs H1=>xs.length<=sizeLine/\∀ p,H1 p=none->Q (.ref p) (upd H1 p (.tup xs))
def W5 (t:TA):TE:=fun Y H Q=>t Y H λ xs H1=>xs.length<=sizeLine/\∀ p,H1 p=none->Q (.ref p) (upd H1 p (.lst xs))
def bD {x1} (h:PA X es t):PE X (.Tuple es x1 pos) (Wv t):=by
 intro EC s Y H Q I hq
 refine wpAny_Tuple_spliced (zC (h pos EC s Y H _ I hq) λ us s1 ⟨xs,H1,I1,r,z,q⟩=>⟨by rw[<- r.length];exact z,?_⟩)
 have hf:H1 s1.heap.objs.size=none:=I1.zp.fresh (Aj _)
 refine⟨.ref s1.heap.objs.size,upd H1 s1.heap.objs.size (.tup xs),I1.laid (t':=s1.toks) (λ b u e=>KC _ e) (Aj _) ?_,rfl,q _ hf⟩
 exact⟨z,us,r,⟨_,AF _ rfl,rfl,_,rfl⟩⟩
def Uu (h:PA X es t):PE X (.List es pos) (W5 t):=by
 intro EC s Y H Q I hq
 refine wpAny_List_spliced (zC (h pos EC s Y H _ I hq) λ us s1 ⟨xs,H1,I1,r,z,q⟩=>⟨by rw[<- r.length];exact z,?_⟩)
 have hf:H1 s1.heap.objs.size=none:=I1.zp.fresh (Aj _)
 refine⟨.ref s1.heap.objs.size,upd H1 s1.heap.objs.size (.lst xs),I1.laid (t':=s1.toks) (λ b u e=>KC _ e) (Aj _) ?_,rfl,q _ hf⟩
 exact⟨z,us,0,r,AF _ rfl⟩
end
abbrev Sp:=List V->Hp->VK->XK->Prop
abbrev uc:=List Env->Hp->Shared->XK->Value->Shared->Prop
structure qF (P:Program) (w:World) (K:Ab) (mg:Aq) (base:Heap) (A:Around) (outer:List Env) (s:Shared) (H:Hp):Prop where
 frames:A.frames=some outer
 mod:Mod K mg base
 bs:∀ b o,base.get? b=some o->s.heap.get? b=some o/\H b=none
 t9:base.objs.size<=s.heap.objs.size
 vl:s.heap.FunFrames base outer
 tY:∀ b∈yS outer,H b=none
 zp:yf P w H s.heap
 bare:AllBare s.gens
def CE (outer:List Env) (P:Program) (w:World) (H:Hp) (s:Shared) (Q:VK) (u:Value) (s':Shared):Prop:=
 ∃ v H',s'.os=s.os/\AllBare s'.gens/\Un (yS outer) [] H H' s.heap s'.heap/\yf P w H' s'.heap/\RelV v u/\Q v H'
def CR (CX:uc) (outer:List Env) (P:Program) (w:World) (H:Hp) (s:Shared) (Q:VK) (E:XK) (r:Result) (s':Shared):Prop:=
 match r with
 | .ok (.ret u)=>CE outer P w H s Q u s'
 | .ok _=>False
 | .error e=>CX outer H s E e s'
structure xy (P:Program) (w:World) (K:Ab) (mg:Aq) (base:Heap) (CX:uc) (k:Nat) (f:Addr) (fd:FuncData) (ps:List Str) (sp:Sp):Prop where
 len:∀ vs H Q E,sp vs H Q E->vs.length=ps.length
 run:∀ (A:Around) (outer:List Env) (s:Shared) (H:Hp) (args:Args) (us:Ad) (vs:List V) (Q:VK) (E:XK),ya k A->qF P w K mg base A outer s H->BindsTo s fd args (ps.zip us)->Vals vs us->sp vs H Q E->
  codeAny (model P w) A (.call (.ref f) args) (CR CX outer P w H s Q E) s
def xy.imp {P:Program}{w:World}{K:Ab}{mg:Aq}{base:Heap}{CX:uc}{k:Nat}{f:Addr}{fd:FuncData}{ps:List Str}{sp sp':Sp}(F:xy P w K mg base CX k f fd ps sp)
  (h:∀ vs H Q E,sp' vs H Q E->sp vs H Q E):xy P w K mg base CX k f fd ps sp':=
 ⟨λ vs H Q E q=>F.len vs H Q E (h _ _ _ _ q),λ A outer s H args us vs Q E hr he hb hv hs=>F.run A outer s H args us vs Q E hr he hb hv (h _ _ _ _ hs)⟩
def qF.make {P:Program}{w:World}{K:Ab}{mg:Aq}{base:Heap}{A:Around}{outer:List Env}{s:Shared}{H:Hp}(e:qF P w K mg base A outer s H) (C:Addr) (us:Ad) (kw:List (Str×Value)):
  qF P w K mg base (A.under (.builtin "type.__call__" ⟨.ref C::us,kw⟩)) outer s H:=⟨by first | exact e.frames | (simpa [Around.under,Code.envs,Code.isFrame,pushEnvs] using e.frames),e.mod,e.bs,e.t9,e.vl,e.tY,e.zp,e.bare⟩
section
variable {X:Cx}{EC:Ag}{Y:St}{H:Hp}{s s':Shared}
def Inv.fM (I:Inv X EC Y H s):qF X.prog X.w X.K X.mg X.base X.A X.stack s H:=
 ⟨I.ok.frames,I.ok.mod,I.bs,BA I.ok.t9 I.sz,I.stack,I.jO,I.zp,I.bare⟩
def Inv.after {Q:VK}{u:Value}(I:Inv X EC Y H s) (h:CE X.stack X.prog X.w H s Q u s'):EP X EC Y Q u s':=by
 obtain⟨v,H',os,bare,un,zp,r,q⟩:=h
 obtain⟨hh,g,d,t,HN⟩:=s'
 obtain rfl:HN=s.os:=os
 exact⟨v,H',I.call (h':=hh) (g':=g) (d':=d) (t':=t) (ch:=[]) un zp bare (λ b z=>absurd z (by simp)),r,q⟩
end
def c8 (sp:Sp) (HI:List V) (E:XK) (t:TA):TE:=fun Y H Q=>t Y H λ vs H1=>sp (vs++HI) H1 Q E
def Binds (K:Ab) (fd:FuncData) (ps:List Str) (ds:Ad):Prop:=
 ∀ (s:Shared) (us:Ad),K.In s.heap->(us++ds).length=ps.length->BindsTo s fd ⟨us,[]⟩ (ps.zip (us++ds))
def Binds.all {K:Ab}{fd:FuncData}{ps:List Str}(h:∀ us:List Value,us.length=ps.length->bindArgs fd ⟨us,[]⟩=pure (ps.zip us)):Binds K fd ps []:=λ s us _ hl=>by
 rw[Ci] at hl ⊢
 exact .of_eq (h us hl)
def Passes (CX:uc) (X:Cx) (E:XK):Prop:=∀ (EC:Ag) (Y:St) (H:Hp) (s:Shared) (e:Value) (s':Shared),Inv X EC Y H s->CX X.stack H s E e s'->X.xe e s'
section
variable {X:Cx}{CX:uc}{k:Nat}{f:Addr}{fd:FuncData}{ps:List Str}{sp:Sp}{HI:List V}{ds:Ad}{E:XK}{x:Str}{p pos:Pos}{e:Expr}{es:List Expr}{t:TA}
def Vr {EC:Ag}{Y:St}{H:Hp}{s:Shared}{Q:VK}{us:Ad}{vs:List V}(F:xy X.prog X.w X.K X.mg X.base CX k f fd ps sp) (hr:ya k X.A) (hb:Binds X.K fd ps ds) (hd:Vals HI ds) (hx:Passes CX X E)
  (I:Inv X EC Y H s) (r:Vals vs us) (h:sp (vs++HI) H Q E):wpAny (model X.prog X.w) X.A (call (.ref f) us) (EP X EC Y Q) X.xe s:=by
 have r2:Vals (vs++HI) (us++ds):=r.append hd
 have hl:(us++ds).length=ps.length:=by rw[<- r2.length];exact F.len _ _ _ _ h
 refine wpAny_call (codeAny_mono (F.run X.A X.stack s H ⟨us,[]⟩ (us++ds) (vs++HI) Q E hr I.fM (hb s us I.yr hl) r2 h) λ r s' hq=>?_)
 cases r with
 | error e=>exact hx EC Y H s e s' I hq
 | ok fl=>
  cases fl with
  | ret u=>exact I.after hq
  | _=>exact False.elim hq
def U5 (F:xy X.prog X.w X.K X.mg X.base CX k f fd ps sp) (hr:ya k X.A) (hg:Gl X x) (hm:X.mg x=some (.ref f)) (hk:PySem.W.keepIn X.K (.ref f)=true) (hb:Binds X.K fd ps ds) (hd:Vals HI ds) (hx:Passes CX X E)
  (ha:PA X (e::es) t) (A7:(x == ("__debug__":Str))=false:=by decide) (he:starEach (e::es) X.env=(false,eval e X.env)::starEach es X.env:=by rfl) (Am:(backTo pos (starEach es X.env)).any (·.1)=false:=by rfl):
  PE X (.Call (.Name x p) (e::es) [] pos) (c8 sp HI E t):=by
 intro EC s Y H Q I h
 refine K7 (nC I hg hm ?_ A7)
 refine PySem.W.callWith_K (h₀:=X.base) I.ok.mod.pB hk (zC (ha pos EC s Y H _ I h) λ us s1 ⟨vs,H1,I1,r,q⟩=>⟨I1.yr,?_⟩) he Am
 exact Vr F hr hb hd hx I1 r q
end
structure zY (N P:List Str) (sc:Scope):Prop where
 kind:sc.kind=.function
 co:sc.isCoroutine=false
 gen:sc.isGenerator=false
 nd:N.Nodup
 pre:N.take P.length=P
 par:∀ x∈P,sc.names.lookup x=some .local\/sc.names.lookup x=some .cell
 RX:∀ y∈sc.names,y.2≠.free
theorem Y2 {kindOf:Str->Option NameKind}{x:Str}:∀ {binds:List (Str×Value)}{m:Aq},(∀ v,(x,v)∉binds)->bindL kindOf binds m x=m x
 | [],_,_=>rfl
 | (n,v)::r,m,h=>by
  unfold bindL
  rw[Y2 λ w hw=>h w (Ax _ hw)]
  split
  ·have:x≠n:=by rintro rfl;exact h v Ap
   simp[this]
  ·rfl
theorem Y4 {kindOf:Str->Option NameKind}{x:Str}:∀ {binds:List (Str×Value)}{m:Aq},(∀ v,(x,v)∉binds)->bindC kindOf binds m x=m x
 | [],_,_=>rfl
 | (n,v)::r,m,h=>by
  unfold bindC
  rw[Y4 λ w hw=>h w (Ax _ hw)]
  split
  ·rfl
  ·have:x≠n:=by rintro rfl;exact h v Ap
   simp[this]
theorem Y3 {kindOf:Str->Option NameKind}{x:Str}{v:Value}:∀ {P:List Str}{vs:Ad}{i:Nat}{m:Aq},P.Nodup->P[i]?=some x->vs[i]?=some v->kindOf x=some .local->
  bindL kindOf (P.zip vs) m x=some v
 | [],_,_,_,_,h,_,_=>by simp at h
 | _::_,[],_,_,_,_,h,_=>by simp at h
 | p::P,w::vs,0,m,nd,h1,h2,hk=>by
  simp at h1 h2;subst h1;subst h2
  show bindL kindOf ((p,w)::P.zip vs) m p=_
  unfold bindL
  rw[Y2 λ v hv=>(Bh.mp nd).1 (DH hv).1,if_pos hk]
  simp
 | p::P,w::vs,i+1,m,nd,h1,h2,hk=>by
  show bindL kindOf ((p,w)::P.zip vs) m x=_
  unfold bindL
  exact Y3 (i:=i) (Bh.mp nd).2 (by simpa using h1) (by simpa using h2) hk
theorem Y5 {kindOf:Str->Option NameKind}{x:Str}{v:Value}:∀ {P:List Str}{vs:Ad}{i:Nat}{m:Aq},P.Nodup->P[i]?=some x->vs[i]?=some v->kindOf x≠some .local->
  bindC kindOf (P.zip vs) m x=some v
 | [],_,_,_,_,h,_,_=>by simp at h
 | _::_,[],_,_,_,_,h,_=>by simp at h
 | p::P,w::vs,0,m,nd,h1,h2,hk=>by
  simp at h1 h2;subst h1;subst h2
  show bindC kindOf ((p,w)::P.zip vs) m p=_
  unfold bindC
  rw[Y4 λ v hv=>(Bh.mp nd).1 (DH hv).1,if_neg hk]
  simp
 | p::P,w::vs,i+1,m,nd,h1,h2,hk=>by
  show bindC kindOf ((p,w)::P.zip vs) m x=_
  unfold bindC
  exact Y5 (i:=i) (Bh.mp nd).2 (by simpa using h1) (by simpa using h2) hk
noncomputable def start (N:List Str) (vs:List V):St:=vs.map some++List.replicate (N.length-vs.length) none
noncomputable def wC (CX:uc) (P:Program) (w:World) (K:Ab) (mg:Aq) (base:Heap) (N:List Str) (qual:Str) (scope:Scope) (f:Addr) (cd:Value) (A:Around) (outer:List Env) (s:Shared) (H:Hp) (E:XK):Cx where
 prog:=P
 w:=w
 K:=K
 mg:=mg
 base:=base
 A:=A.deeper (envOfC qual scope s.heap.objs.size f cd)
 N:=N
 s₀:=s
 H₀:=H
 env:=envOfC qual scope s.heap.objs.size f cd
 outer:=outer
 stack:=envOfC qual scope s.heap.objs.size f cd::outer
 ex:=[]
 calm:=true
 fn:=λ _=>true
 pn:=[]
 xe:=λ e s'=>wpAny (model P w) (A.deeper (envOfC qual scope s.heap.objs.size f cd)) (leaving (envOfC qual scope s.heap.objs.size f cd) e) (λ _ Hk=>CX outer H s E e Hk) (λ e' Hk=>CX outer H s E e' Hk) s'
def Ys {sc:Scope}{n:Nat}{x:Str}(h:sc.names.lookup x=some .cell):∃ c,(cellsFrom n sc.names []).lookup x=some c:=by
 have q:=PySem.W.cellsFrom_some sc.names n [] (.inl h)
 exact DG.mp q
def Q_ {CX:uc}{P:Program}{w:World}{K:Ab}{mg:Aq}{base:Heap}{N ps:List Str}{qual:Str}{scope:Scope}{f:Addr}{cd:Value}{A:Around}{outer:List Env}{s s1:Shared}{H:Hp}{E:XK}{us:Ad}{vs:List V}
  (S:zY N ps scope) (hd:A.handled=none) (e0:qF P w K mg base A outer s H) (hl:vs.length=ps.length) (r:Vals vs us)
  (x:InCallC s s.heap.objs.size (bindL (envOfC qual scope s.heap.objs.size f cd).kindOf (ps.zip us) λ _=>none) (cellsFrom (s.heap.objs.size+1) scope.names []) (bindC (envOfC qual scope s.heap.objs.size f cd).kindOf (ps.zip us) λ _=>none) s1):
  Inv (wC CX P w K mg base N qual scope f cd A outer s H E) [] (start N vs) H s1:=by
 have Am:ps.length<=N.length:=by have:=congrArg List.length S.pre;rw[DY] at this;lia
 obtain⟨h1,tk,rfl,hk⟩:=x.done
 have IG:∀ b:Addr,b∉(wC CX P w K mg base N qual scope f cd A outer s H E).ex:=λ b z=>absurd (show b∈([]:List Addr) from z) (by simp)
 refine⟨⟨e0.mod,S.kind,rfl,rfl,Aj _,λ y z c h1 h2=>?_,λ y hy=>?_,λ y c _ h=>?_,λ _=>hd,Around.frames_deeper e0.frames,.inr ⟨rfl,rfl⟩,λ b z=>absurd z (IG b),e0.bs,e0.t9,λ b _ _=>IG b,λ b z=>absurd z (IG b),e0.vl,e0.tY⟩,
  rfl,e0.bare,Un.kept hk,⟨_,x.toInCall.ns,λ i y v h1 h2 h3=>?_⟩,λ y c h=>⟨_,x.cell y c h⟩,e0.zp.fresh (Aj _),λ y c h=>?_,λ p hp=>absurd (show p∈([]:Ag) from hp) (by simp),e0.zp.kept hk,?_⟩
 ·exact name_of_addr x.apart (PySem.mem_of_lookup h1) (PySem.mem_of_lookup h2)
 ·have hy:scope.names.lookup y=some .cell\/scope.names.lookup y=some .free:=hy
  rcases hy with hy | hy
  ·exact Ys hy
  ·exact absurd rfl (S.RX _ (PySem.mem_of_lookup hy))
 ·exact BO (x.above y c (PySem.mem_of_lookup h))
 ·have hi:i<vs.length:=by
   unfold start at h2
   by_cases hi:i<vs.length
   ·exact hi
   ·rw[C8 (by simpa using hi)] at h2
    rw[DF] at h2
    split at h2 <;> cases h2
  have ha:vs[i]?=some v:=by
   unfold start at h2
   rw[Ct (by simpa using hi),AE] at h2
   cases e:vs[i]? with
   | none=>rw[e] at h2;cases h2
   | some a=>rw[e] at h2;cases h2;rfl
  obtain⟨u,hu,rv⟩:=r.get ha
  have hp:ps[i]?=some y:=by
   rw[<- S.pre,List.getElem?_take_of_lt (by lia)];exact h1
  have ndP:ps.Nodup:=by rw[<- S.pre];exact S.nd.sublist (List.take_sublist _ _)
  refine⟨u,rv,?_⟩
  rcases S.par y (Bl hp) with k | k
  ·exact .inl ⟨k,Y3 ndP hp hu k⟩
  ·obtain⟨c,e⟩:=Ys (n:=s.heap.objs.size+1) k
   refine .inr ⟨.inl k,c,e,?_⟩
   have q:=x.cell y c e
   rw[Y5 ndP hp hu (by show scope.names.lookup y≠_;rw[k];decide)] at q
   exact q
 ·exact e0.zp.fresh (BO (x.above y c (PySem.mem_of_lookup h)))
 ·unfold start
  show _=N.length
  rw[B6,AD,List.length_replicate]
  lia
def Z7 {CX:uc}{P:Program}{w:World}{K:Ab}{mg:Aq}{base:Heap}{k:Nat}{f:Addr}{name qual:Str}{params:Arguments}{body:List Stmt}{scope:Scope}{dV kV doc pm Af ct oc:Value}{an od:Option Addr}
  {GQ:Array (Option Value)}{N ps:List Str}{sp:Sp}(lk:K.lookup f=some ⟨oc,od,.func (PySem.W.fnOf name qual params body scope dV kV doc pm an Af ct),GQ⟩) (A4:PySem.W.codeIn K Af qual=true) (S:zY N ps scope)
  (len:∀ vs H Q E,sp vs H Q E->vs.length=ps.length)
  (Fb:∀ (A:Around) (outer:List Env) (s:Shared) (H:Hp) (vs:List V) (Q:VK) (E:XK),ya k (A.deeper (envOfC qual scope s.heap.objs.size f Af))->sp vs H Q E->
   ∃ t,xV (wC CX P w K mg base N qual scope f Af A outer s H E) body t/\t { nx:=λ _ H'=>Q .zk H',rt:=Q } (start N vs) H):
  xy P w K mg base CX (k+1) f (PySem.W.fnOf name qual params body scope dV kV doc pm an Af ct) ps sp:=by
 refine⟨len,λ A outer s H args us vs Q E hr e0 hb r B0=>?_⟩
 have hl:=len _ _ _ _ B0
 have KX:K.In s.heap:=e0.mod.pB.keeps λ b o e=>(e0.bs b o e).1
 have lim:s.heap.NoLimit:=e0.mod.nolimit.keeps λ b o e=>(e0.bs b o e).1
 have IZ:∀ y∈ps.zip us,scope.names.lookup y.1=some .local\/(scope.names.lookup y.1=some .cell/\((cellsFrom (s.heap.objs.size+1) scope.names []).lookup y.1).isSome=true):=λ⟨n,v⟩ hy=>by
  rcases S.par n (DH hy).1 with q | q
  ·exact .inl q
  ·exact .inr ⟨q,PySem.W.cellsFrom_some _ _ _ (.inl q)⟩
 refine codeAny_call_function hr.depth (KX _ _ lk) rfl S.co S.gen rfl (PySem.W.codeRec_of KX A4) (hb _ _ _ _ ?_)
 refine wpAny_newFunctionEnv_cells S.kind IZ λ env he s1 x=>?_
 subst he
 refine⟨lim.keeps x.toInCall.keep,codeAny_func ?_⟩
 obtain⟨t,ht,hq⟩:=Fb A outer s H vs Q E (hr.deeper _) B0
 have I:Inv (wC CX P w K mg base N qual scope f Af A outer s H E) [] (start N vs) H s1:=Q_ S hr.hd e0 hl r x
 refine KG (ht [] s1 (start N vs) H _ I hq) (λ fl s' hs=>?_) λ e s' hs=>hs
 have fin:∀ {Y':St}{H':Hp}{v:V}{u:Value},Inv (wC CX P w K mg base N qual scope f Af A outer s H E) [] Y' H' s'->RelV v u->Q v H'->CE outer P w H s Q u s':=
  λ{Y' H' v u} J rv q=>⟨v,H',J.os,J.bare,J.base,J.zp,rv,q⟩
 cases fl with
 | ret u=>
  obtain⟨v,Y',H',J,rv,q⟩:=hs
  exact fin J rv q
 | next=>
  obtain⟨Y',H',J,q⟩:=hs
  exact fin (v:=V.zk) (u:=Value.none) J rfl q
 | brk=>
  obtain⟨_,_,_,q⟩:=hs
  exact False.elim q
 | cont=>
  obtain⟨_,_,_,q⟩:=hs
  exact False.elim q
section
variable {X:Cx}{x:Str}{p pos:Pos}{e:Expr}{es:List Expr}{t:TA}{id T:String}{r:List V->Hp->VK->Prop}
def lE (r:List V->Hp->VK->Prop) (t:TA):TE:=fun Y H Q=>t Y H λ vs H1=>r vs H1 Q
def uG (hc:yB X (.builtin id) r) (hg:Gl X x) (hm:X.mg x=none) (hv:bootBuiltins x=some (.builtin id)) (ha:PA X (e::es) t) (hn:x≠"__name__":=by decide) (A7:(x == ("__debug__":Str))=false:=by decide)
  (he:starEach (e::es) X.env=(false,eval e X.env)::starEach es X.env:=by rfl) (Am:(backTo pos (starEach es X.env)).any (·.1)=false:=by rfl):PE X (.Call (.Name x p) (e::es) [] pos) (lE r t):=by
 intro EC s Y H Q I h
 refine K7 (pA I hg hm hv ?_ hn A7)
 exact PyProof.Rows.callWith_builtin1 (zC (ha pos EC s Y H _ I h) λ us s1 ⟨vs,H1,I1,r1,q1⟩=>hc EC s1 Y H1 vs us Q I1 r1 q1) he Am
def qX (hc:yB X (.type T) r) (hg:Gl X x) (hm:X.mg x=none) (hv:bootBuiltins x=some (.type T)) (ha:PA X (e::es) t) (hn:x≠"__name__":=by decide) (A7:(x == ("__debug__":Str))=false:=by decide)
  (he:starEach (e::es) X.env=(false,eval e X.env)::starEach es X.env:=by rfl) (Am:(backTo pos (starEach es X.env)).any (·.1)=false:=by rfl):PE X (.Call (.Name x p) (e::es) [] pos) (lE r t):=by
 intro EC s Y H Q I h
 refine K7 (pA I hg hm hv ?_ hn A7)
 exact PyProof.Rows.callWith_type1 (zC (ha pos EC s Y H _ I h) λ us s1 ⟨vs,H1,I1,r1,q1⟩=>hc EC s1 Y H1 vs us Q I1 r1 q1) he Am
end
end L2
namespace HT
open PySem PyProof.Rows
noncomputable def lexLt:List Int->List Int->Bool
 | [],[]=>false
 | [],_::_=>true
 | _::_,[]=>false
 | x::xs,y::ys=>if x=y then lexLt xs ys else decide (x<y)
def sY (x y:Int) (xs ys:List Int):lexLt (x::xs) (y::ys)=if x=y then lexLt xs ys else decide (x<y):=rfl
def Qy:lexLt [] []=false:=rfl
def Qz (y:Int) (ys:List Int):lexLt [] (y::ys)=true:=rfl
def Q0 (x:Int) (xs:List Int):lexLt (x::xs) []=false:=rfl
def Ov (A:Around) (s:Shared) (a:Int) (t:Tok) (c:Int) (u:Tok):∃ e,SeqAt.EqAt A s (.int a t) (.int c u) e/\(e=true↔a=c):=
 ⟨(a == c),SeqAt.EqAt.int_int a t c u,by simp⟩
def V2 (A:Around) (s:Shared) (a:Int) (t:Tok) (c:Int) (u:Tok) (prog:Program) (w:World) (E:Ae) (Q:Ae) (h:Q (.bool (decide (a<c))) s):
  wpAny (model prog w) A (richCompare .Lt (.int a t) (.int c u)) Q E s:=
 (PyProof.Rows.lt_int h:wpAny (model prog w) A (compareOp .Lt (.int a t) (.int c u)) Q E s)
section
open PySem.SeqAt
open PySem.AutoSeq1 (wpAny_loadPart')
open PySem.MeetsSeq PySem.MeetsSeq2 PySem.MeetsSeq3
def Wn (l b:Addr) (items Fe:Av) (n n2:Nat) (dd Hj:Option Addr) (sl He:Array (Option Value)) (ns ms:List Int) (hi:IntsAre items.toList ns) (hj:IntsAre Fe.toList ms):
  Meets (Builtin.«tuple.__lt__» ⟨[.ref l,.ref b],[]⟩)
   (λ _ R s=>s.heap.get? l=some { cls:=.type "tuple",dict:=dd,data:=.seq items n,slots:=sl }/\s.heap.get? b=some { cls:=.type "tuple",dict:=Hj,data:=.seq Fe n2,slots:=He }/\
    R (.ok (.ret (.bool (lexLt ns ms)))) s):=
 .of_wp λ prog w A R s h=>by
  obtain⟨hp,g,d,tk,os⟩:=s;obtain⟨hl,hb,h⟩:=h
  have f2:=AutoSeq1.sub_tuple_tuple
  have z1:items.size=ns.length:=by rw[<- hi.length];simp
  have z2:Fe.size=ms.length:=by rw[<- hj.length];simp
  wp_walk using wpAny_loadPart' hl,wpAny_loadPart' hb,wpAny_forIn_list _ (λ EI b s'=>b.1=none/\s'=⟨hp,g,d,tk,os⟩/\∃ (vs ws:Ad) (Ga Gb:List Int),EI=vs.zip ws/\
   IntsAre vs Ga/\IntsAre ws Gb/\Ga.length+Fe.size=Gb.length+items.size/\R (.ok (.ret (.bool (lexLt Ga Gb)))) ⟨hp,g,d,tk,os⟩) _
  case turn=>
   rintro⟨y,x⟩ EI b s' ⟨Hc,rfl,vs,ws,Ga,Gb,hz,D8,CT,hlen,hR⟩
   cases D8 with
   | nil=>rw[List.zip_nil_left] at hz;cases hz
   | cons a t D7=>
    cases CT with
    | nil=>rw[List.zip_nil_right] at hz;cases hz
    | cons c u D5=>
     rw[List.zip_cons_cons] at hz
     injection hz with hyx F4
     injection hyx with hy hx
     subst hy hx
     rw[sY] at hR
     simp only[AW] at hlen
     obtain⟨e,he,Di⟩:=Ov A.in1 ⟨hp,g,d,tk,os⟩ a t c u
     refine JI (he prog w _ _ ?_)
     cases e with
     | true=>
      rw[if_pos (Di.mp rfl)] at hR
      wp_walk
      exact⟨rfl,rfl,_,_,_,_,F4,D7,D5,by lia,hR⟩
     | false=>
      rw[if_neg (λ q=>absurd (Di.mpr q) BN)] at hR
      have hri:=V2 A.in1 ⟨hp,g,d,tk,os⟩ a t c u prog w
      wp_walk using hri
      exact⟨_,rfl,by simpa using hR⟩
  case fin=>
   rintro⟨b1,b2⟩ s' ⟨Hc,rfl,vs,ws,Ga,Gb,hz,D8,CT,hlen,hR⟩
   simp only at Hc
   subst Hc
   have hv:lexLt Ga Gb=decide (items.size<Fe.size):=by
    cases D8 with
    | nil=>
     cases CT with
     | nil=>
      simp only[B4] at hlen
      rw[Qy]
      exact (KI (by lia)).symm
     | cons c u hw=>
      simp only[B4,AW] at hlen
      rw[Qz]
      exact (KU (by lia)).symm
    | cons a t hv=>
     cases CT with
     | nil=>
      simp only[B4,AW] at hlen
      rw[Q0]
      exact (KI (by lia)).symm
     | cons c u hw=>
      rw[List.zip_cons_cons] at hz
      cases hz
   rw[hv] at hR
   wp_walk
   exact⟨_,rfl,by simpa [Builtin.Tuple.tupleCompareSizes] using hR⟩
  case h=>
   exact⟨rfl,rfl,items.toList,Fe.toList,ns,ms,rfl,hi,hj,by lia,h⟩
end
section
variable {prog:Program}{w:World}{A:Around}{E:Ae}{s:Shared}
def Qq {l b:Addr}{items Fe:Av}{ns ms:List Int}{Q:Ae}(hl:IsTup s.heap l items) (hb:IsTup s.heap b Fe) (hi:IntsAre items.toList ns) (hj:IntsAre Fe.toList ms)
  (hu:A.units<cLine) (h:Q (.bool (lexLt ns ms)) s):wpAny (model prog w) A (compareOp .Lt (.ref l) (.ref b)) Q E s:=by
 obtain⟨⟨cls,dd,data,sl⟩,ho,hc,n,hd⟩:=id hl
 obtain⟨⟨Ib,Hj,data2,He⟩,GU,Gu,n2,hd2⟩:=id hb
 simp only at hc hd Gu hd2
 subst hc hd Gu hd2
 exact richCompare_meets_room (op:=.Lt) ⟨_,ho,rfl⟩ ⟨_,GU,rfl⟩ PySem.F.slot_tuple_lt PySem.F.entry_tuple_lt (PySem.F.args_tuple_lt_2 _ _) (Wn l b items Fe n n2 dd Hj sl He ns ms hi hj)
  ⟨ho,GU,show Value.bool (lexLt ns ms)≠Value.notImplemented/\Q (.bool (lexLt ns ms)) s from ⟨(λ x=>nomatch x),h⟩⟩ hu
def OX {t b:Addr}{vs ws:Ad}{Q:Ae}(ht:IsTup s.heap t vs.toArray) (hb:IsTup s.heap b ws.toArray) (hv:vs≠[])
  (h1:ws=[]->Q (.ref t) s) (h2:ws≠[]->Q (.ref s.heap.objs.size) { s with heap:=s.heap.push { cls:=.type "tuple",data:=.seq (vs++ws).toArray } })
  (hsz:vs.length+ws.length<=sizeLine):wpAny (model prog w) A (binaryOp .Add (.ref t) (.ref b)) Q E s:=by
 obtain⟨⟨cls,dd,data,sl⟩,ho,hc,n,hd⟩:=id ht
 obtain⟨⟨Ib,Hj,data2,He⟩,GU,Gu,n2,hd2⟩:=id hb
 simp only at hc hd Gu hd2
 subst hc hd Gu hd2
 have e:vs.toArray++ws.toArray=(vs++ws).toArray:=by simp
 by_cases hw:ws=[]
 ·exact concat_meets ⟨_,ho,rfl⟩ ⟨_,GU,rfl⟩ noFill_tuple_add seq_tuple_add PySem.F.slot_tuple_add PySem.F.entry_tuple_add (PySem.F.args_tuple_add_2 _ _)
   (tuple_addW1 t b vs.toArray ws.toArray n n2 dd Hj sl He (by simpa using hv) (by simp[hw])) ⟨ho,GU,h1 hw⟩
 ·refine concat_meets ⟨_,ho,rfl⟩ ⟨_,GU,rfl⟩ noFill_tuple_add seq_tuple_add PySem.F.slot_tuple_add PySem.F.entry_tuple_add (PySem.F.args_tuple_add_2 _ _)
   (tuple_addW2 t b vs.toArray ws.toArray n n2 dd Hj sl He (by simpa using hv) (by simpa using hw) (by rw[AA,AA];exact hsz)) ⟨ho,GU,?_⟩
  rw[e]
  exact h2 hw
end
end HT
namespace L2
open PySem PySem.Spec PyProof.Rows
def intsAre_of {ns:List Int}:∀ {us:Ad},Vals (ns.map V.int) us->IntsAre us ns:=by
 induction ns with
 | nil=>intro us r;rw[A9] at r;cases r;exact .nil
 | cons n ns ih=>
  intro us r
  rw[Au] at r
  cases r with
  | cons r1 r2=>
   obtain⟨t,e⟩:=r1
   subst e
   exact .cons n t (ih r2)
section
variable {X:Cx}{p2:Pos}
def iQ (K:Ab):R2:=λ x y H Q=>∃ a b ns ms,x=.ref a/\y=.ref b/\zX K H a (ns.map V.int)/\zX K H b (ms.map V.int)/\Q (.bl (HT.lexLt ns ms)) H
def Tq (hu:X.A.units<cLine):yd X (compareOp .Lt) (iQ X.K):=by
 intro EC s Y H x y v u Q I rx ry h
 obtain⟨a,b,ns,ms,rfl,rfl,ha,hb,q⟩:=h
 cases rx
 cases ry
 obtain⟨its,r1,p1,_⟩:=I.tuple ha
 obtain⟨Fm,r2,p2,_⟩:=I.tuple hb
 have i1:IntsAre its.toArray.toList ns:=intsAre_of r1
 have i2:IntsAre Fm.toArray.toList ms:=intsAre_of r2
 exact HT.Qq p1 p2 i1 i2 hu ⟨.bl (HT.lexLt ns ms),H,I,rfl,q⟩
def bu (K:Ab):R2:=λ x y H Q=>∃ a b xs ys,x=.ref a/\y=.ref b/\zX K H a xs/\zX K H b ys/\xs≠[]/\xs.length+ys.length<=sizeLine/\
 (ys=[]->Q (.ref a) H)/\(ys≠[]->∀ p,H p=none->Q (.ref p) (upd H p (.tup (xs++ys))))
def Vals.nu {xs:List V}{us:Ad}(r:Vals xs us):us=[]↔xs=[]:=by
 cases r with
 | _=>simp
def Tw:yd X (binaryOp .Add) (bu X.K):=by
 intro EC s Y H x y v u Q I rx ry h
 obtain⟨a,b,xs,ys,rfl,rfl,ha,hb,hx,hz,q1,q2⟩:=h
 cases rx
 cases ry
 obtain⟨its,r1,p1,_⟩:=I.tuple ha
 obtain⟨Fm,r2,p2,_⟩:=I.tuple hb
 refine HT.OX p1 p2 (λ z=>hx (r1.nu.mp z)) (λ z=>⟨.ref a,H,I,rfl,q1 (r2.nu.mp z)⟩) (λ z=>?_) (by rw[<- r1.length,<- r2.length];exact hz)
 refine⟨.ref s.heap.objs.size,_,I.laid (t':=s.toks) (o:=.tup (xs++ys)) (λ b ob q=>KC _ q) (Aj _) ?_,rfl,q2 (λ w=>z (r2.nu.mpr w)) _ (I.zp.fresh (Aj _))⟩
 exact⟨by rw[B6];exact hz,_,r1.append r2,IsTup.new _ _⟩
end
noncomputable def w_ (n:Nat) (i:Int):Option Nat:=if 0<=i then (if i<n then some i.toNat else none) else if -(n:Int)<=i then some (i+n).toNat else none
def zW {α:Type}(xs:List α) (i:Int):Option α:=(w_ xs.length i).bind λ j=>xs[j]?
def aZ {n:Nat}{i:Int}{j:Nat}(h:w_ n i=some j):seqIndex? i n=some j/\j<n/\-(n:Int)<=i/\i<n:=by
 unfold w_ at h
 by_cases h0:0<=i
 ·rw[if_pos h0] at h
  by_cases h1:i<n
  ·rw[if_pos h1] at h
   have e:i.toNat=j:=A5 h
   exact⟨by rw[seqIndex_of h0 h1,e],by lia,by lia,h1⟩
  ·rw[if_neg h1] at h;cases h
 ·rw[if_neg h0] at h
  by_cases h1:-(n:Int)<=i
  ·rw[if_pos h1] at h
   have e:(i+n).toNat=j:=A5 h
   exact⟨by rw[seqIndex_neg (by lia) h1,e],by lia,h1,by lia⟩
  ·rw[if_neg h1] at h;cases h
def et {α:Type}{xs:List α}{i:Int}{v:α}(h:zW xs i=some v):∃ j,seqIndex? i xs.length=some j/\xs[j]?=some v/\j<xs.length/\-(xs.length:Int)<=i/\i<xs.length:=by
 unfold zW at h
 cases e:w_ xs.length i with
 | none=>rw[e] at h;cases h
 | some j=>
  rw[e] at h
  obtain⟨h1,h2,h3,h4⟩:=aZ e
  exact⟨j,h1,h,h2,h3,h4⟩
def Y7 {α:Type}(xs:List α) (v:α):zW (xs++[v]) (-1)=some v:=by
 have hl:(xs++[v]).length=xs.length+1:=by simp
 have e:w_ (xs++[v]).length (-1)=some xs.length:=by
  unfold w_
  rw[hl,if_neg (by decide),if_pos (by lia)]
  congr 1
  lia
 unfold zW
 rw[e]
 show (xs++[v])[xs.length]?=some v
 simp
def YG (b:Expr):Prop:=∀ o i,subscripted b false o i=operate [o,i] (getItem o i)
def sG (X:Cx) (r:R2):Prop:=
 ∀ (value slice:Expr) (EC:Ag) (s:Shared) (Y:St) (H:Hp) (x y:V) (v u:Value) (Q:VK),Inv X EC Y H s->RelV x v->RelV y u->r x y H Q->
  subscripted slice false v u=operate [v,u] (getItem v u)->wpAny (model X.prog X.w) X.A (subscriptTail value slice v u) (EP X EC Y Q) X.xe s
def NK (X:Cx) (id:String) (r:V->List V->Hp->VK->Prop):Prop:=
 ∀ (EC:Ag) (s:Shared) (Y:St) (H:Hp) (x:V) (xs:List V) (v:Value) (us:Ad) (Q:VK),Inv X EC Y H s->RelV x v->Vals xs us->r x xs H Q->
  wpAny (model X.prog X.w) X.A (call (.builtin id) (v::us)) (EP X EC Y Q) X.xe s
section
variable {X:Cx}{a b:Expr}{ta tb:TE}{pos:Pos}
def sG.or {r r':R2}(h:sG X r) (h':sG X r'):sG X (λ x y H Q=>r x y H Q\/r' x y H Q):=by
 intro value slice EC s Y H x y v u Q I rx ry q hs
 rcases q with q | q
 ·exact h value slice EC s Y H x y v u Q I rx ry q hs
 ·exact h' value slice EC s Y H x y v u Q I rx ry q hs
def Uw {r:R2}(hr:sG X r) (ha:PE X a ta) (hb:PE X b tb) (hs:YG b):PE X (.Subscript a b pos) (o9 r ta tb):=by
 intro EC s Y H Q I h
 exact Subscript_ (ei ha hb I h λ v u s2 x y H2 I2 rx ry q=>hr a b EC s2 Y H2 x y v u Q I2 rx ry q (hs _ _))
def bj (K:Ab):R2:=λ x y H Q=>∃ p xs i v,x=.ref p/\y=.int i/\zO K H p xs/\zW xs i=some v/\Q v H
def bg (K:Ab):R2:=λ x y H Q=>∃ p xs i v,x=.ref p/\y=.int i/\zX K H p xs/\zW xs i=some v/\Q v H
def bh:R2:=λ x y H Q=>∃ z i c,x=.str z/\y=.int i/\z.length<=sizeLine/\zW z.cps.toList i=some c/\Q (.str ⟨#[c]⟩) H
def QP:sG X (bj X.K):=by
 intro value slice EC s Y H x y v u Q I rx ry h hs
 obtain⟨p,xs,i,z,rfl,rfl,hq,he,q⟩:=h
 cases rx
 obtain⟨t,rfl⟩:=ry
 obtain⟨its,r,pl,hz⟩:=I.list hq
 obtain⟨j,h1,h2,h3,h4,h5⟩:=et he
 obtain⟨w,ew,G2⟩:=r.get h2
 have hl:=r.length
 have hn:=qh
 have fin:EP X EC Y Q w s:=⟨z,H,I,G2,q⟩
 by_cases h0:0<=i
 ·have hj:i.toNat=j:=by
   rw[seqIndex_of h0 h5] at h1
   exact A5 h1
  exact item_listR pl.isList h0 (by lia) (by rw[hj];simpa using ew) fin hs
 ·have hj:(i+(its.toArray.size:Int)).toNat=j:=by
   rw[seqIndex_neg (by lia) h4] at h1
   rw[AA,<- hl]
   exact A5 h1
  exact subscriptTail_builtinR (x:=w) pl.isList.typeIs slot_list_getitem.lookup
   (wpAny_getItem_list_neg (Q:=λ r s'=>r=w/\EP X EC Y Q r s') pl.isList (by lia) (by rw[AA] <;> lia) (by lia) (by rw[hj];simpa using ew) ⟨rfl,fin⟩) hs
def QM:sG X (bg X.K):=by
 intro value slice EC s Y H x y v u Q I rx ry h hs
 obtain⟨p,xs,i,z,rfl,rfl,hq,he,q⟩:=h
 cases rx
 obtain⟨t,rfl⟩:=ry
 obtain⟨its,r,pl,hz⟩:=I.tuple hq
 obtain⟨j,h1,h2,h3,h4,h5⟩:=et he
 obtain⟨w,ew,G2⟩:=r.get h2
 have hl:=r.length
 have hn:=qh
 have fin:EP X EC Y Q w s:=⟨z,H,I,G2,q⟩
 exact subscriptTail_builtinR (x:=w) pl.typeIs slot_tuple_getitem.lookup
  (getItem_tuple (j:=j) (Q:=λ r s'=>r=w/\EP X EC Y Q r s') pl (by lia) (by lia) (by rw[AA,<- hl];exact h1) (by simpa using ew) ⟨rfl,fin⟩) hs
def QN:sG X bh:=by
 intro value slice EC s Y H x y v u Q I rx ry h hs
 obtain⟨z,i,c,rfl,rfl,hz,he,q⟩:=h
 obtain⟨t,rfl⟩:=rx
 obtain⟨t',rfl⟩:=ry
 obtain⟨j,h1,h2,h3,h4,h5⟩:=et he
 have hl:z.cps.toList.length=z.length:=by simp[Str.length]
 rw[hl] at h1 h4 h5
 have hn:=qh
 exact tail_any (typeIs_str s z t) slot_str_getitem.lookup (getItem_str (c:=c) (by
  have e1:decide (i < -(2 ^ 63:Int))=false:=KI (by lia)
  have e2:decide (i≥2 ^ 63)=false:=KI (by lia)
  rw[e1,e2,Bool.or_false]) (by rw[h1];simpa using h2) ⟨.str ⟨#[c]⟩,H,I.tok _,⟨_,rfl⟩,q⟩) hs
def bo (K:Ab):R2:=λ x y H Q=>bj K x y H Q\/bg K x y H Q\/bh x y H Q
def QO:sG X (bo X.K):=QP.or (QM.or QN)
def Qn (its:Ad) (n j:Nat) (u:Value):Obj.mapSeq (·.setIfInBounds j u) { cls:=.type "list",data:=.seq its.toArray n }={ cls:=.type "list",data:=.seq (its.set j u).toArray n }:=by
 simp[Obj.mapSeq]
theorem Inv.lst {EC:Ag}{Y:St}{H:Hp}{s:Shared}{p:Addr}{xs:List V}(I:Inv X EC Y H s) (h:H p=some (.lst xs)):
  ∃ (its:Ad) (n:Nat),Vals xs its/\s.heap.get? p=some { cls:=.type "list",data:=.seq its.toArray n }/\xs.length<=sizeLine:=by
 obtain⟨z,its,n,r,e⟩:=I.zp p _ h
 exact⟨its,n,r,e,z⟩
def Inv.Qr {EC:Ag}{Y:St}{H:Hp}{s:Shared}{p:Addr}{xs ys:List V}{its AI:Ad}{n n':Nat}{f:Obj->Obj}(I:Inv X EC Y H s) (h:H p=some (.lst xs))
  (ho:s.heap.get? p=some { cls:=.type "list",data:=.seq its.toArray n }) (hf:f { cls:=.type "list",data:=.seq its.toArray n }={ cls:=.type "list",data:=.seq AI.toArray n' }) (r:Vals ys AI) (hz:ys.length<=sizeLine) (t:Nat):
  Inv X EC Y (upd H p (.lst ys)) { s with heap:=s.heap.update p f,toks:=t }:=by
 have e:(s.heap.update p f).get? p=some { cls:=.type "list",data:=.seq AI.toArray n' }:=by
  rw[KN f ho (by rw[hf] <;> rfl),hf]
 refine I.write (x:=p) (e:=p) (by rw[h];trivial) (.inl rfl) (λ b u hb q=>(KO _ _ (Ne.symm hb)).trans q) ⟨_,e⟩ ?_
 exact⟨hz,AI,n',r,e⟩
def V6:V->V->V->Hp->(Hp->Prop)->Prop:=λ o i v H Q=>∃ p xs k j,o=.ref p/\i=.int k/\H p=some (.lst xs)/\w_ xs.length k=some j/\Q (upd H p (.lst (xs.set j v)))
def set_list:YH X V6:=by
 intro EC s Y H o i v ov iv u Q I ro ri rv h
 obtain⟨p,xs,k,j,rfl,rfl,hp,hj,q⟩:=h
 cases ro
 obtain⟨t,rfl⟩:=ri
 obtain⟨its,n,r,ho,hz⟩:=I.lst hp
 obtain⟨h1,h2,h3,h4⟩:=aZ hj
 have hl:=r.length
 have hn:=qh
 have I':Inv X EC Y (upd H p (.lst (xs.set j v))) { s with heap:=s.heap.update p (Obj.mapSeq (·.setIfInBounds j u)) }:=
  I.Qr hp ho (Qn its n j u) (r.set rv j) (by rw[CO];exact hz) s.toks
 by_cases h0:0<=k
 ·have hk:k.toNat=j:=by
   rw[seqIndex_of h0 h4] at h1
   exact A5 h1
  exact PySem.W.ki_setAt ho h0 (by lia) (by rw[AA,<- hl];exact h4) (by rw[hk];exact⟨_,I',q⟩)
 ·have hk:(k+(its.toArray.size:Int)).toNat=j:=by
   rw[seqIndex_neg (by lia) h3] at h1
   rw[AA,<- hl]
   exact A5 h1
  exact PySem.W.ki_setBack ho (by lia) (by rw[AA,<- hl];exact h3) (by lia) (by rw[hk];exact⟨_,I',q⟩)
def Nn:yB X (.builtin "len") (λ xs H Q=>∃ p ys,xs=[.ref p]/\(zO X.K H p ys\/zX X.K H p ys)/\Q (.int ys.length) H):=by
 intro EC s Y H xs us Q I r h
 obtain⟨p,ys,rfl,hq,q⟩:=h
 obtain⟨u,rfl,rx⟩:=vals1 r
 cases rx
 have hn:=qh
 rcases hq with hq | hq
 ·obtain⟨its,r',pl,hz⟩:=I.list hq
  have hlen:=r'.length
  exact Calls.call_len_list pl.isList (by simp only[AA] <;> lia) ⟨.int ys.length,H,I.tok _,⟨s.toks+1,by rw[AA,hlen]⟩,q⟩
 ·obtain⟨its,r',pl,hz⟩:=I.tuple hq
  have hlen:=r'.length
  exact len_tuple pl (by simp only[AA] <;> lia) ⟨.int ys.length,H,I.tok _,⟨s.toks+1,by rw[AA,hlen]⟩,q⟩
def Nm:yB X (.builtin "len") (λ xs H Q=>∃ z,xs=[.str z]/\z.length<=sizeLine/\Q (.int z.length) H):=by
 intro EC s Y H xs us Q I r h
 obtain⟨z,rfl,hz,q⟩:=h
 obtain⟨u,rfl,t,rfl⟩:=vals1 r
 have hn:=qh
 exact len_str (by lia) ⟨.int z.length,H,I.tok _,⟨_,rfl⟩,q⟩
def yB.or {f:Value}{r r':List V->Hp->VK->Prop}(h:yB X f r) (h':yB X f r'):yB X f (λ xs H Q=>r xs H Q\/r' xs H Q):=by
 intro EC s Y H xs us Q I rs q
 rcases q with q | q
 ·exact h EC s Y H xs us Q I rs q
 ·exact h' EC s Y H xs us Q I rs q
def Nk:yB X (.type "list") (λ xs H Q=>∃ p ys,xs=[.ref p]/\(zO X.K H p ys\/zX X.K H p ys)/\∀ l,H l=none->Q (.ref l) (upd H l (.lst ys))):=by
 intro EC s Y H xs us Q I r h
 obtain⟨p,ys,rfl,hq,q⟩:=h
 obtain⟨u,rfl,rx⟩:=vals1 r
 cases rx
 have fin:∀ (its:Ad),Vals ys its->ys.length<=sizeLine->∀ (h':Heap) (c':Nat),(∀ b o',s.heap.get? b=some o'->h'.get? b=some o')->
   h'.get? s.heap.objs.size=some { cls:=.type "list",dict:=none,data:=.seq its.toArray c',slots:=#[] }->EP X EC Y Q (.ref s.heap.objs.size) { s with heap:=h' }:=λ its r' hz h' c' kp e=>
  ⟨.ref s.heap.objs.size,_,I.laid (t':=s.toks) kp (Aj _) (show y_ X.prog X.w _ h' _ (.lst ys) from ⟨hz,its,c',r',e⟩),rfl,q _ (I.zp.fresh (Aj _))⟩
 rcases hq with hq | hq
 ·obtain⟨its,r',pl,hz⟩:=I.list hq
  have hlen:=r'.length
  obtain⟨o,ho,hc,n,hd⟩:=pl.isList
  exact call_list_seq p (.inl rfl) ho hc hd (λ h' c' kp e=>fin its r' hz h' c' kp e) (by simp only[AA] <;> lia)
 ·obtain⟨its,r',pl,hz⟩:=I.tuple hq
  have hlen:=r'.length
  obtain⟨o,ho,hc,n,hd⟩:=pl
  exact call_list_seq p (.inr rfl) ho hc hd (λ h' c' kp e=>fin its r' hz h' c' kp e) (by simp only[AA] <;> lia)
def OY:yB X (.type "tuple") (λ xs H Q=>∃ p ys,xs=[.ref p]/\((zO X.K H p ys/\∀ l,H l=none->Q (.ref l) (upd H l (.tup ys)))\/(zX X.K H p ys/\Q (.ref p) H))):=by
 intro EC s Y H xs us Q I r h
 obtain⟨p,ys,rfl,h⟩:=h
 obtain⟨u,rfl,rx⟩:=vals1 r
 cases rx
 rcases h with ⟨hq,q⟩ | ⟨hq,q⟩
 ·obtain⟨its,r',pl,hz⟩:=I.list hq
  have hlen:=r'.length
  refine call_tuple_list pl.isList (λ h' kp=>?_) (by simp only[AA] <;> lia)
  have I1:Inv X EC Y H { s with heap:=h' }:=I.kept (t':=s.toks) kp
  have I2:Inv X EC Y (upd H h'.objs.size (.tup ys)) { s with heap:=h'.push { cls:=.type "tuple",data:=.seq its.toArray } }:=
   I1.laid (t':=s.toks) (λ b o e=>KC _ e) (Aj _) (show y_ X.prog X.w _ _ _ (.tup ys) from ⟨hz,its,r',IsTup.new _ _⟩)
  exact⟨.ref h'.objs.size,_,I2,rfl,q _ (I1.zp.fresh (Aj _))⟩
 ·obtain⟨its,r',pl,hz⟩:=I.tuple hq
  exact call_tuple_same pl ⟨.ref p,H,I,rfl,q⟩
def cx (K:Ab) (T:String) (x:V) (H:Hp):Prop:=match x with
 | .str _=>T="str"
 | .int _=>T="int"
 | .ref p=>(T="list"/\∃ xs,zO K H p xs)\/(T="tuple"/\∃ o,K.lookup p=some o/\o.cls=.type "tuple"/\o.dict=none)\/
   (T="dict"/\((∃ Aa,H p=some (.dK Aa))\/∃ Aa,H p=some (.dT Aa)))\/(T="set"/\∃ S n,H p=some (.set S n))
 | _=>False
def Wf {EC:Ag}{Y:St}{H:Hp}{s:Shared}{T:String}{x:V}{v:Value}(I:Inv X EC Y H s) (r:RelV x v) (ty:cx X.K T x H):
  s.TypeIs v T/\∀ a,v=.ref a->∃ ob,s.heap.get? a=some ob/\ob.dict=none:=by
 cases x with
 | str z=>
  obtain⟨t,rfl⟩:=r
  cases (show T="str" from ty)
  exact⟨typeIs_str s z t,λ _ e=>nomatch e⟩
 | int i=>
  obtain⟨t,rfl⟩:=r
  cases (show T="int" from ty)
  exact⟨typeIs_int s i t,λ _ e=>nomatch e⟩
 | ref p=>
  cases r
  rcases ty with ⟨rfl,xs,hq⟩ | ⟨rfl,o,hk,hc,hd⟩ | ⟨rfl,hk⟩ | ⟨rfl,S,n,hk⟩
  ·obtain⟨its,_,pl,_⟩:=I.list hq
   refine⟨pl.isList.typeIs,λ a e=>?_⟩
   cases e
   obtain⟨o,n,e,c,hd,_⟩:=pl
   exact⟨o,e,hd⟩
  ·refine⟨⟨o,I.yr p o hk,hc⟩,λ a e=>?_⟩
   cases e
   exact⟨o,I.yr _ o hk,hd⟩
  ·have z:∃ o,s.heap.get? p=some o/\o.ExactDict:=by
    rcases hk with ⟨Aa,hk⟩ | ⟨Aa,hk⟩
    ·obtain⟨_,_,_,_,o,_,_,e,ex,_⟩:=I.zp p _ hk
     exact⟨o,e,ex⟩
    ·obtain⟨_,_,_,_,o,_,_,e,ex,_⟩:=I.zp p _ hk
     exact⟨o,e,ex⟩
   obtain⟨o,e,ex⟩:=z
   refine⟨⟨o,e,ex.1⟩,λ a e2=>?_⟩
   cases e2
   exact⟨o,e,ex.2.1⟩
  ·obtain⟨o,_,_,_,e,ex,_⟩:=I.zp p _ hk
   refine⟨⟨o,e,ex.1⟩,λ a e2=>?_⟩
   cases e2
   exact⟨o,e,ex.2.1⟩
 | _=>exact False.elim ty
def jM (K:Ab) (T:String) (r:V->List V->Hp->VK->Prop) (to:TE) (t:TA):TE:=fun Y H Q=>to Y H λ x H1=>cx K T x H1/\t Y H1 λ xs H2=>r x xs H2 Q
variable {o e:Expr}{es:List Expr}{to:TE}{t:TA}{name:Str}{apos Ah:Pos}{T id:String}{r:V->List V->Hp->VK->Prop}
def bE (pa:PlainAttrs T) (slot:Slot T name id) (hty:typeOf (.builtin id)=pure (.type "method_descriptor")) (hm:NK X id r) (ho:PE X o to) (ha:PA X (e::es) t)
  (FF:attributeBase o name X.env (eval o X.env)=eval o X.env:=by rfl)
  (AL:((backTo Ah (starEach (e::es) X.env)).all (λ x=>!x.1)&&(backToKw Ah (keywordEach [] X.env)).all (λ x=>x.1.isSome)
   && decide ((e::es).length+([]:List Keyword).length+(if ([]:List Keyword).isEmpty then 0 else 1)<30))=true:=by rfl)
  (Gv:(apos.endLine == Ah.line)=true:=by rfl) (hs:starEach (e::es) X.env=(false,eval e X.env)::starEach es X.env:=by rfl) (F5:(backTo Ah (starEach es X.env)).any (·.1)=false:=by rfl):
  PE X (.Call (.Attribute o name apos) (e::es) [] Ah) (jM X.K T r to t):=by
 intro EC s Y H Q I h
 refine wpAny_Call_method_late FF AL Gv rfl (zC (ho EC s Y H _ I h) λ v s1 ⟨x,H1,I1,r1,ty,q1⟩=>?_)
 obtain⟨h1,h2⟩:=Wf I1 r1 ty
 refine⟨T,id,pa,slot,hty,h1,h2,?_⟩
 have hA:=ha Ah EC s1 Y H1 _ I1 q1
 rw[hs] at hA ⊢
 refine Calls.callWith_builtin (by show (false||(backTo Ah (starEach es X.env)).any (·.1))=false;rw[F5] <;> rfl) (Calls.evalArgs_plain ?_)
 exact zC hA λ us s2 ⟨vs,H2,I2,r2,q2⟩=>hm EC s2 Y H2 x vs v us Q I2 r1 r2 q2
end
def YK (X:Cx) (id:String) (r:V->List V->Hp->VK->Prop):Prop:=
 ∀ (EC:Ag) (s:Shared) (Y:St) (H:Hp) (x:V) (xs:List V) (v:Value) (us:Ad) (Q:VK),Inv X EC Y H s->RelV x v->Vals xs us->r x xs H Q->
  wpAny (model X.prog X.w) X.A (call (.builtin id) (v::us)) (EP X EC Y Q) X.xe s
theorem Vals.one:∀ {x:V}{us:Ad},Vals [x] us->∃ u,us=[u]/\RelV x u
 | _,_,.cons r .nil=>⟨_,rfl,r⟩
theorem Vals.rep {xs:List V}{us:Ad}(h:Vals xs us):∀ k:Nat,Vals (List.replicate k xs).flatten (List.replicate k us).flatten
 | 0=>.nil
 | k+1=>by
  rw[BZ,BZ,Cg,Cg]
  exact Vals.append h (Vals.rep h k)
section
variable {X:Cx}{EC:Ag}{Y:St}{H:Hp}{s:Shared}{l:Addr}{xs ys:List V}
def Inv.aG {its AI:Ad}{n:Nat}{f:Array Value->Array Value}{t':Nat}(I:Inv X EC Y H s) (hH:H l=some (.lst xs))
  (e:s.heap.get? l=some { cls:=.type "list",data:=.seq its.toArray n }) (hf:f its.toArray=AI.toArray) (hv:Vals ys AI) (hz:ys.length<=sizeLine):
  Inv X EC Y (upd H l (.lst ys)) { s with heap:=s.heap.update l (Obj.mapSeq f),toks:=t' }:=by
 have q:=PySem.IsL.update e f
 rw[hf] at q
 refine I.write (x:=l) (e:=l) (by rw[hH];exact trivial) (.inl rfl) (λ b' u hb hu=>(KO s.heap (Obj.mapSeq f) (Ne.symm hb)).trans hu) ⟨_,q⟩ ?_
 exact⟨hz,AI,_,hv,q⟩
def Inv.Qu {its:Ad}{t':Nat}(I:Inv X EC Y H s) (hv:Vals ys its) (hz:ys.length<=sizeLine):
  Inv X EC Y (upd H s.heap.objs.size (.lst ys)) { s with heap:=s.heap.push { cls:=.type "list",data:=.seq its.toArray },toks:=t' }:=
 I.laid (λ _ _ q=>KC _ q) (Aj _) ⟨hz,its,0,hv,AF _ rfl⟩
theorem Inv.fresh (I:Inv X EC Y H s):H s.heap.objs.size=none:=I.zp.fresh (Aj _)
def Inv.gA (I:Inv X EC Y H s) (hH:H l=some (.lst xs)):xs.length<=sizeLine/\∃ (its:Ad) (n:Nat),Vals xs its/\xs.length=its.length/\s.heap.get? l=some { cls:=.type "list",data:=.seq its.toArray n }:=by
 obtain⟨z,its,n,r,e⟩:=I.zp l _ hH
 exact⟨z,its,n,r,r.length,e⟩
def RU {n:Nat}(h:n<=sizeLine):Builtin.List.listTooLong n=false:=by
 unfold Builtin.List.listTooLong
 exact KI (by lia)
def bx:V->List V->Hp->VK->Prop:=λ x vs H Q=>∃ l xs y,x=.ref l/\vs=[y]/\H l=some (.lst xs)/\xs.length<sizeLine/\Q .zk (upd H l (.lst (xs++[y])))
def aE:YK X "list.append" bx:=by
 intro EC s Y H x vs v us Q I rx rv h
 obtain⟨l,xs,y,rfl,rfl,hH,hz,q⟩:=h
 cases rx
 obtain⟨u,rfl,ru⟩:=rv.one
 obtain⟨z,its,n,r,hl,e⟩:=I.gA hH
 refine call_meets F.slot_list_append ⟨_,e,rfl⟩ F.entry_list_append (F.args_list_append_2 _ _) (PySem.list_append l its.toArray n u (by rw[AA];lia)) ⟨e,?_⟩
 refine⟨.zk,_,I.aG (AI:=its++[u]) hH e (by simp) (r.append (.cons ru .nil)) ?_,rfl,q⟩
 rw[B6,List.length_singleton]
 lia
def bq:V->List V->Hp->VK->Prop:=λ x vs H Q=>∃ l b xs zs,x=.ref l/\vs=[.ref b]/\H l=some (.lst xs)/\H b=some (.lst zs)/\xs.length+zs.length<=sizeLine/\Q .zk (upd H l (.lst (xs++zs)))
def Qi:YK X "list.extend" bq:=by
 intro EC s Y H x vs v us Q I rx rv h
 obtain⟨l,b,xs,zs,rfl,rfl,hH,hB,hz,q⟩:=h
 cases rx
 obtain⟨u,rfl,ru⟩:=rv.one
 cases ru
 obtain⟨z,its,n,r,hl,e⟩:=I.gA hH
 obtain⟨z2,Fm,n2,r2,Hh,e2⟩:=I.gA hB
 have hsz:its.toArray.size+Fm.toArray.size<=sizeLine:=by rw[AA,AA];lia
 have IW:¬ (!its.toArray.isEmpty&&Builtin.List.listTooLong (its.toArray.size+Fm.toArray.size))=true:=by
  rw[RU hsz,CN]
  exact BN
 refine call_meets F.slot_list_extend ⟨_,e,rfl⟩ F.entry_list_extend (F.args_list_extend_2 _ _)
  (AutoSeq1.list_extend_list_list_0 l its.toArray n b Fm.toArray n2 IW (by rw[AA];lia) (by lia)) ⟨e,e2,?_⟩
 refine⟨.zk,_,I.aG (AI:=its++Fm) hH e (by simp) (r.append r2) ?_,rfl,q⟩
 rw[B6]
 lia
end
end L2
namespace X3
open PySem PySem.W PySem.Calls PyProof.Rows
def Pc {P:Params}{h:Heap}:∀ (ns:List Int) (vs:Ad),WellAll P h vs (ns.map WData.int)->IntsAre vs ns:=by
 intro ns
 induction ns with
 | nil=>
  intro vs w
  rw[A9] at w
  cases w
  exact .nil
 | cons n ns ih=>
  intro vs w
  rw[Au] at w
  cases w with
  | cons a b=>
   cases a
   exact .cons _ _ (ih _ b)
def WZ {l:OpenLaw}{n:Nat}(hn:l.most=some n) {P:Params}{h:Heap}{args:List WData}{vals:Ad}
  (B9:l.row.toRowW.claim.pre args=true) (D4:WellAll P h vals args):
  ∃ a vs ns,vals=[Value.ref a]/\args=[WData.list (ns.map WData.int)]/\h.get? a=some { cls:=.type "list",data:=.seq vs.toArray }/\IntsAre vs ns/\ns.length<=n:=by
 have DJ:WShape.hasAll [] args [.list .int]=true:=(pre_splitW B9).1
 have hc:l.pre.holds [] { args:=args }=true:=(pre_splitW B9).2
 obtain⟨d,r,rfl,h1,h2⟩:=hasAllW_cons DJ
 obtain rfl:=hasAllW_nil h2
 obtain⟨xs,rfl,h3⟩:=hasW_list h1
 obtain⟨ns,rfl⟩:=items_int h3
 have hlen:ns.length<=n:=by
  unfold OpenLaw.pre at hc
  have h4:(WTm.not (.lt (.lit (.int (n:Int))) (.len (.arg 0)))).holds [] { args:=[.list (ns.map .int)] }=true:=by
   have h4:=(holds_andW hc).1
   rw[hn] at h4
   exact h4
  have h5:=condW_of h4 (w_not (w_lt w_lit (w_len_list (w_arg rfl))))
  rw[AD] at h5
  refine Nat.le_of_not_lt λ q=>?_
  have q':(n:Int)<((ns.length:Nat):Int):=by lia
  first
   | (rw[KU q'] at h5;exact absurd h5 (by decide))
   | (simp at h5;lia)
 cases D4 with
 | cons w1 w2=>
  cases w2
  cases w1 with
  | list ho Aw=>exact⟨_,_,ns,rfl,rfl,ho,Pc ns _ Aw,hlen⟩
def VV (l:OpenLaw) (args:List WData):l.row.toRowW.claim.post args (.bool true) args=true:=
 postW_of (r:=l.row.toRowW) (X:=(true == true))
  (show WShape.has [] (.bool true) .bool=true by first | rfl | decide | simp[WShape.has,WShape.arms,WShape.armsAll])
  (show (WTm.eq .res (.lit (.bool true))).value [] { args:=args,res:=some (.bool true),after:=args }=some (.bool (true == true)) from w_eq_bool (w_res rfl) w_lit) rfl
def N6 {l:OpenLaw}{n:Nat}{q:Program}{loose:List Str}{XP:(Str->Option Value)->Heap->Prop}{YP:World->Heap->Prop}{d:DefRec}
  (hn:l.most=some n) (Dn:d.params.defaults=[])
  (call:∀ (w:World) (s₀ s₁:Shared) (mg mb:Aq) (fa:Addr) (o:Obj) (pm cd doc:Value) (a:Addr) (vs:Ad) (ns:List Int),
   Ground q loose [] XP w s₀ mg mb s₁.heap->YP w s₁.heap->
   s₁.heap.get? fa=some o->o.data=.func (docDef d.name d.params d.body d.scope pm cd doc)->s₁.heap.CodeRec cd d.name->mg d.name=some (.ref fa)->
   s₁.heap.get? a=some { cls:=.type "list",data:=.seq vs.toArray }->IntsAre vs ns->ns.length<=n->s₁.gens=#[]->
   codeAny (model l.prog w) callerA (.call (.ref fa) ⟨[.ref a],[]⟩) (λ r s'=>r=.ok (.ret (.bool true))/\OldK s₁.heap s'.heap/\s'.os=s₁.os/\AllBare s'.gens) s₁):
  WalkO q loose XP YP l.row.toRowW d [] (λ f vs=>PySem.call f vs):=by
 intro w s₀ s₁ mg mb G Y fa o pm cd doc dV kV ho hd A4 hD Df hg args vals as B9 Dg hrd D4 hlo
 obtain rfl:dV=.none:=Dflts.none hD Dn
 obtain rfl:kV=.none:=Dflts.noKw hD
 obtain⟨a,vs,ns,rfl,rfl,CD,hints,hlen⟩:=WZ hn B9 D4
 refine enter_call (codeAny_mono (call w s₀ s₁ mg mb fa o pm cd doc a vs ns G Y ho (fd_plain hd) A4 Df CD hints hlen hg) λ r s' hq=>?_)
 obtain⟨rfl,h2,h3,h4⟩:=hq
 exact⟨.inl ⟨.bool true,.bool true,[],rfl,λ _=>rfl,.bool true,VV l _,λ _=>⟨List.Pairwise.nil,λ _ hm=>(nomatch hm)⟩⟩,h2,h3,h4⟩
end X3
namespace L2
open PySem PySem.Spec PyProof.Rows
theorem dZ:∀ {vs:Ad}{ns:List Int},IntsAre vs ns->Vals (ns.map V.int) vs
 | _,_,.nil=>.nil
 | _,_,.cons n t h=>.cons ⟨t,rfl⟩ (dZ h)
def jh (H:Hp):Prop:=∀ b,H b=none\/∃ o xs,H b=some (.wa o (.lst xs))
def QB {P:Program}{w:World}{K:Ab}{mg mb:Aq}{CX:uc}{k:Nat}{fa a:Addr}{fd:FuncData}{x:Str}{sp:Sp}{s₁:Shared}{vs:Ad}{ns:List Int}
  (KX:K.In s₁.heap) (Bw:s₁.heap.Ns mainGlobals mg) (hb:s₁.heap.Ns builtinsNs mb) (CW:∀ x:Str,x≠"__name__"->mb x=bootBuiltins x) (Em:s₁.heap.NoLimit) (hg:s₁.gens=#[])
  (ha:s₁.heap.get? a=some { cls:=.type "list",data:=.seq vs.toArray }) (hi:IntsAre vs ns) (hl:ns.length<=sizeLine) (hr:ya k callerA)
  (F:∀ base:Heap,K.In base->base.Ns mainGlobals mg->xy P w K mg base CX k fa fd [x] sp) (Jd:∀ (s:Shared) (u:Value),BindsTo s fd ⟨[u],[]⟩ [(x,u)])
  (B0:∀ H:Hp,jh H->zO K H a (ns.map V.int)->sp [.ref a] H (λ v _=>v=.bl true) λ _ _ _=>False)
  (Km:∀ H e s',CX [] H s₁ (λ _ _ _=>False) e s'->False):
  codeAny (model P w) callerA (.call (.ref fa) ⟨[.ref a],[]⟩) (λ r s'=>r=.ok (.ret (.bool true))/\OldK s₁.heap s'.heap/\s'.os=s₁.os/\AllBare s'.gens) s₁:=by
 have rv:=dZ hi
 have JX:=hi.length
 have core:∀ H:Hp,jh H->zO K H a (ns.map V.int)->yf P w H s₁.heap->(∀ b,H b≠none->b=a)->(H a≠none->K.lookup a=none)->
   codeAny (model P w) callerA (.call (.ref fa) ⟨[.ref a],[]⟩) (λ r s'=>r=.ok (.ret (.bool true))/\OldK s₁.heap s'.heap/\s'.os=s₁.os/\AllBare s'.gens) s₁:=by
  intro H hO hS zp hA hK
  have GO:∀ {b:Addr}{o:Obj},s₁.heap.get? b=some o->H b=none->(tW s₁.heap H).get? b=some o:=λ e n=>Po e n
  have IG:∀ {b:Addr}{o:Obj}{es:Array DictEntry}{ep:Nat},s₁.heap.get? b=some o->o.data=.dict es ep->H b=none:=λ{b o es ep} e d=>by
   cases q:H b with
   | none=>rfl
   | some u=>
    have e':b=a:=hA b (by rw[q];simp)
    subst e'
    rw[ha] at e;cases e
    have d':Data.seq vs.toArray _=Data.dict es ep:=d
    cases d'
  have Js:∀ {b:Addr}{m:Aq},s₁.heap.Ns b m->(tW s₁.heap H).Ns b m:=λ{b m} ⟨o,es,ep,e,d,r⟩=>⟨o,es,ep,GO e (IG e d),d,r⟩
  have hKb:K.In (tW s₁.heap H):=λ b o e=>GO (KX b o e) (by
   cases q:H b with
   | none=>rfl
   | some u=>
    have e':b=a:=hA b (by rw[q];simp)
    subst e'
    rw[hK (by rw[q];simp)] at e;cases e)
  have hM:Mod K mg (tW s₁.heap H):=⟨hKb,Js Bw,⟨mb,Js hb,CW⟩,let ⟨mc,h1,h2⟩:=Em;⟨mc,Js h1,h2⟩⟩
  have e0:qF P w K mg (tW s₁.heap H) callerA [] s₁ H:=⟨rfl,hM,λ b o e=>RQ e,Nat.le_of_eq (Pn _ _),trivial,λ b hb=>absurd (show b∈([]:List Addr) from hb) (by simp),zp,.of_eq hg⟩
  refine codeAny_mono ((F _ hKb (Js Bw)).run callerA [] s₁ H ⟨[.ref a],[]⟩ [.ref a] [.ref a] _ _ hr e0 (Jd s₁ (.ref a)) (.cons rfl .nil) (B0 H hO hS)) λ r s' h=>?_
  cases r with
  | error e=>exact (Km H e s' h).elim
  | ok fl=>
   cases fl with
   | ret u=>
    obtain⟨v,H',os,bare,un,Bn,r',q⟩:=h
    have q':v=.bl true:=q
    subst q'
    obtain rfl:u=Value.bool true:=r'
    refine⟨rfl,OldK.of_keep λ b o e=>?_,os,bare⟩
    cases q:H b with
    | none=>exact un.keep b o e q (by intro z;exact absurd (show b∈([]:List Addr) from z) (by simp)) (by simp)
    | some u=>
     rcases hO b with z | ⟨ob,xs,z⟩
     ·rw[q] at z;cases z
     ·have z2:=un.vG b ob _ z
      obtain⟨e1,_⟩:=zp b _ z
      obtain⟨e2,_⟩:=Bn b _ z2
      rw[e] at e1;cases e1
      exact e2
   | _=>exact False.elim h
 cases hk:K.lookup a with
 | some o=>
  have e:=KX a o hk
  rw[ha] at e
  cases e
  refine core (λ _=>none) (λ _=>.inl rfl) (.inr ⟨_,vs.toArray,_,hk,rfl,rfl,rfl,by rw[AA,JX];exact hl,by simpa using rv⟩) (λ b u z=>by have z':(none:Option HO)=some u:=z;cases z') (λ b z=>absurd rfl z) λ z=>absurd rfl z
 | none=>
  refine core (λ b=>if b=a then some (.wa { cls:=.type "list",data:=.seq vs.toArray } (.lst (ns.map V.int))) else none) (λ b=>?_) (.inl (.inr ⟨{ cls:=.type "list",data:=.seq vs.toArray },if_pos rfl⟩)) (λ b u z=>?_) (λ b z=>?_) λ _=>hk
  ·by_cases hb:b=a
   ·exact .inr ⟨_,_,if_pos hb⟩
   ·exact .inl (if_neg hb)
  ·by_cases hb:b=a
   ·have z':=(if_pos hb).symm.trans z
    cases z'
    subst hb
    exact⟨ha,by rw[AD];exact hl,vs,_,rv,ha⟩
   ·have z':=(if_neg hb).symm.trans z
    cases z'
  ·by_cases hb:b=a
   ·exact hb
   ·exact absurd (if_neg hb) z
def XY {l:PySem.W.OpenLaw}{n k:Nat}{q:Program}{loose:List Str}{XP:(Str->Option Value)->Heap->Prop}{YP:World->Heap->Prop}{d:DefRec}{K:Params->Ab}{CX:World->uc}{sp:World->Sp}{x:Str}
  (hn:l.most=some n) (hn2:n<=sizeLine) (Dn:d.params.defaults=[]) (hr:ya k callerA)
  (hY:∀ (w:World) (h:Heap),YP w h->(K w.params).In h)
  (F:∀ (w:World) (mg:Aq) (fa:Addr) (h:Heap),(K w.params).In h->h.Ns mainGlobals mg->mg d.name=some (.ref fa)->
   ∃ fd:FuncData,(∀ (s:Shared) (u:Value),BindsTo s fd ⟨[u],[]⟩ [(x,u)])/\
    ∀ base:Heap,(K w.params).In base->base.Ns mainGlobals mg->xy l.prog w (K w.params) mg base (CX w) k fa fd [x] (sp w))
  (B0:∀ (w:World) (H:Hp) (a:Addr) (ns:List Int),ns.length<=n->jh H->zO (K w.params) H a (ns.map V.int)->sp w [.ref a] H (λ v _=>v=.bl true) λ _ _ _=>False)
  (Km:∀ (w:World) (H:Hp) (s:Shared) (e:Value) (s':Shared),CX w [] H s (λ _ _ _=>False) e s'->False):
  PySem.W.WalkO q loose XP YP l.row.toRowW d [] (λ f vs=>PySem.call f vs):=by
 refine X3.N6 hn Dn λ w s₀ s₁ mg mb fa o pm cd doc a vs ns G Y ho hd A4 Df CD hints hlen hg=>?_
 have KX:=hY w _ Y
 obtain⟨fd,hb,hF⟩:=F w mg fa _ KX G.T.g Df
 exact QB KX G.T.g G.T.b G.T.builtins G.T.nolimit hg CD hints (BA hlen hn2) hr hF hb (λ H hO hS=>B0 w H a ns hlen hO hS) λ H e s'=>Km w H s₁ e s'
noncomputable def vO (s:Stmt):Arguments:=match s with
 | .FunctionDef _ a _ _ _ _ _ _ _ _=>a
 | _=>{ posonlyargs:=[],args:=[],vararg:=none,kwonlyargs:=[],kw_defaults:=[],kwarg:=none,defaults:=[] }
noncomputable def xD (s:Stmt):List Stmt:=match s with
 | .FunctionDef _ _ b _ _ _ _ _ _ _=>b
 | _=>[]
noncomputable def zy (s:Stmt):Scope:=match s with
 | .FunctionDef _ _ _ _ _ _ sc _ _ _=>sc
 | _=>{ kind:=.function,names:=[],isGenerator:=false,isCoroutine:=false }
abbrev xI:uc:=λ _ _ _ _ _ _=>False
abbrev E0:XK:=λ _ _ _=>False
def Tc {X:Cx}:Passes xI X E0:=λ _ _ _ _ _ _ _ h=>h.elim
structure vh (K:Ab) (x qual:Str) (st:Stmt) (f:Addr) (fd:FuncData):Prop where
 ex:∃ (oc:Value) (od:Option Addr) (kV doc pm:Value) (an:Option Addr) (Af ct:Value) (GQ:Array (Option Value)),
  fd=PySem.W.fnOf x qual (vO st) (xD st) (zy st) .none kV doc pm an Af ct/\K.lookup f=some ⟨oc,od,.func fd,GQ⟩/\PySem.W.codeIn K Af qual=true
 kp:PySem.W.keepIn K (.ref f)=true
section
variable {P:Program}{w:World}{K:Ab}{mg:Aq}{base:Heap}
def vh.ok {x qual:Str}{st:Stmt}{f:Addr}{fd:FuncData}{N ps:List Str}{k:Nat}{sp:Sp}(F:vh K x qual st f fd) (S:zY N ps (zy st)) (len:∀ vs H Q E,sp vs H Q E->vs.length=ps.length)
  (Fb:∀ (Af:Value) (A:Around) (outer:List Env) (s:Shared) (H:Hp) (vs:List V) (Q:VK) (E:XK),ya k (A.deeper (envOfC qual (zy st) s.heap.objs.size f Af))->sp vs H Q E->
   ∃ t,xV (wC xI P w K mg base N qual (zy st) f Af A outer s H E).vA (xD st) t/\t { nx:=λ _ H'=>Q .zk H',rt:=Q } (start N vs) H):xy P w K mg base xI (k+1) f fd ps sp:=by
 obtain⟨oc,od,kV,doc,pm,an,Af,ct,GQ,rfl,lk,A4⟩:=F.ex
 refine Z7 lk A4 S len λ A outer s H vs Q E hr B0=>?_
 obtain⟨t,h,q⟩:=Fb Af A outer s H vs Q E hr B0
 exact⟨t,h.vA,q⟩
def vh.binds {x qual:Str}{st:Stmt}{f:Addr}{fd:FuncData}{ps:List Str}(F:vh K x qual st f fd)
  (h:∀ (kV doc pm:Value) (an:Option Addr) (Af ct:Value) (us:Ad),us.length=ps.length->bindArgs (PySem.W.fnOf x qual (vO st) (xD st) (zy st) .none kV doc pm an Af ct) ⟨us,[]⟩=pure (ps.zip us)):Binds K fd ps []:=by
 obtain⟨oc,od,kV,doc,pm,an,Af,ct,GQ,rfl,lk,A4⟩:=F.ex
 exact .all (h kV doc pm an Af ct)
def fy {x qual:Str}{st:Stmt}{f:Addr}{oc:Value}{od an:Option Addr}{GQ:Array (Option Value)}{kV doc pm Af ct:Value}(l:K.lookup f=some ⟨oc,od,.func (PySem.W.fnOf x qual (vO st) (xD st) (zy st) .none kV doc pm an Af ct),GQ⟩)
  (c:PySem.W.codeIn K Af qual=true) (k:PySem.W.keepIn K (.ref f)=true):vh K x qual st f (PySem.W.fnOf x qual (vO st) (xD st) (zy st) .none kV doc pm an Af ct):=⟨⟨oc,od,kV,doc,pm,an,Af,ct,GQ,rfl,l,c⟩,k⟩
end
def gS {A:Around}{k:Nat}(hr:ya k A):A.units+1<cLine:=Nat.lt_of_le_of_lt (Nat.add_le_add_left (by decide:1<=64) _) hr.units
section
variable {X:Cx}
def pv (i:Nat) {x:Str}{pos:Pos}(hN:X.N[i]?=some x:=by rfl) (hv:mF X.env.scope x:=by first | exact Or.inl rfl | exact Or.inr (Or.inl rfl) | exact Or.inr (Or.inr rfl)) (hd:(x == ("__debug__":Str))=false:=by decide)
  (A4:(x == ("__classdict__":Str))=false:=by decide):PE X (.Name x pos) (o8 i):=Ul hN hv hd A4
end
def mG (H H':Hp):Prop:=∀ b o,H b=some o->H' b=some o
end L2
namespace PySem
theorem fY {env:Env}:∀ (l:List (Str×NameKind)) (acc:List (Str×Addr)),(∀ y∈l,y.2=.free->∃ c,env.cells.lookup y.1=some c)->
  ∃ cl,(forIn l acc (λ(x:Str×NameKind) r=>if (x.2 == NameKind.free)=true then do let a <- cellOf env x.1;pure (ForInStep.yield ((x.1,a)::r)) else pure (ForInStep.yield r)):Sem (List (Str×Addr)))=pure cl/\
   (∀ x c,cl.lookup x=some c->acc.lookup x=some c\/((x,NameKind.free)∈l/\env.cells.lookup x=some c))/\(∀ x,(x,NameKind.free)∈l\/(acc.lookup x).isSome->(cl.lookup x).isSome)
 | [],acc,_=>⟨acc,rfl,λ x c h=>.inl h,λ x h=>by simpa using h⟩
 | (n,k)::l,acc,h=>by
  by_cases hk:k=.free
  ·subst hk
   obtain⟨c,hc⟩:=h (n,.free) Ap rfl
   obtain⟨cl,e1,e2,e3⟩:=fY l ((n,c)::acc) λ y hy=>h y (Ax _ hy)
   refine⟨cl,?_,λ x d hx=>?_,λ x hx=>?_⟩
   ·rw[DE]
    simp only[beq_self_eq_true,if_true,cellOf,hc]
    exact e1
   ·rcases e2 x d hx with q | ⟨q1,q2⟩
    ·rw[Bg] at q
     cases C9:x == n with
     | true=>
      rw[C9] at q
      have:x=n:=by simpa using C9
      subst this
      refine .inr ⟨Ap,?_⟩
      rw[hc];exact q
     | false=>rw[C9] at q;exact .inl q
    ·exact .inr ⟨Ax _ q1,q2⟩
   ·refine e3 x ?_
    rcases hx with hx | hx
    ·rcases Ai.mp hx with q | q
     ·have:x=n:=congrArg Prod.fst q
      subst this
      exact .inr (by simp[Bg])
     ·exact .inl q
    ·refine .inr ?_
     rw[Bg]
     cases x == n <;> simp[hx]
  ·have hb:(k == NameKind.free)=false:=by simpa using hk
   obtain⟨cl,e1,e2,e3⟩:=fY l acc λ y hy=>h y (Ax _ hy)
   refine⟨cl,?_,λ x d hx=>?_,λ x hx=>?_⟩
   ·rw[DE]
    simp only[hb,Bc,if_false]
    exact e1
   ·rcases e2 x d hx with q | ⟨q1,q2⟩
    ·exact .inl q
    ·exact .inr ⟨Ax _ q1,q2⟩
   ·refine e3 x ?_
    rcases hx with hx | hx
    ·rcases Ai.mp hx with q | q
     ·exact absurd (congrArg Prod.snd q).symm hk
     ·exact .inl q
    ·exact .inr hx
def Yo {scope:Scope}{env:Env}(h:∀ y∈scope.names,y.2=.free->∃ c,env.cells.lookup y.1=some c):
  ∃ cl,closureFor scope env=pure cl/\(∀ x c,cl.lookup x=some c->(x,NameKind.free)∈scope.names/\env.cells.lookup x=some c)/\∀ x,(x,NameKind.free)∈scope.names->(cl.lookup x).isSome:=by
 obtain⟨cl,e1,e2,e3⟩:=fY (env:=env) scope.names [] h
 refine⟨cl,?_,λ x c hx=>?_,λ x hx=>e3 x (.inl hx)⟩
 ·simp only[closureFor]
  rw[e1]
  rfl
 ·rcases e2 x c hx with q | q
  ·simp at q
  ·exact q
theorem aK {env:Env}:∀ {names:List (Str×NameKind)}{x:Str},names.lookup x=some .free->
  (names.map λ(n,k)=>if (k == NameKind.free&&env.scope.kind == .function&&env.kindOf n == some .cell) then (n,NameKind.cell) else (n,k)).lookup x=some .cell\/
  (names.map λ(n,k)=>if (k == NameKind.free&&env.scope.kind == .function&&env.kindOf n == some .cell) then (n,NameKind.cell) else (n,k)).lookup x=some .free
 | [],_,h=>by simp at h
 | (n,k)::r,x,h=>by
  have ih:=@aK env r x
  show List.lookup x ((if (k == NameKind.free&&env.scope.kind == .function&&env.kindOf n == some .cell)=true then (n,NameKind.cell) else (n,k))::_)=_\/List.lookup x ((if (k == NameKind.free&&env.scope.kind == .function&&env.kindOf n == some .cell)=true then (n,NameKind.cell) else (n,k))::_)=_
  cases hx:x == n with
  | true=>
   simp only[Bg,hx] at h
   cases h
   by_cases hc:(NameKind.free == NameKind.free&&env.scope.kind == .function&&env.kindOf n == some .cell)=true
   ·rw[if_pos hc];simp[Bg,hx]
   ·rw[if_neg hc];simp[Bg,hx]
  | false=>
   simp only[Bg,hx] at h
   by_cases hc:(k == NameKind.free&&env.scope.kind == .function&&env.kindOf n == some .cell)=true
   ·rw[if_pos hc];simp only[Bg,hx];exact ih h
   ·rw[if_neg hc];simp only[Bg,hx];exact ih h
theorem ba {env:Env}:∀ {names:List (Str×NameKind)}{x:Str},(∀ y∈names,y.2≠.cell)->
  ((names.map λ(n,k)=>if (k == NameKind.free&&env.scope.kind == .function&&env.kindOf n == some .cell) then (n,NameKind.cell) else (n,k)).lookup x=some .cell\/
  (names.map λ(n,k)=>if (k == NameKind.free&&env.scope.kind == .function&&env.kindOf n == some .cell) then (n,NameKind.cell) else (n,k)).lookup x=some .free)->(x,NameKind.free)∈names
 | [],_,_,h=>by simp at h
 | (n,k)::r,x,hn,h=>by
  have ih:=@ba env r x λ y hy=>hn y (Ax _ hy)
  have h':List.lookup x ((if (k == NameKind.free&&env.scope.kind == .function&&env.kindOf n == some .cell)=true then (n,NameKind.cell) else (n,k))::_)=some .cell\/List.lookup x ((if (k == NameKind.free&&env.scope.kind == .function&&env.kindOf n == some .cell)=true then (n,NameKind.cell) else (n,k))::_)=some .free:=h
  have hf:∀ k',((if (k == NameKind.free&&env.scope.kind == .function&&env.kindOf n == some .cell)=true then (n,NameKind.cell) else (n,k)):Str×NameKind)=(n,k')->(k'=.cell\/k'=.free)->k=.free:=by
   intro k' e Gr
   by_cases hc:(k == NameKind.free&&env.scope.kind == .function&&env.kindOf n == some .cell)=true
   ·simp only[Bi] at hc;simpa using hc.1.1
   ·rw[if_neg hc] at e
    have:k=k':=congrArg Prod.snd e
    subst this
    rcases Gr with q | q
    ·exact absurd q (hn (n,k) Ap)
    ·exact q
  cases hx:x == n with
  | true=>
   have C9:x=n:=by simpa using hx
   subst C9
   by_cases hc:(k == NameKind.free&&env.scope.kind == .function&&env.kindOf x == some .cell)=true
   ·simp only[Bi] at hc
    have:k=.free:=by simpa using hc.1.1
    subst this;exact Ap
   ·rw[if_neg hc] at h'
    simp only[Bg,beq_self_eq_true] at h'
    rcases h' with q | q
    ·exact absurd (A5 q) (hn (x,k) Ap)
    ·have:=A5 q
     subst this;exact Ap
  | false=>
   refine Ax _ (ih ?_)
   by_cases hc:(k == NameKind.free&&env.scope.kind == .function&&env.kindOf n == some .cell)=true
   ·rw[if_pos hc] at h';simp only[Bg,hx] at h';exact h'
   ·rw[if_neg hc] at h';simp only[Bg,hx] at h';exact h'
end PySem
namespace L2
open PySem PySem.Spec PyProof.Rows
noncomputable def uk (pick:List (Option Nat)) (Y:St):St:=pick.map λ o=>o.bind λ i=>(Y[i]?).join
noncomputable def yP (X:Cx) (N':List Str) (scope:Scope) (cl:List (Str×Addr)) (C:Addr) (s:Shared) (H:Hp) (ex:List Addr):Cx:=
 { X with N:=N',s₀:=s,H₀:=H,env:=compEnvC scope cl C X.env,outer:=X.stack,stack:=X.stack,ex:=ex,fn:=λ _=>false,pn:=[],xe:=λ _ _=>False }
noncomputable def qW (N N':List Str) (pick:List (Option Nat)) (scope:Scope):Bool:=(N'.zip pick).all λ p=>match p.2 with
 | none=>true
 | some j=>decide (N[j]?=some p.1)&&decide (scope.names.lookup p.1=some .free)
structure qH (X:Cx) (N':List Str) (pick:List (Option Nat)) (scope:Scope):Prop where
 kind:scope.kind=.function
 ay:∀ y∈scope.names,y.2≠.cell
 names:∀ y∈scope.names,y.2=.local->scope.names.lookup y.1=some .local
 free:∀ y∈scope.names,y.2=.free->X.env.scope.names.lookup y.1=some .cell\/X.env.scope.names.lookup y.1=some .free
 len:pick.length=N'.length
 ok:qW X.N N' pick scope=true
def qW.get {N N':List Str}{pick:List (Option Nat)}{scope:Scope}(h:qW N N' pick scope=true) {i j:Nat}{x:Str}(h1:N'[i]?=some x) (h2:pick[i]?=some (some j)):N[j]?=some x/\scope.names.lookup x=some .free:=by
 unfold qW at h
 have hm:(x,some j)∈N'.zip pick:=by
  refine Bl (i:=i) ?_
  rw[List.getElem?_zip_eq_some]
  exact⟨h1,h2⟩
 have q:=Bj.mp h _ hm
 simp only[Bi,decide_eq_true_eq] at q
 exact q
def uk.get {pick:List (Option Nat)}{Y:St}{i:Nat}{v:V}(h:(uk pick Y)[i]?=some (some v)):∃ j,pick[i]?=some (some j)/\Y[j]?=some (some v):=by
 unfold uk at h
 rw[AE] at h
 cases e:pick[i]? with
 | none=>rw[e] at h;cases h
 | some o=>
  rw[e] at h
  cases o with
  | none=>simp at h
  | some j=>
   refine⟨j,rfl,?_⟩
   simp only[Option.map_some,Option.some.injEq,BP] at h
   cases q:Y[j]? with
   | none=>rw[q] at h;simp at h
   | some w=>rw[q] at h;simp at h;rw[h]
def PF (X:Cx) (ifs:List Expr) (t:TT):Prop:=∀ (EC:Ag) (s:Shared) (Y:St) (H:Hp) (Q:Bool->Hp->Prop),Inv X EC Y H s->t Y H Q->
 wpAny (model X.prog X.w) X.A (forIn ifs true λ c r=>if r=true then do let ok <- isTrue c X.env (eval c X.env);pure (ForInStep.yield ok) else pure (ForInStep.yield r)) (TP X EC Y Q) X.xe s
def Uj {X:Cx}:PF X [] (λ _ H Q=>Q true H):=λ _ _ _ H _ I h=>wpAny_tests_nil ⟨H,I,h⟩
def Ui {X:Cx}{c:Expr}{t:TT}(h:PT X c t):PF X [c] t:=λ EC s Y H Q I q=>wpAny_tests_one (h EC s Y H Q I q)
def jK (pick:List (Option Nat)) (wi:TI) (g:TG) (tc:TT) (te:TE):TE:=fun Y H Q=>wi Y H λ J H1=>∀ D,H1 D=none->∃ W:Nat->Nat->St->Hp->Prop,(∃ m,W 0 m (uk pick Y) (upd H1 D (.lst [])))/\
 ∀ i m Y H,W i m Y H->(J.stop i H/\Q (.ref D) H)\/(J.go i H/\∀ x H',J.qI i H x H'->g x Y H' fun Y2 H2=>tc Y2 H2 λ b H3=>
  if b=true then te Y2 H3 λ y H4=>∃ ys m',H4 D=some (.lst ys)/\ys.length<sizeLine/\m'<m/\W (i+1) m' Y2 (upd H4 D (.lst (ys++[y]))) else ∃ m',m'<m/\W (i+1) m' Y2 H3)
section
variable {X:Cx}{EC:Ag}{Y:St}{H:Hp}{s:Shared}{N':List Str}{pick:List (Option Nat)}{scope:Scope}{cl:List (Str×Addr)}{C:Addr}{fp:List Addr}
def Pb (S:qH X N' pick scope) (I:Inv X EC Y H s) (Bo:∀ b∈fp,vY X EC H b) (Ao:∀ b∈fp,b<s.heap.objs.size)
  (c1:∀ x c,cl.lookup x=some c->(x,NameKind.free)∈scope.names/\X.env.cells.lookup x=some c) (c2:∀ x,(x,NameKind.free)∈scope.names->(cl.lookup x).isSome)
  {h1:Heap}{m1:Aq}{t':Nat}(hC:s.heap.objs.size<C) (old:∀ b o,s.heap.get? b=some o->h1.get? b=some o) (Bw:h1.Ns C m1)
  (hD:h1.get? s.heap.objs.size=some { cls:=.type "list",data:=.seq #[] 0 }):
  Inv (yP X N' scope cl C s H fp) [] (uk pick Y) (upd H s.heap.objs.size (.lst [])) { s with heap:=h1,toks:=t' }:=by
 have Kl:H s.heap.objs.size=none:=I.zp.fresh (Aj _)
 have hCn:H C=none:=I.zp.fresh (BO hC)
 have clt:∀ x c,cl.lookup x=some c->c<s.heap.objs.size:=λ x c e=>by
  obtain⟨v,q⟩:=I.cell x c (c1 x c e).2
  exact q.lt
 refine⟨⟨I.ok.mod,S.kind,I.ok.glob,I.ok.blt,BO hC,λ x y c e1 e2=>I.ok.inj x y c (c1 x c e1).2 (c1 y c e2).2,λ x hx=>?_,λ x c hf _=>absurd (show false=true from hf) BN,I.ok.hd,I.ok.frames,.inl rfl,
  λ b hb=>⟨Ar (C7 (Ao b hb) hC),λ x c e=>(Bo b hb).2.2.2.2.1 x c (c1 x c e).2⟩,I.bs,BA I.ok.t9 I.sz,λ b o e hb=>?_,λ b hb z=>?_,I.stack,I.jO⟩,
  rfl,I.bare,Un.laid old (Aj _) Kl,⟨m1,Bw,λ i x v e1 e2 e3=>?_⟩,λ x c e=>?_,?_,λ x c e=>?_,λ p hp=>absurd (show p∈([]:Ag) from hp) (by simp),I.zp.laid old (Aj _) ?_,?_⟩
 ·exact DG.mp (c2 x (ba S.ay hx))
 ·rcases (Bo b hb).2.2.2.1 with z | z
  ·exact I.ok.qe b o e z
  ·exact absurd (A2 (Al (I.ok.bs b o e).1) z) (B5 _)
 ·rcases Ai.mp (I.jN b z) with q | q
  ·exact (Bo b hb).2.1 q
  ·exact (Bo b hb).2.2.1 q
 ·obtain⟨j,p1,p2⟩:=uk.get e2
  obtain⟨q1,q2⟩:=qW.get S.ok e1 p1
  obtain⟨m0,n0,l0⟩:=I.loc
  have hm:(x,NameKind.free)∈scope.names:=PySem.mem_of_lookup q2
  have hk:X.env.scope.names.lookup x=some .cell\/X.env.scope.names.lookup x=some .free:=S.free _ hm rfl
  obtain⟨u,r,l⟩:=l0 j x v q1 p2 (.inr hk)
  refine⟨u,r,.inr ⟨aK q2,?_⟩⟩
  rcases l with ⟨k,_⟩ | ⟨_,c,e,z⟩
  ·have k':X.env.scope.names.lookup x=some .local:=k
   rcases hk with hk | hk <;> (rw[k'] at hk;cases hk)
  ·obtain⟨c',e'⟩:=DG.mp (c2 x hm)
   have e'':=(c1 x c' e').2
   rw[e] at e'';cases e''
   obtain⟨o,z1,z2⟩:=z
   exact⟨c,e',o,old _ _ z1,z2⟩
 ·obtain⟨v,o,z1,z2⟩:=I.cell x c (c1 x c e).2
  exact⟨v,o,old _ _ z1,z2⟩
 ·show upd H s.heap.objs.size (.lst []) C=none
  rw[zF (BI hC)];exact hCn
 ·show upd H s.heap.objs.size (.lst []) c=none
  rw[zF (Ar (clt x c e))];exact I.vc x c (c1 x c e).2
 ·exact⟨AO _,[],0,.nil,hD⟩
 ·show (uk pick Y).length=N'.length
  unfold uk
  rw[AD];exact S.len
def QZ {Y':St}{H':Hp}{s':Shared}{oC:Obj}(I:Inv X EC Y H s) (Bo:∀ b∈fp,vY X EC H b) (hC:s.heap.objs.size<C)
  (I':Inv (yP X N' scope cl C s H fp) [] Y' H' s') (hoC:s'.heap.get? C=some oC):Inv X (EC++[(C,oC)]) Y H' s':=by
 have J:Inv X EC Y H' s':=I.Yt (ch:=fp) I'.os I'.base I'.zp I'.bare λ b hb=>⟨(Bo b hb).2.2.2.1,(Bo b hb).2.1,(Bo b hb).2.2.2.2.1,(Bo b hb).2.2.2.2.2⟩
 refine J.iV λ p hp=>(A0.mp hp).elim (λ z=>J.pin p (AY _ z)) λ z=>?_
 obtain rfl:p=(C,oC):=AX.mp z
 refine⟨hoC,I'.free,BI (C7 I.lt hC),I.aw (BO hC),λ v hv=>?_⟩
 obtain⟨m,⟨o,es,ep,ho,hd,_⟩,_⟩:=I'.loc
 have FE:s'.heap.get? C=some o:=ho
 rw[hoC] at FE;cases FE
 rw[hd] at hv;cases hv
def Zj {Y':St}{H':Hp}{s':Shared}{oC:Obj}{h':Heap}(I:Inv X EC Y H s) (hC:s.heap.objs.size<C) (J:Inv X (EC++[(C,oC)]) Y' H' s') (hs:Heap.SameBut C s'.heap h'):Inv X EC Y' H' { s' with heap:=h' }:=by
 have J':=J.o7
 have hp:=J.pin (C,oC) (AY _ (AY _ (AX.mpr rfl)))
 have lt:∀ c,c<s.heap.objs.size->c≠C:=λ c h=>Ar (C7 h hC)
 refine J'.turned (t':=s'.toks) (it:=C) (λ b o hb e=>hs.extBut b o hb e) hp.2.1 hp.2.2.1 (.inr (BA I.sz (BO hC))) (λ x c e z=>?_) (λ p hq z=>?_)
 ·obtain⟨v,q⟩:=I.cell x c e
  exact lt c q.lt z
 ·exact lt p.1 (Al (I.pin p hq).1) z
end
section
variable {X:Cx}{N':List Str}{pick:List (Option Nat)}{scope:Scope}{elt iter tg:Expr}{ifs:List Expr}{pos:Pos}{wi:TI}{g:TG}{tc:TT}{te:TE}
def Q6 {EC:Ag}{Y:St}{H:Hp}{s:Shared}{it C:Addr}{fp:List Addr}{tn:Nat->Heap->Prop}{J:It}{cl:List (Str×Addr)}{W:Nat->Nat->St->Hp->Prop}{Q:V->Hp->Prop}{R:Result->Shared->Prop}{D:Addr}
  (hc:X.calm=true) (hg:PG (yP X N' scope cl C s H fp) tg g) (hf:PF (yP X N' scope cl C s H fp) ifs tc) (he:PE (yP X N' scope cl C s H fp) elt te)
  (T:Turn X.prog X.w X.K tg J fp it tn) (Bo:∀ b∈fp,vY X EC H b) (G8:∀ b∈fp,b≠C/\b∉yS X.stack/\∀ x c,cl.lookup x=some c->c≠b)
  (turn:∀ i m Y H,W i m Y H->(J.stop i H/\Q (.ref D) H)\/(J.go i H/\∀ x H',J.qI i H x H'->g x Y H' fun Y2 H2=>tc Y2 H2 λ b H3=>
   if b=true then te Y2 H3 λ y H4=>∃ ys m',H4 D=some (.lst ys)/\ys.length<sizeLine/\m'<m/\W (i+1) m' Y2 (upd H4 D (.lst (ys++[y]))) else ∃ m',m'<m/\W (i+1) m' Y2 H3))
  (fin:∀ Y' H' s',Inv (yP X N' scope cl C s H fp) [] Y' H' s'->Q (.ref D) H'->R (.ok .next) s')
  {m0:Nat}{Y0:St}{H0:Hp}{s0:Shared}(I0:Inv (yP X N' scope cl C s H fp) [] Y0 H0 s0) (t0:tn 0 s0.heap) (f0:∀ b∈fp,H0 b=none) (w0:W 0 m0 Y0 H0):
  codeAny (model X.prog X.w) X.A (.compLoop (.ListComp elt [⟨tg,iter,ifs,0⟩] scope pos) 0 (.ref it) (.ref D) (compEnvC scope cl C X.env)) R s0:=by
 have GA:∀ {H':Hp},(∀ b∈fp,H' b=none)->∀ b∈fp,vY (yP X N' scope cl C s H fp) [] H' b:=λ hn b hb=>⟨hn b hb,(G8 b hb).1,(G8 b hb).2.1,.inl hb,(G8 b hb).2.2,λ p hp=>absurd (show p∈([]:Ag) from hp) (by simp)⟩
 refine codeAny_loop rfl (λ n s'=>∃ i Y' H',Inv (yP X N' scope cl C s H fp) [] Y' H' s'/\tn i s'.heap/\(∀ b∈fp,H' b=none)/\W i n Y' H') (λ n s3 hI=>?_) m0 ⟨0,Y0,H0,I0,t0,f0,w0⟩
 obtain⟨i,Y3,H3,I3,IA,Ji,w3⟩:=hI
 show wpAny _ X.A ((compTurn (.ListComp elt [⟨tg,iter,ifs,0⟩] scope pos) 0 (.ref it) (.ref D) (compEnvC scope cl C X.env)).onRaise (λ x=>do noteFrame x (compEnvC scope cl C X.env);theTreesLotGoes x)) _ _ s3
 refine wpAny_noted ?_
 rw[compTurn_list]
 refine JI (wpAny_standAt (JI ?_))
 rcases turn i n Y3 H3 w3 with ⟨stop,qn⟩ | ⟨go,step⟩
 ·refine zC (T.done (yP X N' scope cl C s H fp) rfl rfl rfl hc i [] s3 Y3 H3 _ I3 (GA Ji) IA stop) λ r s4 ⟨hr,I4⟩=>?_
  subst hr
  exact Ac (fin Y3 H3 s4 I4 qn)
 ·refine zC (T.item (yP X N' scope cl C s H fp) rfl rfl rfl hc i [] s3 Y3 H3 _ I3 (GA Ji) IA go) λ r s4 ⟨u,hr,h4⟩=>?_
  subst hr
  refine JI (zC h4 λ _ s5 ⟨x,H5,I5,r5,y5,HL,Kq⟩=>?_)
  have KA:=I5.pinned (GA Kq) (T.obj _ _ HL)
  refine JI (KG (hg _ s5 Y3 H5 x u _ KA r5 (step x H5 y5)) (λ _ s6 ⟨Y6,H6,I6,q6⟩=>?_) λ _ _ z=>False.elim z)
  refine JI (KG (hf _ s6 Y6 H6 _ I6 q6) (λ ok s7 ⟨H7,I7,q7⟩=>?_) λ _ _ z=>False.elim z)
  have back:∀ {H8:Hp}{s8:Shared},Inv (yP X N' scope cl C s H fp) ([]++oY fp s5.heap) Y6 H8 s8->(∃ m',m'<n/\W (i+1) m' Y6 H8)->∃ m,m<n/\∃ i Y' H',Inv (yP X N' scope cl C s H fp) [] Y' H' s8/\tn i s8.heap/\(∀ b∈fp,H' b=none)/\W i m Y' H':=λ{H8 s8} I8 ⟨m',hm,w8⟩=>by
   refine⟨m',hm,i+1,Y6,H8,I8.o7,T.keep _ _ _ HL λ b hb o e=>(I8.pin (b,o) (AY _ (AY _ (kx hb e)))).1,λ b hb=>?_,w8⟩
   obtain⟨o,e,d⟩:=T.obj _ _ HL b hb
   exact (I8.pin (b,o) (AY _ (AY _ (kx hb e)))).2.1
  cases ok with
  | false=>
   rw[if_neg BN] at q7
   exact Ac ⟨rfl,back I7 q7⟩
  | true=>
   rw[if_pos rfl] at q7
   refine JI (JI (KG (he _ s7 Y6 H7 _ I7 q7) (λ uy s8 ⟨y,H8,I8,r8,ys,m',e8,z8,hm,w8⟩=>?_) λ _ _ z=>False.elim z))
   refine JI (KG (aE (X:=yP X N' scope cl C s H fp) _ s8 Y6 H8 (.ref D) [y] (.ref D) [uy] (λ _ H9=>W (i+1) m' Y6 H9) I8 rfl (.cons r8 .nil) ⟨D,ys,y,rfl,rfl,e8,z8,w8⟩) (λ _ s9 ⟨_,H9,I9,_,q9⟩=>?_) λ _ _ z=>False.elim z)
   exact Ac (Ac ⟨rfl,back I9 ⟨m',hm,q9⟩⟩)
def aU {EC:Ag}{Y:St}{H:Hp}{s:Shared}{it:Addr}{fp:List Addr}{tn:Nat->Heap->Prop}{J:It}{cl:List (Str×Addr)}{Q:V->Hp->Prop}{E:Ae}{RR:Value->Addr->Result->Shared->Prop}
  (S:qH X N' pick scope) (hc:X.calm=true) (hg:∀ cl C s H fp,PG (yP X N' scope cl C s H fp) tg g) (hf:∀ cl C s H fp,PF (yP X N' scope cl C s H fp) ifs tc) (he:∀ cl C s H fp,PE (yP X N' scope cl C s H fp) elt te)
  (c1:∀ x c,cl.lookup x=some c->(x,NameKind.free)∈scope.names/\X.env.cells.lookup x=some c) (c2:∀ x,(x,NameKind.free)∈scope.names->(cl.lookup x).isSome)
  (I:Inv X EC Y H s) (T:Turn X.prog X.w X.K tg J fp it tn) (t0:tn 0 s.heap) (Bo:∀ b∈fp,vY X EC H b)
  (rd:∀ D,H D=none->∃ W:Nat->Nat->St->Hp->Prop,(∃ m,W 0 m (uk pick Y) (upd H D (.lst [])))/\
   ∀ i m Y H,W i m Y H->(J.stop i H/\Q (.ref D) H)\/(J.go i H/\∀ x H',J.qI i H x H'->g x Y H' fun Y2 H2=>tc Y2 H2 λ b H3=>
    if b=true then te Y2 H3 λ y H4=>∃ ys m',H4 D=some (.lst ys)/\ys.length<sizeLine/\m'<m/\W (i+1) m' Y2 (upd H4 D (.lst (ys++[y]))) else ∃ m',m'<m/\W (i+1) m' Y2 H3))
  (fin:∀ C D oC H' s',s.heap.objs.size<C->Inv X (EC++[(C,oC)]) Y H' s'->s'.heap.get? C=some oC->(∃ m,s'.heap.Ns C m)->Q (.ref D) H'->RR (.ref D) C (.ok .next) s'):
  wpAny (model X.prog X.w) X.A (newList []) (λ acc s₃=>wpAny (model X.prog X.w) X.A (newFunctionEnv scope X.env.globals cl [] X.env.qual none .none (some X.env)) (λ Jl s₄=>
   codeAny (model X.prog X.w) X.A (.compStart (.ListComp elt [⟨tg,iter,ifs,0⟩] scope pos) 0 (.ref it) acc { Jl with scope:=relabel scope X.env }) (RR acc Jl.locals) s₄) E s₃) E s:=by
 refine KY (wpAny_newFunctionEnv S.ay (by intro y hy;simp at hy) (λ h₁ HY Hm=>?_) S.kind)
 dsimp only at HY Hm ⊢
 generalize Kk:s.heap.push { cls:=.type "list",dict:=none,data:=.seq ([]:Ad).toArray }=H2 at HY Hm ⊢
 have hC:H2.objs.size=s.heap.objs.size+1:=by rw[<- Kk,Heap.size_push]
 have Ao:s.heap.objs.size<H2.objs.size:=by rw[hC];exact Cj _
 have old:∀ b o,s.heap.get? b=some o->h₁.get? b=some o:=λ b o e=>Hm.extBut b o (Ar (C7 (Al e) Ao)) (KC _ (Kk▸KC _ e))
 have AU:h₁.get? s.heap.objs.size=some { cls:=.type "list",data:=.seq #[] 0 }:=Hm.extBut _ _ (Ar Ao) (KC _ (Kk▸AF _ rfl))
 have Dl:∀ b∈fp,b<s.heap.objs.size:=λ b hb=>by
  obtain⟨o,e,_⟩:=T.obj _ _ t0 b hb
  exact Al e
 have Kl:H s.heap.objs.size=none:=I.zp.fresh (Aj _)
 obtain⟨W,⟨m0,w0⟩,turn⟩:=rd s.heap.objs.size Kl
 have I0:=Pb (t':=s.toks+([]:List (Str×Value)).length) S I Bo Dl c1 c2 Ao old HY AU
 have t1:tn 0 h₁:=T.keep _ _ _ t0 λ b _ o e=>old b o e
 have AJ:∀ b∈fp,b≠H2.objs.size/\b∉yS X.stack/\∀ x c,cl.lookup x=some c->c≠b:=λ b hb=>I0.ok.nN b hb |> λ q=>⟨q.1,I0.ok.qo b hb,q.2⟩
 have loop:codeAny (model X.prog X.w) X.A (.compLoop (.ListComp elt [⟨tg,iter,ifs,0⟩] scope pos) 0 (.ref it) (.ref s.heap.objs.size) (compEnvC scope cl H2.objs.size X.env)) (RR (.ref s.heap.objs.size) H2.objs.size) { s with heap:=h₁,toks:=s.toks+([]:List (Str×Value)).length }:=by
  refine Q6 (Y:=Y) hc (hg _ _ _ _ _) (hf _ _ _ _ _) (he _ _ _ _ _) T Bo AJ turn (fun Y' H' s' I' q=>?_) I0 t1 (λ b hb=>?_) w0
  ·obtain⟨m,hn,_⟩:=I'.loc
   have Gk:s'.heap.Ns H2.objs.size m:=hn
   obtain⟨oC,es,ep,ho,hr⟩:=id Gk
   exact fin _ _ oC H' s' Ao (QZ I Bo Ao I' ho) ho ⟨m,Gk⟩ q
  ·show upd H s.heap.objs.size (.lst []) b=none
   rw[zF (Ar (Dl b hb))]
   exact (Bo b hb).1
 exact codeAny_compStart_list loop (T.self _ 0 _ _ _ t1 loop)
def Uv (S:qH X N' pick scope) (hc:X.calm=true) (hi:PI X tg iter wi) (hg:∀ cl C s H fp,PG (yP X N' scope cl C s H fp) tg g) (hf:∀ cl C s H fp,PF (yP X N' scope cl C s H fp) ifs tc) (he:∀ cl C s H fp,PE (yP X N' scope cl C s H fp) elt te)
  (hs:∀ x,foldedSetIterable iter X.env x=pure x:=by intro _;rfl):PE X (.ListComp elt [⟨tg,iter,ifs,0⟩] scope pos) (jK pick wi g tc te):=by
 intro EC s Y H Q I h
 obtain⟨cl,Hb,c1,c2⟩:=Yo (scope:=scope) (env:=X.env) λ y hy hk=>I.ok.has y.1 (S.free y hy hk)
 rw[eval_ListComp]
 refine wpAny_comprehension_free (use:=none) rfl hs Hb S.kind S.names (zC (hi EC s Y H _ I h) λ v s1 h1=>zC h1 λ Jw s2 h2=>?_)
 obtain⟨it,fp,tn,J,H2,e,I2,T,IB,f2,rd⟩:=h2
 subst e
 refine aU (RR:=λ acc C=>compPost (model X.prog X.w) X.A X.xe none (EP X EC Y Q) acc C) S hc hg hf he c1 c2 I2 T IB f2 rd λ C D oC H' s' hC J' ho hn q=>?_
 obtain⟨m,hn⟩:=hn
 exact⟨m,hn,λ h' GZ=>⟨.ref D,H',Zj I2 hC J' GZ,rfl,q⟩⟩
def VM {i:Nat}{y:Str}{py BQ:Pos}(S:qH X N' pick scope) (hc:X.calm=true) (hi:PI X tg iter wi) (hg:∀ cl C s H fp,PG (yP X N' scope cl C s H fp) tg g) (hf:∀ cl C s H fp,PF (yP X N' scope cl C s H fp) ifs tc) (he:∀ cl C s H fp,PE (yP X N' scope cl C s H fp) elt te)
  (hN:X.N.Nodup) (hy:X.N[i]?=some y) (hx:Loc X.env.scope y)
  (BS:swapsWith (.ListComp elt [⟨tg,iter,ifs,0⟩] scope pos) (some (.Name y py)) BQ.line X.env=pure true:=by rfl)
  (Cb:X.fn y=true\/X.env.scope.names.lookup y=some .local:=by first | exact .inl rfl | exact .inr rfl | assumption)
  (hs:∀ x,foldedSetIterable iter X.env x=pure x:=by intro _;rfl):PS X (.Assign [.Name y py] (.ListComp elt [⟨tg,iter,ifs,0⟩] scope pos) BQ) (lF (jK pick wi g tc te) (pK i)):=by
 intro EC s Y H Q I h
 obtain⟨cl,Hb,c1,c2⟩:=Yo (scope:=scope) (env:=X.env) λ y hy hk=>I.ok.has y.1 (S.free y hy hk)
 rw[exec_Assign_Name_used _ _ _ _ BS]
 refine JI (wpAny_standAt (JI ?_))
 show wpAny _ X.A (do let _ <- comprehension (.ListComp elt [⟨tg,iter,ifs,0⟩] scope pos) scope X.env _ (newList []) false (eval iter X.env) (some (assign (.Name y py) X.env))) _ _ s
 refine JI (KG (wpAny_comprehension_free (use:=some (assign (.Name y py) X.env)) (Q:=λ _ s'=>SP X EC Q .next s') rfl hs Hb S.kind S.names
  (zC (hi EC s Y H _ I h) λ v s1 h1=>zC h1 λ Jw s2 h2=>?_)) (λ _ s' hq=>Ac (Ac hq)) λ _ _ e=>e)
 obtain⟨it,fp,tn,J,H2,e,I2,T,IB,f2,rd⟩:=h2
 subst e
 refine aU (Q:=λ x H1=>pK i x Y H1 Q.nx) (RR:=λ acc C=>compPost (model X.prog X.w) X.A X.xe (some (assign (.Name y py) X.env)) (λ _ s'=>SP X EC Q .next s') acc C) S hc hg hf he c1 c2 I2 T IB f2 rd λ C D oC H' s' hC J' ho hn q=>?_
 show wpAny _ X.A (assign (.Name y py) X.env (.ref D)) _ _ _
 refine wpAny_assign_Name (lG J' hN hy hx (v:=.ref D) rfl (λ s3 J3=>?_) Cb)
 have hp:=(J3.pin (C,oC) (AY _ (AY _ (AX.mpr rfl)))).1
 obtain⟨m,o,es,ep,FE,hr⟩:=hn
 have:o=oC:=A5 (FE.symm.trans ho)
 subst this
 exact⟨m,⟨o,es,ep,hp,hr⟩,λ h' GZ=>⟨_,H',Zj I2 hC J3 GZ,q⟩⟩
end
end L2
namespace L3
open PySem PySem.Spec L2
open PyProof.Rows hiding St
inductive D where
 | zk | bl (b:Bool) | int (i:Int) | str (x:Str) | tup (ds:List D) | xP (ds:List D) | ref (a:Addr) | err (c f:Str) (d:D)
def pV (K:Ab) (H:Hp) (a:Addr) (xs:List V):Prop:=
 (∃ o,H a=some (.wa o (.lst xs)))\/
  ∃ (o:Obj) (its:Av) (n:Nat),K.lookup a=some o/\o.cls=.type "list"/\o.dict=none/\o.data=.seq its n/\its.size<=sizeLine/\Vals xs its.toList
def pV.sq {K:Ab}{H:Hp}{a:Addr}{xs:List V}(h:pV K H a xs):zO K H a xs:=by
 rcases h with h | h
 ·exact .inl (.inr h)
 ·exact .inr h
abbrev vQ:List Value:=[.type "ValueError",.type "Exception",.type "BaseException",.type "object"]
abbrev sX:List Str:=["__getattribute__","__getattr__","__class__","__setattr__","place","pair","way","times","told","name","row"]
def rD (K:Ab) (c:Str) (C:Addr) (bm:Ad) (N:Addr):Prop:=
 (∃ (q:Str) (bs:Ad) (sn:List Str) (sub:Ad) (ab:Bool) (col:Option Bool) (dd:Option Addr) (k0 k1 k2 k3 k5:Option Value),K.lookup C=some (excClassObj c q C N bs bm true sn sub ab col dd k0 k1 k2 k3 k5 "ValueError.__new__"))/\
 PySem.W.nsOkIn K N=true/\∀ n∈sX,PySem.W.nsIn K N n=some none
structure rM (K:Ab) (c:Str) (C P N NP:Addr):Prop where
 own:rD K c C (.ref P::vQ) N
 par:rD K "PurseError" P vQ NP
 top:PySem.W.nsIn K mainGlobals c=some (some (.ref C))
 b6:PySem.W.nsIn K mainGlobals "PurseError"=some (some (.ref P))
 VW:PySem.W.nsIn K NP "__init__"=some none
def vZ (K:Ab) (c:Str) (C:Addr):Prop:=∃ P N NP,rM K c C P N NP
noncomputable def ownIn (K:Ab) (c:Str) (C:Addr) (bm:Ad):Option Addr:=match K.lookup C with
 | some ⟨.type "type",_,.cls cd,sl⟩=>(match cd.mro,sl.toList with
  | .ref C'::Hs,[_,_,_,_,some (.builtin n),_]=>if C' == C&&n == "ValueError.__new__"&&!cd.hasDel&&Hs == bm&&cd.hasDict&&cd.name == c&&PySem.W.nsOkIn K cd.ns&&sX.all (λ n=>PySem.W.nsIn K cd.ns n == some none) then some cd.ns else none
  | _,_=>none)
 | _=>none
def bZ {K:Ab}{c:Str}{C N:Addr}{bm:Ad}(h:ownIn K c C bm=some N):rD K c C bm N:=by
 unfold ownIn at h
 split at h
 ·rename_i dd cd sl ho
  split at h
  ·rename_i C' Hs k0 k1 k2 k3 n k5 hm hs
   split at h
   ·rename_i hc
    cases h
    simp only[Bi,beq_iff_eq,DX,Bj] at hc
    obtain⟨⟨⟨⟨⟨⟨⟨rfl,rfl⟩,Dp⟩,rfl⟩,hhd⟩,rfl⟩,zp⟩,hn⟩:=hc
    obtain⟨nm,bs,mro,ns,qn,hd,sn,sub,ab,col,del⟩:=cd
    dsimp only at hm Dp zp hn hhd
    subst hm Dp hhd
    have Be:sl=#[k0,k1,k2,k3,some (.builtin "ValueError.__new__"),k5]:=by
     obtain⟨l⟩:=sl
     simp only at hs
     rw[hs]
    subst Be
    exact⟨⟨qn,bs,sn,sub,ab,col,dd,k0,k1,k2,k3,k5,ho⟩,zp,hn⟩
   ·cases h
  ·cases h
 ·cases h
def kO (K:Ab) (c:Str):Option (Addr×Addr×Addr×Addr):=match PySem.W.nsIn K mainGlobals c,PySem.W.nsIn K mainGlobals "PurseError" with
 | some (some (.ref C)),some (some (.ref P))=>(match ownIn K c C (.ref P::vQ),ownIn K "PurseError" P vQ with
  | some N,some NP=>if PySem.W.nsIn K NP "__init__" == some none then some (C,P,N,NP) else none
  | _,_=>none)
 | _,_=>none
def ZH {K:Ab}{c:Str}{C P N NP:Addr}(h:kO K c=some (C,P,N,NP)):rM K c C P N NP:=by
 unfold kO at h
 split at h
 ·rename_i h1 h2
  split at h
  ·rename_i h3 h4
   split at h
   ·rename_i h5
    cases h
    exact⟨bZ h3,bZ h4,h1,h2,beq_iff_eq.mp h5⟩
   ·cases h
  ·cases h
 ·cases h
noncomputable def wD (e C dx:Addr):HO:=.ext λ h=>∃ oe vs,h.get? e=some oe/\oe.cls=.ref C/\oe.dict=some dx/\oe.data=.fields vs
mutual
noncomputable def zh (K:Ab) (H:Hp):D->V->Prop
 | .zk,v=>v=.zk
 | .bl b,v=>v=.bl b
 | .int i,v=>v=.int i
 | .str x,v=>v=.str x
 | .tup ds,v=>∃ a xs,v=.ref a/\zX K H a xs/\zo K H ds xs
 | .xP ds,v=>∃ a xs,v=.ref a/\pV K H a xs/\zo K H ds xs
 | .ref a,v=>v=.ref a
 | .err c f d,v=>∃ e C dx w,v=.ref e/\(vZ K c C/\H e=some (wD e C dx)/\H dx=some (.xd [(f,w)]))/\zh K H d w
noncomputable def zo (K:Ab) (H:Hp):List D->List V->Prop
 | [],xs=>xs=[]
 | d::ds,xs=>∃ x r,xs=x::r/\zh K H d x/\zo K H ds r
end
structure Ext (H H':Hp):Prop where
 tup:∀ b xs,H b=some (.tup xs)->H' b=some (.tup xs)
 wa:∀ b o u,H b=some (.wa o u)->H' b=some (.wa o u)
 ext:∀ b φ,H b=some (.ext φ)->H' b=some (.ext φ)
 xd:∀ b fs,H b=some (.xd fs)->H' b=some (.xd fs)
def Ext.refl (H:Hp):Ext H H:=⟨λ _ _ h=>h,λ _ _ _ h=>h,λ _ _ h=>h,λ _ _ h=>h⟩
def Ext.trans {H H1 H2:Hp}(a:Ext H H1) (b:Ext H1 H2):Ext H H2:=⟨λ c xs h=>b.tup c xs (a.tup c xs h),λ c o u h=>b.wa c o u (a.wa c o u h),λ c u h=>b.ext c u (a.ext c u h),λ c u h=>b.xd c u (a.xd c u h)⟩
def Ext.new {H:Hp}{p:Addr}(h:H p=none) (o:HO):Ext H (upd H p o):=
 ⟨λ b xs q=>by rw[zF (xC q h)];exact q,λ b ob u q=>by rw[zF (xC q h)];exact q,λ b u q=>by rw[zF (xC q h)];exact q,λ b u q=>by rw[zF (xC q h)];exact q⟩
theorem Ext.lst {H:Hp}{p:Addr}{xs:List V}(h:H p=some (.lst xs)) (o:HO):Ext H (upd H p o):=
 ⟨λ b ys q=>by rw[zF (uo q h (by intro z;cases z))];exact q,λ b ob u q=>by rw[zF (uo q h (by intro z;cases z))];exact q,λ b u q=>by rw[zF (uo q h (by intro z;cases z))];exact q,λ b u q=>by rw[zF (uo q h (by intro z;cases z))];exact q⟩
def Ext.lI {K:Ab}{H H':Hp}{a:Addr}{xs:List V}(e:Ext H H') (h:zX K H a xs):zX K H' a xs:=by
 rcases h with (h | ⟨o,h⟩) | h
 ·exact .inl (.inl (e.tup _ _ h))
 ·exact .inl (.inr ⟨o,e.wa _ _ _ h⟩)
 ·exact .inr h
def Ext.lJ {K:Ab}{H H':Hp}{a:Addr}{xs:List V}(e:Ext H H') (h:pV K H a xs):pV K H' a xs:=by
 rcases h with ⟨o,h⟩ | h
 ·exact .inl ⟨o,e.wa _ _ _ h⟩
 ·exact .inr h
section
variable {K:Ab}{H H':Hp}
mutual
theorem zh.ext (e:Ext H H'):∀ (d:D) {v:V},zh K H d v->zh K H' d v
 | .zk,v,h=>by simpa only [zh] using h
 | .bl b,v,h=>by simpa only [zh] using h
 | .int i,v,h=>by simpa only [zh] using h
 | .str x,v,h=>by simpa only [zh] using h
 | .ref a,v,h=>by simpa only [zh] using h
 | .err c f d,v,h=>by
  simp only[zh] at h ⊢
  obtain⟨a,C,dx,w,h1,⟨h2,h3,h4⟩,h5⟩:=h
  exact⟨a,C,dx,w,h1,⟨h2,e.ext _ _ h3,e.xd _ _ h4⟩,zh.ext e d h5⟩
 | .tup ds,v,h=>by
  simp only[zh] at h ⊢
  obtain⟨a,xs,h1,h2,h3⟩:=h
  exact⟨a,xs,h1,e.lI h2,zo.ext e ds h3⟩
 | .xP ds,v,h=>by
  simp only[zh] at h ⊢
  obtain⟨a,xs,h1,h2,h3⟩:=h
  exact⟨a,xs,h1,e.lJ h2,zo.ext e ds h3⟩
theorem zo.ext (e:Ext H H'):∀ (ds:List D) {xs:List V},zo K H ds xs->zo K H' ds xs
 | [],xs,h=>by simpa only [zo] using h
 | d::ds,xs,h=>by
  simp only[zo] at h ⊢
  obtain⟨x,r,h1,h2,h3⟩:=h
  exact⟨x,r,h1,zh.ext e d h2,zo.ext e ds h3⟩
end
theorem zo.length:∀ {ds:List D}{xs:List V},zo K H ds xs->ds.length=xs.length
 | [],xs,h=>by simp only[zo] at h;subst h;rfl
 | d::ds,xs,h=>by
  simp only[zo] at h
  obtain⟨x,r,h1,_,h3⟩:=h
  subst h1
  simp[zo.length h3]
theorem zo.get:∀ {ds:List D}{xs:List V}{i:Nat}{d:D},zo K H ds xs->ds[i]?=some d->∃ x,xs[i]?=some x/\zh K H d x
 | [],_,i,d,_,e=>by simp at e
 | c::ds,xs,i,d,h,e=>by
  simp only[zo] at h
  obtain⟨x,r,h1,h2,h3⟩:=h
  subst h1
  cases i with
  | zero=>simp at e;subst e;exact⟨x,rfl,h2⟩
  | succ i=>
   obtain⟨y,e1,e2⟩:=zo.get (i:=i) h3 (by simpa using e)
   exact⟨y,by simpa using e1,e2⟩
theorem zo.append:∀ {ds es:List D}{xs ys:List V},zo K H ds xs->zo K H es ys->zo K H (ds++es) (xs++ys)
 | [],es,xs,ys,h,h'=>by simp only[zo] at h;subst h;simpa using h'
 | d::ds,es,xs,ys,h,h'=>by
  simp only[zo] at h
  obtain⟨x,r,h1,h2,h3⟩:=h
  subst h1
  show zo K H (d::(ds++es)) (x::(r++ys))
  simp only[zo]
  exact⟨x,r++ys,rfl,h2,zo.append h3 h'⟩
def zo.nil:zo K H [] []:=by simp only[zo]
def zo.cons {d:D}{ds:List D}{x:V}{xs:List V}(h:zh K H d x) (h':zo K H ds xs):zo K H (d::ds) (x::xs):=by
 simp only[zo];exact⟨x,xs,rfl,h,h'⟩
def zo.snoc {d:D}{ds:List D}{x:V}{xs:List V}(h':zo K H ds xs) (h:zh K H d x):zo K H (ds++[d]) (xs++[x]):=h'.append (.cons h .nil)
theorem zo.ints:∀ {ns:List Int}{xs:List V},zo K H (ns.map D.int) xs->xs=ns.map V.int
 | [],xs,h=>by simpa only [A9,zo] using h
 | n::ns,xs,h=>by
  rw[Au] at h
  simp only[zo,zh] at h
  obtain⟨x,r,h1,h2,h3⟩:=h
  subst h1 h2
  rw[Au,zo.ints h3]
theorem zo.gj:∀ (ns:List Int),zo K H (ns.map D.int) (ns.map V.int)
 | []=>.nil
 | n::ns=>.cons (by simp only[zh]) (zo.gj ns)
theorem zo.bools:∀ {ns:List Bool}{xs:List V},zo K H (ns.map D.bl) xs->xs=ns.map V.bl
 | [],xs,h=>by simpa only [A9,zo] using h
 | n::ns,xs,h=>by
  rw[Au] at h
  simp only[zo,zh] at h
  obtain⟨x,r,h1,h2,h3⟩:=h
  subst h1 h2
  rw[Au,zo.bools h3]
end
inductive O where
 | lst (ds:List D)
 | zH (Aa:List (Key×D))
abbrev SS:=Addr->Option O
def yZ (K:Ab) (H:Hp):List (Key×D)->List (Key×V)->Prop:=Paired λ p q=>p.1=q.1/\zh K H p.2 q.2
noncomputable def q8 (K:Ab) (H:Hp) (a:Addr):O->Prop
 | .lst ds=>∃ xs,H a=some (.lst xs)/\zo K H ds xs
 | .zH Aa=>∃ vs,H a=some (.dK vs)/\yZ K H Aa vs
def zE (K:Ab) (H:Hp) (S:SS):Prop:=∀ a o,S a=some o->q8 K H a o
noncomputable def ups (S:SS) (a:Addr) (o:O):SS:=λ b=>if b=a then some o else S b
def sN {S:SS}{a:Addr}{o:O}:ups S a o a=some o:=by unfold ups;rw[if_pos rfl]
def tL {S:SS}{a b:Addr}{o:O}(h:b≠a):ups S a o b=S b:=by unfold ups;rw[if_neg h]
def Sx (S S':SS):Prop:=∀ b o,S b=some o->S' b=some o
def Sx.refl (S:SS):Sx S S:=λ _ _ h=>h
def Sx.trans {S S1 S2:SS}(a:Sx S S1) (b:Sx S1 S2):Sx S S2:=λ c o h=>b c o (a c o h)
def Sx.new {S:SS}{p:Addr}(h:S p=none) (o:O):Sx S (ups S p o):=λ b u q=>by
 rw[tL (by intro z;subst z;rw[h] at q;cases q)];exact q
theorem Sx.none {S S':SS}(e:Sx S S') {p:Addr}(h:S' p=Option.none):S p=Option.none:=by
 cases q:S p with
 | none=>rfl
 | some o=>rw[e p o q] at h;cases h
section
variable {K:Ab}{H H':Hp}{S:SS}
def q8.has {a:Addr}{o:O}(h:q8 K H a o):H a≠none:=by
 cases o with
 | lst ds=>obtain⟨xs,h,_⟩:=h;rw[h];simp
 | zH Aa=>obtain⟨xs,h,_⟩:=h;rw[h];simp
theorem zE.none (r:zE K H S) {p:Addr}(h:H p=Option.none):S p=Option.none:=by
 cases q:S p with
 | none=>rfl
 | some o=>exact absurd h (r p o q).has
theorem yZ.ext (e:Ext H H') {Aa:List (Key×D)}{vs:List (Key×V)}(h:yZ K H Aa vs):yZ K H' Aa vs:=
 Paired.kz h λ p q z=>⟨z.1,zh.ext e p.2 z.2⟩
def q8.keep {a:Addr}{o:O}(e:Ext H H') (k:∀ u,H a=some u->H' a=some u) (h:q8 K H a o):q8 K H' a o:=by
 cases o with
 | lst ds=>obtain⟨xs,h1,h2⟩:=h;exact⟨xs,k _ h1,zo.ext e ds h2⟩
 | zH Aa=>obtain⟨xs,h1,h2⟩:=h;exact⟨xs,k _ h1,h2.ext e⟩
theorem zE.keep (e:Ext H H') (k:∀ a u o,S a=some o->H a=some u->H' a=some u) (r:zE K H S):zE K H' S:=λ a o h=>(r a o h).keep e λ u q=>k a u o h q
def zE.same (e:mG H H') (r:zE K H S):zE K H' S:=r.keep ⟨λ b xs q=>e _ _ q,λ b o u q=>e _ _ q,λ b u q=>e _ _ q,λ b u q=>e _ _ q⟩ λ a u _ _ q=>e a u q
theorem zE.new {p:Addr}{u:HO}(hp:H p=Option.none) (r:zE K H S):zE K (upd H p u) S:=
 r.keep (Ext.new hp u) λ a v o _ q=>by rw[zF (xC q hp)];exact q
theorem zE.ups {p:Addr}{u:HO}{o:O}(e:Ext H (upd H p u)) (hn:q8 K (upd H p u) p o) (r:zE K H S):zE K (upd H p u) (ups S p o):=λ a o' h=>by
 by_cases ha:a=p
 ·subst ha;rw[sN] at h;cases h;exact hn
 ·rw[tL ha] at h
  exact (r a o' h).keep e λ v q=>by rw[zF ha];exact q
end
abbrev yc:=List (Option D)
def yx (K:Ab) (H:Hp) (L:yc) (Y:St):Prop:=L.length=Y.length/\∀ (i:Nat) (d:D),L[i]?=some (some d)->∃ v,Y[i]?=some (some v)/\zh K H d v
theorem yx.ext {K:Ab}{H H':Hp}{L:yc}{Y:St}(e:Ext H H') (r:yx K H L Y):yx K H' L Y:=⟨r.1,λ i d h=>by
 obtain⟨v,h1,h2⟩:=r.2 i d h
 exact⟨v,h1,zh.ext e d h2⟩⟩
theorem yx.set {K:Ab}{H:Hp}{L:yc}{Y:St}(i:Nat) {d:D}{v:V}(r:yx K H L Y) (h:zh K H d v):yx K H (L.set i (some d)) (Y.set i (some v)):=by
 refine⟨by rw[CO,CO];exact r.1,λ j c hc=>?_⟩
 rw[CM] at hc ⊢
 by_cases hj:i=j
 ·subst hj
  rw[if_pos rfl] at hc ⊢
  by_cases hl:i < L.length
  ·rw[if_pos hl] at hc
   rw[if_pos (by rw[<- r.1];exact hl)]
   cases hc
   exact⟨v,rfl,h⟩
  ·rw[if_neg hl] at hc;cases hc
 ·rw[if_neg hj] at hc ⊢
  exact r.2 j c hc
abbrev DK:=D->SS->Prop
abbrev zu:=yc->SS->DK->Prop
abbrev yC:=yc->SS->(Bool->SS->Prop)->Prop
abbrev yk:=yc->SS->(List D->SS->Prop)->Prop
def yn (t:zu):Prop:=∀ L S (Q Q':DK),(∀ d S',Q d S'->Q' d S')->t L S Q->t L S Q'
def wU (t:yC):Prop:=∀ L S (Q Q':Bool->SS->Prop),(∀ d S',Q d S'->Q' d S')->t L S Q->t L S Q'
def sF (t:yk):Prop:=∀ L S (Q Q':List D->SS->Prop),(∀ d S',Q d S'->Q' d S')->t L S Q->t L S Q'
def wb (K:Ab) (H:Hp) (Q:VK):DK:=λ d S'=>∀ v H',zh K H' d v->Ext H H'->zE K H' S'->Q v H'
def nU (K:Ab) (H:Hp) (Q:Bool->Hp->Prop):Bool->SS->Prop:=λ b S'=>∀ H',Ext H H'->zE K H' S'->Q b H'
def O7 (K:Ab) (H:Hp) (Q:List V->Hp->Prop):List D->SS->Prop:=λ ds S'=>∀ vs H',zo K H' ds vs->Ext H H'->zE K H' S'->Q vs H'
def xM (K:Ab) (H:Hp) (Q:St->Hp->Prop):yc->SS->Prop:=fun L S'=>∀ Y H',yx K H' L Y->Ext H H'->zE K H' S'->Q Y H'
def wb.ext {K:Ab}{H H':Hp}{Q:VK}(e:Ext H H') {d:D}{S:SS}(h:wb K H Q d S):wb K H' Q d S:=λ v H2 r x q=>h v H2 r (e.trans x) q
def nU.ext {K:Ab}{H H':Hp}{Q:Bool->Hp->Prop}(e:Ext H H') {d:Bool}{S:SS}(h:nU K H Q d S):nU K H' Q d S:=λ H2 x q=>h H2 (e.trans x) q
def xM.ext {K:Ab}{H H':Hp}{Q:St->Hp->Prop}(e:Ext H H') {d:yc}{S:SS}(h:xM K H Q d S):xM K H' Q d S:=λ v H2 r x q=>h v H2 r (e.trans x) q
def zK (K:Ab) (t:zu):TE:=fun Y H Q=>∃ L S,yx K H L Y/\zE K H S/\t L S (wb K H Q)
def xW (K:Ab) (t:yC):TT:=fun Y H Q=>∃ L S,yx K H L Y/\zE K H S/\t L S (nU K H Q)
def wu (K:Ab) (t:yk):TA:=fun Y H Q=>∃ L S,yx K H L Y/\zE K H S/\t L S (O7 K H Q)
structure PD (X:Cx) (e:Expr) (t:zu):Prop where
 mo:yn t
 pe:PE X e (zK X.K t)
structure xu (X:Cx) (e:Expr) (t:yC):Prop where
 mo:wU t
 pt:PT X e (xW X.K t)
structure xi (X:Cx) (es:List Expr) (t:yk):Prop where
 mo:sF t
 pa:PA X es (wu X.K t)
def PE.imp {X:Cx}{e:Expr}{t t':TE}(h:PE X e t) (hi:∀ Y H Q,t' Y H Q->t Y H Q):PE X e t':=λ EC s Y H Q I q=>h EC s Y H Q I (hi Y H Q q)
def PT.imp {X:Cx}{e:Expr}{t t':TT}(h:PT X e t) (hi:∀ Y H Q,t' Y H Q->t Y H Q):PT X e t':=λ EC s Y H Q I q=>h EC s Y H Q I (hi Y H Q q)
def PA.imp {X:Cx}{e:List Expr}{t t':TA}(h:PA X e t) (hi:∀ Y H Q,t' Y H Q->t Y H Q):PA X e t':=λ pos EC s Y H Q I q=>h pos EC s Y H Q I (hi Y H Q q)
def PS.imp {X:Cx}{e:Stmt}{t t':TS}(h:PS X e t) (hi:∀ D Y H,t' D Y H->t D Y H):PS X e t':=λ EC s Y H Q I q=>h EC s Y H Q I (hi Q Y H q)
def xV.imp {X:Cx}{e:List Stmt}{t t':TS}(h:xV X e t) (hi:∀ D Y H,t' D Y H->t D Y H):xV X e t':=λ EC s Y H Q I q=>h EC s Y H Q I (hi Q Y H q)
section
variable {X:Cx}{K:Ab}
def zK.go {t:zu}{Y:St}{H:Hp}{Q:VK}{L:yc}{S:SS}{R:DK}(mo:yn t) (r1:yx K H L Y) (r2:zE K H S) (h:t L S R) (k:∀ d S' v H',R d S'->zh K H' d v->Ext H H'->zE K H' S'->Q v H'):zK K t Y H Q:=
 ⟨L,S,r1,r2,mo L S _ _ (λ d S' q v H' a b c=>k d S' v H' q a b c) h⟩
def xW.go {t:yC}{Y:St}{H:Hp}{Q:Bool->Hp->Prop}{L:yc}{S:SS}{R:Bool->SS->Prop}(mo:wU t) (r1:yx K H L Y) (r2:zE K H S) (h:t L S R) (k:∀ d S' H',R d S'->Ext H H'->zE K H' S'->Q d H'):xW K t Y H Q:=
 ⟨L,S,r1,r2,mo L S _ _ (λ d S' q H' b c=>k d S' H' q b c) h⟩
def wu.go {t:yk}{Y:St}{H:Hp}{Q:List V->Hp->Prop}{L:yc}{S:SS}{R:List D->SS->Prop}(mo:sF t) (r1:yx K H L Y) (r2:zE K H S) (h:t L S R) (k:∀ d S' v H',R d S'->zo K H' d v->Ext H H'->zE K H' S'->Q v H'):wu K t Y H Q:=
 ⟨L,S,r1,r2,mo L S _ _ (λ d S' q v H' a b c=>k d S' v H' q a b c) h⟩
def yt (i:Nat):zu:=fun L S Q=>match L[i]? with
 | some (some d)=>Q d S
 | _=>False
def dC (d:D):zu:=λ _ S Q=>Q d S
def UL (i:Nat) {x:Str}{pos:Pos}(h:PE X (.Name x pos) (o8 i)):PD X (.Name x pos) (yt i):=by
 refine⟨fun L S Q Q' hq h=>?_,PE.imp h fun Y H Q hu=>?_⟩
 ·unfold yt at h ⊢
  split at h
  ·exact hq _ _ h
  ·exact h
 ·obtain⟨L,S,r1,r2,h⟩:=hu
  unfold yt at h
  split at h
  ·rename_i d e
   obtain⟨v,h1,h2⟩:=r1.2 i d e
   exact⟨v,h1,h v H h2 (Ext.refl H) r2⟩
  ·exact h.elim
def dC.mo (d:D):yn (dC d):=λ _ _ _ _ hq h=>hq _ _ h
def nk {e:Expr}{d:D}{v:V}(h:PE X e (tC v)) (r:∀ H,zh X.K H d v):PD X e (dC d):=
 ⟨dC.mo d,PE.imp h λ _ H _ ⟨_,_,_,r2,h⟩=>h v H (r H) (Ext.refl H) r2⟩
def zg {i j pos}:PD X (.Constant (.int i) j pos) (dC (.int i)):=nk Ux λ _=>by simp only[zh]
def u_ {i j pos}:PD X (.Constant (.bool i) j pos) (dC (.bl i)):=nk U6 λ _=>by simp only[zh]
def v7 {j pos}:PD X (.Constant .none j pos) (dC .zk):=nk Ut λ _=>by simp only[zh]
def ph {x j pos}:PD X (.Constant (.str x) j pos) (dC (.str x)):=nk Uo λ _=>by simp only[zh]
abbrev yG:=D->D->SS->DK->Prop
def xx (f:yG):Prop:=∀ x y S (Q Q':DK),(∀ d S',Q d S'->Q' d S')->f x y S Q->f x y S Q'
def xj (K:Ab) (f:yG) (r:R2):Prop:=∀ x y d e H S Q,zh K H d x->zh K H e y->zE K H S->f d e S (wb K H Q)->r x y H Q
def yw (f:yG) (ta tb:zu):zu:=fun L S Q=>ta L S λ x S1=>tb L S1 λ y S2=>f x y S2 Q
def yw.mo {f:yG}{ta tb:zu}(hf:xx f) (ha:yn ta) (hb:yn tb):yn (yw f ta tb):=fun L S Q Q' hq h=>
 ha L S _ _ (λ x S1 h=>hb L S1 _ _ (λ y S2 h=>hf x y S2 _ _ hq h) h) h
def l8 {f:yG}{r:R2}{ta tb:zu}(hr:xj K f r) (hf:xx f) (ha:yn ta) (hb:yn tb) {Y:St}{H:Hp}{Q:VK}(h:zK K (yw f ta tb) Y H Q):o9 r (zK K ta) (zK K tb) Y H Q:=by
 obtain⟨L,S,r1,r2,h⟩:=h
 refine zK.go ha r1 r2 h λ x S1 v H1 h1 q1 e1 p1=>?_
 refine zK.go hb (r1.ext e1) p1 h1 λ y S2 w H2 h2 q2 e2 p2=>?_
 exact hr v w x y H2 S2 Q (zh.ext e2 x q1) q2 p2 (hf x y S2 _ _ (λ d S' z=>z.ext (e1.trans e2)) h2)
def pj {a b:Expr}{op:Operator}{pos:Pos}{f:yG}{r:R2}{ta tb:zu}(ho:yd X (binaryOp op) r) (hr:xj X.K f r) (hf:xx f) (ha:PD X a ta) (hb:PD X b tb):PD X (.BinOp a op b pos) (yw f ta tb):=
 ⟨yw.mo hf ha.mo hb.mo,PE.imp (Uq ho ha.pe hb.pe) λ _ _ _ h=>l8 hr hf ha.mo hb.mo h⟩
def kg {a b:Expr}{op:CmpOp}{pos:Pos}{f:yG}{r:R2}{ta tb:zu}(ho:yd X (compareOp op) r) (hr:xj X.K f r) (hf:xx f) (ha:PD X a ta) (hb:PD X b tb) (hm:behindInMarks op b=false):PD X (.Compare a [op] [b] pos) (yw f ta tb):=
 ⟨yw.mo hf ha.mo hb.mo,PE.imp (U3 ho ha.pe hb.pe hm) λ _ _ _ h=>l8 hr hf ha.mo hb.mo h⟩
def vd (t:zu):yC:=fun L S Q=>t L S λ x S1=>match x with
 | .bl b=>Q b S1
 | _=>False
def vd.mo {t:zu}(h:yn t):wU (vd t):=fun L S Q Q' hq q=>h L S _ _ (λ d S' z=>by
 cases d <;> first
  | exact hq _ _ z
  | exact z) q
def sT {a b:Expr}{op:CmpOp}{pos:Pos}{f:yG}{r:R2}{ta tb:zu}(ho:yd X (compareOp op) r) (hr:xj X.K f r) (hf:xx f) (ha:PD X a ta) (hb:PD X b tb) (hm:behindInMarks op b=false):xu X (.Compare a [op] [b] pos) (vd (yw f ta tb)):=by
 refine⟨vd.mo (yw.mo hf ha.mo hb.mo),PT.imp (VG ho ha.pe hb.pe hm) fun Y H Q h=>?_⟩
 obtain⟨L,S,r1,r2,h⟩:=h
 refine l8 hr hf ha.mo hb.mo ⟨L,S,r1,r2,yw.mo hf ha.mo hb.mo L S _ _ (λ d S' z v H' a b c=>?_) h⟩
 cases d with
 | bl k=>simp only[zh] at a;exact⟨k,a,z H' b c⟩
 | _=>exact z.elim
def fI (C:Int->Int->Prop) (g:Int->Int->D):yG:=λ x y S Q=>match x,y with
 | .int i,.int j=>C i j/\Q (g i j) S
 | _,_=>False
def fI.mo {C:Int->Int->Prop}{g:Int->Int->D}:xx (fI C g):=λ x y S Q Q' hq h=>by
 unfold fI at h ⊢
 split at h
 ·exact⟨h.1,hq _ _ h.2⟩
 ·exact h.elim
def yW (g:Int->Int->D):yG:=λ x y S Q=>match x,y with
 | .int i,.int j=>Q (g i j) S
 | _,_=>False
def yW.mo {g:Int->Int->D}:xx (yW g):=λ x y S Q Q' hq h=>by
 unfold yW at h ⊢
 split at h
 ·exact hq _ _ h
 ·exact h.elim
def fI.fits {C:Int->Int->Prop}{g:Int->Int->D}{g':Int->Int->V}(hg:∀ i j H,zh K H (g i j) (g' i j)):xj K (fI C g) (rI C g'):=λ x y d e H S Q h1 h2 h3 h=>by
 unfold fI at h
 split at h
 ·simp only[zh] at h1 h2
  exact⟨_,_,h1,h2,h.1,h.2 _ H (hg _ _ H) (Ext.refl H) h3⟩
 ·exact h.elim
def yW.fits {g:Int->Int->D}{g':Int->Int->V}(hg:∀ i j H,zh K H (g i j) (g' i j)):xj K (yW g) (wW g'):=λ x y d e H S Q h1 h2 h3 h=>by
 unfold yW at h
 split at h
 ·simp only[zh] at h1 h2
  exact⟨_,_,h1,h2,h _ H (hg _ _ H) (Ext.refl H) h3⟩
 ·exact h.elim
variable {a b:Expr}{ta tb:zu}{pos:Pos}
def uY (ha:PD X a ta) (hb:PD X b tb):PD X (.BinOp a .Sub b pos) (yw (yW λ i j=>.int (i-j)) ta tb):=pj Tf (yW.fits λ _ _ _=>by simp only[zh]) yW.mo ha hb
def yp (ha:PD X a ta) (hb:PD X b tb):PD X (.BinOp a .Mod b pos) (yw (fI (λ _ j=>0<j) λ i j=>.int (i%j)) ta tb):=pj Tp (fI.fits λ _ _ _=>by simp only[zh]) fI.mo ha hb
def xf (ha:PD X a ta) (hb:PD X b tb):PD X (.BinOp a .FloorDiv b pos) (yw (fI xg λ i j=>.int (i/j)) ta tb):=pj Tu (fI.fits λ _ _ _=>by simp only[zh]) fI.mo ha hb
def hV (ha:PD X a ta) (hb:PD X b tb):PD X (.BinOp a .Pow b pos) (yw (fI sL λ i j=>.int (i ^ j.toNat)) ta tb):=pj Tg (fI.fits λ _ _ _=>by simp only[zh]) fI.mo ha hb
abbrev fG:yG:=yW λ i j=>.bl (decide (i<=j))
abbrev fH:yG:=yW λ i j=>.bl (decide (j<i))
abbrev kN:yG:=yW λ i j=>.bl (decide (j<=i))
def fit_le:xj K fG (wW λ i j=>.bl (decide (i<=j))):=yW.fits λ _ _ _=>by simp only[zh]
def Oc:xj K fH (wW λ i j=>.bl (decide (j<i))):=yW.fits λ _ _ _=>by simp only[zh]
def ZC:xj K kN (wW λ i j=>.bl (decide (j<=i))):=yW.fits λ _ _ _=>by simp only[zh]
def bS (ha:PD X a ta) (hb:PD X b tb):PD X (.Compare a [.GtE] [b] pos) (yw kN ta tb):=kg ah ZC yW.mo ha hb (uK _)
def U9 (ha:PD X a ta) (hb:PD X b tb):xu X (.Compare a [.LtE] [b] pos) (vd (yw fG ta tb)):=sT qb fit_le yW.mo ha hb (uK _)
def hG (ha:PD X a ta) (hb:PD X b tb):xu X (.Compare a [.Gt] [b] pos) (vd (yw fH ta tb)):=sT Tt Oc yW.mo ha hb (uK _)
def UB (ha:PD X a ta) (hb:PD X b tb):xu X (.Compare a [.GtE] [b] pos) (vd (yw kN ta tb)):=sT ah ZC yW.mo ha hb (uK _)
end
section
variable {X:Cx}{K:Ab}{a b c:Expr}{ta tb:zu}{pos:Pos}
def n_ (ta tb:zu):zu:=fun L S Q=>ta L S λ x S1=>match x with
 | .bl k=>if k=true then tb L S1 Q else Q (.bl false) S1
 | _=>False
def nW (ta:zu):zu:=fun L S Q=>ta L S λ x S1=>match x with
 | .bl k=>Q (.bl (!k)) S1
 | _=>False
def wA {c:Prop} [Decidable c] {A B A' B':Prop}(h1:A->A') (h2:B->B') (h:if c then A else B):if c then A' else B':=by
 by_cases q:c
 ·rw[if_pos q] at h ⊢;exact h1 h
 ·rw[if_neg q] at h ⊢;exact h2 h
def n_.mo (ha:yn ta) (hb:yn tb):yn (n_ ta tb):=fun L S Q Q' hq h=>ha L S _ _ (λ x S1 z=>by
 cases x <;> first
  | exact wA (hb L S1 _ _ hq) (hq _ _) z
  | exact z) h
def nW.mo (ha:yn ta):yn (nW ta):=fun L S Q Q' hq h=>ha L S _ _ (λ x S1 z=>by
 cases x <;> first
  | exact hq _ _ z
  | exact z) h
def pz {op} {t:zu}(h:PD X a t):PD X (.BoolOp op [a] pos) t:=⟨h.mo,Ur h.pe⟩
variable {EI:List Expr}
def p7 (ha:PD X a ta) (hb:PD X (.BoolOp .And (b::EI) pos) tb):PD X (.BoolOp .And (a::b::EI) pos) (n_ ta tb):=by
 refine⟨n_.mo ha.mo hb.mo,PE.imp (U7 ha.pe hb.pe) fun Y H Q hu=>?_⟩
 obtain⟨L,S,r1,r2,h⟩:=hu
 refine zK.go ha.mo r1 r2 h λ x S1 v H1 h1 q1 e1 p1=>?_
 cases x with
 | bl k=>
  simp only[zh] at q1
  refine⟨k,q1,wA (λ z=>?_) (λ z=>?_) h1⟩
  ·exact zK.go hb.mo (r1.ext e1) p1 z λ y S2 w H2 h2 q2 e2 p2=>h2 w H2 q2 (e1.trans e2) p2
  ·exact z _ H1 (by simp only[zh]) e1 p1
 | _=>exact h1.elim
def bO (ha:PD X a ta):PD X (.UnaryOp .Not a pos) (nW ta):=by
 refine⟨nW.mo ha.mo,PE.imp (Us ha.pe) fun Y H Q hu=>?_⟩
 obtain⟨L,S,r1,r2,h⟩:=hu
 refine zK.go ha.mo r1 r2 h λ x S1 v H1 h1 q1 e1 p1=>?_
 cases x with
 | bl k=>
  simp only[zh] at q1
  exact⟨k,q1,h1 _ H1 (by simp only[zh]) e1 p1⟩
 | _=>exact h1.elim
def nR (t u:yC):yC:=fun L S Q=>t L S λ k S1=>if k=true then u L S1 Q else Q false S1
def nP (t u:yC):yC:=fun L S Q=>t L S λ k S1=>if k=true then Q true S1 else u L S1 Q
def nQ (t:yC):yC:=fun L S Q=>t L S λ k S1=>Q (!k) S1
variable {t u:yC}
def nR.mo (h:wU t) (h':wU u):wU (nR t u):=fun L S _ _ hq z=>h L S _ _ (λ k S1 z=>wA (h' L S1 _ _ hq) (hq _ _) z) z
def nP.mo (h:wU t) (h':wU u):wU (nP t u):=fun L S _ _ hq z=>h L S _ _ (λ k S1 z=>wA (hq _ _) (h' L S1 _ _ hq) z) z
def nQ.mo (h:wU t):wU (nQ t):=fun L S _ _ hq z=>h L S _ _ (λ k S1 z=>hq _ _ z) z
structure xB (X:Cx) (e:Expr) (t:yC):Prop where
 mo:wU t
 pw:PW X e (xW X.K t)
def PW.imp {e:Expr}{t t':TT}(h:PW X e t) (hi:∀ Y H Q,t' Y H Q->t Y H Q):PW X e t':=λ whole EC s Y H Q I q=>h whole EC s Y H Q I (hi Y H Q q)
theorem xB.pt {e:Expr}{t:yC}(h:xB X e t):xu X e t:=⟨h.mo,PW.pt h.pw⟩
def qZ (h:xu X a t):xB X (.BoolOp .And [a] pos) t:=⟨h.mo,VA h.pt⟩
def sS (h:xu X a t):xB X (.BoolOp .Or [a] pos) t:=⟨h.mo,V8 h.pt⟩
def q_ (ha:xu X a t) (hb:xB X (.BoolOp .And (b::EI) pos) u):xB X (.BoolOp .And (a::b::EI) pos) (nR t u):=by
 refine⟨nR.mo ha.mo hb.mo,PW.imp (VB ha.pt hb.pw) fun Y H Q hu=>?_⟩
 obtain⟨L,S,r1,r2,h⟩:=hu
 refine xW.go ha.mo r1 r2 h λ k S1 H1 h1 e1 p1=>wA (λ z=>?_) (λ z=>z H1 e1 p1) h1
 exact xW.go hb.mo (r1.ext e1) p1 z λ y S2 H2 h2 e2 p2=>h2 H2 (e1.trans e2) p2
def uH (ha:xu X a t) (hb:xB X (.BoolOp .Or (b::EI) pos) u):xB X (.BoolOp .Or (a::b::EI) pos) (nP t u):=by
 refine⟨nP.mo ha.mo hb.mo,PW.imp (V9 ha.pt hb.pw) fun Y H Q hu=>?_⟩
 obtain⟨L,S,r1,r2,h⟩:=hu
 refine xW.go ha.mo r1 r2 h λ k S1 H1 h1 e1 p1=>wA (λ z=>z H1 e1 p1) (λ z=>?_) h1
 exact xW.go hb.mo (r1.ext e1) p1 z λ y S2 H2 h2 e2 p2=>h2 H2 (e1.trans e2) p2
def uI (ha:xu X a t):xu X (.UnaryOp .Not a pos) (nQ t):=by
 refine⟨nQ.mo ha.mo,PT.imp (VF ha.pt) fun Y H Q hu=>?_⟩
 obtain⟨L,S,r1,r2,h⟩:=hu
 exact xW.go ha.mo r1 r2 h λ k S1 H1 h1 e1 p1=>h1 H1 e1 p1
def nY (t:yC) (ta tb:zu):zu:=fun L S Q=>t L S λ k S1=>if k=true then ta L S1 Q else tb L S1 Q
def nY.mo (h:wU t) (ha:yn ta) (hb:yn tb):yn (nY t ta tb):=fun L S _ _ hq z=>h L S _ _ (λ k S1 z=>wA (ha L S1 _ _ hq) (hb L S1 _ _ hq) z) z
def US (hc:xu X c t) (ha:PD X a ta) (hb:PD X b tb):PD X (.IfExp c a b pos) (nY t ta tb):=by
 refine⟨nY.mo hc.mo ha.mo hb.mo,PE.imp (Uy hc.pt ha.pe hb.pe) fun Y H Q hu=>?_⟩
 obtain⟨L,S,r1,r2,h⟩:=hu
 refine xW.go hc.mo r1 r2 h λ k S1 H1 h1 e1 p1=>wA (λ z=>?_) (λ z=>?_) h1
 ·exact zK.go ha.mo (r1.ext e1) p1 z λ y S2 w H2 h2 q2 e2 p2=>h2 w H2 q2 (e1.trans e2) p2
 ·exact zK.go hb.mo (r1.ext e1) p1 z λ y S2 w H2 h2 q2 e2 p2=>h2 w H2 q2 (e1.trans e2) p2
def vv (d:D) (S:SS) (Q:Bool->SS->Prop):Prop:=match d with
 | .zk=>Q false S
 | .bl k=>Q k S
 | .int i=>Q (i != 0) S
 | .str x=>x.length<=sizeLine/\Q ((x.length:Int) != 0) S
 | .tup ds=>Q (!ds.isEmpty) S
 | .xP ds=>Q (!ds.isEmpty) S
 | .ref p=>match S p with
  | some (.lst ds)=>Q (!ds.isEmpty) S
  | some (.zH Aa)=>Q (!Aa.isEmpty) S
  | none=>False
 | .err _ _ _=>False
def ZS (ta:zu):yC:=fun L S Q=>ta L S λ x S1=>vv x S1 Q
def vv.mo {d:D}{S:SS}{Q Q':Bool->SS->Prop}(hq:∀ k S',Q k S'->Q' k S') (h:vv d S Q):vv d S Q':=by
 cases d with
 | str x=>exact⟨h.1,hq _ _ h.2⟩
 | err _ _ _=>exact h.elim
 | ref p=>
  unfold vv at h ⊢
  dsimp only at h ⊢
  split at h
  ·exact hq _ _ h
  ·exact hq _ _ h
  ·exact h
 | _=>exact hq _ _ h
theorem zo.isEmpty {H:Hp}{ds:List D}{xs:List V}(h:zo K H ds xs):ds.isEmpty=xs.isEmpty:=by
 have:=h.length
 cases ds <;> cases xs <;> simp_all
def NJ {α β:Type}{F:α->β->Prop}{xs:List α}{ys:List β}(h:Paired F xs ys):xs.isEmpty=ys.isEmpty:=by cases h <;> rfl
def vv.fits {H:Hp}{d:D}{v:V}{S:SS}{Q:Bool->Hp->Prop}(r:zh K H d v) (p:zE K H S) (h:vv d S (nU K H Q)):∃ k,eI K v H k/\Q k H:=by
 cases d with
 | zk=>simp only[zh] at r;subst r;exact⟨false,rfl,h H (.refl H) p⟩
 | bl k=>simp only[zh] at r;subst r;exact⟨k,rfl,h H (.refl H) p⟩
 | int i=>simp only[zh] at r;subst r;exact⟨_,rfl,h H (.refl H) p⟩
 | str x=>simp only[zh] at r;subst r;exact⟨_,⟨h.1,rfl⟩,h.2 H (.refl H) p⟩
 | err _ _ _=>exact h.elim
 | tup ds=>
  simp only[zh] at r
  obtain⟨a,xs,rfl,r1,r2⟩:=r
  exact⟨_,.inr (.inl ⟨xs,r1,by rw[r2.isEmpty]⟩),h H (.refl H) p⟩
 | xP ds=>
  simp only[zh] at r
  obtain⟨a,xs,rfl,r1,r2⟩:=r
  exact⟨_,.inl ⟨xs,r1.sq,by rw[r2.isEmpty]⟩,h H (.refl H) p⟩
 | ref a=>
  simp only[zh] at r
  subst r
  unfold vv at h
  dsimp only at h
  split at h
  ·rename_i ds e
   obtain⟨xs,e1,r2⟩:=p a _ e
   exact⟨_,.inl ⟨xs,zO.of e1,by rw[r2.isEmpty]⟩,h H (.refl H) p⟩
  ·rename_i Aa e
   obtain⟨xs,e1,r2⟩:=p a _ e
   exact⟨_,.inr (.inr ⟨xs,e1,by rw[NJ r2]⟩),h H (.refl H) p⟩
  ·exact h.elim
def wx (ha:PD X a ta) (he:∀ whole,isTrue a X.env whole=(do let v <- whole;standAt a.pos;holding [v] (truthy v)):=by intro _;rfl):xu X a (ZS ta):=by
 refine⟨fun L S Q Q' hq h=>ha.mo L S _ _ (λ x S1 z=>vv.mo hq z) h,PT.imp (VE ha.pe he) fun Y H Q hu=>?_⟩
 obtain⟨L,S,r1,r2,h⟩:=hu
 refine zK.go ha.mo r1 r2 h λ x S1 v H1 h1 q1 e1 p1=>?_
 exact vv.fits q1 p1 (vv.mo (λ k S' z=>z.ext e1) h1)
def kY:yk:=λ _ S Q=>Q [] S
def qq (te:zu) (tr:yk):yk:=fun L S Q=>te L S λ x S1=>tr L S1 λ xs S2=>Q (x::xs) S2
variable {e:Expr}{es:List Expr}{te:zu}{tA:yk}
def qq.mo (h:yn te) (h':sF tA):sF (qq te tA):=fun L S _ _ hq z=>h L S _ _ (λ x S1 z=>h' L S1 _ _ (λ xs S2 z=>hq _ _ z) z) z
def zj:xi X [] kY:=⟨λ _ _ _ _ hq h=>hq _ _ h,PA.imp tf fun Y H Q ⟨_,_,_,r2,h⟩=>h [] H .nil (.refl H) r2⟩
def zc (ha:PD X e te) (hr:xi X es tA) (hs:starEach (e::es) X.env=(false,eval e X.env)::starEach es X.env:=by rfl):xi X (e::es) (qq te tA):=by
 refine⟨qq.mo ha.mo hr.mo,PA.imp (v9 ha.pe hr.pa hs) fun Y H Q hu=>?_⟩
 obtain⟨L,S,r1,r2,h⟩:=hu
 refine zK.go ha.mo r1 r2 h λ x S1 v H1 h1 q1 e1 p1=>?_
 refine wu.go hr.mo (r1.ext e1) p1 h1 λ xs S2 w H2 h2 q2 e2 p2=>?_
 exact h2 (v::w) H2 (.cons (zh.ext e2 x q1) q2) (e1.trans e2) p2
def Ya (t:yk):zu:=fun L S Q=>t L S λ ds S1=>ds.length<=sizeLine/\Q (.tup ds) S1
def Ye (t:yk):zu:=fun L S Q=>t L S λ ds S1=>ds.length<=sizeLine/\∀ p,S1 p=none->Q (.ref p) (ups S1 p (.lst ds))
def yi {k} (h:xi X es tA):PD X (.Tuple es k pos) (Ya tA):=by
 refine⟨fun L S _ _ hq z=>h.mo L S _ _ (λ ds S1 z=>⟨z.1,hq _ _ z.2⟩) z,PE.imp (bD h.pa) fun Y H Q hu=>?_⟩
 obtain⟨L,S,r1,r2,h'⟩:=hu
 refine wu.go h.mo r1 r2 h' λ ds S1 xs H1 h1 q1 e1 p1=>⟨by rw[<- q1.length];exact h1.1,λ p hp=>?_⟩
 refine h1.2 _ _ ?_ (e1.trans (.new hp _)) (p1.new hp)
 simp only[zh]
 exact⟨p,xs,rfl,zX.of ye,zo.ext (.new hp _) ds q1⟩
def xh (h:xi X es tA):PD X (.List es pos) (Ye tA):=by
 refine⟨fun L S _ _ hq z=>h.mo L S _ _ (λ ds S1 z=>⟨z.1,λ p hp=>hq _ _ (z.2 p hp)⟩) z,PE.imp (Uu h.pa) fun Y H Q hu=>?_⟩
 obtain⟨L,S,r1,r2,h'⟩:=hu
 refine wu.go h.mo r1 r2 h' λ ds S1 xs H1 h1 q1 e1 p1=>⟨by rw[<- q1.length];exact h1.1,λ p hp=>?_⟩
 refine h1.2 p (p1.none hp) _ _ (by simp only[zh]) (e1.trans (.new hp _)) ?_
 exact p1.ups (.new hp _) ⟨xs,ye,zo.ext (.new hp _) ds q1⟩
def wB:yG:=λ x y S Q=>match x,y with
 | .tup ds,.int i=>match zW ds i with
  | some d=>Q d S
  | none=>False
 | .xP ds,.int i=>match zW ds i with
  | some d=>Q d S
  | none=>False
 | .ref p,.int i=>match S p with
  | some (.lst ds)=>match zW ds i with
   | some d=>Q d S
   | none=>False
  | _=>False
 | _,_=>False
def wB.mo:xx wB:=λ x y S Q Q' hq h=>by
 unfold wB at h ⊢
 split at h
 ·skip
  split at h
  ·exact hq _ _ h
  ·exact h
 ·skip
  split at h
  ·exact hq _ _ h
  ·exact h
 ·skip
  split at h
  ·skip
   split at h
   ·exact hq _ _ h
   ·exact h
  ·exact h.elim
 ·exact h.elim
theorem zo.zW {H:Hp}{ds:List D}{xs:List V}{i:Int}{d:D}(h:zo K H ds xs) (e:L2.zW ds i=some d):∃ x,L2.zW xs i=some x/\zh K H d x:=by
 unfold L2.zW at e ⊢
 rw[h.length] at e
 cases q:w_ xs.length i with
 | none=>rw[q] at e;cases e
 | some j=>
  rw[q] at e
  exact h.get e
def wB.fits:xj K wB (bo K):=λ x y d e H S Q h1 h2 h3 h=>by
 unfold wB at h
 split at h
 ·split at h
  ·rename_i q
   simp only[zh] at h1 h2
   obtain⟨a,xs,rfl,r1,r2⟩:=h1
   obtain⟨x',e1,e2⟩:=r2.zW q
   exact .inr (.inl ⟨a,xs,_,x',rfl,h2,r1,e1,h x' H e2 (.refl H) h3⟩)
  ·exact h.elim
 ·split at h
  ·rename_i q
   simp only[zh] at h1 h2
   obtain⟨a,xs,rfl,r1,r2⟩:=h1
   obtain⟨x',e1,e2⟩:=r2.zW q
   exact .inl ⟨a,xs,_,x',rfl,h2,r1.sq,e1,h x' H e2 (.refl H) h3⟩
  ·exact h.elim
 ·split at h
  ·rename_i q0
   split at h
   ·rename_i q
    simp only[zh] at h1 h2
    subst h1
    obtain⟨xs,r1,r2⟩:=h3 _ _ q0
    obtain⟨x',e1,e2⟩:=r2.zW q
    exact .inl ⟨_,xs,_,x',rfl,h2,zO.of r1,e1,h x' H e2 (.refl H) h3⟩
   ·exact h.elim
  ·exact h.elim
 ·exact h.elim
def zB (ha:PD X a ta) (hb:PD X b tb) (hs:YG b:=by exact λ _ _=>rfl):PD X (.Subscript a b pos) (yw wB ta tb):=
 ⟨yw.mo wB.mo ha.mo hb.mo,PE.imp (Uw QO ha.pe hb.pe hs) λ _ _ _ h=>l8 wB.fits wB.mo ha.mo hb.mo h⟩
abbrev xH:=List D->SS->DK->Prop
def vW (f:xH):Prop:=∀ ds S (Q Q':DK),(∀ d S',Q d S'->Q' d S')->f ds S Q->f ds S Q'
def uS (K:Ab) (f:xH) (r:List V->Hp->VK->Prop):Prop:=∀ xs ds H S Q,zo K H ds xs->zE K H S->f ds S (wb K H Q)->r xs H Q
def xE (f:xH) (t:yk):zu:=fun L S Q=>t L S λ ds S1=>f ds S1 Q
def xE.mo {f:xH}(hf:vW f) (h:sF tA):yn (xE f tA):=fun L S _ _ hq z=>h L S _ _ (λ ds S1 z=>hf ds S1 _ _ hq z) z
def cw {f:xH}{r:List V->Hp->VK->Prop}(hf:vW f) (hr:uS K f r) (h:sF tA) {Y:St}{H:Hp}{Q:VK}(hu:zK K (xE f tA) Y H Q):lE r (wu K tA) Y H Q:=by
 obtain⟨L,S,r1,r2,h'⟩:=hu
 refine wu.go h r1 r2 h' λ ds S1 xs H1 h1 q1 e1 p1=>?_
 exact hr xs ds H1 S1 Q q1 p1 (hf ds S1 _ _ (λ d S' z=>z.ext e1) h1)
def uZ {f:xH}{r:List V->Hp->VK->Prop}{e:Expr}(h:PE X e (lE r (wu X.K tA))) (hf:vW f) (hr:uS X.K f r) (ha:sF tA):PD X e (xE f tA):=
 ⟨xE.mo hf ha,PE.imp h λ _ _ _ hu=>cw hf hr ha hu⟩
noncomputable def zN (d:D) (S:SS):Option (List D):=match d with
 | .tup ds=>some ds
 | .xP ds=>some ds
 | .ref p=>match S p with
  | some (.lst ds)=>some ds
  | _=>none
 | _=>none
theorem zN.sq {H:Hp}{S:SS}{d:D}{v:V}{ds:List D}(r:zh K H d v) (p:zE K H S) (e:zN d S=some ds):∃ a xs,v=.ref a/\(zO K H a xs\/zX K H a xs)/\zo K H ds xs:=by
 unfold zN at e
 split at e
 ·cases e
  simp only[zh] at r
  obtain⟨a,xs,h1,h2,h3⟩:=r
  exact⟨a,xs,h1,.inr h2,h3⟩
 ·cases e
  simp only[zh] at r
  obtain⟨a,xs,h1,h2,h3⟩:=r
  exact⟨a,xs,h1,.inl h2.sq,h3⟩
 ·split at e
  ·rename_i q
   cases e
   simp only[zh] at r
   subst r
   obtain⟨xs,h1,h2⟩:=p _ _ q
   exact⟨_,xs,rfl,.inl (zO.of h1),h2⟩
  ·cases e
 ·cases e
def zo.one {H:Hp}{d:D}{xs:List V}(h:zo K H [d] xs):∃ x,xs=[x]/\zh K H d x:=by
 simp only[zo] at h
 obtain⟨x,r,rfl,h2,rfl⟩:=h
 exact⟨x,rfl,h2⟩
def zo.two {H:Hp}{d d':D}{xs:List V}(h:zo K H [d,d'] xs):∃ x y,xs=[x,y]/\zh K H d x/\zh K H d' y:=by
 simp only[zo] at h
 obtain⟨x,r,rfl,h2,y,r',rfl,h3,rfl⟩:=h
 exact⟨x,y,rfl,h2,h3⟩
def u0:xH:=λ ds S Q=>match ds with
 | [d]=>match zN d S with
  | some ds=>Q (.int ds.length) S
  | none=>match d with
   | .str z=>z.length<=sizeLine/\Q (.int z.length) S
   | _=>False
 | _=>False
def u0.mo:vW u0:=λ ds S Q Q' hq h=>by
 unfold u0 at h ⊢
 split at h
 ·skip
  split at h
  ·exact hq _ _ h
  ·split at h
   ·exact⟨h.1,hq _ _ h.2⟩
   ·exact h.elim
 ·exact h.elim
abbrev V7 (K:Ab):List V->Hp->VK->Prop:=λ xs H Q=>(∃ p ys,xs=[.ref p]/\(zO K H p ys\/zX K H p ys)/\Q (.int ys.length) H)\/(∃ z,xs=[.str z]/\z.length<=sizeLine/\Q (.int z.length) H)
def u0.fits:uS K u0 (V7 K):=λ xs ds H S Q h0 h2 h=>by
 unfold u0 at h
 split at h
 ·obtain⟨x,hx,h1⟩:=h0.one;subst hx
  split at h
  ·rename_i e
   obtain⟨a,ys,rfl,q,r⟩:=zN.sq h1 h2 e
   refine .inl ⟨a,ys,rfl,q,?_⟩
   rw[<- r.length]
   exact h _ H (by simp only[zh]) (.refl H) h2
  ·split at h
   ·simp only[zh] at h1
    subst h1
    exact .inr ⟨_,rfl,h.1,h.2 _ H (by simp only[zh]) (.refl H) h2⟩
   ·exact h.elim
 ·exact h.elim
def uz:xH:=λ ds S Q=>match ds with
 | [d]=>match zN d S with
  | some ds=>∀ p,S p=none->Q (.ref p) (ups S p (.lst ds))
  | none=>False
 | _=>False
def uz.mo:vW uz:=λ ds S Q Q' hq h=>by
 unfold uz at h ⊢
 split at h
 ·skip
  split at h
  ·exact λ p hp=>hq _ _ (h p hp)
  ·exact h.elim
 ·exact h.elim
def uz.fits:uS K uz (λ xs H Q=>∃ p ys,xs=[.ref p]/\(zO K H p ys\/zX K H p ys)/\∀ l,H l=none->Q (.ref l) (upd H l (.lst ys))):=λ xs ds H S Q h0 h2 h=>by
 unfold uz at h
 split at h
 ·obtain⟨x,hx,h1⟩:=h0.one;subst hx
  split at h
  ·rename_i e
   obtain⟨a,ys,rfl,q,r⟩:=zN.sq h1 h2 e
   refine⟨a,ys,rfl,q,λ l hl=>?_⟩
   exact h l (h2.none hl) _ _ (by simp only[zh]) (.new hl _) (h2.ups (.new hl _) ⟨ys,ye,zo.ext (.new hl _) _ r⟩)
  ·exact h.elim
 ·exact h.elim
def uw:xH:=λ ds S Q=>match ds with
 | [.tup ds]=>Q (.tup ds) S
 | [.xP ds]=>Q (.tup ds) S
 | [.ref p]=>match S p with
  | some (.lst ds)=>Q (.tup ds) S
  | _=>False
 | _=>False
def uw.mo:vW uw:=λ ds S Q Q' hq h=>by
 unfold uw at h ⊢
 split at h
 ·exact hq _ _ h
 ·exact hq _ _ h
 ·skip
  split at h
  ·exact hq _ _ h
  ·exact h.elim
 ·exact h.elim
def uw.fits:uS K uw (λ xs H Q=>∃ p ys,xs=[.ref p]/\((zO K H p ys/\∀ l,H l=none->Q (.ref l) (upd H l (.tup ys)))\/(zX K H p ys/\Q (.ref p) H))):=λ xs ds H S Q h0 h2 h=>by
 unfold uw at h
 split at h
 ·obtain⟨x,hx,h1⟩:=h0.one;subst hx
  have GX:=h1
  simp only[zh] at h1
  obtain⟨a,xs,rfl,r1,r2⟩:=h1
  exact⟨a,xs,rfl,.inr ⟨r1,h _ H GX (.refl H) h2⟩⟩
 ·obtain⟨x,hx,h1⟩:=h0.one;subst hx
  simp only[zh] at h1
  obtain⟨a,xs,rfl,r1,r2⟩:=h1
  refine⟨a,xs,rfl,.inl ⟨r1.sq,λ l hl=>h _ _ ?_ (.new hl _) (h2.new hl)⟩⟩
  simp only[zh]
  exact⟨l,xs,rfl,zX.of ye,zo.ext (.new hl _) _ r2⟩
 ·obtain⟨x,hx,h1⟩:=h0.one;subst hx
  split at h
  ·rename_i e
   simp only[zh] at h1
   subst h1
   obtain⟨xs,r1,r2⟩:=h2 _ _ e
   refine⟨_,xs,rfl,.inl ⟨zO.of r1,λ l hl=>h _ _ ?_ (.new hl _) (h2.new hl)⟩⟩
   simp only[zh]
   exact⟨l,xs,rfl,zX.of ye,zo.ext (.new hl _) _ r2⟩
  ·exact h.elim
 ·exact h.elim
def vJ (g:Int->Int->D):xH:=λ ds S Q=>match ds with
 | [.int i,.int j]=>Q (g i j) S
 | _=>False
def vJ.mo {g:Int->Int->D}:vW (vJ g):=λ ds S Q Q' hq h=>by
 unfold vJ at h ⊢
 split at h
 ·exact hq _ _ h
 ·exact h.elim
def vJ.fits {g:Int->Int->D}{g':Int->Int->V}(hg:∀ i j H,zh K H (g i j) (g' i j)):uS K (vJ g) (λ xs H Q=>∃ i j,xs=[.int i,.int j]/\Q (g' i j) H):=λ xs ds H S Q h0 h2 h=>by
 unfold vJ at h
 split at h
 ·obtain⟨x,y,hx,h1,h3⟩:=h0.two;subst hx
  simp only[zh] at h1 h3
  subst h1 h3
  exact⟨_,_,rfl,h _ H (hg _ _ H) (.refl H) h2⟩
 ·exact h.elim
def zal:yG:=λ x y S Q=>match x,y with
 | .ref p,.ref q=>match S p,S q with
  | some (.lst ds),some (.lst es)=>ds.length+es.length<=sizeLine/\∀ r,S r=none->Q (.ref r) (ups S r (.lst (ds++es)))
  | _,_=>False
 | _,_=>False
def r9 (to te:zu):zu:=fun L S Q=>to L S λ x S1=>match x with
 | .ref p=>(∃ ds,S1 p=some (.lst ds))/\te L S1 λ y S2=>match S2 p with
  | some (.lst ds)=>ds.length<sizeLine/\Q .zk (ups S2 p (.lst (ds++[y])))
  | _=>False
 | _=>False
def r9.mo {to te:zu}(h:yn to) (h':yn te):yn (r9 to te):=fun L S Q Q' hq z=>h L S _ _ (λ x S1 z=>by
 cases x with
 | ref p=>
  refine⟨z.1,h' L S1 _ _ (λ y S2 w=>?_) z.2⟩
  split at w
  ·exact⟨w.1,hq _ _ w.2⟩
  ·exact w.elim
 | _=>exact z) z
def Ta {o e:Expr}{to te:zu}{e0:Expr}(Ef:PE X e0 (jM X.K "list" bx (zK X.K to) (oB (zK X.K te) oA))) (h:yn to) (h':yn te):PD X e0 (r9 to te):=by
 refine⟨r9.mo h h',PE.imp Ef fun Y H Q hu=>?_⟩
 obtain⟨L,S,r1,r2,z⟩:=hu
 refine zK.go h r1 r2 z λ x S1 v H1 h1 q1 e1 p1=>?_
 cases x with
 | ref p=>
  obtain⟨⟨ds,hd⟩,h1⟩:=h1
  simp only[zh] at q1
  subst q1
  obtain⟨xs,g1,g2⟩:=p1 _ _ hd
  refine⟨.inl ⟨rfl,xs,zO.of g1⟩,?_⟩
  refine zK.go h' (r1.ext e1) p1 h1 λ y S2 w H2 h2 q2 e2 p2=>?_
  split at h2
  ·rename_i Hi e3
   obtain⟨EY,g3,g4⟩:=p2 _ _ e3
   refine⟨p,EY,w,rfl,rfl,g3,by rw[<- g4.length];exact h2.1,?_⟩
   have e4:Ext H2 (upd H2 p (.lst (EY++[w]))):=.lst g3 _
   exact h2.2 _ _ (by simp only[zh]) ((e1.trans e2).trans e4) (p2.ups e4 ⟨_,ye,zo.ext e4 _ (g4.snoc q2)⟩)
  ·exact h2.elim
 | _=>exact h1.elim
end
structure tJ where
 nx:yc->SS->Prop
 rt:DK
 bk:yc->SS->Prop:=λ _ _=>False
 ct:yc->SS->Prop:=λ _ _=>False
abbrev yh:=tJ->yc->SS->Prop
structure tJ.Le (E E':tJ):Prop where
 nx:∀ L S,E.nx L S->E'.nx L S
 rt:∀ d S,E.rt d S->E'.rt d S
 bk:∀ L S,E.bk L S->E'.bk L S
 ct:∀ L S,E.ct L S->E'.ct L S
def uC (t:yh):Prop:=∀ E E' L S,tJ.Le E E'->t E L S->t E' L S
def vN (K:Ab) (H:Hp) (D:Ends):tJ:=⟨xM K H D.nx,wb K H D.rt,xM K H D.bk,xM K H D.ct⟩
theorem vN.ext {K:Ab}{H H':Hp}{D:Ends}(e:Ext H H'):(vN K H D).Le (vN K H' D):=⟨λ _ _ h=>xM.ext e h,λ _ _ h=>wb.ext e h,λ _ _ h=>xM.ext e h,λ _ _ h=>xM.ext e h⟩
def cj (K:Ab) (t:yh):TS:=λ D Y H=>∃ L S,yx K H L Y/\zE K H S/\t (vN K H D) L S
structure vV (X:Cx) (st:Stmt) (t:yh):Prop where
 mo:uC t
 ps:PS X st (cj X.K t)
structure uB (X:Cx) (st:List Stmt) (t:yh):Prop where
 mo:uC t
 ps:xV X st (cj X.K t)
section
variable {X:Cx}{K:Ab}{st:Stmt}{EI:List Stmt}{t u:yh}{pos:Pos}{e:Expr}{te:zu}
def fU:yh:=λ E L S=>E.nx L S
def qp (t u:yh):yh:=λ E L S=>t { E with nx:=u E } L S
def qp.mo (h:uC t) (h':uC u):uC (qp t u):=λ E E' L S hE z=>h { E with nx:=u E } { E' with nx:=u E' } L S ⟨fun L S q=>h' E E' L S hE q,hE.rt,hE.bk,hE.ct⟩ z
def yK:uB X [] fU:=⟨λ _ _ _ _ hE h=>hE.nx _ _ h,xV.imp VI λ D Y H ⟨L,S,r1,r2,h⟩=>h Y H r1 (.refl H) r2⟩
def zA (h:vV X st t):uB X [st] t:=⟨h.mo,iT h.ps⟩
def zw (h:vV X st t) (h':uB X EI u):uB X (st::EI) (qp t u):=by
 refine⟨qp.mo h.mo h'.mo,xV.imp (VJ h.ps h'.ps) λ D Y H hu=>?_⟩
 obtain⟨L,S,r1,r2,z⟩:=hu
 refine⟨L,S,r1,r2,h.mo { vN X.K H D with nx:=u (vN X.K H D) } _ L S ⟨fun L' S' q Y' H' q1 q2 q3=>?_,λ _ _ q=>q,λ _ _ q=>q,λ _ _ q=>q⟩ z⟩
 exact⟨L',S',q1,q3,h'.mo _ _ L' S' (vN.ext q2) q⟩
def kZ (te:zu):yh:=λ E L S=>te L S λ _ S1=>E.nx L S1
def uX (he:PD X e te) (hs:swapsWith e none pos.line X.env=pure false:=by rfl):vV X (.Expr e pos) (kZ te):=by
 refine⟨λ E E' L S hE z=>he.mo L S _ _ (λ _ _ q=>hE.nx _ _ q) z,PS.imp (VR he.pe hs) λ D Y H hu=>?_⟩
 obtain⟨L,S,r1,r2,z⟩:=hu
 exact zK.go he.mo r1 r2 z λ x S1 v H1 h1 q1 e1 p1=>h1 Y H1 (r1.ext e1) e1 p1
def fT (te:zu):yh:=λ E L S=>te L S E.rt
def zL (he:PD X e te):vV X (.Return (some e) pos) (fT te):=by
 refine⟨λ E E' L S hE z=>he.mo L S _ _ (λ _ _ q=>hE.rt _ _ q) z,PS.imp (VO he.pe) λ D Y H hu=>?_⟩
 obtain⟨L,S,r1,r2,z⟩:=hu
 exact zK.go he.mo r1 r2 z λ x S1 v H1 h1 q1 e1 p1=>h1 v H1 q1 e1 p1
def fV (c:yC) (t u:yh):yh:=λ E L S=>c L S λ k S1=>if k=true then t E L S1 else u E L S1
def yL {c:Expr}{p q:List Stmt}{tc:yC}(hc:xu X c tc) (h:uB X p t) (h':uB X q u):vV X (.If c p q pos) (fV tc t u):=by
 refine⟨λ E E' L S hE z=>hc.mo L S _ _ (λ k S1 z=>wA (h.mo _ _ L S1 hE) (h'.mo _ _ L S1 hE) z) z,PS.imp (VP hc.pt h.ps h'.ps) λ D Y H hu=>?_⟩
 obtain⟨L,S,r1,r2,z⟩:=hu
 refine xW.go hc.mo r1 r2 z λ k S1 H1 h1 e1 p1=>wA (λ z=>?_) (λ z=>?_) h1
 ·exact⟨L,S1,r1.ext e1,p1,h.mo _ _ L S1 (vN.ext e1) z⟩
 ·exact⟨L,S1,r1.ext e1,p1,h'.mo _ _ L S1 (vN.ext e1) z⟩
abbrev xF:=D->yc->SS->(yc->SS->Prop)->Prop
abbrev wQ:=List D->yc->SS->(yc->SS->Prop)->Prop
def jn (t:xF):Prop:=∀ d L S (Q Q':yc->SS->Prop),(∀ L S,Q L S->Q' L S)->t d L S Q->t d L S Q'
def YL (t:wQ):Prop:=∀ d L S (Q Q':yc->SS->Prop),(∀ L S,Q L S->Q' L S)->t d L S Q->t d L S Q'
def l9 (K:Ab) (t:xF):TG:=λ v Y H Q=>∃ d L S,zh K H d v/\yx K H L Y/\zE K H S/\t d L S (xM K H Q)
def cq (K:Ab) (t:wQ):sC:=λ v Y H Q=>∃ d L S,zo K H d v/\yx K H L Y/\zE K H S/\t d L S (xM K H Q)
structure rC (X:Cx) (e:Expr) (t:xF):Prop where
 mo:jn t
 pg:PG X e (l9 X.K t)
structure jf (X:Cx) (es:List Expr) (t:wQ):Prop where
 mo:YL t
 pg:tH X es (cq X.K t)
def PG.imp {e:Expr}{t t':TG}(h:PG X e t) (hi:∀ v Y H Q,t' v Y H Q->t v Y H Q):PG X e t':=λ EC s Y H v w Q I r q=>h EC s Y H v w Q I r (hi v Y H Q q)
def tH.imp {e:List Expr}{t t':sC}(h:tH X e t) (hi:∀ v Y H Q,t' v Y H Q->t v Y H Q):tH X e t':=λ EC s Y H v w Q I r q=>h EC s Y H v w Q I r (hi v Y H Q q)
def hName (i:Nat):xF:=λ d L S Q=>Q (L.set i (some d)) S
def UK {e:Expr}{i:Nat}(h:PG X e (pK i)):rC X e (hName i):=
 ⟨λ _ _ _ _ _ hq z=>hq _ _ z,PG.imp h λ v Y H Q ⟨d,L,S,r1,r2,r3,z⟩=>z _ H (r2.set i r1) (.refl H) r3⟩
def gU:wQ:=λ ds L S Q=>ds=[]/\Q L S
def gW (t:xF) (u:wQ):wQ:=λ ds L S Q=>match ds with
 | d::r=>t d L S fun L' S'=>u r L' S' Q
 | []=>False
def ng:jf X [] gU:=by
 refine⟨λ _ _ _ _ _ hq z=>⟨z.1,hq _ _ z.2⟩,tH.imp Uc λ v Y H Q hu=>?_⟩
 obtain⟨d,L,S,r1,r2,r3,z1,z2⟩:=hu
 subst z1
 simp only[zo] at r1
 exact⟨r1,z2 Y H r2 (.refl H) r3⟩
def uJ {e:Expr}{es:List Expr}{t:xF}{u:wQ}(h:rC X e t) (h':jf X es u) (hs:(assignEach (e::es) X.env).map (·.2)=assign e X.env::(assignEach es X.env).map (·.2):=by rfl):jf X (e::es) (gW t u):=by
 refine⟨λ ds L S Q Q' hq z=>?_,tH.imp (Ud h.pg h'.pg hs) λ v Y H Q hu=>?_⟩
 ·cases ds with
  | nil=>exact z
  | cons d r=>exact h.mo d L S _ _ (fun L' S' z=>h'.mo r L' S' _ _ hq z) z
 ·obtain⟨ds,L,S,r1,r2,r3,z⟩:=hu
  cases ds with
  | nil=>exact z.elim
  | cons d r=>
   simp only[zo] at r1
   obtain⟨x,xs,rfl,q1,q2⟩:=r1
   refine⟨x,xs,rfl,d,L,S,q1,r2,r3,h.mo d L S _ _ (fun L' S' z Y' H' g1 g2 g3=>?_) z⟩
   exact⟨r,L',S',zo.ext g2 r q2,g1,g3,h'.mo r L' S' _ _ (fun L2 S2 z2=>xM.ext g2 z2) z⟩
def kE (n:Nat) (t:wQ):xF:=λ d L S Q=>match d with
 | .tup ds=>ds.length=n/\t ds L S Q
 | _=>False
def UJ {e:Expr}{n:Nat}{t:wQ}(h:PG X e (Z5 X.K n (cq X.K t))) (hm:YL t):rC X e (kE n t):=by
 refine⟨λ d L S Q Q' hq z=>?_,PG.imp h λ v Y H Q hu=>?_⟩
 ·cases d with
  | tup ds=>exact⟨z.1,hm ds L S _ _ hq z.2⟩
  | _=>exact z
 ·obtain⟨d,L,S,r1,r2,r3,z⟩:=hu
  cases d with
  | tup ds=>
   simp only[zh] at r1
   obtain⟨a,xs,rfl,q1,q2⟩:=r1
   exact⟨a,xs,rfl,q1,by rw[<- q2.length];exact z.1,ds,L,S,q2,r2,r3,z.2⟩
  | _=>exact z.elim
def t8 (te:zu) (g:xF):yh:=λ E L S=>te L S λ x S1=>g x L S1 E.nx
def t8.mo {g:xF}(h:yn te) (h':jn g):uC (t8 te g):=λ E E' L S hE z=>h L S _ _ (λ x S1 q=>h' x L S1 _ _ (fun L S q=>hE.nx _ _ q) q) z
def UD {e0:Stmt}{i:Nat}(h:PS X e0 (lF (zK X.K te) (pK i))) (hm:yn te):vV X e0 (t8 te (hName i)):=by
 refine⟨t8.mo hm λ _ _ _ _ _ hq z=>hq _ _ z,PS.imp h λ D Y H hu=>?_⟩
 obtain⟨L,S,r1,r2,z⟩:=hu
 refine zK.go hm r1 r2 z λ x S1 v H1 h1 q1 e1 p1=>?_
 exact h1 _ H1 ((r1.ext e1).set i q1) e1 p1
end
structure ll where
 items:List D
 keep:SS->Prop
abbrev wO:=yc->SS->(ll->SS->Prop)->Prop
def jm (t:wO):Prop:=∀ L S (Q Q':ll->SS->Prop),(∀ I S',Q I S'->Q' I S')->t L S Q->t L S Q'
def eN (K:Ab) (H1:Hp) (J:It) (I:ll):Prop:=∀ (i:Nat) (H:Hp) (S:SS),Ext H1 H->zE K H S->I.keep S->
 (∀ d,I.items[i]?=some d->J.go i H/\∀ x H',J.qI i H x H'->Ext H H'/\zE K H' S/\zh K H' d x)/\(I.items.length<=i->J.stop i H)
def O8 (K:Ab) (H:Hp) (R:It->Hp->Prop):ll->SS->Prop:=λ I S1=>∀ J H1,Ext H H1->zE K H1 S1->eN K H1 J I->R J H1
def wF (K:Ab) (t:wO):TI:=fun Y H R=>∃ L S,yx K H L Y/\zE K H S/\t L S (O8 K H R)
structure rB (X:Cx) (tg iter:Expr) (t:wO):Prop where
 mo:jm t
 pi:PI X tg iter (wF X.K t)
def PI.imp {X:Cx}{tg e:Expr}{t t':TI}(h:PI X tg e t) (hi:∀ Y H Q,t' Y H Q->t Y H Q):PI X tg e t':=λ EC s Y H Q I q=>h EC s Y H Q I (hi Y H Q q)
section
variable {X:Cx}{K:Ab}{tg e:Expr}{pos:Pos}
theorem zo.at {H:Hp}{ds:List D}{xs:List V}{i:Nat}{d:D}{x:V}(r:zo K H ds xs) (h1:ds[i]?=some d) (h2:xs[i]?=some x):zh K H d x:=by
 obtain⟨y,e1,e2⟩:=r.get h1
 rw[h2] at e1;cases e1;exact e2
noncomputable def vy (lo:Int) (n:Nat):List D:=(List.range n).map λ(k:Nat)=>D.int (lo+(k:Int))
def V5 {lo:Int}{n i:Nat}{d:D}(h:(vy lo n)[i]?=some d):i<n/\d=.int (lo+(i:Int)):=by
 unfold vy at h
 rw[AE] at h
 cases q:(List.range n)[i]? with
 | none=>rw[q] at h;cases h
 | some j=>
  rw[q] at h
  obtain⟨h1,h2⟩:=AK.mp q
  rw[B7] at h1
  rw[DW] at h2
  subst h2
  cases h
  exact⟨h1,rfl⟩
def V4 (lo:Int) (n:Nat):(vy lo n).length=n:=by unfold vy;rw[AD,B7]
def eN.range {H1:Hp}{lo:Int}{n:Nat}:eN K H1 (jq lo n) ⟨vy lo n,λ _=>True⟩:=λ i H S _ x2 _=>by
 refine⟨λ d hd=>?_,λ hl=>by rw[show (ll.mk (vy lo n) λ _=>True).items=vy lo n from rfl,V4] at hl;exact hl⟩
 obtain⟨h1,rfl⟩:=V5 hd
 refine⟨h1,λ x H' q=>?_⟩
 obtain⟨rfl,rfl⟩:=q
 exact⟨.refl _,x2,by simp only[zh]⟩
def gL (t:yk):wO:=fun L S R=>t L S λ ds S1=>match ds with
 | [.int j]=>(-(2 ^ 62)<=j/\j<2 ^ 62)/\R ⟨vy 0 j.toNat,λ _=>True⟩ S1
 | _=>False
variable {tA:yk}
def UI (h:PI X tg e (Zu (wu X.K tA))) (hm:sF tA):rB X tg e (gL tA):=by
 refine⟨fun L S Q Q' hq z=>hm L S _ _ (λ ds S1 z=>?_) z,PI.imp h fun Y H R hu=>?_⟩
 ·split at z
  ·exact⟨z.1,hq _ _ z.2⟩
  ·exact z.elim
 ·obtain⟨L,S,r1,r2,z⟩:=hu
  refine wu.go hm r1 r2 z λ ds S1 xs H1 h1 q1 e1 p1=>?_
  split at h1
  ·obtain⟨x,rfl,q⟩:=q1.one
   simp only[zh] at q
   subst q
   exact⟨_,rfl,h1.1.1,h1.1.2,h1.2 _ H1 e1 p1 .range⟩
  ·exact h1.elim
def nZ (ti:wO) (g:xF) (tb:yh):yh:=λ E L S=>ti L S λ I S1=>∃ W:Nat->yc->SS->Prop,W 0 L S1/\(∀ i L S,W i L S->I.keep S)/\
 (∀ i d L S,I.items[i]?=some d->W i L S->g d L S fun L2 S2=>tb { E with nx:=W (i+1),ct:=W (i+1),bk:=E.nx } L2 S2)/\∀ L S,W I.items.length L S->E.nx L S
def nZ.mo {ti:wO}{g:xF}{tb:yh}(hi:jm ti) (hg:jn g) (hb:uC tb):uC (nZ ti g tb):=λ E E' L S hE z=>hi L S _ _ (λ I S1 ⟨W,w0,wk,ws,wd⟩=>by
 refine⟨W,w0,wk,λ i d L S hd hw=>hg d L S _ _ (fun L2 S2 z=>hb { E with nx:=W (i+1),ct:=W (i+1),bk:=E.nx } { E' with nx:=W (i+1),ct:=W (i+1),bk:=E'.nx } L2 S2 ⟨λ _ _ q=>q,hE.rt,hE.nx,λ _ _ q=>q⟩ z) (ws i d L S hd hw),fun L S q=>hE.nx _ _ (wd L S q)⟩) z
def v5 {iter:Expr}{body:List Stmt}{ti:wO}{g:xF}{tb:yh}(hp:PassesOwn (model X.prog X.w) X.A X.env X.xe) (hc:X.calm=true) (hi:rB X tg iter ti) (hg:rC X tg g) (hb:uB X body tb)
  (hs:∀ x,foldedSetIterable iter X.env x=pure x:=by intro _;rfl):vV X (.For tg iter body [] pos) (nZ ti g tb):=by
 refine⟨nZ.mo hi.mo hg.mo hb.mo,PS.imp (VQ hp hc hi.pi hg.pg hb.ps hs) λ D Y H hu=>?_⟩
 obtain⟨L,S,r1,r2,z⟩:=hu
 refine⟨L,S,r1,r2,hi.mo L S _ _ (λ I S1 hW J H1 e1 p1 rep=>?_) z⟩
 obtain⟨W,w0,wk,ws,wd⟩:=hW
 refine⟨λ i m Y H2=>m=I.items.length-i/\i<=I.items.length/\Ext H1 H2/\∃ L S,yx X.K H2 L Y/\zE X.K H2 S/\W i L S,⟨_,rfl,AO _,.refl _,L,S1,r1.ext e1,p1,w0⟩,?_⟩
 rintro i m Y2 H2 ⟨rfl,Gy,x2,L2,S2,q1,q2,w2⟩
 obtain⟨g1,g2⟩:=rep i H2 S2 x2 q2 (wk i L2 S2 w2)
 by_cases hl:i<I.items.length
 ·have hd:I.items[i]?=some I.items[i]:=by simp[hl]
  obtain⟨go,yl⟩:=g1 _ hd
  refine .inr ⟨go,fun Y' H'=>Ext H1 H'/\∃ L S,yx X.K H' L Y'/\zE X.K H' S/\W (i+1) L S,fun Y' H' q=>⟨_,by lia,rfl,hl,q⟩,λ x H3 hy=>?_⟩
  obtain⟨x3,p3,d3⟩:=yl x H3 hy
  refine⟨_,L2,S2,d3,q1.ext x3,p3,hg.mo _ L2 S2 _ _ (fun L4 S4 z4 Y4 H4 a1 a2 a3=>?_) (ws i _ L2 S2 hd w2)⟩
  refine⟨L4,S4,a1,a3,hb.mo _ _ L4 S4 ⟨fun L5 S5 w5 Y5 H5 b1 b2 b3=>⟨((x2.trans x3).trans a2).trans b2,L5,S5,b1,b3,w5⟩,λ _ _ q=>wb.ext (((e1.trans x2).trans x3).trans a2) q,λ _ _ q=>xM.ext (((e1.trans x2).trans x3).trans a2) q,fun L5 S5 w5 Y5 H5 b1 b2 b3=>⟨((x2.trans x3).trans a2).trans b2,L5,S5,b1,b3,w5⟩⟩ z4⟩
 ·have e:i=I.items.length:=by lia
  subst e
  exact .inl ⟨g2 (Aj _),wd L2 S2 w2 Y2 H2 q1 (e1.trans x2) q2⟩
abbrev wj:=List D->SS->DK->Prop
def pX (sp:wj):Prop:=∀ ds S (Q Q':DK),(∀ d S',Q d S'->Q' d S')->sp ds S Q->sp ds S Q'
def tM (K:Ab) (sp:wj):Sp:=λ vs H Q _=>∃ ds S,zo K H ds vs/\zE K H S/\sp ds S (wb K H Q)
def k_ (sp:wj) (t:yk):zu:=fun L S Q=>t L S λ ds S1=>sp ds S1 Q
def U_ {sp:wj}{E:XK}{e:Expr}(h:PE X e (c8 (tM X.K sp) [] E (wu X.K tA))) (hs:pX sp) (hm:sF tA):PD X e (k_ sp tA):=by
 refine⟨fun L S Q Q' hq z=>hm L S _ _ (λ ds S1 z=>hs ds S1 _ _ hq z) z,PE.imp h fun Y H Q hu=>?_⟩
 obtain⟨L,S,r1,r2,z⟩:=hu
 refine wu.go hm r1 r2 z λ ds S1 xs H1 h1 q1 e1 p1=>?_
 rw[Ci]
 exact⟨ds,S1,q1,p1,hs ds S1 _ _ (λ d S' q=>wb.ext e1 q) h1⟩
noncomputable def uF (N:List Str) (ds:List D):yc:=ds.map some++List.replicate (N.length-ds.length) none
def yx.init {H:Hp}{N:List Str}{ds:List D}{vs:List V}(r:zo K H ds vs):yx K H (uF N ds) (start N vs):=by
 have hl:=r.length
 refine⟨by unfold uF L2.start;simp[hl],λ i d h=>?_⟩
 unfold uF at h
 have hi:i<ds.length:=by
  rcases Bs i ds.length with q | q
  ·exact q
  ·rw[C8 (by simpa using q),DF] at h
   split at h <;> cases h
 rw[Ct (by simpa using hi),AE] at h
 cases q:ds[i]? with
 | none=>rw[q] at h;cases h
 | some d'=>
  rw[q] at h
  cases h
  obtain⟨x,e1,e2⟩:=r.get q
  refine⟨x,?_,e2⟩
  unfold L2.start
  rw[Ct (by simpa using by lia),AE,e1]
  rfl
def PY {P:Program}{w:World}{K:Ab}{mg:Aq}{base:Heap}{x qual:Str}{st:Stmt}{f:Addr}{fd:FuncData}{N ps:List Str}{k:Nat}{sp:wj}(F:vh K x qual st f fd) (Sc:zY N ps (zy st))
  (len:∀ ds S Q,sp ds S Q->ds.length=ps.length)
  (Fb:∀ (Af:Value) (A:Around) (outer:List Env) (s:Shared) (H:Hp) (E:XK),ya k (A.deeper (envOfC qual (zy st) s.heap.objs.size f Af))->
   ∃ t,uB (wC xI P w K mg base N qual (zy st) f Af A outer s H E).vA (xD st) t/\∀ ds S Q,sp ds S Q->t { nx:=λ _ S'=>Q .zk S',rt:=Q } (uF N ds) S):xy P w K mg base xI (k+1) f fd ps (tM K sp):=by
 refine F.ok Sc (λ vs H Q E h=>?_) λ Af A outer s H vs Q E hr h=>?_
 ·obtain⟨ds,S,r1,_,z⟩:=h
  rw[<- r1.length];exact len _ _ _ z
 ·obtain⟨ds,S,r1,r2,z⟩:=h
  obtain⟨t,ht,hq⟩:=Fb Af A outer s H E hr
  refine⟨_,ht.ps,uF N ds,S,.init r1,r2,ht.mo { nx:=λ _ S'=>wb K H Q .zk S',rt:=wb K H Q } _ _ _ ⟨fun L S' q Y' H' _ b c=>q .zk H' (by simp only[zh]) b c,λ _ _ q=>q,λ _ _ q=>False.elim q,λ _ _ q=>False.elim q⟩ (hq ds S _ z)⟩
noncomputable def um (pick:List (Option Nat)) (L:yc):yc:=pick.map λ o=>o.bind λ i=>(L[i]?).join
theorem yx.pick {H:Hp}{L:yc}{Y:St}(r:yx K H L Y) (pick:List (Option Nat)):yx K H (um pick L) (uk pick Y):=by
 refine⟨by unfold um uk;simp,λ i d h=>?_⟩
 unfold um at h
 rw[AE] at h
 cases q:pick[i]? with
 | none=>rw[q] at h;cases h
 | some o=>
  rw[q] at h
  cases o with
  | none=>simp at h
  | some j=>
   simp only[Option.map_some,BP,Option.some.injEq] at h
   have hj:L[j]?=some (some d):=by
    cases q2:L[j]? with
    | none=>rw[q2] at h;cases h
    | some o2=>rw[q2] at h;simp only[Option.join_some] at h;rw[h]
   obtain⟨v,e1,e2⟩:=r.2 j d hj
   refine⟨v,?_,e2⟩
   unfold uk
   rw[AE,q]
   simp[e1]
def qy (L L':yc):Prop:=L.length=L'.length/\∀ (i:Nat) d,L[i]?=some (some d)->L'[i]?=some (some d)
def qy.rep {H:Hp}{L L':yc}{Y:St}(h:qy L L') (r:yx K H L' Y):yx K H L Y:=⟨h.1.trans r.1,λ i d q=>r.2 i d (h.2 i d q)⟩
structure jg (X:Cx) (ifs:List Expr) (t:yC):Prop where
 mo:wU t
 pf:PF X ifs (xW X.K t)
def PF.imp {ifs:List Expr}{t t':TT}(h:PF X ifs t) (hi:∀ Y H Q,t' Y H Q->t Y H Q):PF X ifs t':=λ EC s Y H Q I q=>h EC s Y H Q I (hi Y H Q q)
def ZR:yC:=λ _ S Q=>Q true S
def sU:jg X [] ZR:=⟨λ _ _ _ _ hq z=>hq _ _ z,PF.imp Uj λ _ H _ ⟨_,_,_,r2,z⟩=>z H (.refl H) r2⟩
def ka {c:Expr}{t:yC}(h:xu X c t):jg X [c] t:=⟨h.mo,Ui h.pt⟩
end
end L3
namespace L2
open PySem PySem.Spec PyProof.Rows
def Pk (K:Ab) (tl:TE):TI:=fun Y H R=>tl Y H λ x H1=>∃ a,x=.ref a/\(((∃ xs,zO K H1 a xs)/\R (YO K a) H1)\/((∃ xs,zX K H1 a xs)/\R (YN K a) H1))
def V_ {X:Cx}{tg l:Expr}{tl:TE}(hl:PE X l tl):PI X tg l (Pk X.K tl):=by
 intro EC s Y H R I h
 refine zC (hl EC s Y H _ I h) λ v s1 ⟨x,H1,I1,r1,a,hx,q1⟩=>?_
 subst hx
 cases r1
 have new:∀ b∈[s1.heap.objs.size],vY X EC H1 b:=λ b hb=>by
  obtain rfl:b=s1.heap.objs.size:=AX.mp hb
  exact I1.kI (Aj _) (I1.zp.fresh (Aj _))
 rcases q1 with ⟨⟨xs,hq⟩,q⟩ | ⟨⟨xs,hq⟩,q⟩
 ·obtain⟨its,_,pl,_⟩:=I1.list hq
  exact K4 pl.isList ⟨_,_,_,_,H1,rfl,I1.kept (t':=s1.toks) λ b o eo=>KC _ eo,Wl a _,⟨_,AF _ rfl,rfl,rfl⟩,new,q⟩
 ·obtain⟨its,_,pt,_⟩:=I1.tuple hq
  exact wpAny_pyIter_tuple (show s1.heap.IsTuple a its.toArray from pt) ⟨_,_,_,_,H1,rfl,I1.kept (t':=s1.toks) λ b o eo=>KC _ eo,Wj a _,⟨_,AF _ rfl,rfl,rfl⟩,new,q⟩
def range_all (bs:List Bool):(List.range bs.length).all (λ i=>bs.getD i true)=bs.all id:=by
 rw[BL,Bj,Bj]
 constructor
 ·intro h b hb
  obtain⟨i,hi,rfl⟩:=B3.mp hb
  have:=h i (AR.mpr hi)
  simpa [hi] using this
 ·intro h i hi
  have Gy:=AR.mp hi
  have:=h bs[i] (BJ Gy)
  simpa [Gy] using this
def range_any (bs:List Bool):(List.range bs.length).any (λ i=>bs.getD i true)=bs.any id:=by
 rw[BL,Bb,Bb]
 constructor
 ·rintro⟨i,hi,h⟩
  have Gy:=AR.mp hi
  exact⟨bs[i],BJ Gy,by simpa [Gy] using h⟩
 ·rintro⟨b,hb,h⟩
  obtain⟨i,hi,rfl⟩:=B3.mp hb
  exact⟨i,AR.mpr hi,by simpa [hi] using h⟩
def Yw {bs:List Bool}{its:Ad}(r:Vals (bs.map V.bl) its) {i:Nat}{v:Value}(h:its.toArray[i]?=some v):v=.bool (bs.getD i true):=by
 have hl:=r.length
 rw[AD] at hl
 have h':its[i]?=some v:=by simpa using h
 have hi:i<bs.length:=by
  rw[hl]
  rcases Bs i its.length with q | q
  ·exact q
  ·rw[List.getElem?_eq_none q] at h';cases h'
 obtain⟨u,e1,e2⟩:=r.get (i:=i) (x:=.bl bs[i]) (by simp[hi])
 rw[h'] at e1;cases e1
 have:v=.bool bs[i]:=e2
 rw[this]
 simp[hi]
section
variable {X:Cx}
def Nw (hc:X.calm=true):yB X (.builtin "all") (λ xs H Q=>∃ p,∃ bs:List Bool,xs=[.ref p]/\zO X.K H p (bs.map V.bl)/\Q (.bl (bs.all id)) H):=by
 intro EC s Y H xs us Q I r h
 obtain⟨p,bs,rfl,hq,q⟩:=h
 obtain⟨u,rfl,ru⟩:=vals1 r
 cases ru
 obtain⟨its,rv,pl,hz⟩:=I.list hq
 have hl:=rv.length
 rw[AD] at hl
 have Ao:p<s.heap.objs.size:=by obtain⟨o,n,e,_⟩:=pl;exact Al e
 refine call_all_walk (K4 pl.isList ?_)
 refine⟨s.heap.objs.size,_,_,_,_,_,λ i=>bs.getD i true,rfl,Walks.list (A:=X.A.in1) (I.ok.hd hc) s.heap.objs.size p (Ar Ao) its.toArray,⟨⟨_,AF _ rfl,rfl,rfl⟩,pl.isList.push _⟩,λ i v s' Q' E' hv HV=>?_,λ h' tk hk=>?_⟩
 ·rw[Yw rv hv]
  exact KZ HV
 ·have e:(List.range its.toArray.size).all (λ i=>bs.getD i true)=bs.all id:=by rw[AA,<- hl,range_all]
  rw[e]
  exact⟨.bl _,H,I.kept (t':=tk) λ b o eo=>hk b o (by simpa using Ar (Al eo)) (KC _ eo),rfl,q⟩
def Nv (hc:X.calm=true):yB X (.builtin "any") (λ xs H Q=>∃ p,∃ bs:List Bool,xs=[.ref p]/\zO X.K H p (bs.map V.bl)/\Q (.bl (bs.any id)) H):=by
 intro EC s Y H xs us Q I r h
 obtain⟨p,bs,rfl,hq,q⟩:=h
 obtain⟨u,rfl,ru⟩:=vals1 r
 cases ru
 obtain⟨its,rv,pl,hz⟩:=I.list hq
 have hl:=rv.length
 rw[AD] at hl
 have Ao:p<s.heap.objs.size:=by obtain⟨o,n,e,_⟩:=pl;exact Al e
 refine call_any_walk (K4 pl.isList ?_)
 refine⟨s.heap.objs.size,_,_,_,_,_,λ i=>bs.getD i true,rfl,Walks.list (A:=X.A.in1) (I.ok.hd hc) s.heap.objs.size p (Ar Ao) its.toArray,⟨⟨_,AF _ rfl,rfl,rfl⟩,pl.isList.push _⟩,λ i v s' Q' E' hv HV=>?_,λ h' tk hk=>?_⟩
 ·rw[Yw rv hv]
  exact KZ HV
 ·have e:(List.range its.toArray.size).any (λ i=>bs.getD i true)=bs.any id:=by rw[AA,<- hl,range_any]
  rw[e]
  exact⟨.bl _,H,I.kept (t':=tk) λ b o eo=>hk b o (by simpa using Ar (Al eo)) (KC _ eo),rfl,q⟩
end
end L2
namespace L3
open PySem PySem.Spec L2
open PyProof.Rows hiding St
structure Bt (mg:Aq):Prop where
 len:mg "len"=none
 range:mg "range"=none
 any:mg "any"=none
 all:mg "all"=none
 sorted:mg "sorted"=none
 isinstance:mg "isinstance"=none
 bool:mg "bool"=none
 int:mg "int"=none
 str:mg "str"=none
 list:mg "list"=none
 tuple:mg "tuple"=none
 max:mg "max"=none
 min:mg "min"=none
section
variable {X:Cx}{a e:Expr}{es:List Expr}{te:zu}{pos p:Pos}
def u7 {N':List Str}{pick:List (Option Nat)}{scope esc:Scope}{N:List Str}(hE:X.env.scope=esc:=by rfl) (hN:X.N=N:=by rfl) (h1:scope.kind=.function:=by rfl) (h2:scope.names.all (λ y=>decide (y.2≠.cell))=true:=by decide +kernel)
  (h3:scope.names.all (λ y=>!decide (y.2=.local)||decide (scope.names.lookup y.1=some .local))=true:=by decide +kernel)
  (h4:scope.names.all (λ y=>!decide (y.2=.free)||(decide (esc.names.lookup y.1=some .cell)||decide (esc.names.lookup y.1=some .free)))=true:=by decide +kernel)
  (h5:pick.length=N'.length:=by rfl) (h6:qW N N' pick scope=true:=by decide +kernel):qH X N' pick scope:=by
 refine⟨h1,λ y hy=>?_,λ y hy hl=>?_,λ y hy hf=>?_,h5,by rw[hN];exact h6⟩
 ·exact of_decide_eq_true (Bj.mp h2 y hy)
 ·have:=Bj.mp h3 y hy
  rw[KU hl] at this
  simpa using this
 ·have:=Bj.mp h4 y hy
  rw[KU hf] at this
  rw[hE]
  simpa using this
def yE (i:Nat) {x:Str}(hN:X.N.Nodup) (hi:X.N[i]?=some x:=by rfl) (hx:Loc X.env.scope x:=by first | exact Or.inl rfl | exact Or.inr rfl) (hf:X.fn x=true\/X.env.scope.names.lookup x=some .local:=by first | exact .inl rfl | exact .inr rfl):rC X (.Name x pos) (hName i):=
 UK (Uh hN hi hx hf)
def nh {k:Nat}{t:wQ}{n:Nat}(h:jf X es t) (hc:X.calm=true:=by rfl) (hn:(assignEach es X.env).length=n:=by rfl) (AJ:(assignEach es X.env).findIdx? (·.1)=none:=by rfl):rC X (.Tuple es k pos) (kE n t):=
 UJ (Ue hc h.pg hn AJ) h.mo
def zP (i:Nat) {x:Str}{pos':Pos}(hN:X.N.Nodup) (he:PD X e te) (hi:X.N[i]?=some x:=by rfl) (hx:Loc X.env.scope x:=by first | exact Or.inl rfl | exact Or.inr rfl) (hs:swapsWith e (some (.Name x pos')) pos.line X.env=pure false:=by rfl)
  (hf:X.fn x=true\/X.env.scope.names.lookup x=some .local:=by first | exact .inl rfl | exact .inr rfl):vV X (.Assign [.Name x pos'] e pos) (t8 te (hName i)):=
 UD (b7 hN hi hx he.pe hs hf) he.mo
def gK (te:zu):wO:=fun L S R=>te L S λ x S1=>match x with
 | .tup ds=>R ⟨ds,λ _=>True⟩ S1
 | .xP ds=>R ⟨ds,λ _=>True⟩ S1
 | .ref p=>match S1 p with
  | some (.lst ds)=>R ⟨ds,λ S=>S p=some (.lst ds)⟩ S1
  | _=>False
 | _=>False
def wX {tg:Expr}(h:PD X e te):rB X tg e (gK te):=by
 refine⟨fun L S Q Q' hq z=>h.mo L S _ _ (λ x S1 z=>?_) z,?_⟩
 ·cases x with
  | ref p=>
   dsimp only at z ⊢
   split at z
   ·exact hq _ _ z
   ·exact z.elim
  | xP ds=>exact hq _ _ z
  | tup ds=>exact hq _ _ z
  | _=>exact z
 ·refine PI.imp (V_ h.pe) fun Y H R hu=>?_
  obtain⟨L,S,r1,r2,z⟩:=hu
  refine zK.go h.mo r1 r2 z λ x S1 v H1 h1 q1 e1 p1=>?_
  cases x with
  | tup ds=>
   simp only[zh] at q1
   obtain⟨a,xs,rfl,g1,g2⟩:=q1
   refine⟨a,rfl,.inr ⟨⟨xs,g1⟩,h1 _ H1 e1 p1 λ i H2 S2 x1 x2 _=>⟨λ d hd=>?_,λ hl=>⟨xs,x1.lI g1,by rw[<- g2.length];exact hl⟩⟩⟩⟩
   obtain⟨y,hy,_⟩:=g2.get hd
   refine⟨⟨xs,y,x1.lI g1,hy⟩,λ x H' q=>?_⟩
   obtain⟨rfl,q⟩:=q
   exact⟨.refl _,x2,(zo.ext x1 ds g2).at hd (q xs (x1.lI g1))⟩
  | ref p=>
   dsimp only at h1
   split at h1
   ·rename_i ds e2
    simp only[zh] at q1
    subst q1
    obtain⟨xs0,g1,_⟩:=p1 _ _ e2
    refine⟨p,rfl,.inl ⟨⟨xs0,zO.of g1⟩,h1 _ H1 e1 p1 λ i H2 S2 x1 x2 hk=>?_⟩⟩
    obtain⟨xs,g3,g4⟩:=x2 _ _ hk
    refine⟨λ d hd=>?_,λ hl=>⟨xs,zO.of g3,by rw[<- g4.length];exact hl⟩⟩
    obtain⟨y,hy,_⟩:=g4.get hd
    refine⟨⟨xs,y,zO.of g3,hy⟩,λ x H' q=>?_⟩
    obtain⟨rfl,q⟩:=q
    exact⟨.refl _,x2,g4.at hd (q xs (zO.of g3))⟩
   ·exact h1.elim
  | xP ds=>
   simp only[zh] at q1
   obtain⟨a,xs,rfl,g1,g2⟩:=q1
   refine⟨a,rfl,.inl ⟨⟨xs,g1.sq⟩,h1 _ H1 e1 p1 λ i H2 S2 x1 x2 _=>⟨λ d hd=>?_,λ hl=>⟨xs,(x1.lJ g1).sq,by rw[<- g2.length];exact hl⟩⟩⟩⟩
   obtain⟨y,hy,_⟩:=g2.get hd
   refine⟨⟨xs,y,(x1.lJ g1).sq,hy⟩,λ x H' q=>?_⟩
   obtain⟨rfl,q⟩:=q
   exact⟨.refl _,x2,(zo.ext x1 ds g2).at hd (q xs (x1.lJ g1).sq)⟩
  | _=>exact h1.elim
end
end L3
namespace L4
open PySem PySem.W PyProof.Rows
noncomputable def y9 {α:Type}(n:Nat) (lt:Nat->Nat->Bool):KasT α->(α->Prop)->Prop
 | .ret a,Q=>Q a
 | .ask i j k,Q=>i<n/\j<n/\y9 n lt (k (lt i j)) Q
theorem y9.mono {α:Type}{n:Nat}{lt:Nat->Nat->Bool}{Q Q':α->Prop}(hq:∀ a,Q a->Q' a):∀ {t:KasT α},y9 n lt t Q->y9 n lt t Q'
 | .ret _,h=>hq _ h
 | .ask _ _ _,h=>⟨h.1,h.2.1,y9.mono hq h.2.2⟩
theorem y9.bind {α β:Type}{n:Nat}{lt:Nat->Nat->Bool}{f:α->KasT β}{Q:β->Prop}:∀ {t:KasT α},y9 n lt t (λ a=>y9 n lt (f a) Q)->y9 n lt (t.bind f) Q
 | .ret _,h=>h
 | .ask _ _ _,h=>⟨h.1,h.2.1,y9.bind h.2.2⟩
section
variable {n:Nat}{lt:Nat->Nat->Bool}
def Le (lt:Nat->Nat->Bool) (a b:Nat):Prop:=lt b a=false
structure Ord (lt:Nat->Nat->Bool):Prop where
 tr:∀ a b c,Le lt a b->Le lt b c->Le lt a c
 as:∀ a b,lt a b=true->Le lt a b
def Ord.refl (o:Ord lt) (a:Nat):Le lt a a:=by
 cases h:lt a a with
 | false=>exact h
 | true=>exact o.as a a h
def xw (n:Nat) (p:Array Nat):Prop:=p.Perm (List.range n).toArray
theorem xw.size {p:Array Nat}(h:xw n p):p.size=n:=by rw[Array.Perm.size_eq h];simp
def xw.below {p:Array Nat}(h:xw n p) {i:Nat}(hi:i<n):p.getD i 0<n:=by
 have hs:=h.size
 have hm:p.getD i 0∈p:=by
  rw[DD,Bk (by lia)]
  exact Array.getElem_mem (by lia)
 have:p.getD i 0∈(List.range n).toArray:=(Array.Perm.mem_iff h).mp hm
 simpa using this
def nK {p q:Array Nat}{i j:Nat}(h:p[i]?=q[j]?):p.getD i 0=q.getD j 0:=by rw[DD,DD,h]
def vp (lt:Nat->Nat->Bool) (p:Array Nat) (k:Nat):Prop:=∀ i j,i<=j->j<k->Le lt (p.getD i 0) (p.getD j 0)
def tK (lt:Nat->Nat->Bool) (p:Array Nat) (k:Nat):Prop:=∀ i j,i<=j->j<k->Le lt (p.getD j 0) (p.getD i 0)
def vp.next (o:Ord lt) {p:Array Nat}{k:Nat}(h:vp lt p k) (hk:1<=k) (hl:Le lt (p.getD (k-1) 0) (p.getD k 0)):vp lt p (k+1):=λ i j A1 hj=>by
 by_cases Eo:j<k
 ·exact h i j A1 Eo
 ·have e:j=k:=by lia
  subst e
  by_cases hi:i=j
  ·subst hi;exact o.refl _
  ·exact o.tr _ _ _ (h i (j-1) (by lia) (by lia)) hl
def tK.next (o:Ord lt) {p:Array Nat}{k:Nat}(h:tK lt p k) (hk:1<=k) (hl:Le lt (p.getD k 0) (p.getD (k-1) 0)):tK lt p (k+1):=λ i j A1 hj=>by
 by_cases Eo:j<k
 ·exact h i j A1 Eo
 ·have e:j=k:=by lia
  subst e
  by_cases hi:i=j
  ·subst hi;exact o.refl _
  ·exact o.tr _ _ _ hl (h i (j-1) (by lia) (by lia))
theorem eA (o:Ord lt) {p:Array Nat}(hp:xw n p):∀ (f a:Nat),1<=a->a+f<=n->vp lt p a->
  y9 n lt (kas_asc p f a) λ m=>a<=m/\m<=a+f/\vp lt p m/\(m=a+f\/lt (p.getD m 0) (p.getD (m-1) 0)=true)
 | 0,a,_,_,hs=>⟨Aj _,Aj _,hs,.inl rfl⟩
 | f+1,a,h1,h2,hs=>by
  refine⟨hp.below (by lia),hp.below (by lia),?_⟩
  cases c:lt (p.getD a 0) (p.getD (a-1) 0) with
  | true=>exact⟨Aj _,by lia,hs,.inr c⟩
  | false=>
   refine y9.mono ?_ (eA o hp f (a+1) (by lia) (by lia) (hs.next o h1 c))
   rintro m ⟨g1,g2,g3,g4⟩
   exact⟨by lia,by lia,g3,g4.imp (λ e=>by lia) id⟩
def oV {p:Array Nat}(hp:xw n p) (i j:Nat):xw n (kas_rev p i j):=Array.Perm.trans (mirror_perm _ _ _ _) hp
def oW {p:Array Nat}(hp:xw n p) {i j:Nat}(hj:j<=n) (k:Nat):(kas_rev p i j).getD k 0=if i<=k/\k<j then p.getD (i+j-1-k) 0 else p.getD k 0:=by
 have e:=getElem?_mirror_all (xs:=p) (i:=i) (j:=j) (by rw[hp.size];exact hj) k
 split
 ·rename_i h;rw[if_pos h] at e;exact nK e
 ·rename_i h;rw[if_neg h] at e;exact nK e
def rev_eq (o:Ord lt) {p:Array Nat}(hp:xw n p) {i j:Nat}(hj:j<=n) (he:∀ a b,i<=a->a<j->i<=b->b<j->Le lt (p.getD a 0) (p.getD b 0)) (k:Nat):
  Le lt ((kas_rev p i j).getD k 0) (p.getD k 0)/\Le lt (p.getD k 0) ((kas_rev p i j).getD k 0):=by
 rw[oW hp hj]
 split
 ·rename_i h;exact⟨he _ _ (by lia) (by lia) h.1 h.2,he _ _ h.1 h.2 (by lia) (by lia)⟩
 ·exact⟨o.refl _,o.refl _⟩
def tK.of_eq (o:Ord lt) {p q:Array Nat}{k:Nat}(h:tK lt p k) (e:∀ k,Le lt (q.getD k 0) (p.getD k 0)/\Le lt (p.getD k 0) (q.getD k 0)):tK lt q k:=λ i j A1 hj=>
 o.tr _ _ _ (e j).1 (o.tr _ _ _ (h i j A1 hj) (e i).2)
def eU (lt:Nat->Nat->Bool) (p:Array Nat) (m q:Nat):Prop:=∀ a b,m-(q+1)<=a->a<m->m-(q+1)<=b->b<m->Le lt (p.getD a 0) (p.getD b 0)
theorem kW (o:Ord lt):∀ (f:Nat) (p:Array Nat) (m q:Nat),xw n p->1<=m->m+f<=n->tK lt p m->q+1<=m->eU lt p m q->
  y9 n lt (kas_desc f p m q) λ r=>xw n r.1/\m<=r.2.1/\r.2.1<=m+f/\tK lt r.1 r.2.1/\r.2.2+1<=r.2.1/\eU lt r.1 r.2.1 r.2.2
 | 0,p,m,q,hp,_,_,hd,hq,hb=>⟨hp,Aj _,Aj _,hd,hq,hb⟩
 | f+1,p,m,q,hp,h1,h2,hd,hq,hb=>by
  have one:∀ p':Array Nat,eU lt p' (m+1) 0:=λ p' a b a1 a2 b1 b2=>by
   have:a=b:=by lia
   subst this;exact o.refl _
  refine⟨hp.below (by lia),hp.below (by lia),?_⟩
  cases c:lt (p.getD m 0) (p.getD (m-1) 0) with
  | true=>
   dsimp only
   rw[if_pos rfl]
   have hl:=o.as _ _ c
   by_cases h0:q>0
   ·rw[if_pos h0]
    have e:=rev_eq o hp (i:=m-(q+1)) (j:=m) (by lia) hb
    have G9:=oV hp (m-(q+1)) m
    refine y9.mono ?_ (kW o f _ (m+1) 0 G9 (by lia) (by lia) ((hd.of_eq o e).next o h1 (o.tr _ _ _ (e m).1 (o.tr _ _ _ hl (e (m-1)).2))) (by lia) (one _))
    rintro r ⟨a1,a2,a3,a4⟩
    exact⟨a1,by lia,by lia,a4⟩
   ·rw[if_neg h0]
    refine y9.mono ?_ (kW o f _ (m+1) 0 hp (by lia) (by lia) (hd.next o h1 hl) (by lia) (one _))
    rintro r ⟨a1,a2,a3,a4⟩
    exact⟨a1,by lia,by lia,a4⟩
  | false=>
   dsimp only
   rw[if_neg BN]
   refine⟨hp.below (by lia),hp.below (by lia),?_⟩
   cases d:lt (p.getD (m-1) 0) (p.getD m 0) with
   | true=>exact⟨hp,Aj _,(by show m<=m+(f+1);lia),hd,hq,hb⟩
   | false=>
    dsimp only
    rw[if_neg BN]
    refine y9.mono ?_ (kW o f _ (m+1) (q+1) hp (by lia) (by lia) (hd.next o h1 d) (by lia) λ a b a1 a2 b1 b2=>?_)
    ·rintro r ⟨a1,a2,a3,a4⟩
     exact⟨a1,by lia,by lia,a4⟩
    ·by_cases ha:a=m
     ·by_cases Hc:b=m
      ·subst ha;subst Hc;exact o.refl _
      ·subst ha;exact o.tr _ _ _ d (hb (a-1) b (by lia) (by lia) (by lia) (by lia))
     ·by_cases Hc:b=m
      ·subst Hc;exact o.tr _ _ _ (hb a (b-1) (by lia) (by lia) (by lia) (by lia)) c
      ·exact hb a b (by lia) (by lia) (by lia) (by lia)
def c6 (o:Ord lt) {p:Array Nat}{m:Nat}(hp:xw n p) (h1:1<=m) (h2:m<=n) (hd:tK lt p m):y9 n lt (kas_tail3 m n p) λ r=>xw n r.2/\r.1<=n/\vp lt r.2 r.1:=by
 refine y9.bind (y9.mono ?_ (eA o (oV hp 0 m) (n-m) m h1 (by lia) λ i j A1 hj=>?_))
 ·rintro k ⟨a1,a2,a3,_⟩
  exact⟨oV hp 0 m,by lia,a3⟩
 ·rw[oW hp h2,oW hp h2,if_pos ⟨AO _,by lia⟩,if_pos ⟨AO _,hj⟩]
  exact hd _ _ (by lia) (by lia)
def ZX (o:Ord lt) {p:Array Nat}{m:Nat}(hp:xw n p) (h1:1<=m) (h2:m<n) (hd:tK lt p m) (hl:lt (p.getD m 0) (p.getD (m-1) 0)=true):y9 n lt (kas_descPart m n p) λ r=>xw n r.2/\r.1<=n/\vp lt r.2 r.1:=by
 refine y9.bind (y9.mono ?_ (kW o (n-(m+1)) p (m+1) 0 hp (by lia) (by lia) (hd.next o h1 (o.as _ _ hl)) (by lia) λ a b a1 a2 b1 b2=>?_))
 ·rintro⟨p',m',q'⟩ ⟨a1,a2,a3,a4,a5,a6⟩
  dsimp only at a1 a2 a3 a4 a5 a6 ⊢
  by_cases h0:q'>0
  ·rw[if_pos h0]
   exact c6 o (oV a1 _ _) (by lia) (by lia) (a4.of_eq o (rev_eq o a1 (i:=m'-(q' + 1)) (j:=m') (by lia) a6))
  ·rw[if_neg h0]
   exact c6 o a1 (by lia) (by lia) a4
 ·have:a=b:=by lia
  subst this;exact o.refl _
def OM (o:Ord lt) {p:Array Nat}(hp:xw n p) (h1:1<=n):y9 n lt (kas_count n p) λ r=>xw n r.2/\r.1<=n/\vp lt r.2 r.1:=by
 refine y9.bind (y9.mono ?_ (eA o hp (n-1) 1 (Aj _) (by lia) λ i j A1 hj=>?_))
 ·rintro m ⟨a1,a2,a3,a4⟩
  by_cases hm:m=n
  ·rw[if_pos (by simp[hm])]
   exact⟨hp,by lia,a3⟩
  ·rw[if_neg (by simp[hm])]
   have hl:lt (p.getD m 0) (p.getD (m-1) 0)=true:=a4.resolve_left (by lia)
   by_cases h2:m>1
   ·rw[if_pos h2]
    refine⟨hp.below (by lia),hp.below (by lia),?_⟩
    cases c:lt (p.getD 0 0) (p.getD (m-1) 0) with
    | true=>exact⟨hp,by lia,a3⟩
    | false=>
     dsimp only
     rw[if_neg BN]
     have all:∀ a b,0<=a->a<m->0<=b->b<m->Le lt (p.getD a 0) (p.getD b 0):=λ a b _ ha _ hb=>
      o.tr _ _ _ (a3 a (m-1) (by lia) (by lia)) (o.tr _ _ _ c (a3 0 b (by lia) hb))
     have e:=rev_eq o hp (i:=0) (j:=m) (by lia) all
     refine ZX o (oV hp 0 m) (by lia) (by lia) (λ i j A1 hj=>o.tr _ _ _ (e j).1 (o.tr _ _ _ (all _ _ (AO _) hj (AO _) (by lia)) (e i).2)) ?_
     rw[oW hp (by lia),oW hp (by lia),if_neg (by lia),if_pos (by lia)]
     cases q:lt (p.getD m 0) (p.getD (0+m-1-(m-1)) 0) with
     | true=>rfl
     | false=>
      have:=o.tr _ _ _ (all (m-1) (0+m-1-(m-1)) (AO _) (by lia) (AO _) (by lia)) q
      unfold Le at this
      rw[this] at hl;cases hl
   ·rw[if_neg h2]
    have e:m=1:=by lia
    subst e
    refine ZX o hp (Aj _) (by lia) (λ i j A1 hj=>?_) hl
    have:i=j:=by lia
    subst this;exact o.refl _
 ·have:i=j:=by lia
  subst this;exact o.refl _
theorem iU {p:Array Nat}{k:Nat}(hp:xw n p) (hk:k<n) (hs:vp lt p k) (o:Ord lt):∀ (f l r:Nat),r-l<=f->l<=r->r<=k->(∀ i,i<l->Le lt (p.getD i 0) (p.getD k 0))->(∀ i,r<=i->i<k->lt (p.getD k 0) (p.getD i 0)=true)->
  y9 n lt (kas_place p k f l r) λ m=>m<=k/\(∀ i,i<m->Le lt (p.getD i 0) (p.getD k 0))/\(∀ i,m<=i->i<k->lt (p.getD k 0) (p.getD i 0)=true)
 | 0,l,r,h0,h1,h2,ha,hb=>by
  have:l=r:=by lia
  subst this
  exact⟨h2,ha,hb⟩
 | f+1,l,r,h0,h1,h2,ha,hb=>by
  unfold kas_place
  by_cases Ck:l≥r
  ·rw[if_pos Ck]
   have:l=r:=by lia
   subst this
   exact⟨h2,ha,hb⟩
  ·rw[if_neg Ck]
   refine⟨hp.below hk,hp.below (by lia),?_⟩
   cases c:lt (p.getD k 0) (p.getD ((l+r)/2) 0) with
   | true=>
    dsimp only
    rw[if_pos rfl]
    refine iU hp hk hs o f l ((l+r)/2) (by lia) (by lia) (by lia) ha λ i hi DM=>?_
    cases q:lt (p.getD k 0) (p.getD i 0) with
    | true=>rfl
    | false=>
     have:=o.tr _ _ _ (hs ((l+r)/2) i hi DM) q
     unfold Le at this
     rw[this] at c;cases c
   | false=>
    dsimp only
    rw[if_neg BN]
    refine iU hp hk hs o f ((l+r)/2+1) r (by lia) (by lia) h2 (λ i hi=>?_) hb
    exact o.tr _ _ _ (hs i ((l+r)/2) (by lia) (by lia)) c
theorem Y6 (o:Ord lt):∀ (f:Nat) (p:Array Nat) (k:Nat),xw n p->k+f=n->vp lt p k->y9 n lt (kas_bin f p k) λ r=>xw n r/\vp lt r n
 | 0,p,k,hp,h1,hs=>by
  have:k=n:=by lia
  subst this
  exact⟨hp,hs⟩
 | f+1,p,k,hp,h1,hs=>by
  refine y9.bind (y9.mono ?_ (iU hp (by lia) hs o k 0 k (by lia) (AO _) (Aj _) (λ i hi=>absurd hi (Nat.not_lt_zero _)) λ i hi DM=>absurd DM (by lia)))
  rintro l ⟨a1,a2,a3⟩
  refine Y6 o f _ (k+1) (Array.Perm.trans (bubble_perm _ _ _) hp) (by lia) λ i j A1 hj=>?_
  have ev:∀ x,(bubble p k (k-l)).getD x 0=if x=l then p.getD k 0 else if l<x/\x<=k then p.getD (x-1) 0 else p.getD x 0:=λ x=>by
   have e:=getElem?_bubble (xs:=p) (src:=k) (by rw[hp.size];lia) (k-l) (by lia) x
   rw[show k-(k-l)=l by lia] at e
   split
   ·rename_i h;rw[if_pos h] at e;exact nK e
   ·rename_i h
    rw[if_neg h] at e
    split
    ·rename_i h';rw[if_pos h'] at e;exact nK e
    ·rename_i h';rw[if_neg h'] at e;exact nK e
  rw[ev i,ev j]
  by_cases hi:i=l
  ·rw[if_pos hi]
   by_cases GL:j=l
   ·rw[if_pos GL];exact o.refl _
   ·rw[if_neg GL,if_pos ⟨by lia,by lia⟩]
    exact o.as _ _ (a3 (j-1) (by lia) (by lia))
  ·rw[if_neg hi]
   by_cases GL:j=l
   ·rw[if_pos GL,if_neg (by lia)]
    exact a2 i (by lia)
   ·rw[if_neg GL]
    by_cases hi2:l<i/\i<=k
    ·rw[if_pos hi2,if_pos ⟨by lia,by lia⟩]
     exact hs _ _ (by lia) (by lia)
    ·rw[if_neg hi2]
     by_cases hj2:l<j/\j<=k
     ·rw[if_pos hj2]
      exact hs _ _ (by lia) (by lia)
     ·rw[if_neg hj2]
      exact hs _ _ A1 (by lia)
def WR (o:Ord lt) (h1:1<=n):y9 n lt (kas_sort n) λ r=>xw n r/\vp lt r n:=by
 have hp:xw n (List.range n).toArray:=Array.Perm.refl _
 refine y9.bind (y9.mono ?_ (OM o hp h1))
 rintro⟨m,p⟩ ⟨a1,a2,a3⟩
 dsimp only at a1 a2 a3 ⊢
 by_cases hm:m<n
 ·rw[if_pos hm]
  refine Y6 o _ p (max m 1) a1 (by lia) ?_
  by_cases h0:m=0
  ·subst h0
   intro i j A1 hj
   have:i=j:=by lia
   subst this;exact o.refl _
  ·rw[show max m 1=m by lia];exact a3
 ·rw[if_neg hm]
  have:m=n:=by lia
  subst this
  exact⟨a1,a3⟩
end
end L4
namespace L4
open PySem PySem.W PySem.Calls PyProof.Rows
section
variable {prog:Program}{w:World}{A:Around}{E:Ae}{s:Shared}
def Core (prog:Program) (w:World) (A:Around) (E:Ae) (vs:Ad) (Out:Array Value->Prop) (s6:Shared):Prop:=
 wpAny (model prog w) A (keyKind' vs.toArray) (fun κ s'=>s'=s6/\wpAny (model prog w) A ((sortRuns').run (SortSt.mk' κ (vs.toArray.zip vs.toArray) #[] 7 none))
  (λ r Hk=>Hk=s6/\failedOf r.2=none/\Out ((arrOf r.2).map (·.2))/\(arrOf r.2).size=vs.length) E s') E s6
def gF {a:Addr}{vs:Ad}{n:Nat}{P:PySem.Fin->Shared->Prop}{Out:Array Value->Prop}(ho:s.heap.get? a=some (seqObj "list" vs.toArray n)) (hz:vs.length<=sizeLine)
  (core:2<=vs.length->∀ s6:Shared,(∀ b o,b≠a->s.heap.get? b=some o->s6.heap.get? b=some o)->Core prog w A E vs Out s6) (short:vs.length<2->Out vs.toArray)
  (fin:∀ out:Array Value,Out out->out.size=vs.length->P (.done (.ret .none)) { s with heap:=sortedHeap s.heap a vs out }):
  wpAny (model prog w) A (Builtin.«list.sort» ⟨[.ref a],[]⟩) P E s:=by
 have ha:a<s.heap.objs.size:=Al ho
 obtain⟨e1,g1⟩:∃ e1,(s.heap.update a (Obj.mapSeq λ _=>#[])).get? a=some (seqObj "list" #[] e1):=⟨_,get?_update_seq ho (λ _=>#[])⟩
 have Jy:vs.toArray.size<=sizeLine:=by rw[AA];exact hz
 have g6:(((s.heap.update a (Obj.mapSeq λ _=>#[])).push (seqObj "tuple" vs.toArray 0)).push (seqObj "list" #[] 0)).get? a=some (seqObj "list" #[] e1):=KC _ (KC _ g1)
 have keep:∀ b o,b≠a->s.heap.get? b=some o->(((s.heap.update a (Obj.mapSeq λ _=>#[])).push (seqObj "tuple" vs.toArray 0)).push (seqObj "list" #[] 0)).get? b=some o:=
  λ b o hb e=>KC _ (KC _ (by rw[K6 _ _ _ _ hb];exact e))
 rw[list_sort_plain]
 refine JI (listItems_at ho rfl (JI (listUpdate_at ho rfl (JI (seqEpoch_at g1 rfl (JI (wpAny_newTuple (JI (wpAny_newList (KJ ?_))) (by simpa using hz))))) Jy (AO _))))
 by_cases h2:vs.toArray.size<2
 ·rw[if_pos h2,if_pos h2]
  have e2:(arrOf (SortSt.mk' general' (vs.toArray.zip vs.toArray) #[] 7 none)).map (·.2)=vs.toArray:=by
   show (vs.toArray.zip vs.toArray).map (·.2)=vs.toArray
   apply Array.ext (by simp)
   intro i h1 h2
   simp
  refine JI (Ac ?_)
  dsimp only
  rw[StateT.run_pure]
  refine JI (Ac ?_)
  dsimp only
  refine JI (seqEpoch_at g6 rfl (JI (listUpdate_at g6 rfl ?_ (AO _) ?_)))
  ·simp only[bne_self_eq_false,Bc,if_false]
   have q:=fin _ (e2▸short (by simpa using h2)) (by rw[e2];simp)
   exact Ac q
  ·show (((arrOf (SortSt.mk' general' (vs.toArray.zip vs.toArray) #[] 7 none)).map (·.2))).size<=sizeLine+1
   rw[e2];lia
 ·rw[if_neg h2,if_neg h2]
  have Ko:2<=vs.length:=by simpa using h2
  refine JI (KG (core Ko _ keep) (fun κ s7 ⟨hs,h7⟩=>?_) λ _ _ z=>z)
  subst hs
  refine JI (KG h7 (λ r s8 ⟨hs,hf,Eg,hsz⟩=>?_) λ _ _ z=>z)
  subst hs
  obtain⟨⟨⟩,st⟩:=r
  refine JI (seqEpoch_at g6 rfl (JI (listUpdate_at g6 rfl ?_ (AO _) ?_)))
  ·have GV:failedOf st=none:=hf
   rw[GV]
   simp only[bne_self_eq_false,Bc,if_false]
   exact Ac (fin _ Eg (by rw[C6];exact hsz))
  ·show ((arrOf st).map (·.2)).size<=sizeLine+1
   rw[C6]
   have:(arrOf st).size=vs.length:=hsz
   lia
def WQ {l:Addr}{vs:Ad}{Q:Ae}{Out:Array Value->Prop}(hl:s.heap.IsList l vs.toArray) (hz:vs.length<=sizeLine)
  (core:2<=vs.length->∀ s6:Shared,(∀ b o,s.heap.get? b=some o->s6.heap.get? b=some o)->Core prog w A.in1.in1 E vs Out s6) (short:vs.length<2->Out vs.toArray)
  (fin:∀ out:Array Value,Out out->out.size=vs.length->Q (.ref (s.heap.objs.size+1)) { s with heap:=sortedAll s.heap vs out }):
  wpAny (model prog w) A (call (.builtin "sorted") [.ref l]) Q E s:=by
 have hsz:((s.heap.push (seqObj "list" #[] 0)).update s.heap.objs.size (Obj.mapSeq (·++vs.toArray))).objs.size=s.heap.objs.size+1:=by
  rw[Heap.size_update,size_push']
 have Hn:(((s.heap.push (seqObj "list" #[] 0)).update s.heap.objs.size (Obj.mapSeq (·++vs.toArray))).push (seqObj "list" vs.toArray 0)).get? (s.heap.objs.size+1)=some (seqObj "list" vs.toArray 0):=hsz▸AF _ rfl
 have keep:∀ b o,s.heap.get? b=some o->(((s.heap.push (seqObj "list" #[] 0)).update s.heap.objs.size (Obj.mapSeq (·++vs.toArray))).push (seqObj "list" vs.toArray 0)).get? b=some o:=λ b o q=>
  KC _ (by rw[K6 _ _ _ _ (Ar (Al q))];exact KC _ q)
 refine Calls.call_function_entry kind_sorted plain_sorted entry_sorted (args_sorted1 _) ?_
 unfold Builtin.«sorted»
 refine JI (m:=checkCount "sorted" 1 1 _) (Ac (JI (collect_list hl (JI (wpAny_newList ?_ hz)) hz)))
 show wpAny _ _ _ _ _ { s with heap:=((s.heap.push (seqObj "list" #[] 0)).update s.heap.objs.size (Obj.mapSeq (·++vs.toArray))).push (seqObj "list" vs.toArray 0) }
 rw[hsz]
 refine JI (KJ (KQ slot_list_sort ⟨_,Hn,rfl⟩ entry_list_sort (gF Hn hz (λ h2 s6 k=>core h2 s6 λ b o q=>k b o ?_ (keep b o q)) short λ out h1 h2=>⟨_,rfl,?_⟩) (args_list_sort _)))
 ·exact Ar (BH (Al q))
 ·exact Ac ⟨_,rfl,fin out h1 h2⟩
end
end L4
namespace L4
open PySem PySem.W PySem.Calls PyProof.Rows L2
theorem gI:∀ a b:List Int,HT.lexLt a b=true->HT.lexLt b a=false
 | [],[],h=>by cases h
 | [],_::_,_=>rfl
 | _::_,[],h=>by cases h
 | x::a,y::b,h=>by
  rw[HT.sY] at h ⊢
  by_cases e:x=y
  ·subst e;rw[if_pos rfl] at h ⊢;exact gI a b h
  ·rw[if_neg e] at h;rw[if_neg (Ne.symm e)]
   have:=of_decide_eq_true h
   exact KI (by lia)
theorem aM:∀ a b:List Int,HT.lexLt a b=false->HT.lexLt b a=false->a=b
 | [],[],_,_=>rfl
 | [],_::_,h,_=>by cases h
 | _::_,[],_,h=>by cases h
 | x::a,y::b,h,h'=>by
  rw[HT.sY] at h h'
  by_cases e:x=y
  ·subst e;rw[if_pos rfl] at h h';rw[aM a b h h']
  ·rw[if_neg e] at h;rw[if_neg (Ne.symm e)] at h'
   have h1:=of_decide_eq_false h
   have h2:=of_decide_eq_false h'
   lia
theorem gH:∀ a b c:List Int,HT.lexLt b a=false->HT.lexLt c b=false->HT.lexLt c a=false
 | [],[],[],_,_=>rfl
 | [],[],_::_,_,h=>h
 | [],_::_,[],_,h=>by cases h
 | [],_::_,_::_,_,_=>rfl
 | _::_,[],_,h,_=>by cases h
 | _::_,_::_,[],_,h=>by cases h
 | x::a,y::b,z::c,h,h'=>by
  rw[HT.sY] at h h' ⊢
  by_cases e1:y=x
  ·subst e1
   rw[if_pos rfl] at h
   by_cases e2:z=y
   ·subst e2;rw[if_pos rfl] at h' ⊢;exact gH a b c h h'
   ·rw[if_neg e2] at h' ⊢;exact h'
  ·rw[if_neg e1] at h
   have h1:=of_decide_eq_false h
   by_cases e2:z=y
   ·subst e2;rw[if_neg e1];exact h
   ·rw[if_neg e2] at h'
    have h2:=of_decide_eq_false h'
    rw[if_neg (by lia)]
    exact KI (by lia)
theorem iX {α:Type}{r:α->α->Prop}(an:∀ a b,r a b->r b a->a=b):∀ {l₁ l₂:List α},l₁.Perm l₂->l₁.Pairwise r->l₂.Pairwise r->l₁=l₂
 | [],l₂,h,_,_=>(List.nil_perm.mp h).symm
 | a::l₁,[],h,_,_=>absurd (List.perm_nil.mp h) (by simp)
 | a::l₁,b::l₂,h,h1,h2=>by
  have CY:a=b:=by
   have ha:a∈b::l₂:=h.mem_iff.mp Ap
   have hb:b∈a::l₁:=h.mem_iff.mpr Ap
   rcases Ai.mp ha with e | ha
   ·exact e
   ·rcases Ai.mp hb with e | hb
    ·exact e.symm
    ·exact an _ _ (List.rel_of_pairwise_cons h1 hb) (List.rel_of_pairwise_cons h2 ha)
  subst CY
  rw[iX an (List.Perm.cons_inv h) (Bz.mp h1).2 (Bz.mp h2).2]
def xJ (rows:List (List Int)):List (List Int):=rows.mergeSort λ a b=>!HT.lexLt b a
def uV (rows:List (List Int)):(xJ rows).Perm rows:=List.mergeSort_perm _ _
def jP (rows:List (List Int)):(xJ rows).Pairwise λ a b=>HT.lexLt b a=false:=by
 have:=List.pairwise_mergeSort (le:=λ a b:List Int=>!HT.lexLt b a) (λ a b c h1 h2=>by simp at h1 h2 ⊢;exact gH a b c h1 h2)
  (λ a b=>by
   cases h:HT.lexLt b a with
   | false=>simp
   | true=>simp[gI b a h]) rows
 exact this.imp λ h=>by simpa using h
def cA {rows out:List (List Int)}(hp:out.Perm rows) (hs:out.Pairwise λ a b=>HT.lexLt b a=false):out=xJ rows:=
 iX (λ a b h1 h2=>aM a b h2 h1) (hp.trans (uV rows).symm) hs (jP rows)
def oS (rows:List (List Int)) (i j:Nat):Bool:=HT.lexLt (rows.getD i []) (rows.getD j [])
def Vv (rows:List (List Int)):Ord (oS rows):=⟨λ _ _ _ h1 h2=>gH _ _ _ h1 h2,λ _ _ h=>gI _ _ h⟩
section
variable {prog:Program}{w:World}{A:Around}{E:Ae}{s:Shared}{Q:Bool->Shared->Prop}
theorem aX {b:Bool}:∀ (ns ms:List Int) (us ws:Ad) (i:Nat),IntsAre us ns->IntsAre ws ms->Q (HT.lexLt ns ms) s->KatLex prog w A b (decide (ns.length<ms.length)) Q (us.zip ws) i s
 | [],[],_,_,_,.nil,.nil,h=>kat_nil (by simpa [HT.lexLt] using h)
 | [],_::_,_,_,_,.nil,.cons _ _ _,h=>kat_nil (by simpa [HT.lexLt] using h)
 | _::_,[],_,_,_,.cons _ _ _,.nil,h=>kat_nil (by simpa [HT.lexLt] using h)
 | n::ns,m::ms,_,_,i,.cons _ t hu,.cons _ u hw,h=>by
  rw[HT.sY] at h
  refine kat_cons (SeqAt.EqAt.int_int n t m u prog w _ _ (kat_go (λ e=>kat_yes ?_) λ e=>kat_no ?_))
  ·have e':n=m:=by simpa using e
   rw[if_pos e'] at h
   rw[show decide ((n::ns).length<(m::ms).length)=decide (ns.length<ms.length) by simp]
   exact aX ns ms _ _ (i+1) hu hw h
  ·have e':¬ n=m:=by simpa using e
   rw[if_neg e'] at h
   cases b&&i == 0 with
   | true=>exact kat_lt_int h
   | false=>exact kat_one _ _ (lt_int h)
def sD (h:Heap):List Value->List (List Int)->Prop:=Paired λ v r=>r≠[]/\∃ b o its n,v=.ref b/\h.get? b=some o/\o.cls=.type "tuple"/\o.data=.seq its n/\IntsAre its.toList r
theorem sD.ZD {h:Heap}:∀ {vs:Ad}{rows:List (List Int)},sD h vs rows->∃ fs,KatTups h vs fs/\fs.length=vs.length/\∀ v∈fs,∃ n t,v=Value.int n t
 | _,_,.nil=>⟨[],KatTups.nil,rfl,λ _ hv=>absurd hv (by simp)⟩
 | _,_,.cons ⟨An,b,o,its,n,hv,ho,hc,hd,hi⟩ r=>by
  obtain⟨fs,h1,h2,h3⟩:=sD.ZD r
  subst hv
  obtain⟨its⟩:=its
  cases hi with
  | nil=>exact absurd rfl An
  | cons k t _=>exact⟨.int k t::fs,KatTups.cons ho hc hd rfl h1,by simp[h2],λ v hv=>(Ai.mp hv).elim (λ e=>⟨k,t,e⟩) (h3 v)⟩
theorem Paired.at' {α β:Type}{F:α->β->Prop}:∀ {l₁:List α}{l₂:List β}{i:Nat},Paired F l₁ l₂->i<l₁.length->∀ (d:α) (e:β),F (l₁.getD i d) (l₂.getD i e)
 | _,_,_,.nil,h,_,_=>absurd h (by simp)
 | _,_,0,.cons r _,_,_,_=>r
 | _,_,i+1,.cons _ t,h,d,e=>by simpa using Paired.at' (i:=i) t (by simpa using h) d e
def sD.ask {vs:Ad}{rows:List (List Int)}{b:Bool}(r:sD s.heap vs rows) {i j:Nat}(hi:i<vs.length) (hj:j<vs.length) {C:Bool->Shared->Prop}(h:C (oS rows i j) s):kas_ask prog w A (tuples' b) vs i j C s:=by
 obtain⟨_,b1,o1,its1,n1,e1,g1,_,d1,q1⟩:=Paired.at' r hi Value.none []
 obtain⟨_,b2,o2,Fm,n2,e2,g2,_,d2,q2⟩:=Paired.at' r hj Value.none []
 unfold kas_ask
 rw[e1,e2]
 refine kat_lt g1 d1 g2 d2 ?_
 have l1:=q1.length
 have l2:=q2.length
 rw[BB] at l1 l2
 rw[l1,l2]
 exact aX _ _ _ _ 0 q1 q2 h
theorem dS {α:Type}{n:Nat}{lt:Nat->Nat->Bool}{cmp:Nat->Nat->(Bool->Shared->Prop)->Shared->Prop}{Q:α->Shared->Prop}(hc:∀ i j C,i<n->j<n->C (lt i j) s->cmp i j C s):∀ {t:KasT α},y9 n lt t (λ a=>Q a s)->t.kasWp cmp Q s
 | .ret _,h=>h
 | .ask i j _,h=>hc i j _ h.1 h.2.1 (dS hc h.2.2)
def mH (vs:Ad) (rows:List (List Int)) (out:Av):Prop:=
 ∃ idx:List Nat,idx.Perm (List.range vs.length)/\out.toList=idx.map (λ i=>vs.getD i Value.none)/\(idx.map λ i=>rows.getD i []).Pairwise λ a b=>HT.lexLt b a=false
def WL {rows:List (List Int)}{p:Array Nat}{n:Nat}(hn:p.size=n) (h:vp (oS rows) p n):(p.toList.map λ i=>rows.getD i []).Pairwise λ a b=>HT.lexLt b a=false:=by
 rw[Cf,Cs]
 intro i j hi hj A1
 have:=h i j (BO A1) (by rw[<- hn];simpa using hj)
 simp only[BB] at hi hj
 unfold Le oS at this
 simpa [DD,hi,hj] using this
def fW {vs:Ad}{rows:List (List Int)}(r:sD s.heap vs rows) (h2:2<=vs.length) (Gg:vs.length<64):Core prog w A E vs (mH vs rows) s:=by
 obtain⟨fs,t,hl,hf⟩:=r.ZD
 unfold Core
 refine kat_kind (T:=.type "int") t (by lia) (λ v hv=>?_) rfl ⟨rfl,?_⟩
 ·obtain⟨n,t,rfl⟩:=hf v hv
  exact Looks.of_pure rfl
 ·refine kat_run (ks:=vs) (Q:=λ st Hk=>Hk=s/\failedOf st=none/\mH vs rows ((arrOf st).map (·.2))/\(arrOf st).size=vs.length) (G:=λ p Hk=>Hk=s/\xw vs.length p/\vp (oS rows) p vs.length) rfl h2 Gg (λ p st s' hs ha Es hg=>?_) ?_
  ·obtain⟨h1,h3,h4⟩:=hg
   refine⟨h1,Es,⟨p.toList,?_,?_,WL hs h4⟩,by rw[ha,C6];exact hs⟩
   ·have:=Array.Perm.toList h3
    simpa using this
   ·rw[kat_snds rfl ha]
  ·exact dS (λ i j C hi hj hC=>r.ask hi hj hC) (y9.mono (λ p hp=>⟨rfl,hp⟩) (WR (Vv rows) (by lia)))
end
section
variable {X:Cx}
def Nb:yB X (.builtin "sorted") (λ xs H Q=>∃ p ys,∃ rows:List (List Int),xs=[.ref p]/\zO X.K H p ys/\Paired (λ v r=>r≠[]/\∃ b,v=V.ref b/\zX X.K H b (r.map V.int)) ys rows/\rows.length<64/\
  ∀ (l:Addr) (idx:List Nat),H l=none->idx.Perm (List.range ys.length)->(idx.map λ i=>rows.getD i []).Pairwise (λ a b=>HT.lexLt b a=false)->Q (.ref l) (upd H l (.lst (idx.map λ i=>ys.getD i .zk)))):=by
 intro EC s Y H xs us Q I r h
 obtain⟨p,ys,rows,rfl,hq,hr,Gg,q⟩:=h
 obtain⟨u,rfl,ru⟩:=vals1 r
 cases ru
 obtain⟨its,rv,pl,hz⟩:=I.list hq
 have hl:=rv.length
 have Ck:ys.length=rows.length:=Paired.length hr
 have FO:∀ h6:Heap,(∀ b o,s.heap.get? b=some o->h6.get? b=some o)->sD h6 its rows:=λ h6 k=>by
  clear q hz hl Ck Gg hq pl r
  induction hr generalizing its with
  | nil=>cases rv;exact .nil
  | cons g t ih=>
   cases rv with
   | cons r1 r2=>
    refine .cons ?_ (ih _ r2)
    obtain⟨An,b,rfl,hb⟩:=g
    cases r1
    obtain⟨Fm,GY,⟨o,e,hc,n,hd⟩,_⟩:=I.tuple hb
    exact⟨An,b,o,_,n,rfl,k _ _ e,hc,hd,by simpa using intsAre_of GY⟩
 refine WQ (Out:=mH its rows) pl.isList (by rw[<- hl];exact hz) (λ h2 s6 k=>fW (FO _ k) h2 (by lia)) (λ h1=>?_) λ out ho hs=>?_
 ·refine⟨List.range its.length,.refl _,?_,?_⟩
  ·refine B2 (by simp) λ i h1 h2=>?_
   simp at h1
   simp[h1]
  ·rw[Cf,Cs]
   intro i j hi hj A1
   simp at hi hj
   lia
 ·obtain⟨idx,g1,g2,g3⟩:=ho
  obtain⟨e,ho⟩:=sortedAll_at s.heap its out
  have AH:H (s.heap.objs.size+1)=none:=I.zp.fresh (Cr _)
  have HH:idx.Perm (List.range ys.length):=by rw[hl];exact g1
  refine⟨.ref (s.heap.objs.size+1),_,I.laid (t':=s.toks) (o:=.lst (idx.map λ i=>ys.getD i .zk)) (λ b o q=>sortedAll_old q) (Cr _) ?_,rfl,q _ idx AH HH g3⟩
  refine⟨by rw[AD,HH.length_eq,B7];exact hz,out.toList,e,?_,by simpa using ho⟩
  rw[g2]
  have Ao:∀ i∈idx,i<ys.length:=λ i hi=>by simpa using HH.mem_iff.mp hi
  clear g1 HH g2 g3 q
  induction idx with
  | nil=>exact .nil
  | cons i idx ih=>
   refine .cons ?_ (ih λ j hj=>Ao j (Ax _ hj))
   have hi:=Ao i Ap
   obtain⟨u,e1,e2⟩:=rv.get (i:=i) (x:=ys[i]) (by simp[hi])
   have e3:its.getD i Value.none=u:=by simp[e1]
   have e4:ys.getD i .zk=ys[i]:=by simp[hi]
   show RelV (ys.getD i .zk) (its.getD i Value.none)
   rw[e3,e4];exact e2
end
end L4
namespace L2
open PySem PySem.Spec PyProof.Rows
noncomputable def xo (ty T:String):Bool:=ty == T||(ty == "bool"&&T == "int")
def lB (ty T:String):Bool:=PySem.W.kitMeta T&&decide ((fastBuiltinMro ty).map (λ l=>l.contains (Value.type T))=some (xo ty T))
def Wh:(["NoneType","bool","int","str","tuple","list","dict"].all λ ty=>["int","bool","tuple","list","str"].all λ T=>lB ty T)=true:=by decide +kernel
def QE {K:Ab}{ty T:String}(h:lB ty T=true):PySem.W.kitOne K (.type ty) (.type T)=some (xo ty T):=by
 unfold lB at h
 rw[Bi] at h
 unfold PySem.W.kitOne
 split
 ·rename_i e
  have e':ty=T:=by have:=eq_of_beq e;injection this
  subst e'
  simp[xo]
 ·show (if PySem.W.kitMeta T=true then PySem.W.subIn K (.type ty) (.type T) else none)=_
  rw[if_pos h.1]
  exact of_decide_eq_true h.2
noncomputable def YE (K:Ab) (H:Hp):V->String->Prop
 | .zk,t=>t="NoneType"
 | .bl _,t=>t="bool"
 | .int _,t=>t="int"
 | .str _,t=>t="str"
 | .ref a,t=>(t="tuple"/\∃ xs,zX K H a xs)\/(t="list"/\∃ xs,zO K H a xs)\/(t="dict"/\∃ Aa,H a=some (.dK Aa))
 | _,_=>False
def Nu {X:Cx}:yB X (.builtin "isinstance") (λ xs H Q=>∃ x T ty,xs=[x,.ty T]/\YE X.K H x ty/\lB ty T=true/\Q (.bl (xo ty T)) H):=by
 intro EC s Y H xs us Q I r h
 obtain⟨x,T,ty,rfl,hx,hT,q⟩:=h
 obtain⟨u,c,rfl,ru,rc⟩:=vals2 r
 cases (show c=Value.type T from rc)
 have e:PySem.W.kitOne X.K (.type ty) (.type T)=some (xo ty T):=QE hT
 have fin:∀ tk,EP X EC Y Q (.bool (xo ty T)) { s with toks:=tk }:=λ tk=>⟨.bl _,H,I.tok tk,rfl,q⟩
 cases x with
 | zk=>cases (show u=Value.none from ru);cases (show ty=_ from hx);exact PySem.W.kia_one PySem.W.kitx_none I.yr True.intro e (λ z=>nomatch z) fin
 | bl y=>cases (show u=Value.bool y from ru);cases (show ty=_ from hx);exact PySem.W.kia_one PySem.W.kitx_bool I.yr True.intro e (λ z=>nomatch z) fin
 | int i=>obtain⟨t,rfl⟩:=(show ∃ t,u=Value.int i t from ru);cases (show ty=_ from hx);exact PySem.W.kia_one PySem.W.kitx_int I.yr True.intro e (λ z=>nomatch z) fin
 | str y=>obtain⟨t,rfl⟩:=(show ∃ t,u=Value.str y t from ru);cases (show ty=_ from hx);exact PySem.W.kia_one PySem.W.kitx_str I.yr True.intro e (λ z=>nomatch z) fin
 | ref a=>
  cases (show u=Value.ref a from ru)
  rcases hx with ⟨rfl,ys,hq⟩ | ⟨rfl,ys,hq⟩ | ⟨rfl,Aa,hq⟩
  ·obtain⟨its,_,⟨o,h1,h2,_⟩,_⟩:=I.tuple hq
   exact PySem.W.kia_one PySem.W.kitx_tuple I.yr ⟨o,h1,h2⟩ e (λ z=>nomatch z) fin
  ·obtain⟨its,_,⟨o,n,h1,h2,_⟩,_⟩:=I.list hq
   exact PySem.W.kia_one PySem.W.kitx_list I.yr ⟨o,h1,h2⟩ e (λ z=>nomatch z) fin
  ·obtain⟨_,_,vs,_,p⟩:=(show y_ X.prog X.w H s.heap a (.dK Aa) from I.zp a _ hq)
   obtain⟨o,es,ep,h1,h2,_⟩:=p
   exact PySem.W.kia_one PySem.W.kitx_dict I.yr ⟨o,h1,h2.1⟩ e (λ z=>nomatch z) fin
 | _=>exact hx.elim
end L2
namespace L3
open PySem PySem.Spec L2
open PyProof.Rows hiding St
section
variable {X:Cx}{K:Ab}{a b e:Expr}{es:List Expr}{te:zu}{tA:yk}{pos p q:Pos}
def v8 (hm:X.mg "len"=none) (ha:xi X (e::es) tA) (hg:Gl X "len":=by rfl) (he:starEach (e::es) X.env=(false,eval e X.env)::starEach es X.env:=by rfl) (Am:(backTo pos (starEach es X.env)).any (·.1)=false:=by rfl):PD X (.Call (.Name "len" p) (e::es) [] pos) (xE u0 tA):=
 uZ (uG (Nn.or Nm) hg hm PySem.boot_len ha.pa (by decide) (by decide) he Am) u0.mo u0.fits ha.mo
def hZ (hm:X.mg "list"=none) (ha:xi X (e::es) tA) (hg:Gl X "list":=by rfl) (he:starEach (e::es) X.env=(false,eval e X.env)::starEach es X.env:=by rfl) (Am:(backTo pos (starEach es X.env)).any (·.1)=false:=by rfl):PD X (.Call (.Name "list" p) (e::es) [] pos) (xE uz tA):=
 uZ (qX Nk hg hm PyProof.Rows.boot_list ha.pa (by decide) (by decide) he Am) uz.mo uz.fits ha.mo
def ni (hm:X.mg "tuple"=none) (ha:xi X (e::es) tA) (hg:Gl X "tuple":=by rfl) (he:starEach (e::es) X.env=(false,eval e X.env)::starEach es X.env:=by rfl) (Am:(backTo pos (starEach es X.env)).any (·.1)=false:=by rfl):PD X (.Call (.Name "tuple" p) (e::es) [] pos) (xE uw tA):=
 uZ (qX OY hg hm PyProof.Rows.boot_tuple ha.pa (by decide) (by decide) he Am) uw.mo uw.fits ha.mo
abbrev ZF:xH:=vJ λ i j=>.int (if j>i then j else i)
abbrev ZE:xH:=vJ λ i j=>.int (if j<i then j else i)
def kc (hm:X.mg "max"=none) (ha:xi X (e::es) tA) (hc:X.calm=true:=by rfl) (hg:Gl X "max":=by rfl) (he:starEach (e::es) X.env=(false,eval e X.env)::starEach es X.env:=by rfl) (Am:(backTo pos (starEach es X.env)).any (·.1)=false:=by rfl):PD X (.Call (.Name "max" p) (e::es) [] pos) (xE ZF tA):=
 uZ (uG (Nj hc) hg hm boot_max ha.pa (by decide) (by decide) he Am) vJ.mo (vJ.fits λ _ _ _=>by simp only[zh]) ha.mo
def hX (hm:X.mg "min"=none) (ha:xi X (e::es) tA) (hc:X.calm=true:=by rfl) (hg:Gl X "min":=by rfl) (he:starEach (e::es) X.env=(false,eval e X.env)::starEach es X.env:=by rfl) (Am:(backTo pos (starEach es X.env)).any (·.1)=false:=by rfl):PD X (.Call (.Name "min" p) (e::es) [] pos) (xE ZE tA):=
 uZ (uG (Ni hc) hg hm boot_min ha.pa (by decide) (by decide) he Am) vJ.mo (vJ.fits λ _ _ _=>by simp only[zh]) ha.mo
noncomputable def xY (r:List Int):D:=.tup (r.map D.int)
theorem oQ {H:Hp}:∀ {rows:List (List Int)}{ys:List V},zo K H (rows.map xY) ys->(∀ r∈rows,r≠[])->Paired (λ v r=>r≠[]/\∃ b,v=V.ref b/\zX K H b (r.map V.int)) ys rows
 | [],ys,h,_=>by simp only[A9,zo] at h;subst h;exact .nil
 | r::rows,ys,h,hn=>by
  rw[Au] at h
  simp only[zo,xY,zh] at h
  obtain⟨x,Jn,rfl,⟨a,xs,rfl,g1,g2⟩,h3⟩:=h
  rw[g2.ints] at g1
  exact .cons ⟨hn r Ap,a,rfl,g1⟩ (oQ h3 λ r' hr=>hn r' (Ax _ hr))
def aF {α:Type}{rows:List α}{d:α}{idx:List Nat}(h:idx.Perm (List.range rows.length)):(idx.map λ i=>rows.getD i d).Perm rows:=by
 refine (h.map _).trans ?_
 have:(List.range rows.length).map (λ i=>rows.getD i d)=rows:=by
  refine B2 (by simp) λ i h1 h2=>?_
  simp[h2]
 rw[this]
theorem zo.perm {H:Hp}{rows:List (List Int)}{ys:List V}(h:zo K H (rows.map xY) ys):∀ {idx:List Nat},(∀ i∈idx,i<rows.length)->zo K H ((idx.map λ i=>rows.getD i []).map xY) (idx.map λ i=>ys.getD i .zk)
 | [],_=>.nil
 | i::idx,hi=>by
  have h1:=hi i Ap
  obtain⟨x,e1,e2⟩:=h.get (i:=i) (d:=xY rows[i]) (by simp[h1])
  refine .cons ?_ (zo.perm h λ j hj=>hi j (Ax _ hj))
  have e3:ys.getD i .zk=x:=by simp[e1]
  have e4:rows.getD i []=rows[i]:=by simp[h1]
  show zh K H (xY (rows.getD i [])) (ys.getD i .zk)
  rw[e3,e4];exact e2
def pb {tg:Expr}(hm:X.mg "range"=none) (ha:xi X [a] tA) (hg:Gl X "range":=by rfl) (hs:starEach [a] X.env=[(false,eval a X.env)]:=by rfl):rB X tg (.Call (.Name "range" p) [a] [] pos) (gL tA):=UI (Ua hg hm ha.pa hs) ha.mo
noncomputable def sO (d:D) (S:SS):Option String:=match d with
 | .zk=>some "NoneType"
 | .bl _=>some "bool"
 | .int _=>some "int"
 | .str _=>some "str"
 | .tup _=>some "tuple"
 | .xP _=>some "list"
 | .ref p=>match S p with
  | some (.lst _)=>some "list"
  | some (.zH _)=>some "dict"
  | none=>none
 | .err _ _ _=>none
def nX (T:String) (te:zu):zu:=fun L S Q=>te L S λ x S1=>match sO x S1 with
 | some ty=>Q (.bl (xo ty T)) S1
 | none=>False
def sO.ok {H:Hp}{d:D}{v:V}{S:SS}{ty:String}(r:zh K H d v) (p:zE K H S) (h:sO d S=some ty):YE K H v ty/\ty∈["NoneType","bool","int","str","tuple","list","dict"]:=by
 cases d with
 | err _ _ _=>cases h
 | tup ds=>
  simp only[zh] at r
  obtain⟨a,xs,rfl,g1,_⟩:=r
  cases h
  exact⟨.inl ⟨rfl,xs,g1⟩,by simp⟩
 | xP ds=>
  simp only[zh] at r
  obtain⟨a,xs,rfl,g1,_⟩:=r
  cases h
  exact⟨.inr (.inl ⟨rfl,xs,g1.sq⟩),by simp⟩
 | ref a=>
  simp only[zh] at r
  subst r
  unfold sO at h
  dsimp only at h
  split at h
  ·rename_i e
   cases h
   obtain⟨xs,g1,_⟩:=p _ _ e
   exact⟨.inr (.inl ⟨rfl,xs,zO.of g1⟩),by simp⟩
  ·rename_i e
   cases h
   obtain⟨xs,g1,_⟩:=p _ _ e
   exact⟨.inr (.inr ⟨rfl,xs,g1⟩),by simp⟩
  ·cases h
 | _=>simp only[zh] at r;subst r;cases h;exact⟨rfl,by simp⟩
def h_ {T:String}{x:Str}(hT:T∈["int","bool","tuple","list","str"]) (hm:X.mg "isinstance"=none) (Ho:X.mg x=none) (hv:bootBuiltins x=some (.type T)) (GD:Gl X x) (hn:x≠"__name__") (hd:(x == ("__debug__":Str))=false) (he:PD X e te) (hg:Gl X "isinstance":=by rfl)
  (h1:starEach (e::[.Name x q]) X.env=(false,eval e X.env)::starEach [.Name x q] X.env:=by rfl) (h2:(backTo pos (starEach [.Name x q] X.env)).any (·.1)=false:=by rfl) (h3:starEach [.Name x q] X.env=(false,eval (.Name x q) X.env)::starEach [] X.env:=by rfl):
  PD X (.Call (.Name "isinstance" p) [e,.Name x q] [] pos) (nX T te):=by
 refine⟨fun L S Q Q' hq z=>he.mo L S _ _ (λ y S1 z=>?_) z,PE.imp (uG Nu hg hm boot_isinstance (v9 he.pe (v9 (bF (v:=.ty T) GD Ho hv rfl hn hd) tf h3) h1) (by decide) (by decide) h1 h2) fun Y H Q hu=>?_⟩
 ·split at z
  ·exact hq _ _ z
  ·exact z
 ·obtain⟨L,S,r1,r2,z⟩:=hu
  refine zK.go he.mo r1 r2 z λ y S1 v H1 z1 q1 e1 p1=>?_
  split at z1
  ·rename_i ty ht
   obtain⟨g1,g2⟩:=sO.ok q1 p1 ht
   refine⟨v,T,ty,rfl,g1,?_,z1 _ H1 (by simp only[zh]) e1 p1⟩
   exact Bj.mp (Bj.mp Wh ty g2) T hT
  ·exact z1.elim
def ke (T:Bt X.mg) (he:PD X e te) (hg:Gl X "isinstance":=by rfl) (GD:Gl X "bool":=by rfl) (h1:starEach (e::[.Name "bool" q]) X.env=(false,eval e X.env)::starEach [.Name "bool" q] X.env:=by rfl) (h2:(backTo pos (starEach [.Name "bool" q] X.env)).any (·.1)=false:=by rfl) (h3:starEach [.Name "bool" q] X.env=(false,eval (.Name "bool" q) X.env)::starEach [] X.env:=by rfl):
  PD X (.Call (.Name "isinstance" p) [e,.Name "bool" q] [] pos) (nX "bool" te):=h_ (by simp) T.isinstance T.bool PyProof.Rows.boot_bool GD (by decide) (by decide) he hg h1 h2 h3
def kd (T:Bt X.mg) (he:PD X e te) (hg:Gl X "isinstance":=by rfl) (GD:Gl X "int":=by rfl) (h1:starEach (e::[.Name "int" q]) X.env=(false,eval e X.env)::starEach [.Name "int" q] X.env:=by rfl) (h2:(backTo pos (starEach [.Name "int" q] X.env)).any (·.1)=false:=by rfl) (h3:starEach [.Name "int" q] X.env=(false,eval (.Name "int" q) X.env)::starEach [] X.env:=by rfl):
  PD X (.Call (.Name "isinstance" p) [e,.Name "int" q] [] pos) (nX "int" te):=h_ (by simp) T.isinstance T.int PyProof.Rows.boot_int GD (by decide) (by decide) he hg h1 h2 h3
def p0 (T:Bt X.mg) (he:PD X e te) (hg:Gl X "isinstance":=by rfl) (GD:Gl X "tuple":=by rfl) (h1:starEach (e::[.Name "tuple" q]) X.env=(false,eval e X.env)::starEach [.Name "tuple" q] X.env:=by rfl) (h2:(backTo pos (starEach [.Name "tuple" q] X.env)).any (·.1)=false:=by rfl) (h3:starEach [.Name "tuple" q] X.env=(false,eval (.Name "tuple" q) X.env)::starEach [] X.env:=by rfl):
  PD X (.Call (.Name "isinstance" p) [e,.Name "tuple" q] [] pos) (nX "tuple" te):=h_ (by simp) T.isinstance T.tuple PyProof.Rows.boot_tuple GD (by decide) (by decide) he hg h1 h2 h3
def qa {o:Expr}{to:zu}{apos Ah:Pos}(ho:PD X o to) (he:PD X e te)
  (FF:attributeBase o "append" X.env (eval o X.env)=eval o X.env:=by rfl)
  (AL:((backTo Ah (starEach [e] X.env)).all (λ x=>!x.1)&&(backToKw Ah (keywordEach [] X.env)).all (λ x=>x.1.isSome)
   && decide ([e].length+([]:List Keyword).length+(if ([]:List Keyword).isEmpty then 0 else 1)<30))=true:=by rfl)
  (Gv:(apos.endLine == Ah.line)=true:=by rfl) (hs:starEach [e] X.env=(false,eval e X.env)::starEach [] X.env:=by rfl) (F5:(backTo Ah (starEach [] X.env)).any (·.1)=false:=by rfl):
  PD X (.Call (.Attribute o "append" apos) [e] [] Ah) (r9 to te):=
 Ta (o:=o) (e:=e) (bE PySem.F.plainAttrs_list PySem.F.slot_list_append PySem.F.type_list_append aE ho.pe (v9 he.pe tf hs) FF AL Gv hs F5) ho.mo he.mo
structure FD (P:Program) (w:World) (K:Ab) (mg:Aq) (base:Heap) (x:Str) (k:Nat) (ps:List Str) (sp:wj):Prop where
 ex:∃ (f:Addr) (fd:FuncData),xy P w K mg base xI k f fd ps (tM K sp)/\mg x=some (.ref f)/\PySem.W.keepIn K (.ref f)=true/\Binds K fd ps []
 mo:pX sp
def bW {x:Str}{k:Nat}{ps:List Str}{sp:wj}(F:FD X.prog X.w X.K X.mg X.base x k ps sp) (hr:ya k X.A) (ha:xi X (e::es) tA) (hg:Gl X x:=by rfl) (A7:(x == ("__debug__":Str))=false:=by decide)
  (he:starEach (e::es) X.env=(false,eval e X.env)::starEach es X.env:=by rfl) (Am:(backTo pos (starEach es X.env)).any (·.1)=false:=by rfl):PD X (.Call (.Name x p) (e::es) [] pos) (k_ sp tA):=by
 obtain⟨⟨f,fd,h1,h2,h3,h4⟩,hm⟩:=F
 exact U_ (E:=E0) (U5 h1 hr hg h2 h3 h4 .nil Tc ha.pa A7 he Am) hm ha.mo
end
def Oj {S:SS}{p:Addr}{ds:List D}{Q:DK}(e:S p=some (.lst ds)) (h:Q (.tup ds) S):uw [.ref p] S Q:=by
 unfold uw;dsimp only;rw[e];exact h
def Ol {S:SS}{d:D}{ds:List D}{Q:DK}(e:zN d S=some ds) (h:∀ p,S p=none->Q (.ref p) (ups S p (.lst ds))):uz [d] S Q:=by
 unfold uz;dsimp only;rw[e];exact h
def Om {S:SS}{d:D}{ds:List D}{Q:DK}(e:zN d S=some ds) (h:Q (.int ds.length) S):u0 [d] S Q:=by
 unfold u0;dsimp only;rw[e];exact h
def Wo {S:SS}{p:Addr}{ds:List D}{Q:Bool->SS->Prop}(e:S p=some (.lst ds)) (h:Q (!ds.isEmpty) S):vv (.ref p) S Q:=by
 unfold vv;dsimp only;rw[e];exact h
def Ot {S:SS}{p:Addr}{ds:List D}{i:Int}{d:D}{Q:DK}(e:S p=some (.lst ds)) (e2:L2.zW ds i=some d) (h:Q d S):wB (.ref p) (.int i) S Q:=by
 unfold wB;dsimp only;rw[e];dsimp only;rw[e2];exact h
def Oo {S:SS}{ds:List D}{i:Int}{d:D}{Q:DK}(e2:L2.zW ds i=some d) (h:Q d S):wB (.tup ds) (.int i) S Q:=by
 unfold wB;dsimp only;rw[e2];exact h
def Oq {S:SS}{ds:List D}{i:Int}{d:D}{Q:DK}(e2:L2.zW ds i=some d) (h:Q d S):wB (.xP ds) (.int i) S Q:=by
 unfold wB;dsimp only;rw[e2];exact h
inductive T where
 | zk | bl (b:Bool) | int (i:Int) | str (x:Str) | tup (ts:List T) | lst (ts:List T) | yT | err (c f:Str) (t:T)
mutual
noncomputable def eqT:T->T->Bool
 | .zk,.zk=>true
 | .bl a,.bl b=>a == b
 | .bl a,.int b=>(if a then 1 else 0) == b
 | .int a,.bl b=>a == (if b then 1 else 0)
 | .int a,.int b=>a == b
 | .str a,.str b=>a == b
 | .tup a,.tup b=>xr a b
 | .lst a,.lst b=>xr a b
 | .yT,.yT=>true
 | .err a b t,.err c d u=>a == c&&(b == d&&eqT t u)
 | _,_=>false
noncomputable def xr:List T->List T->Bool
 | [],[]=>true
 | a::as,b::bs=>eqT a b&&xr as bs
 | _,_=>false
end
mutual
noncomputable def dep:T->Nat
 | .tup ts=>1+xt ts
 | .lst ts=>1+xt ts
 | .yT=>cLine
 | .err _ _ _=>cLine
 | _=>0
noncomputable def xt:List T->Nat
 | []=>0
 | t::ts=>max (dep t) (xt ts)
end
noncomputable def gg:List T->Bool
 | []=>true
 | .int _::ts=>gg ts
 | _=>false
def T3 (ns:List Int):gg (ns.map T.int)=true:=by
 induction ns with
 | nil=>rfl
 | cons n ns ih=>exact ih
mutual
noncomputable def Sn (S:SS):T->D->Prop
 | .zk,d=>d=.zk
 | .bl b,d=>d=.bl b
 | .int i,d=>d=.int i
 | .str x,d=>d=.str x
 | .tup ts,d=>∃ ds,d=.tup ds/\zl S ts ds
 | .lst ts,d=>∃ ds,((d=.xP ds/\gg ts=true)\/∃ a,d=.ref a/\S a=some (.lst ds))/\zl S ts ds
 | .yT,d=>∃ a Aa,(d=.ref a/\Aa=[])/\S a=some (.zH Aa)
 | .err c f t,d=>∃ x,d=.err c f x/\Sn S t x
noncomputable def zl (S:SS):List T->List D->Prop
 | [],ds=>ds=[]
 | t::ts,ds=>∃ c cs,ds=c::cs/\Sn S t c/\zl S ts cs
end
mutual
theorem kQ:∀ t:T,eqT t t=true
 | .zk=>by simp[eqT]
 | .bl b=>by simp[eqT]
 | .int i=>by simp[eqT]
 | .str x=>by simp[eqT]
 | .tup ts=>by simp only[eqT];exact kP ts
 | .lst ts=>by simp only[eqT];exact kP ts
 | .yT=>by simp[eqT]
 | .err _ _ t=>by simp[eqT,kQ t]
theorem kP:∀ ts:List T,xr ts ts=true
 | []=>by simp[xr]
 | t::ts=>by simp only[xr,kQ t,kP ts,DC]
end
theorem fL:∀ ts us:List T,xr ts us=((List.range (min ts.length us.length)).all (λ j=>eqT (ts.getD j .zk) (us.getD j .zk))&&ts.length == us.length)
 | [],[]=>by simp[xr]
 | [],_::_=>by simp[xr]
 | _::_,[]=>by simp[xr]
 | t::ts,u::us=>by
  simp only[xr,fL ts us,AW]
  rw[show min (ts.length+1) (us.length+1)=min ts.length us.length+1 by lia,C5,List.all_cons,List.all_map]
  have:(ts.length+1 == us.length+1)=(ts.length == us.length):=by rw[BL];simp
  rw[this,Bool.and_assoc]
  rfl
theorem zl.length {S:SS}:∀ {ts:List T}{ds:List D},zl S ts ds->ts.length=ds.length
 | [],ds,h=>by simp only[zl] at h;subst h;rfl
 | t::ts,ds,h=>by
  simp only[zl] at h
  obtain⟨c,cs,rfl,_,h2⟩:=h
  simp[zl.length h2]
section
variable {X:Cx}{EC:Ag}{Y:St}{H:Hp}{s:Shared}{S:SS}
def Zf (I:Inv X EC Y H s) {a:Addr}{xs ys:List V}(h1:zX X.K H a xs) (h2:zO X.K H a ys):False:=by
 obtain⟨_,_,⟨o,e,c,_⟩,_⟩:=I.tuple h1
 obtain⟨_,_,⟨o',n,e',c',_⟩,_⟩:=I.list h2
 rw[e] at e';cases e'
 rw[c] at c'
 injection c' with q
 exact absurd q (by decide)
def Sn.tm (p:zE X.K H S) {ts:List T}{d:D}{x:V}(h:Sn S (.lst ts) d) (r:zh X.K H d x):∃ a xs ds,x=.ref a/\zO X.K H a xs/\zo X.K H ds xs/\zl S ts ds:=by
 simp only[Sn] at h
 obtain⟨ds,⟨h,_⟩ | ⟨a,h,e⟩,h2⟩:=h
 ·subst h
  simp only[zh] at r
  obtain⟨a,xs,rfl,g1,g2⟩:=r
  exact⟨a,xs,ds,rfl,g1.sq,g2,h2⟩
 ·subst h
  simp only[zh] at r
  obtain⟨xs,g1,g2⟩:=p _ _ e
  exact⟨a,xs,ds,r,zO.of g1,g2,h2⟩
def Sn.uU {ts:List T}{d:D}{x:V}(h:Sn S (.tup ts) d) (r:zh X.K H d x):∃ a xs ds,x=.ref a/\zX X.K H a xs/\zo X.K H ds xs/\zl S ts ds:=by
 simp only[Sn] at h
 obtain⟨ds,rfl,h2⟩:=h
 simp only[zh] at r
 obtain⟨a,xs,rfl,g1,g2⟩:=r
 exact⟨a,xs,ds,rfl,g1,g2,h2⟩
def Sn.rp (p:zE X.K H S) {d:D}{x:V}(h:Sn S .yT d) (r:zh X.K H d x):∃ a vs,x=.ref a/\H a=some (.dK vs):=by
 simp only[Sn] at h
 obtain⟨a,Aa,⟨rfl,_⟩,e⟩:=h
 simp only[zh] at r
 obtain⟨xs,g1,g2⟩:=p _ _ e
 exact⟨a,xs,r,g1⟩
def Zm (I:Inv X EC Y H s) {a:Addr}{vs:List (Key×V)}(h:H a=some (.dK vs)):∃ o,s.heap.get? a=some o/\o.cls=.type "dict":=by
 obtain⟨_,_,_,_,o,_,_,e,c⟩:=(show y_ X.prog X.w H s.heap a (.dK vs) from I.zp a _ h)
 exact⟨o,e,c.1.1⟩
def Zh (I:Inv X EC Y H s) {a:Addr}{xs:List V}{vs:List (Key×V)}(h1:zX X.K H a xs) (h2:H a=some (.dK vs)):False:=by
 obtain⟨_,_,⟨o,e,c,_⟩,_⟩:=I.tuple h1
 obtain⟨o',e',c'⟩:=Zm I h2
 rw[e] at e';cases e'
 rw[c] at c'
 injection c' with q
 exact absurd q (by decide)
def Zl (I:Inv X EC Y H s) {a:Addr}{xs:List V}{vs:List (Key×V)}(h1:zO X.K H a xs) (h2:H a=some (.dK vs)):False:=by
 obtain⟨_,_,⟨o,n,e,c,_⟩,_⟩:=I.list h1
 obtain⟨o',e',c'⟩:=Zm I h2
 rw[e] at e';cases e'
 rw[c] at c'
 injection c' with q
 exact absurd q (by decide)
theorem Sn.flat {t:T}{d:D}{x:V}(h:Sn S t d) (r:zh X.K H d x):match t with
  | .zk=>x=.zk
  | .bl b=>x=.bl b
  | .int i=>x=.int i
  | .str y=>x=.str y
  | _=>True:=by
 cases t <;> first
  | trivial
  | (simp only[Sn] at h;subst h;simpa only [zh] using r)
def Sn.t_ {c f:Str}{t:T}{d:D}{x:V}(h:Sn S (.err c f t) d) (r:zh X.K H d x):∃ e C dx w y,x=.ref e/\(vZ X.K c C/\H e=some (wD e C dx)/\H dx=some (.xd [(f,w)]))/\Sn S t y/\zh X.K H y w:=by
 simp only[Sn] at h
 obtain⟨y,rfl,h⟩:=h
 simp only[zh] at r
 obtain⟨e,C,dx,w,r1,r2,r3⟩:=r
 exact⟨e,C,dx,w,y,r1,r2,h,r3⟩
def kB (I:Inv X EC Y H s) {e C dx:Addr}(h:H e=some (wD e C dx)):∃ oe vs,s.heap.get? e=some oe/\oe.cls=.ref C/\oe.dict=some dx/\oe.data=.fields vs:=(show y_ X.prog X.w H s.heap e (wD e C dx) from I.zp e _ h).1
def Zg (I:Inv X EC Y H s) {a C dx:Addr}{xs:List V}(h1:zX X.K H a xs) (h2:H a=some (wD a C dx)):False:=by
 obtain⟨_,_,⟨o,e,c,_⟩,_⟩:=I.tuple h1
 obtain⟨o',_,e',c',_⟩:=kB I h2
 rw[e] at e';cases e'
 rw[c] at c';cases c'
def Zk (I:Inv X EC Y H s) {a C dx:Addr}{xs:List V}(h1:zO X.K H a xs) (h2:H a=some (wD a C dx)):False:=by
 obtain⟨_,_,⟨o,n,e,c,_⟩,_⟩:=I.list h1
 obtain⟨o',_,e',c',_⟩:=kB I h2
 rw[e] at e';cases e'
 rw[c] at c';cases c'
def Zn (I:Inv X EC Y H s) {a C dx:Addr}{vs:List (Key×V)}(h1:H a=some (.dK vs)) (h2:H a=some (wD a C dx)):False:=by
 rw[h1] at h2;cases h2
def Pa (I:Inv X EC Y H s) {e C dx C' Ku:Addr}(h1:H e=some (wD e C dx)) (h2:H e=some (wD e C' Ku)):C=C'/\dx=Ku:=by
 obtain⟨o,_,e1,c1,d1,_⟩:=kB I h1
 obtain⟨o',_,e2,c2,d2,_⟩:=kB I h2
 rw[e1] at e2;cases e2
 rw[c1] at c2;rw[d1] at d2
 cases c2;cases d2
 exact⟨rfl,rfl⟩
def vZ.inj {K:Ab}{c c':Str}{C:Addr}(h1:vZ K c C) (h2:vZ K c' C):c=c':=by
 obtain⟨_,_,_,⟨⟨⟨_,_,_,_,_,_,_,_,_,_,_,_,a⟩,_⟩,_,_,_,_⟩⟩:=h1
 obtain⟨_,_,_,⟨⟨⟨_,_,_,_,_,_,_,_,_,_,_,_,b⟩,_⟩,_,_,_,_⟩⟩:=h2
 rw[a] at b
 cases b;rfl
mutual
theorem lA (I:Inv X EC Y H s) (p:zE X.K H S):∀ (t u:T) {d e:D}{x:V},Sn S t d->Sn S u e->zh X.K H d x->zh X.K H e x->t=u
 | .tup ts,u,d,e,x,h1,h2,r1,r2=>by
  obtain⟨a,xs,ds,rfl,g1,g2,g3⟩:=h1.uU r1
  cases u with
  | yT=>obtain⟨_,_,q,g⟩:=h2.rp p r2;cases q;exact (Zh I g1 g).elim
  | err _ _ _=>obtain⟨_,_,_,_,_,q,g,_⟩:=h2.t_ r2;cases q;exact (Zg I g1 g.2.1).elim
  | tup us=>
   obtain⟨a',EY,Hi,q,k1,k2,k3⟩:=h2.uU r2
   cases q
   have:=I.jI g1 k1
   subst this
   rw[jH I p ts us g3 k3 g2 k2]
  | lst us=>
   obtain⟨a',EY,Hi,q,k1,k2,k3⟩:=h2.tm p r2
   cases q
   exact (Zf I g1 k1).elim
  | _=>exact nomatch h2.flat r2
 | .lst ts,u,d,e,x,h1,h2,r1,r2=>by
  obtain⟨a,xs,ds,rfl,g1,g2,g3⟩:=h1.tm p r1
  cases u with
  | yT=>obtain⟨_,_,q,g⟩:=h2.rp p r2;cases q;exact (Zl I g1 g).elim
  | err _ _ _=>obtain⟨_,_,_,_,_,q,g,_⟩:=h2.t_ r2;cases q;exact (Zk I g1 g.2.1).elim
  | lst us=>
   obtain⟨a',EY,Hi,q,k1,k2,k3⟩:=h2.tm p r2
   cases q
   have:=I.gG g1 k1
   subst this
   rw[jH I p ts us g3 k3 g2 k2]
  | tup us=>
   obtain⟨a',EY,Hi,q,k1,k2,k3⟩:=h2.uU r2
   cases q
   exact (Zf I k1 g1).elim
  | _=>exact nomatch h2.flat r2
 | .zk,u,d,e,x,h1,h2,r1,r2=>by
  have q:=h1.flat r1
  subst q
  cases u with
  | yT=>obtain⟨_,_,q,g⟩:=h2.rp p r2;cases q
  | err _ _ _=>obtain⟨_,_,_,_,_,q,_⟩:=h2.t_ r2;cases q
  | zk=>rfl
  | tup us=>obtain⟨_,_,_,q,_⟩:=h2.uU r2;cases q
  | lst us=>obtain⟨_,_,_,q,_⟩:=h2.tm p r2;cases q
  | _=>exact nomatch h2.flat r2
 | .bl b,u,d,e,x,h1,h2,r1,r2=>by
  have q:=h1.flat r1
  subst q
  cases u with
  | yT=>obtain⟨_,_,q,g⟩:=h2.rp p r2;cases q
  | err _ _ _=>obtain⟨_,_,_,_,_,q,_⟩:=h2.t_ r2;cases q
  | bl _=>have q:=h2.flat r2;cases q;rfl
  | tup us=>obtain⟨_,_,_,q,_⟩:=h2.uU r2;cases q
  | lst us=>obtain⟨_,_,_,q,_⟩:=h2.tm p r2;cases q
  | _=>exact nomatch h2.flat r2
 | .int b,u,d,e,x,h1,h2,r1,r2=>by
  have q:=h1.flat r1
  subst q
  cases u with
  | yT=>obtain⟨_,_,q,g⟩:=h2.rp p r2;cases q
  | err _ _ _=>obtain⟨_,_,_,_,_,q,_⟩:=h2.t_ r2;cases q
  | int _=>have q:=h2.flat r2;cases q;rfl
  | tup us=>obtain⟨_,_,_,q,_⟩:=h2.uU r2;cases q
  | lst us=>obtain⟨_,_,_,q,_⟩:=h2.tm p r2;cases q
  | _=>exact nomatch h2.flat r2
 | .str b,u,d,e,x,h1,h2,r1,r2=>by
  have q:=h1.flat r1
  subst q
  cases u with
  | yT=>obtain⟨_,_,q,g⟩:=h2.rp p r2;cases q
  | err _ _ _=>obtain⟨_,_,_,_,_,q,_⟩:=h2.t_ r2;cases q
  | str _=>have q:=h2.flat r2;cases q;rfl
  | tup us=>obtain⟨_,_,_,q,_⟩:=h2.uU r2;cases q
  | lst us=>obtain⟨_,_,_,q,_⟩:=h2.tm p r2;cases q
  | _=>exact nomatch h2.flat r2
 | .err c f t,u,d,e,x,h1,h2,r1,r2=>by
  obtain⟨a,C,dx,w,y,rfl,⟨g1,g2,g3⟩,g4,g5⟩:=h1.t_ r1
  cases u with
  | err c' f' t'=>
   obtain⟨a',C',Ku,w',y',q,⟨k1,k2,k3⟩,k4,k5⟩:=h2.t_ r2
   cases q
   obtain⟨rfl,rfl⟩:=Pa I g2 k2
   rw[g3] at k3;cases k3
   cases g1.inj k1
   rw[lA I p t t' g4 k4 g5 k5]
  | yT=>obtain⟨_,_,q,g⟩:=h2.rp p r2;cases q;exact (Zn I g g2).elim
  | tup us=>obtain⟨_,_,_,q,k1,_⟩:=h2.uU r2;cases q;exact (Zg I k1 g2).elim
  | lst us=>obtain⟨_,_,_,q,k1,_⟩:=h2.tm p r2;cases q;exact (Zk I k1 g2).elim
  | _=>exact nomatch h2.flat r2
 | .yT,u,d,e,x,h1,h2,r1,r2=>by
  obtain⟨a,vs,rfl,g⟩:=h1.rp p r1
  cases u with
  | yT=>rfl
  | err _ _ _=>obtain⟨_,_,_,_,_,q,g',_⟩:=h2.t_ r2;cases q;exact (Zn I g g'.2.1).elim
  | tup us=>obtain⟨_,_,_,q,g1,_⟩:=h2.uU r2;cases q;exact (Zh I g1 g).elim
  | lst us=>obtain⟨_,_,_,q,g1,_⟩:=h2.tm p r2;cases q;exact (Zl I g1 g).elim
  | _=>exact nomatch h2.flat r2
theorem jH (I:Inv X EC Y H s) (p:zE X.K H S):∀ (ts us:List T) {ds es:List D}{xs:List V},zl S ts ds->zl S us es->zo X.K H ds xs->zo X.K H es xs->ts=us
 | [],us,ds,es,xs,h1,h2,r1,r2=>by
  have e:=h1.length.trans (r1.length.trans (r2.length.symm.trans h2.length.symm))
  cases us with
  | nil=>rfl
  | cons _ _=>simp at e
 | t::ts,[],ds,es,xs,h1,h2,r1,r2=>by
  have e:=h1.length.trans (r1.length.trans (r2.length.symm.trans h2.length.symm))
  simp at e
 | t::ts,u::us,ds,es,xs,h1,h2,r1,r2=>by
  simp only[zl] at h1 h2
  obtain⟨c,cs,rfl,a1,a2⟩:=h1
  obtain⟨c',cs',rfl,b1,b2⟩:=h2
  simp only[zo] at r1 r2
  obtain⟨y,ys,rfl,g1,g2⟩:=r1
  obtain⟨y',Jn,q,k1,k2⟩:=r2
  cases q
  rw[lA I p t u a1 b1 g1 k1,jH I p ts us a2 b2 g2 k2]
end
def zl.get {ts:List T}{ds:List D}(h:zl S ts ds):∀ {j:Nat},j<ts.length->∃ c,ds[j]?=some c/\Sn S (ts.getD j .zk) c:=by
 induction ts generalizing ds with
 | nil=>intro j hj;simp at hj
 | cons t ts ih=>
  intro j hj
  simp only[zl] at h
  obtain⟨c,cs,rfl,h1,h2⟩:=h
  cases j with
  | zero=>exact⟨c,rfl,h1⟩
  | succ j=>
   obtain⟨c',e,h3⟩:=ih h2 (j:=j) (by simpa using hj)
   exact⟨c',by simpa using e,by simpa using h3⟩
theorem kX:∀ {ts:List T}{j:Nat},j<ts.length->dep (ts.getD j .zk)<=xt ts
 | [],j,h=>by simp at h
 | t::ts,0,_=>by simp only[xt,List.getD_cons_zero];lia
 | t::ts,j+1,h=>by
  have:=kX (ts:=ts) (j:=j) (by simpa using h)
  simp only[xt,List.getD_cons_succ];lia
inductive qz (K:Ab) (H:Hp) (S:SS) (s:Shared):T->Value->Prop
 | zk:qz K H S s .zk .none
 | bl {b:Bool}:qz K H S s (.bl b) (.bool b)
 | int {i:Int}{k:Tok}:qz K H S s (.int i) (.int i k)
 | str {i:Str}{k:Tok}:qz K H S s (.str i) (.str i k)
 | tup {ts:List T}{ds:List D}{xs:List V}{us:Ad}{l:Addr}(g:zl S ts ds) (r:zo K H ds xs) (v:Vals xs us) (h:s.heap.IsTuple l us.toArray):qz K H S s (.tup ts) (.ref l)
 | lst {ts:List T}{ds:List D}{xs:List V}{us:Ad}{l:Addr}(g:zl S ts ds) (r:zo K H ds xs) (v:Vals xs us) (h:s.heap.IsList l us.toArray):qz K H S s (.lst ts) (.ref l)
def cL (I:Inv X EC Y H s) (p:zE X.K H S) {t:T}{d:D}{x:V}{a:Value}(h:Sn S t d) (r:zh X.K H d x) (v:RelV x a) (z:dep t<cLine):qz X.K H S s t a:=by
 cases t with
 | zk=>have q:=h.flat r;subst q;cases v;exact .zk
 | bl _=>have q:=h.flat r;subst q;cases v;exact .bl
 | int _=>have q:=h.flat r;subst q;obtain⟨_,rfl⟩:=v;exact .int
 | str _=>have q:=h.flat r;subst q;obtain⟨_,rfl⟩:=v;exact .str
 | tup _=>obtain⟨l,xs,ds,rfl,g,r,q⟩:=h.uU r;cases v;obtain⟨_,w,i,_⟩:=I.tuple g;exact .tup q r w i
 | lst _=>obtain⟨l,xs,ds,rfl,g,r,q⟩:=h.tm p r;cases v;obtain⟨_,w,i,_⟩:=I.list g;exact .lst q r w i.isList
 | _=>simp only[dep] at z;lia
abbrev J3 (A:Around) (s:Shared) (a b:Value) (k:Bool):Prop:=SeqAt.EqAt A s a b k/\SeqAt.RcAt A s a b k/\SeqAt.RcNeAt A s a b (!k)
def NA (I:Inv X EC Y H s) (p:zE X.K H S):∀ (n:Nat) (t u:T) {A:Around}{d e:D}{x y:V}{a b:Value},dep t<n->A.units+dep t<cLine->A.units+dep u<cLine->Sn S t d->Sn S u e->zh X.K H d x->zh X.K H e y->RelV x a->RelV y b->J3 A s a b (eqT t u):=by
 intro n
 induction n with
 | zero=>intros;lia
 | succ n ih=>
  intro t u A d e x y a b hn hu Hy h1 h2 r1 r2 v1 v2
  have hq:a=b->t=u:=λ z=>by subst z;have:=v1.inj v2;subst this;exact lA I p t u h1 h2 r1 r2
  have c1:=cL I p h1 r1 v1 (by lia)
  have c2:=cL I p h2 r2 v2 (by lia)
  clear h1 h2 r1 r2 v1 v2
  have hA:A.units<cLine:=by lia
  have el:∀ {ts us:List T}{ds Hi:List D}{xs EY:List V}{is Ii:Ad},1+xt ts<n+1->A.units+(1+xt ts)<cLine->A.units+(1+xt us)<cLine->zl S ts ds->zl S us Hi->zo X.K H ds xs->zo X.K H Hi EY->Vals xs is->Vals EY Ii->is.toArray.size=ts.length/\Ii.toArray.size=us.length/\
    ∀ (j:Nat) (h1:j<is.toArray.size) (h2:j<Ii.toArray.size),SeqAt.EqAt A.in1 s is.toArray[j] Ii.toArray[j] (eqT (ts.getD j .zk) (us.getD j .zk)):=by
   intro ts us ds Hi xs EY is Ii a1 a2 a3 g1 g2 r1 r2 v1 v2
   have e1:is.toArray.size=ts.length:=by rw[AA,<- v1.length,<- r1.length,<- g1.length]
   have e2:Ii.toArray.size=us.length:=by rw[AA,<- v2.length,<- r2.length,<- g2.length]
   refine⟨e1,e2,λ j h1 h2=>?_⟩
   obtain⟨_,k1,s1⟩:=g1.get (e1▸h1)
   obtain⟨_,k2,s2⟩:=g2.get (e2▸h2)
   obtain⟨_,f1,q1⟩:=r1.get k1
   obtain⟨_,f2,q2⟩:=r2.get k2
   obtain⟨w1,o1,m1⟩:=v1.get f1
   obtain⟨w2,o2,m2⟩:=v2.get f2
   have y1:=kX (e1▸h1)
   have y2:=kX (e2▸h2)
   obtain⟨_,z1⟩:=AK.mp o1
   obtain⟨_,z2⟩:=AK.mp o2
   rw[List.getElem_toArray,List.getElem_toArray,z1,z2]
   exact (ih _ _ (A:=A.in1) (by lia) (by show A.units+1+_<_;lia) (by show A.units+1+_<_;lia) s1 s2 q1 q2 m1 m2).1
  have en:∀ {l l':Addr}{ts us:List T},(Value.ref l=.ref l'->ts=us)->SeqAt.RcAt A s (.ref l) (.ref l') (xr ts us)/\SeqAt.RcNeAt A s (.ref l) (.ref l') (!xr ts us)->J3 A s (.ref l) (.ref l') (xr ts us):=λ{l l' ts us} h q=>by
   refine⟨?_,q⟩
   by_cases z:l=l'
   ·subst z
    rw[h rfl,kP]
    exact .same _
   ·exact .of_refs z q.1
  cases c1 <;> cases c2 <;> simp only[eqT,CS,Cy]
  ·exact⟨.same _,.none_none,.none_none⟩
  ·exact⟨.none_bool _,.none_bool _,.none_bool _⟩
  ·exact⟨.none_int _ _,.none_int _ _,.none_int _ _⟩
  ·exact⟨.none_str _ _,.none_str _ _,.none_str _ _⟩
  ·exact⟨.none_tuple ‹_› hA,.none_tuple ‹_› hA,.none_tuple ‹_› hA⟩
  ·exact⟨.none_list ‹_› hA,.none_list ‹_› hA,.none_list ‹_› hA⟩
  ·exact⟨.bool_none _,.bool_none _,.bool_none _⟩
  ·exact⟨.bool_bool _ _,.bool_bool _ _,.bool_bool _ _⟩
  ·exact⟨.bool_int _ _ _,.bool_int _ _ _,.bool_int _ _ _⟩
  ·exact⟨.bool_str _ _ _,.bool_str _ _ _,.bool_str _ _ _⟩
  ·exact⟨.bool_tuple _ ‹_› hA,.bool_tuple _ ‹_› hA,.bool_tuple _ ‹_› hA⟩
  ·exact⟨.bool_list _ ‹_› hA,.bool_list _ ‹_› hA,.bool_list _ ‹_› hA⟩
  ·exact⟨.int_none _ _,.int_none _ _,.int_none _ _⟩
  ·exact⟨.int_bool _ _ _,.int_bool _ _ _,.int_bool _ _ _⟩
  ·exact⟨.int_int _ _ _ _,.int_int _ _ _ _,.int_int _ _ _ _⟩
  ·exact⟨.int_str _ _ _ _,.int_str _ _ _ _,.int_str _ _ _ _⟩
  ·exact⟨.int_tuple _ _ ‹_› hA,.int_tuple _ _ ‹_› hA,.int_tuple _ _ ‹_› hA⟩
  ·exact⟨.int_list _ _ ‹_› hA,.int_list _ _ ‹_› hA,.int_list _ _ ‹_› hA⟩
  ·exact⟨.str_none _ _,.str_none _ _,.str_none _ _⟩
  ·exact⟨.str_bool _ _ _,.str_bool _ _ _,.str_bool _ _ _⟩
  ·exact⟨.str_int _ _ _ _,.str_int _ _ _ _,.str_int _ _ _ _⟩
  ·exact⟨.str_str _ _ _ _,.str_str _ _ _ _,.str_str _ _ _ _⟩
  ·exact⟨.str_tuple _ _ ‹_› hA,.str_tuple _ _ ‹_› hA,.str_tuple _ _ ‹_› hA⟩
  ·exact⟨.str_list _ _ ‹_› hA,.str_list _ _ ‹_› hA,.str_list _ _ ‹_› hA⟩
  ·exact⟨.tuple_none ‹_› hA,.tuple_none ‹_› hA,.tuple_none ‹_› hA⟩
  ·exact⟨.tuple_bool _ ‹_› hA,.tuple_bool _ ‹_› hA,.tuple_bool _ ‹_› hA⟩
  ·exact⟨.tuple_int _ _ ‹_› hA,.tuple_int _ _ ‹_› hA,.tuple_int _ _ ‹_› hA⟩
  ·exact⟨.tuple_str _ _ ‹_› hA,.tuple_str _ _ ‹_› hA,.tuple_str _ _ ‹_› hA⟩
  ·rename_i g1 r1 v1 k1 _ _ _ _ _ g2 r2 v2 k2
   simp only[dep] at hn hu Hy
   obtain⟨e1,e2,q⟩:=el hn hu Hy g1 g2 r1 r2 v1 v2
   refine en (λ z=>by cases hq z;rfl) ?_
   rw[fL,<- e1,<- e2]
   exact⟨.tuples k1 k2 hA q,.tuples k1 k2 hA q⟩
  ·exact⟨.tuple_list ‹_› ‹_› hA,.tuple_list ‹_› ‹_› hA,.tuple_list ‹_› ‹_› hA⟩
  ·exact⟨.list_none ‹_› hA,.list_none ‹_› hA,.list_none ‹_› hA⟩
  ·exact⟨.list_bool _ ‹_› hA,.list_bool _ ‹_› hA,.list_bool _ ‹_› hA⟩
  ·exact⟨.list_int _ _ ‹_› hA,.list_int _ _ ‹_› hA,.list_int _ _ ‹_› hA⟩
  ·exact⟨.list_str _ _ ‹_› hA,.list_str _ _ ‹_› hA,.list_str _ _ ‹_› hA⟩
  ·exact⟨.list_tuple ‹_› ‹_› hA,.list_tuple ‹_› ‹_› hA,.list_tuple ‹_› ‹_› hA⟩
  ·rename_i i1 _ g1 r1 v1 k1 _ _ _ i2 _ g2 r2 v2 k2
   simp only[dep] at hn hu Hy
   obtain⟨e1,e2,q⟩:=el hn hu Hy g1 g2 r1 r2 v1 v2
   refine en (λ z=>by cases hq z;rfl) ?_
   rw[fL,<- e1,<- e2]
   by_cases z:i1.toArray.size=i2.toArray.size
   ·rw[<- z,Nat.min_self,beq_self_eq_true,Bool.and_true]
    exact⟨.lists k1 k2 z hA q,.lists k1 k2 z hA q⟩
   ·rw[beq_eq_false_iff_ne.mpr z,CN]
    have z':=bne_iff_ne.mpr z
    exact⟨.lists_lengths k1 k2 z' hA,.lists_lengths k1 k2 z' hA⟩
def eC (I:Inv X EC Y H s) (p:zE X.K H S) (t u:T) {A:Around}{d e:D}{x y:V}{a b:Value}(hu:A.units+dep t<cLine) (Hy:A.units+dep u<cLine) (h1:Sn S t d) (h2:Sn S u e) (r1:zh X.K H d x) (r2:zh X.K H e y) (v1:RelV x a) (v2:RelV y b):J3 A s a b (eqT t u):=NA I p _ t u (Cj _) hu Hy h1 h2 r1 r2 v1 v2
end
def iR (K:Ab) (neg:Bool):R2:=λ x y H Q=>∃ S d e t u,zh K H d x/\zh K H e y/\zE K H S/\Sn S t d/\Sn S u e/\dep t<=60/\dep u<=60/\Q (.bl (cond neg (!eqT t u) (eqT t u))) H
def vo (neg:Bool):yG:=λ x y S Q=>∃ t u,Sn S t x/\Sn S u y/\dep t<=60/\dep u<=60/\Q (.bl (cond neg (!eqT t u) (eqT t u))) S
def vo.mo {neg:Bool}:xx (vo neg):=λ _ _ _ _ _ hq ⟨t,u,a,b,c,d,h⟩=>⟨t,u,a,b,c,d,hq _ _ h⟩
def vo.fits {K:Ab}{neg:Bool}:xj K (vo neg) (iR K neg):=λ x y d e H S Q h1 h2 h3 ⟨t,u,a,b,c,c',h⟩=>⟨S,d,e,t,u,h1,h2,h3,a,b,c,c',h _ H (by simp only[zh]) (.refl H) h3⟩
section
variable {X:Cx}{a b:Expr}{ta tb:zu}{pos:Pos}
def ai (hu:X.A.units+64<cLine):yd X (compareOp .Eq) (iR X.K false):=by
 intro EC s Y H x y v u Q I rx ry h
 obtain⟨S,d,e,t,u',a1,a2,a3,a4,a5,a6,a7,q⟩:=h
 exact (eC I a3 t u' (A:=X.A) (by lia) (by lia) a4 a5 a1 a2 rx ry).2.1 X.prog X.w X.xe _ ⟨.bl _,H,I,rfl,q⟩
def Th (hu:X.A.units+64<cLine):yd X (compareOp .NotEq) (iR X.K true):=by
 intro EC s Y H x y v u Q I rx ry h
 obtain⟨S,d,e,t,u',a1,a2,a3,a4,a5,a6,a7,q⟩:=h
 exact (eC I a3 t u' (A:=X.A) (by lia) (by lia) a4 a5 a1 a2 rx ry).2.2 X.prog X.w X.xe _ ⟨.bl _,H,I,rfl,q⟩
def kf {k:Nat}(hr:ya k X.A) (ha:PD X a ta) (hb:PD X b tb):PD X (.Compare a [.Eq] [b] pos) (yw (vo false) ta tb):=kg (ai hr.units) vo.fits vo.mo ha hb (uK _)
def vk {k:Nat}(hr:ya k X.A) (ha:PD X a ta) (hb:PD X b tb):xu X (.Compare a [.Eq] [b] pos) (vd (yw (vo false) ta tb)):=sT (ai hr.units) vo.fits vo.mo ha hb (uK _)
def tT {k:Nat}(hr:ya k X.A) (ha:PD X a ta) (hb:PD X b tb):xu X (.Compare a [.NotEq] [b] pos) (vd (yw (vo true) ta tb)):=sT (Th hr.units) vo.fits vo.mo ha hb (uK _)
def bp (K:Ab) (neg:Bool):R2:=λ x y H Q=>∃ S d e u ts ds,zh K H d x/\zh K H e y/\zE K H S/\Sn S u d/\zN e S=some ds/\zl S ts ds/\dep u<=60/\xt ts<=60/\Q (.bl (cond neg (!(ts.any λ t=>eqT t u)) (ts.any λ t=>eqT t u))) H
def rj (neg:Bool):yG:=λ x y S Q=>∃ u ts ds,Sn S u x/\zN y S=some ds/\zl S ts ds/\dep u<=60/\xt ts<=60/\Q (.bl (cond neg (!(ts.any λ t=>eqT t u)) (ts.any λ t=>eqT t u))) S
def rj.mo {neg:Bool}:xx (rj neg):=λ _ _ _ _ _ hq ⟨u,ts,ds,a,b,c,d,e,h⟩=>⟨u,ts,ds,a,b,c,d,e,hq _ _ h⟩
def rj.fits {K:Ab}{neg:Bool}:xj K (rj neg) (bp K neg):=λ x y d e H S Q h1 h2 h3 ⟨u,ts,ds,a,b,c,c',c2,h⟩=>⟨S,d,e,u,ts,ds,h1,h2,h3,a,b,c,c',c2,h _ H (by simp only[zh]) (.refl H) h3⟩
open Classical in
def tF (its:Ad) (ts:List T) (u:T) (v:Value):Bool:=if h:∃ j,its[j]?=some v then eqT (ts.getD (Classical.choose h) .zk) u else false
def eB {EC:Ag}{Y:St}{H:Hp}{s:Shared}{S:SS}(I:Inv X EC Y H s) (p:zE X.K H S) {ts:List T}{ds:List D}{xs:List V}{its:Ad}(h1:zl S ts ds) (h2:zo X.K H ds xs) (h3:Vals xs its) (u:T) {j:Nat}{v:Value}(hj:its[j]?=some v):
  tF its ts u v=eqT (ts.getD j .zk) u:=by
 have h:∃ j,its[j]?=some v:=⟨j,hj⟩
 unfold tF
 rw[dif_pos h]
 have hc:=Classical.choose_spec h
 have lt:∀ i,its[i]?=some v->i<ts.length:=λ i hi=>by
  rw[h1.length,h2.length,h3.length]
  exact (AK.mp hi).1
 obtain⟨c1,e1,s1⟩:=h1.get (lt _ hc)
 obtain⟨c2,e2,s2⟩:=h1.get (lt _ hj)
 obtain⟨x1,f1,r1⟩:=h2.get e1
 obtain⟨x2,f2,r2⟩:=h2.get e2
 obtain⟨v1,g1,q1⟩:=h3.get f1
 obtain⟨v2,g2,q2⟩:=h3.get f2
 rw[hc] at g1;cases g1
 rw[hj] at g2;cases g2
 have hx:=q1.inj q2
 subst hx
 rw[lA I p _ _ s1 s2 r1 r2]
def YB {EC:Ag}{Y:St}{H:Hp}{s:Shared}{S:SS}(I:Inv X EC Y H s) (p:zE X.K H S) {ts:List T}{ds:List D}{xs:List V}{its:Ad}(h1:zl S ts ds) (h2:zo X.K H ds xs) (h3:Vals xs its) (u:T):its.any (tF its ts u)=ts.any λ t=>eqT t u:=by
 have hl:ts.length=its.length:=by rw[h1.length,h2.length,h3.length]
 rw[BL,Bb,Bb]
 constructor
 ·rintro⟨v,hv,h⟩
  obtain⟨j,hj,rfl⟩:=B3.mp hv
  rw[eB I p h1 h2 h3 u (j:=j) (by simp[hj])] at h
  have GL:j<ts.length:=by lia
  exact⟨ts[j],BJ GL,by simpa [GL] using h⟩
 ·rintro⟨t,ht,h⟩
  obtain⟨j,hj,rfl⟩:=B3.mp ht
  have GL:j<its.length:=by lia
  exact⟨its[j],BJ GL,by rw[eB I p h1 h2 h3 u (j:=j) (by simp[GL])];simpa [hj] using h⟩
def YC {EC:Ag}{Y:St}{H:Hp}{s:Shared}{S:SS}(I:Inv X EC Y H s) (p:zE X.K H S) {ts:List T}{ds:List D}{xs:List V}{its:Ad}(h1:zl S ts ds) (h2:zo X.K H ds xs) (h3:Vals xs its) {u:T}{d:D}{x:V}{v:Value}(hu:Sn S u d) (hd:zh X.K H d x) (hx:RelV x v) {A:Around}(b1:A.units+xt ts<cLine) (b2:A.units+dep u<cLine) {y:Value}(hy:y∈its):
  SeqAt.EqAt A s y v (tF its ts u y):=by
 obtain⟨j,hj,rfl⟩:=B3.mp hy
 have hjt:j<ts.length:=by rw[h1.length,h2.length,h3.length];exact hj
 rw[eB I p h1 h2 h3 u (j:=j) (by simp[hj])]
 obtain⟨c1,e1,s1⟩:=h1.get hjt
 obtain⟨x1,f1,r1⟩:=h2.get e1
 obtain⟨v1,g1,q1⟩:=h3.get f1
 have:its[j]=v1:=by
  have:=AK.mp g1
  exact this.2
 rw[this]
 have:=kX hjt
 exact (eC I p _ u (A:=A) (by lia) b2 s1 hu r1 hd q1 hx).1
def Ts (hu:X.A.units+64<cLine):yd X (compareOp .In) (bp X.K false):=by
 intro EC s Y H x y v w Q I rx ry h
 obtain⟨S,d,e,u,ts,ds,a1,a2,a3,a4,a5,a6,a7,a8,q⟩:=h
 obtain⟨l,xs,rfl,g1,g2⟩:=zN.sq a2 a3 a5
 cases ry
 rcases g1 with g1 | g1
 ·obtain⟨its,w1,pl,_⟩:=I.list g1
  refine SeqAt.in_listAt (tF its ts u) pl.isList (λ y hy=>YC I a3 a6 g2 w1 a4 a1 rx (A:=X.A.in1) (by show X.A.units+1+_<_;lia) (by show X.A.units+1+_<_;lia) (by simpa using hy)) ⟨.bl _,H,I,rfl,?_⟩
  rw[show its.toArray.any (tF its ts u)=its.any (tF its ts u) by simp,YB I a3 a6 g2 w1]
  exact q
 ·obtain⟨its,w1,pt,_⟩:=I.tuple g1
  refine SeqAt.in_tupleAt (tF its ts u) pt (λ y hy=>YC I a3 a6 g2 w1 a4 a1 rx (A:=X.A.in1) (by show X.A.units+1+_<_;lia) (by show X.A.units+1+_<_;lia) (by simpa using hy)) ⟨.bl _,H,I,rfl,?_⟩
  rw[show its.toArray.any (tF its ts u)=its.any (tF its ts u) by simp,YB I a3 a6 g2 w1]
  exact q
def UA {k:Nat}(hr:ya k X.A) (ha:PD X a ta) (hb:PD X b tb) (hm:behindInMarks .In b=false:=by rfl):xu X (.Compare a [.In] [b] pos) (vd (yw (rj false) ta tb)):=sT (Ts hr.units) rj.fits rj.mo ha hb hm
end
end L3
namespace L2
open PySem PySem.Spec PyProof.Rows
section
variable {κ:Type}[DecidableEq κ]
noncomputable def wq (Aa:List (κ × V)) (k:κ):Option V:=(Aa.find? λ kv=>decide (kv.1=k)).map (·.2)
noncomputable def putK (Aa:List (κ × V)) (k:κ) (v:V):List (κ × V):=
 if (Aa.any λ kv=>decide (kv.1=k))=true then Aa.map (λ kv=>if kv.1=k then (kv.1,v) else kv) else Aa++[(k,v)]
def jF {p:κ × V}{r:List (κ × V)}{k:κ}(e:p.1=k):wq (p::r) k=some p.2:=by simp[wq,Cq,e]
def jG {p:κ × V}{r:List (κ × V)}{k:κ}(e:¬ p.1=k):wq (p::r) k=wq r k:=by simp[wq,Cq,e]
theorem d_ (k:κ):∀ Aa:List (κ × V),(Aa.any λ kv=>decide (kv.1=k))=(wq Aa k).isSome
 | []=>rfl
 | p::r=>by
  rw[BG]
  by_cases e:p.1=k
  ·simp only[jF e,KU e,Bool.true_or,Option.isSome_some]
  ·rw[jG e,KI e,Bool.false_or];exact d_ k r
def aN (Aa:List (κ × V)) (k:κ) (v:V):(putK Aa k v).length<=Aa.length+1:=by
 unfold putK
 split
 ·rw[AD];lia
 ·rw[B6,AW,B4];lia
def vU.QT {o:Option V}{u:Option Value}(r:vU o u):o.isSome=u.isSome:=by
 cases o with
 | none=>cases u with
  | none=>rfl
  | some _=>exact (show False from r).elim
 | some _=>cases u with
  | none=>exact (show False from r).elim
  | some _=>rfl
theorem vU.getD {o:Option V}{u:Option Value}{d:V}{d':Value}(r:vU o u) (rd:RelV d d'):RelV (o.getD d) (u.getD d'):=by
 cases o with
 | none=>cases u with
  | none=>exact rd
  | some _=>exact (show False from r).elim
 | some _=>cases u with
  | none=>exact (show False from r).elim
  | some _=>exact r
def KV.val {Aa:List (κ × V)}{vs:List (κ × Value)}(r:KV Aa vs) (k:κ):vU (wq Aa k) (valueAt vs k):=by
 unfold KV at r
 induction r with
 | nil=>exact True.intro
 | @cons p q ps qs h t ih=>
  obtain⟨h1,h2⟩:=h
  by_cases e:p.1=k
  ·have e':q.1=k:=h1.symm.trans e
   have b:valueAt (q::qs) k=some q.2:=by simp[valueAt,Cq,e']
   rw[jF e,b];exact h2
  ·have e':¬ q.1=k:=λ z=>e (h1.trans z)
   have b:valueAt (q::qs) k=valueAt qs k:=by simp[valueAt,Cq,e']
   rw[jG e,b];exact ih
theorem KV.any {Aa:List (κ × V)}{vs:List (κ × Value)}(r:KV Aa vs) (k:κ):(Aa.any λ kv=>decide (kv.1=k))=vs.any λ kv=>decide (kv.1=k):=by
 unfold KV at r
 induction r with
 | nil=>rfl
 | cons h t ih=>rw[BG,BG,ih,h.1]
def KV.uW {Aa:List (κ × V)}{vs:List (κ × Value)}(r:KV Aa vs) (k:κ) {y:V}{u:Value}(ry:RelV y u):
  KV (Aa.map λ kv=>if kv.1=k then (kv.1,y) else kv) (vs.map λ kv=>if kv.1=k then (kv.1,u) else kv):=by
 unfold KV at r ⊢
 induction r with
 | nil=>exact .nil
 | @cons p q ps qs h t ih=>
  rw[Au,Au]
  refine .cons ?_ ih
  obtain⟨h1,h2⟩:=h
  by_cases e:p.1=k
  ·rw[if_pos e,if_pos (h1.symm.trans e)];exact⟨h1,ry⟩
  ·rw[if_neg e,if_neg (λ z=>e (h1.trans z))];exact⟨h1,h2⟩
def KV.put {Aa:List (κ × V)}{vs:List (κ × Value)}(r:KV Aa vs) (k:κ) {y:V}{u:Value}(ry:RelV y u):KV (putK Aa k y) (stored vs k u):=by
 unfold putK stored
 rw[r.any k]
 by_cases e:(vs.any λ kv=>decide (kv.1=k))=true
 ·rw[if_pos e,if_pos e];exact r.uW k ry
 ·rw[if_neg e,if_neg e];exact Paired.snoc r ⟨rfl,ry⟩
theorem KV.length {Aa:List (κ × V)}{vs:List (κ × Value)}(r:KV Aa vs):Aa.length=vs.length:=Paired.length r
end
def k9 {P:Program}{w:World}{k:Key}{u:Value}(r:RelV (kV k) u):(wI P w).is k u=true:=by
 cases k with
 | inl i=>obtain⟨t,e⟩:=(show ∃ t,u=Value.int i t from r);subst e;exact Qk P w i t
 | inr x=>obtain⟨t,e⟩:=(show ∃ t,u=Value.str x t from r);subst e;exact Qj P w x t
theorem Za {P:Program}{w:World}:∀ {ks:List Key}{us:Ad},Vals (ks.map kV) us->ItemsAre (wI P w) ks us
 | [],_,r=>by rw[A9] at r;cases r;exact .nil
 | k::ks,_,r=>by
  rw[Au] at r
  cases r with
  | cons h t=>exact .cons (k9 h) (Za t)
abbrev KT (H:Hp):List (List Key×V)->List (List Key×Addr×Value)->Prop:=Paired λ p q=>p.1=q.1/\H q.2.1=some (.tup (p.1.map kV))/\RelV p.2 q.2.2
def KT.val {H:Hp}{Aa:List (List Key×V)}{xs:List (List Key×Addr×Value)}(r:KT H Aa xs) (k:List Key):vU (wq Aa k) ((atKey xs k).map (·.2)):=by
 induction r with
 | nil=>exact True.intro
 | @cons p q ps qs h t ih=>
  obtain⟨h1,_,h2⟩:=h
  by_cases e:p.1=k
  ·have e':q.1=k:=h1.symm.trans e
   have b:atKey (q::qs) k=some q.2:=by simp[atKey,Cq,e']
   rw[jF e,b];exact h2
  ·have e':¬ q.1=k:=λ z=>e (h1.trans z)
   have b:atKey (q::qs) k=atKey qs k:=by simp[atKey,Cq,e']
   rw[jG e,b];exact ih
def KT.uW {H:Hp}{Aa:List (List Key×V)}{xs:List (List Key×Addr×Value)}(r:KT H Aa xs) (k:List Key) {y:V}{u:Value}(ry:RelV y u):
  KT H (Aa.map λ kv=>if kv.1=k then (kv.1,y) else kv) (xs.map (putAt k u)):=by
 induction r with
 | nil=>exact .nil
 | @cons p q ps qs h t ih=>
  rw[Au,Au]
  refine .cons ?_ ih
  obtain⟨h1,h2,h3⟩:=h
  unfold putAt
  by_cases e:p.1=k
  ·rw[if_pos e,if_pos (h1.symm.trans e)];exact⟨h1,h2,ry⟩
  ·rw[if_neg e,if_neg (λ z=>e (h1.trans z))];exact⟨h1,h2,h3⟩
def KT.put {H:Hp}{Aa:List (List Key×V)}{xs:List (List Key×Addr×Value)}(r:KT H Aa xs) (k:List Key) {b:Addr}{y:V}{u:Value}(hb:H b=some (.tup (k.map kV))) (ry:RelV y u):
  KT H (putK Aa k y) (storedH xs k b u):=by
 have e:(Aa.any λ kv=>decide (kv.1=k))=(atKey xs k).isSome:=by
  rw[d_,(r.val k).QT,Option.isSome_map]
 unfold putK storedH
 rw[e]
 by_cases q:(atKey xs k).isSome=true
 ·rw[if_pos q,if_pos q];exact r.uW k ry
 ·rw[if_neg q,if_neg q];exact Paired.snoc r ⟨rfl,hb,ry⟩
def KT.keeps {H H':Hp}{Aa:List (List Key×V)}{xs:List (List Key×Addr×Value)}(r:KT H Aa xs) (ht:∀ b ys,H b=some (.tup ys)->H' b=some (.tup ys)):KT H' Aa xs:=
 Paired.kz r λ _ _ z=>⟨z.1,ht _ _ z.2.1,z.2.2⟩
section
variable {P:Program}{w:World}{H:Hp}{h:Heap}{a:Addr}
def bc {u:HO}(ok:yf P w H h) (e:Rd H a u):y_ P w H h a u:=e.ok ok
def pL {Aa:List (Key×V)}(ok:yf P w H h) (e:Rd H a (.dK Aa)):Aa.length<=sizeLine/\(a == sysModules)=false/\∃ vs,KV Aa vs/\h.DictOf (wI P w) a vs:=
 show y_ P w H h a (.dK Aa) from bc ok e
def O9 {Aa:List (Key×V)}(ok:yf P w H h) (e:H a=some (.dK Aa)):Aa.length<=sizeLine/\(a == sysModules)=false/\∃ vs,KV Aa vs/\h.DictOf (wI P w) a vs:=pL ok (.inl e)
def k8 {ks:List Key}(ok:yf P w H h) (e:H a=some (.tup (ks.map kV))):(tupleKind (wI P w)).is h ks a:=by
 obtain⟨_,its,r,o,h1,h2,n,h3⟩:=(show y_ P w H h a (.tup (ks.map kV)) from ok a _ e)
 exact⟨o,its.toArray,n,h1,h2,h3,by simpa using Za r⟩
def nS {Aa:List (List Key×V)}(ok:yf P w H h) (e:Rd H a (.dT Aa)):Aa.length<=sizeLine/\(a == sysModules)=false/\
  ∃ xs,KT H Aa xs/\h.DictOfH (tupleKind (wI P w)) a xs:=by
 obtain⟨z,y,xs,r,o,es,ep,h1,h2,h3,h4,h5⟩:=(show y_ P w H h a (.dT Aa) from bc ok e)
 refine⟨z,y,xs,r,o,es,ep,h1,h2,h3,h4,λ x hx=>?_,h5⟩
 have all:∀ {l:List (List Key×V)}{m:List (List Key×Addr×Value)},KT H l m->∀ x∈m,(tupleKind (wI P w)).is h x.1 x.2.1:=by
  intro l m q
  induction q with
  | nil=>intro x hx;exact nomatch hx
  | @cons p q ps qs hq t ih=>
   intro x hx
   rcases Ai.mp hx with e | hx
   ·subst e
    exact k8 ok (by rw[<- hq.1];exact hq.2.1)
   ·exact ih x hx
 exact all r x hx
def O4 {Aa:List (List Key×V)}(ok:yf P w H h) (e:H a=some (.dT Aa)):Aa.length<=sizeLine/\(a == sysModules)=false/\
  ∃ xs,KT H Aa xs/\h.DictOfH (tupleKind (wI P w)) a xs:=nS ok (.inl e)
end
def sJ (H:Hp) (a:Addr) (y:V) (r:Option V):Prop:=
 (∃ Aa k,Rd H a (.dK Aa)/\y=kV k/\r=wq Aa k)\/∃ Aa k b,Rd H a (.dT Aa)/\y=.ref b/\H b=some (.tup (k.map kV))/\r=wq Aa k
def lj (H:Hp) (a:Addr) (y v:V) (H':Hp):Prop:=
 (∃ Aa k,H a=some (.dK Aa)/\y=kV k/\Aa.length<sizeLine/\H'=upd H a (.dK (putK Aa k v)))\/
 ∃ Aa k b,H a=some (.dT Aa)/\y=.ref b/\H b=some (.tup (k.map kV))/\Aa.length<sizeLine/\H'=upd H a (.dT (putK Aa k v))
theorem sJ.k {H:Hp}{a:Addr}{Aa:List (Key×V)}{k:Key}(e:H a=some (.dK Aa)):sJ H a (kV k) (wq Aa k):=.inl ⟨Aa,k,.inl e,rfl,rfl⟩
theorem lj.k {H:Hp}{a:Addr}{Aa:List (Key×V)}{k:Key}{v:V}(e:H a=some (.dK Aa)) (hl:Aa.length<sizeLine):lj H a (kV k) v (upd H a (.dK (putK Aa k v))):=.inl ⟨Aa,k,e,rfl,hl,rfl⟩
section
variable {X:Cx}{EC:Ag}{Y:St}{H:Hp}{s:Shared}{a:Addr}{y v:V}{u r:Value}{o:Option V}{A:Around}{E:Ae}
def Inv.big (I:Inv X EC Y H s):sysModules<s.heap.objs.size:=by
 have h:mainGlobals<s.heap.objs.size:=(I.mod.glob.keeps I.bk).lt
 exact C7 (by decide) h
def OI {Q:Ae}(hu:A.units+1<cLine) (I:Inv X EC Y H s) (g:sJ H a y (some v)) (ry:RelV y u) (h:∀ w' s',Inv X EC Y H s'->RelV v w'->Q w' s'):
  wpAny (model X.prog X.w) A (getItem (.ref a) u) Q E s:=by
 rcases g with ⟨Aa,k,e,ey,l⟩ | ⟨Aa,k,b,e,ey,eb,l⟩
 ·subst ey
  obtain⟨z,hd,vs,rel,dd⟩:=pL I.zp e
  obtain⟨w',hw,G2⟩:=vU.some_of (v:=v) (o:=valueAt vs k) (by rw[l];exact rel.val k)
  exact wpAny_getItem_of (k9 ry) dd.mapOf hw (h w' _ (I.tok _) G2)
 ·subst ey
  cases (show u=Value.ref b from ry)
  obtain⟨z,hd,xs,rel,dd⟩:=nS I.zp e
  obtain⟨w',hw,G2⟩:=vU.some_of (v:=v) (o:=(atKey xs k).map (·.2)) (by rw[l];exact rel.val k)
  obtain⟨p,hp,pG⟩:=AB.mp hw
  refine wpAny_getItem_heap (tupleKind_room_in1 hu) (k8 I.zp eb) dd hp ?_
  rw[pG]
  exact h w' _ (I.tok _) G2
def ZZ {h':Heap}{t':Nat}{ob:HO}(I:Inv X EC Y H s) (mu:mJ (H a)) (hs:Heap.SameBut a s.heap h') (he:∃ q,h'.get? a=some q) (new:y_ X.prog X.w (upd H a ob) h' a ob):
  Inv X EC Y (upd H a ob) { s with heap:=h',toks:=t' }:=
 I.write (x:=a) (e:=a) mu (.inl rfl) (λ b q hb z=>(hs.2 b hb).trans z) he new
def OA {P:Program}{w:World}{H':Hp}{h':Heap}{Aa:List (Key×V)}{vs:List (Key×Value)}(z:Aa.length<=sizeLine) (hd:(a == sysModules)=false) (rel:KV Aa vs) (dd:h'.DictOf (wI P w) a vs):
  y_ P w H' h' a (.dK Aa):=⟨z,hd,vs,rel,dd⟩
def OG {H':Hp}{Q:Unit->Shared->Prop}(hu:A.units+1<cLine) (I:Inv X EC Y H s) (g:lj H a y v H') (ry:RelV y u) (rv:RelV v r) (h:∀ s',Inv X EC Y H' s'->Q () s'):
  wpAny (model X.prog X.w) A (setItem (.ref a) u r) Q E s:=by
 rcases g with ⟨Aa,k,e,ey,l,eH⟩ | ⟨Aa,k,b,e,ey,eb,l,eH⟩
 ·subst ey eH
  obtain⟨z,hd,vs,rel,dd⟩:=O9 I.zp e
  have hz:vs.length<=sizeLine:=by rw[<- rel.length];exact z
  have hl:(putK Aa k v).length<=sizeLine:=by have:=aN Aa k v;lia
  refine wpAny_setItem_pairs (hsz:=hz) (k9 ry) dd λ h' G0 hs=>h _ ?_
  have he:∃ q,h'.get? a=some q:=let ⟨q,_,_,hq,_⟩:=G0;⟨q,hq⟩
  exact ZZ I (by rw[e];exact True.intro) hs he (OA hl hd (rel.put k rv) G0)
 ·subst ey eH
  cases (show u=Value.ref b from ry)
  obtain⟨z,hd,xs,rel,dd⟩:=O4 I.zp e
  have hz:xs.length<=sizeLine:=by rw[<- Paired.length rel];exact z
  have hl:(putK Aa k v).length<=sizeLine:=by have:=aN Aa k v;lia
  refine wpAny_setItem_heap (hsz:=hz) (tupleKind_room_in1 hu) (k8 I.zp eb) dd λ h' G0 hs=>h _ ?_
  obtain⟨q,es,ep,hq,h2,h3,h4,_,h5⟩:=G0
  refine ZZ I (by rw[e];exact True.intro) hs ⟨q,hq⟩ ⟨hl,hd,_,(rel.put k eb rv).keeps λ c ys ec=>?_,q,es,ep,hq,h2,h3,h4,h5⟩
  rw[zF (uo ec e (λ z=>nomatch z))]
  exact ec
end
section
variable {X:Cx}{EC:Ag}{Y:St}{H:Hp}{s:Shared}{a:Addr}{Aa:List (Key×V)}{A:Around}{E:Ae}
def OH {Q:Ae}(I:Inv X EC Y H s) (e:Rd H a (.dK Aa)) (h:∀ t s',Inv X EC Y H s'->Q (.int Aa.length t) s'):wpAny (model X.prog X.w) A (call (.builtin "len") [.ref a]) Q E s:=by
 obtain⟨z,hd,vs,rel,dd⟩:=pL I.zp e
 refine call_len_dict hd dd (by rw[<- rel.length];rw[sizeLine_eq] at z;lia) ?_
 rw[<- rel.length]
 exact h _ _ (I.tok _)
end
def eL (i:Expr):Prop:=∀ ov iv,subscripted i false ov iv=operate [ov,iv] (getItem ov iv)
def WG {prog:Program}{w:World}{A:Around}{E:Ae}{s:Shared}{env:Env}{value slice:Expr}{pos:Pos}{T id:String}{Q:Ae}
  (hl:typeLookup (.type T) "__getitem__"=pure (some (.builtin id))) (hs:eL slice)
  (h:wpAny (model prog w) A (eval value env) (λ o s₁=>wpAny (model prog w) A (eval slice env) (λ i s₂=>s₂.TypeIs o T/\wpAny (model prog w) A (getItem o i) Q E s₂) E s₁) E s):
  wpAny (model prog w) A (eval (.Subscript value slice pos) env) Q E s:=by
 refine Subscript_ (KG h (λ o s₁ h₁=>KG h₁ (λ i s₂ h₂=>?_) λ _ _ x=>x) λ _ _ x=>x)
 obtain⟨hT,h₂⟩:=h₂
 unfold subscriptTail
 refine JI ?_
 rw[getitemInPython_of_ne hT.not_modules]
 refine JI (wpAny_specialOf hT hl ?_)
 have fin:wpAny (model prog w) A (subscripted slice false o i) (λ r s₃=>wpAny (model prog w) A (letTemporaryGo value o r >>= λ _=>pure r) Q E s₃) E s₂:=by
  rw[hs o i]
  exact wpAny_operating (KG h₂ (λ r s₃ h₃=>JI (wpAny_letTemporaryGo (Ac h₃))) λ _ _ x=>x)
 first
  | exact Ac (JI fin)
  | exact JI (Ac (JI fin))
  | exact JI fin
def OC {X:Cx}{EC:Ag}{Y:St}{H:Hp}{s:Shared}{a:Addr}{y:V}{o:Option V}(I:Inv X EC Y H s) (g:sJ H a y o):s.TypeIs (.ref a) "dict":=by
 rcases g with ⟨Aa,k,e,_,_⟩ | ⟨Aa,k,b,e,_,_,_⟩
 ·obtain⟨_,_,vs,_,dd⟩:=pL I.zp e
  exact dd.typeIs
 ·obtain⟨_,_,xs,_,dd⟩:=nS I.zp e
  exact dd.typeIs
def WC (td ty:TE):TE:=fun Y H Q=>td Y H λ x H1=>ty Y H1 λ y H2=>∃ a v,x=.ref a/\sJ H2 a y (some v)/\Q v H2
def Vq (td ty tv:TE):TS:=λ D Y H=>tv Y H λ v H1=>td Y H1 λ x H2=>ty Y H2 λ y H3=>∃ a H4,x=.ref a/\lj H3 a y v H4/\D.nx Y H4
section
variable {X:Cx}{o i value:Expr}{pos pos':Pos}{td ty tv:TE}
def U1 (hu:X.A.units+1<cLine) (ho:PE X o td) (hi:PE X i ty) (hs:eL i):PE X (.Subscript o i pos) (WC td ty):=by
 intro EC s Y H Q I h
 refine WG PySem.F.slot_dict_getitem.lookup hs (zC (ho EC s Y H _ I h) λ u s1 ⟨x,H1,I1,rx,q1⟩=>zC (hi EC s1 Y H1 _ I1 q1) λ iv s2 ⟨y,H2,I2,ry,a,v,ex,g,q2⟩=>?_)
 subst ex
 obtain rfl:u=Value.ref a:=rx
 exact⟨OC I2 g,OI hu I2 g ry λ w' s3 I3 G2=>⟨v,H2,I3,G2,q2⟩⟩
def VS (hu:X.A.units+1<cLine) (ho:PE X o td) (hi:PE X i ty) (hv:PE X value tv) (hs:swapsWith value (some (.Subscript o i pos')) pos.line X.env=pure false):
  PS X (.Assign [.Subscript o i pos'] value pos) (Vq td ty tv):=by
 intro EC s Y H D I h
 refine wpAny_Assign_Subscript (zC (hv EC s Y H _ I h) λ r s1 ⟨v,H1,I1,rv,q1⟩=>zC (ho EC s1 Y H1 _ I1 q1) λ u s2 ⟨x,H2,I2,rx,q2⟩=>zC (hi EC s2 Y H2 _ I2 q2) λ iv s3 ⟨y,H3,I3,ry,a,H4,ex,g,q3⟩=>?_) hs
 subst ex
 obtain rfl:u=Value.ref a:=rx
 exact OG hu I3 g ry rv λ s4 I4=>⟨Y,H4,I4,q3⟩
end
def OB {P:Program}{w:World}{H:Hp}(h:Heap) (hb:sysModules<h.objs.size):y_ P w H (h.push { cls:=.type "dict",data:=.dict #[] }) h.objs.size (.dK []):=
 ⟨AO _,beq_eq_false_iff_ne.mpr (Ne.symm (Ar hb)),[],.nil,Heap.DictOf.new h⟩
def WA:TE:=λ _ H Q=>∀ p,H p=none->Q (.ref p) (upd H p (.dK []))
section
variable {X:Cx}{pos:Pos}
def Uz:PE X (.Dict [] [] pos) WA:=λ EC s Y H Q I h=>
 wpAny_Dict_empty ⟨.ref s.heap.objs.size,_,I.laid (a:=s.heap.objs.size) (o:=.dK []) (t':=s.toks) (λ _ _ q=>KC _ q) (Aj _) (OB s.heap I.big),rfl,h _ (I.zp.fresh (Aj _))⟩
end
structure M2 (X:Cx) (o:Expr) (m:Str) (apos:Pos) (e f:Expr) (Ah:Pos):Prop where
 base:attributeBase o m X.env (eval o X.env)=eval o X.env
 nL:((backTo Ah (starEach [e,f] X.env)).all (λ x=>!x.1)&&(backToKw Ah (keywordEach [] X.env)).all (λ x=>x.1.isSome)
  && decide (([e,f]:List Expr).length+([]:List Keyword).length+(if ([]:List Keyword).isEmpty then 0 else 1)<30))=true
 line:(apos.endLine == Ah.line)=true
 trees:backTo Ah (starEach [e,f] X.env)=[(false,eval e X.env),(false,eval f X.env)]
def YR (H:Hp) (a:Addr):Prop:=(∃ Aa,Rd H a (.dK Aa))\/∃ Aa,Rd H a (.dT Aa)
def QX {X:Cx}{EC:Ag}{Y:St}{H:Hp}{s:Shared}{a:Addr}(I:Inv X EC Y H s) (d:YR H a):
  s.TypeIs (.ref a) "dict"/\(∀ b,Value.ref a=.ref b->∃ ob,s.heap.get? b=some ob/\ob.dict=none)/\(a == sysModules)=false:=by
 rcases d with ⟨Aa,e⟩ | ⟨Aa,e⟩
 ·obtain⟨_,hd,vs,_,dd⟩:=pL I.zp e
  refine⟨dd.typeIs,λ b q=>?_,hd⟩
  cases q
  obtain⟨ob,_,_,h1,h2,_⟩:=dd
  exact⟨ob,h1,h2.2.1⟩
 ·obtain⟨_,hd,xs,_,dd⟩:=nS I.zp e
  refine⟨dd.typeIs,λ b q=>?_,hd⟩
  cases q
  obtain⟨ob,_,_,h1,h2,_⟩:=dd
  exact⟨ob,h1,h2.2.1⟩
section
variable {X:Cx}{EC:Ag}{Y:St}{H:Hp}{s:Shared}{a:Addr}{y d:V}{u r:Value}{o:Option V}{A:Around}{E:Ae}
def OJ {Q:Ae}(hu:A.units+1<cLine) (I:Inv X EC Y H s) (g:sJ H a y o) (ry:RelV y u) (rd:RelV d r) (h:∀ w' s',Inv X EC Y H s'->RelV (o.getD d) w'->Q w' s'):
  wpAny (model X.prog X.w) A (call (.builtin "dict.get") [.ref a,u,r]) Q E s:=by
 rcases g with ⟨Aa,k,e,ey,l⟩ | ⟨Aa,k,b,e,ey,eb,l⟩
 ·subst ey
  obtain⟨z,hd,vs,rel,dd⟩:=pL I.zp e
  refine call_meetsIn PySem.F.slot_dict_get dd.typeIs PySem.F.entry_dict_get (PySem.F.args_dict_get_3 _ _ _) (meets_dict_get_default (wI X.prog X.w) a (k9 ry) hd r) ⟨_,dd.mapOf,h _ _ (I.tok _) ?_⟩
  rw[l]
  exact (rel.val k).getD rd
 ·subst ey
  cases (show u=Value.ref b from ry)
  obtain⟨z,hd,xs,rel,dd⟩:=nS I.zp e
  refine call_meetsIn PySem.F.slot_dict_get dd.typeIs PySem.F.entry_dict_get (PySem.F.args_dict_get_3 _ _ _) (meetsH_dict_get_default (tupleKind (wI X.prog X.w)) a b hd r) ⟨tupleKind_room_in1 hu,k,xs,k8 I.zp eb,dd,h _ _ (I.tok _) ?_⟩
  rw[l]
  exact (rel.val k).getD rd
end
def WB (td ty tx:TE):TE:=fun Y H Q=>td Y H λ x H1=>∃ a,x=.ref a/\YR H1 a/\ty Y H1 λ y H2=>tx Y H2 λ z H3=>∃ o,sJ H3 a y o/\Q (o.getD z) H3
section
variable {X:Cx}{o e f:Expr}{apos Ah:Pos}{td ty tx:TE}
def U0 (hu:X.A.units+1<cLine) (ho:PE X o td) (he:PE X e ty) (hf:PE X f tx) (m:M2 X o "get" apos e f Ah):PE X (.Call (.Attribute o "get" apos) [e,f] [] Ah) (WB td ty tx):=by
 intro EC s Y H Q I h
 refine wpAny_Call_method m.base m.nL m.line PySem.F.plainAttrs_dict PySem.F.slot_dict_get PySem.F.type_dict_get (zC (ho EC s Y H _ I h) λ u s1 ⟨x,H1,I1,rx,a,ex,d,q1⟩=>?_)
 subst ex
 obtain rfl:u=Value.ref a:=rx
 obtain⟨t1,t2,_⟩:=QX I1 d
 refine⟨t1,t2,?_⟩
 rw[m.trees]
 refine Calls.callWith_builtin rfl (Calls.evalArgs_plain (Calls.spliced_cons (zC (he EC s1 Y H1 _ I1 q1) λ iv s2 ⟨y,H2,I2,ry,q2⟩=>
  Calls.spliced_cons (zC (hf EC s2 Y H2 _ I2 q2) λ fv s3 ⟨z,H3,I3,rz,ov,g,q3⟩=>Calls.spliced_nil ?_))))
 exact OJ hu I3 g ry rz λ w' s4 I4 G2=>⟨_,H3,I4,G2,q3⟩
end
end L2
namespace L3
open PySem PySem.Spec L2
open PyProof.Rows hiding St
noncomputable def ud (Aa:List (Key×D)) (k:Key):Option D:=(Aa.find? λ kv=>decide (kv.1=k)).map (·.2)
noncomputable def putD (Aa:List (Key×D)) (k:Key) (v:D):List (Key×D):=
 if (Aa.any λ kv=>decide (kv.1=k))=true then Aa.map (λ kv=>if kv.1=k then (kv.1,v) else kv) else Aa++[(k,v)]
section
variable {K:Ab}{H:Hp}
theorem yZ.val:∀ {Aa:List (Key×D)}{vs:List (Key×V)},yZ K H Aa vs->∀ k,(ud Aa k=none/\wq vs k=none)\/∃ d v,ud Aa k=some d/\wq vs k=some v/\zh K H d v
 | _,_,.nil,k=>.inl ⟨rfl,rfl⟩
 | (a,d)::Aa,(b,v)::vs,.cons ⟨e,r⟩ t,k=>by
  have e':a=b:=e
  subst e'
  by_cases h:a=k
  ·subst h
   exact .inr ⟨d,v,by simp[ud],by simp[wq],r⟩
  ·rcases yZ.val t k with ⟨h1,h2⟩ | ⟨d',v',h1,h2,h3⟩
   ·exact .inl ⟨by simpa [ud,h] using h1,by simpa [wq,h] using h2⟩
   ·exact .inr ⟨d',v',by simpa [ud,h] using h1,by simpa [wq,h] using h2,h3⟩
theorem yZ.any {Aa:List (Key×D)}{vs:List (Key×V)}(h:yZ K H Aa vs) (k:Key):(Aa.any λ kv=>decide (kv.1=k))=vs.any λ kv=>decide (kv.1=k):=by
 induction h with
 | nil=>rfl
 | cons r _ ih=>rw[BG,BG,ih,r.1]
def yZ.len {Aa:List (Key×D)}{vs:List (Key×V)}(h:yZ K H Aa vs):Aa.length=vs.length:=Paired.length h
theorem yZ.uW {k:Key}{d:D}{v:V}(r:zh K H d v):∀ {Aa:List (Key×D)}{vs:List (Key×V)},yZ K H Aa vs->yZ K H (Aa.map λ kv=>if kv.1=k then (kv.1,d) else kv) (vs.map λ kv=>if kv.1=k then (kv.1,v) else kv)
 | _,_,.nil=>.nil
 | (a1,a2)::_,(b1,b2)::_,.cons ⟨e,q⟩ t=>by
  have e':a1=b1:=e
  subst e'
  refine .cons ?_ (yZ.uW r t)
  by_cases hk:a1=k
  ·simp[hk,r]
  ·simpa [hk] using q
theorem yZ.snoc {k:Key}{d:D}{v:V}(r:zh K H d v):∀ {Aa:List (Key×D)}{vs:List (Key×V)},yZ K H Aa vs->yZ K H (Aa++[(k,d)]) (vs++[(k,v)])
 | _,_,.nil=>.cons ⟨rfl,r⟩ .nil
 | _,_,.cons q t=>.cons q (yZ.snoc r t)
def yZ.put {Aa:List (Key×D)}{vs:List (Key×V)}(h:yZ K H Aa vs) (k:Key) {d:D}{v:V}(r:zh K H d v):yZ K H (putD Aa k d) (putK vs k v):=by
 unfold putD putK
 rw[h.any k]
 split
 ·exact yZ.uW r h
 ·exact yZ.snoc r h
end
section
variable {X:Cx}{o i e f v:Expr}{td ty tx tv:zu}{pos pos' apos Ah:Pos}
def Yh:zu:=λ _ S Q=>∀ p,S p=none->Q (.ref p) (ups S p (.zH []))
def UX:PD X (.Dict [] [] pos) Yh:=by
 refine⟨λ _ _ _ _ hq z p hp=>hq _ _ (z p hp),PE.imp Uz fun Y H Q hu p hp=>?_⟩
 obtain⟨L,S,r1,r2,z⟩:=hu
 exact z p (r2.none hp) _ _ (by simp only[zh]) (.new hp _) (r2.ups (.new hp _) ⟨[],ye,.nil⟩)
def Yk (td ty:zu):zu:=fun L S Q=>td L S λ x S1=>ty L S1 λ y S2=>∃ p Aa k d,x=.ref p/\y=.int k/\S2 p=some (.zH Aa)/\ud Aa (.inl k)=some d/\Q d S2
def bV {k:Nat}(hr:ya k X.A) (ho:PD X o td) (hi:PD X i ty) (hs:eL i:=by exact λ _ _=>rfl):PD X (.Subscript o i pos) (Yk td ty):=by
 refine⟨fun L S Q Q' hq z=>ho.mo L S _ _ (λ x S1 z=>hi.mo L S1 _ _ (λ y S2 ⟨p,Aa,k,d,a,b,c,e,h⟩=>⟨p,Aa,k,d,a,b,c,e,hq _ _ h⟩) z) z,PE.imp (U1 (gS hr) ho.pe hi.pe hs) fun Y H Q hu=>?_⟩
 obtain⟨L,S,r1,r2,z⟩:=hu
 refine zK.go ho.mo r1 r2 z λ x S1 w H1 h1 q1 e1 p1=>?_
 refine zK.go hi.mo (r1.ext e1) p1 h1 λ y S2 w2 H2 h2 q2 e2 p2=>?_
 obtain⟨p,Aa,k,d,rfl,rfl,c1,c2,h⟩:=h2
 simp only[zh] at q1 q2
 subst q1 q2
 obtain⟨vs,g1,g2⟩:=p2 _ _ c1
 rcases yZ.val g2 (.inl k) with ⟨n1,_⟩ | ⟨d',v',n1,n2,n3⟩
 ·rw[c2] at n1;cases n1
 ·rw[c2] at n1;cases n1
  exact⟨p,v',rfl,n2▸sJ.k (k:=Sum.inl k) g1,h v' H2 n3 (e1.trans e2) p2⟩
def Yj (td ty tx:zu):zu:=fun L S Q=>td L S λ x S1=>∃ p,x=.ref p/\(∃ Aa,S1 p=some (.zH Aa))/\ty L S1 λ y S2=>tx L S2 λ z S3=>∃ k Aa,y=.int k/\S3 p=some (.zH Aa)/\Q ((ud Aa (.inl k)).getD z) S3
def UY {k:Nat}(hr:ya k X.A) (ho:PD X o td) (he:PD X e ty) (hf:PD X f tx) (m:M2 X o "get" apos e f Ah:=by exact⟨rfl,rfl,rfl,rfl⟩):PD X (.Call (.Attribute o "get" apos) [e,f] [] Ah) (Yj td ty tx):=by
 refine⟨fun L S Q Q' hq z=>ho.mo L S _ _ (λ x S1 ⟨p,a,b,z⟩=>⟨p,a,b,he.mo L S1 _ _ (λ y S2 z=>hf.mo L S2 _ _ (λ w S3 ⟨k,Aa,a,b,h⟩=>⟨k,Aa,a,b,hq _ _ h⟩) z) z⟩) z,PE.imp (U0 (gS hr) ho.pe he.pe hf.pe m) fun Y H Q hu=>?_⟩
 obtain⟨L,S,r1,r2,z⟩:=hu
 refine zK.go ho.mo r1 r2 z λ x S1 w H1 h1 q1 e1 p1=>?_
 obtain⟨p,rfl,⟨kvs0,c0⟩,h1⟩:=h1
 simp only[zh] at q1
 subst q1
 obtain⟨vs0,g0,_⟩:=p1 _ _ c0
 refine⟨p,rfl,.inl ⟨vs0,.inl g0⟩,?_⟩
 refine zK.go he.mo (r1.ext e1) p1 h1 λ y S2 w2 H2 h2 q2 e2 p2=>?_
 refine zK.go hf.mo ((r1.ext e1).ext e2) p2 h2 λ y3 S3 w3 H3 h3 q3 e3 p3=>?_
 obtain⟨k,Aa,rfl,c1,h⟩:=h3
 simp only[zh] at q2
 subst q2
 obtain⟨vs,g1,g2⟩:=p3 _ _ c1
 refine⟨wq vs (.inl k),sJ.k (k:=Sum.inl k) g1,?_⟩
 rcases yZ.val g2 (.inl k) with ⟨n1,n2⟩ | ⟨d',v',n1,n2,n3⟩
 ·rw[n1] at h;rw[n2]
  exact h _ H3 q3 ((e1.trans e2).trans e3) p3
 ·rw[n1] at h;rw[n2]
  exact h _ H3 n3 ((e1.trans e2).trans e3) p3
def Yi (td ty tv:zu):yh:=λ E L S=>tv L S λ v S1=>td L S1 λ x S2=>ty L S2 λ y S3=>∃ p Aa k,x=.ref p/\y=.int k/\S3 p=some (.zH Aa)/\Aa.length<sizeLine/\E.nx L (ups S3 p (.zH (putD Aa (.inl k) v)))
theorem Ext.dK {H:Hp}{p:Addr}{Aa:List (Key×V)}(h:H p=some (.dK Aa)) (o:HO):Ext H (upd H p o):=
 ⟨λ b ys q=>by rw[zF (uo q h (by intro z;cases z))];exact q,λ b ob u q=>by rw[zF (uo q h (by intro z;cases z))];exact q,λ b u q=>by rw[zF (uo q h (by intro z;cases z))];exact q,λ b u q=>by rw[zF (uo q h (by intro z;cases z))];exact q⟩
def UG {k:Nat}(hr:ya k X.A) (ho:PD X o td) (hi:PD X i ty) (hv:PD X v tv) (hs:swapsWith v (some (.Subscript o i pos')) pos.line X.env=pure false:=by rfl):vV X (.Assign [.Subscript o i pos'] v pos) (Yi td ty tv):=by
 refine⟨λ E E' L S hE z=>hv.mo L S _ _ (λ w S1 z=>ho.mo L S1 _ _ (λ x S2 z=>hi.mo L S2 _ _ (λ y S3 ⟨p,Aa,k,a,b,c,d,h⟩=>⟨p,Aa,k,a,b,c,d,hE.nx _ _ h⟩) z) z) z,PS.imp (VS (gS hr) ho.pe hi.pe hv.pe hs) λ D Y H hu=>?_⟩
 obtain⟨L,S,r1,r2,z⟩:=hu
 refine zK.go hv.mo r1 r2 z λ w S1 w1 H1 h1 q1 e1 p1=>?_
 refine zK.go ho.mo (r1.ext e1) p1 h1 λ x S2 w2 H2 h2 q2 e2 p2=>?_
 refine zK.go hi.mo ((r1.ext e1).ext e2) p2 h2 λ y S3 w3 H3 h3 q3 e3 p3=>?_
 obtain⟨p,Aa,k,rfl,rfl,c1,c2,h⟩:=h3
 simp only[zh] at q2 q3
 subst q2 q3
 obtain⟨vs,g1,g2⟩:=p3 _ _ c1
 have e4:Ext H3 (upd H3 p (.dK (putK vs (.inl k) w1))):=.dK g1 _
 refine⟨p,_,rfl,lj.k (k:=Sum.inl k) g1 (by rw[<- g2.len];exact c2),?_⟩
 exact h Y _ ((((r1.ext e1).ext e2).ext e3).ext e4) (((e1.trans e2).trans e3).trans e4) (p3.ups e4 ⟨_,ye,(yZ.put g2 _ (zh.ext (e2.trans e3) w q1)).ext e4⟩)
def Np:yB X (.builtin "len") (λ xs H Q=>∃ p Aa,xs=[.ref p]/\H p=some (.dK Aa)/\Q (.int Aa.length) H):=by
 intro EC s Y H xs us Q I r h
 obtain⟨p,Aa,rfl,e,q⟩:=h
 obtain⟨u,rfl,ru⟩:=vals1 r
 cases ru
 exact OH I (.inl e) λ t s' I'=>⟨.int _,H,I',⟨_,rfl⟩,q⟩
def ZG:xH:=λ ds S Q=>∃ p Aa,ds=[.ref p]/\S p=some (.zH Aa)/\Q (.int Aa.length) S
def UW {es:List Expr}{tA:yk}{p:Pos}(hm:X.mg "len"=none) (ha:xi X (e::es) tA) (hg:Gl X "len":=by rfl) (he:starEach (e::es) X.env=(false,eval e X.env)::starEach es X.env:=by rfl) (Am:(backTo pos (starEach es X.env)).any (·.1)=false:=by rfl):PD X (.Call (.Name "len" p) (e::es) [] pos) (xE ZG tA):=
 uZ (uG Np hg hm PySem.boot_len ha.pa (by decide) (by decide) he Am) (λ _ _ _ _ hq ⟨p,Aa,a,b,h⟩=>⟨p,Aa,a,b,hq _ _ h⟩) (λ xs ds H S Q h0 h2 ⟨p,Aa,a,b,h⟩=>by
  subst a
  obtain⟨x,rfl,h1⟩:=h0.one
  simp only[zh] at h1
  subst h1
  obtain⟨vs,g1,g2⟩:=h2 _ _ b
  refine⟨p,vs,rfl,g1,?_⟩
  rw[<- g2.len]
  exact h _ H (by simp only[zh]) (.refl H) h2) ha.mo
end
end L3
namespace L3
open PySem L2
section
variable {S S':SS}
mutual
theorem Sn.sx (h:Sx S S'):∀ (t:T) {d:D},Sn S t d->Sn S' t d
 | .zk,d,q=>by simpa only [Sn] using q
 | .bl b,d,q=>by simpa only [Sn] using q
 | .int i,d,q=>by simpa only [Sn] using q
 | .str x,d,q=>by simpa only [Sn] using q
 | .tup ts,d,q=>by
  simp only[Sn] at q ⊢
  obtain⟨ds,q1,q2⟩:=q
  exact⟨ds,q1,zl.sx h ts q2⟩
 | .lst ts,d,q=>by
  simp only[Sn] at q ⊢
  obtain⟨ds,q1,q2⟩:=q
  refine⟨ds,?_,zl.sx h ts q2⟩
  rcases q1 with q1 | ⟨a,q1,q3⟩
  ·exact .inl q1
  ·exact .inr ⟨a,q1,h _ _ q3⟩
 | .err _ _ t,d,q=>by
  simp only[Sn] at q ⊢
  obtain⟨x,q1,q2⟩:=q
  exact⟨x,q1,Sn.sx h t q2⟩
 | .yT,d,q=>by
  simp only[Sn] at q ⊢
  obtain⟨a,Aa,q1,q2⟩:=q
  exact⟨a,Aa,q1,h _ _ q2⟩
theorem zl.sx (h:Sx S S'):∀ (ts:List T) {ds:List D},zl S ts ds->zl S' ts ds
 | [],ds,q=>by simpa only [zl] using q
 | t::ts,ds,q=>by
  simp only[zl] at q ⊢
  obtain⟨c,cs,q1,q2,q3⟩:=q
  exact⟨c,cs,q1,Sn.sx h t q2,zl.sx h ts q3⟩
end
def zl.nil:zl S [] []:=by simp only[zl]
def zl.cons {t:T}{ts:List T}{d:D}{ds:List D}(h:Sn S t d) (h':zl S ts ds):zl S (t::ts) (d::ds):=by
 simp only[zl];exact⟨d,ds,rfl,h,h'⟩
theorem zl.append:∀ {ts us:List T}{ds es:List D},zl S ts ds->zl S us es->zl S (ts++us) (ds++es)
 | [],us,ds,es,h,h'=>by simp only[zl] at h;subst h;simpa using h'
 | t::ts,us,ds,es,h,h'=>by
  simp only[zl] at h
  obtain⟨c,cs,rfl,h1,h2⟩:=h
  exact zl.cons h1 (zl.append h2 h')
theorem zl.fm:∀ {ts:List T}{ds:List D}{i:Nat}{t:T},zl S ts ds->ts[i]?=some t->∃ d,ds[i]?=some d/\Sn S t d
 | [],_,i,t,_,e=>by simp at e
 | u::ts,ds,i,t,h,e=>by
  simp only[zl] at h
  obtain⟨c,cs,rfl,h1,h2⟩:=h
  cases i with
  | zero=>simp at e;subst e;exact⟨c,rfl,h1⟩
  | succ i=>
   obtain⟨y,e1,e2⟩:=zl.fm (i:=i) h2 (by simpa using e)
   exact⟨y,by simpa using e1,e2⟩
theorem zl.fu:∀ {ts:List T}{ds:List D}{i:Nat}{d:D},zl S ts ds->ds[i]?=some d->∃ t,ts[i]?=some t/\Sn S t d
 | [],ds,i,t,h,e=>by simp only[zl] at h;subst h;simp at e
 | u::ts,ds,i,t,h,e=>by
  simp only[zl] at h
  obtain⟨c,cs,rfl,h1,h2⟩:=h
  cases i with
  | zero=>simp at e;subst e;exact⟨u,rfl,h1⟩
  | succ i=>
   obtain⟨y,e1,e2⟩:=zl.fu (i:=i) h2 (by simpa using e)
   exact⟨y,by simpa using e1,e2⟩
def zl.len {ts:List T}{ds:List D}(h:zl S ts ds):ds.length=ts.length:=(L3.zl.length h).symm
theorem zl.at {ts:List T}{ds:List D}{i:Int}{t:T}(h:zl S ts ds) (e:L2.zW ts i=some t):∃ d,L2.zW ds i=some d/\Sn S t d:=by
 unfold L2.zW at e ⊢
 rw[h.len]
 cases q:L2.w_ ts.length i with
 | none=>rw[q] at e;cases e
 | some j=>
  rw[q] at e
  exact h.fm e
theorem zl.cN:∀ {ts:List T}{ds:List D}{t:T}{d:D}(i:Nat),zl S ts ds->Sn S t d->zl S (ts.set i t) (ds.set i d)
 | [],ds,t,d,i,h,_=>by simp only[zl] at h;subst h;simpa using zl.nil
 | u::ts,ds,t,d,0,h,hd=>by
  simp only[zl] at h
  obtain⟨c,cs,rfl,h1,h2⟩:=h
  exact zl.cons hd h2
 | u::ts,ds,t,d,i+1,h,hd=>by
  simp only[zl] at h
  obtain⟨c,cs,rfl,h1,h2⟩:=h
  exact zl.cons h1 (zl.cN i h2 hd)
def zl.empty {ts:List T}{ds:List D}(h:zl S ts ds):ds.isEmpty=ts.isEmpty:=by
 have:=h.len
 cases ds <;> cases ts <;> simp_all
theorem zl.Y1:∀ {bs:List Bool}{ds:List D},zl S (bs.map T.bl) ds->ds=bs.map D.bl
 | [],ds,h=>by simpa only [A9,zl] using h
 | b::bs,ds,h=>by
  rw[Au] at h
  simp only[zl,Sn] at h
  obtain⟨c,cs,rfl,rfl,h3⟩:=h
  rw[zl.Y1 h3];rfl
end
end L3
namespace L5
open PySem L2 L3
noncomputable def zJ (S:SS) (Z:Addr->Prop):SS:=open Classical in λ a=>if Z a then none else S a
section
variable {S S':SS}{Z Z':Addr->Prop}{a p:Addr}
def uu (h:¬ Z a):zJ S Z a=S a:=if_neg h
def gT (h:Z a):zJ S Z a=none:=if_pos h
def tw {o:O}(h:zJ S Z a=some o):¬ Z a/\S a=some o:=by
 by_cases z:Z a
 ·rw[gT z] at h;cases h
 ·rw[uu z] at h;exact⟨z,h⟩
def nI (S:SS) (Z:Addr->Prop):Sx (zJ S Z) S:=λ _ _ h=>(tw h).2
def wM (h:Sx S S'):Sx (zJ S Z) (zJ S' Z):=λ b o q=>by
 obtain⟨q1,q2⟩:=tw q
 rw[uu q1];exact h _ _ q2
def uv (h:∀ a,Z' a->Z a):Sx (zJ S Z) (zJ S Z'):=λ b o q=>by
 obtain⟨q1,q2⟩:=tw q
 rw[uu (λ z=>q1 (h _ z))];exact q2
def pH (h:Sx S S') (hp:S p=none):Sx (zJ S Z) (zJ S' λ a=>Z a\/a=p):=λ b o q=>by
 obtain⟨q1,q2⟩:=tw q
 rw[uu]
 ·exact h _ _ q2
 ·rintro (z | z)
  ·exact q1 z
  ·subst z;rw[hp] at q2;cases q2
def Pm {o:O}(h:Z p):zJ (ups S p o) Z=zJ S Z:=by
 funext b
 by_cases z:Z b
 ·rw[gT z,gT z]
 ·rw[uu z,uu z,tL (λ e=>z (by rw[e];exact h))]
end
inductive C where
 | lst (ts:List T) | zH (Aa:List (Key×T))
noncomputable def yA (S:SS):List (Key×T)->List (Key×D)->Prop
 | [],l=>l=[]
 | (k,t)::r,l=>∃ d m,l=(k,d)::m/\Sn S t d/\yA S r m
theorem yA.sx {S S':SS}(h:Sx S S'):∀ {a:List (Key×T)}{b:List (Key×D)},yA S a b->yA S' a b
 | [],_,q=>q
 | (k,t)::r,_,q=>by
  obtain⟨d,m,q1,q2,q3⟩:=q
  exact⟨d,m,q1,Sn.sx h t q2,yA.sx h q3⟩
noncomputable def tG (S:SS):C->O->Prop
 | .lst ts,.lst ds=>zl S ts ds
 | .zH a,.zH b=>yA S a b
 | _,_=>False
theorem tG.sx {S S':SS}(h:Sx S S'):∀ {c:C}{o:O},tG S c o->tG S' c o
 | .lst ts,.lst ds,q=>zl.sx h ts q
 | .zH a,.zH b,q=>yA.sx h q
inductive W where
 | im (t:T) | own (c:C)
abbrev Ev:=List (Option W)
structure ER (S:SS) (Z:Addr->Prop) (L:yc) (J:Ev):Prop where
 zd:∀ a,Z a->S a≠none
 im:∀ (i:Nat) t,J[i]?=some (some (.im t))->∃ d,L[i]?=some (some d)/\Sn (zJ S Z) t d
 ow:∀ (i:Nat) c,J[i]?=some (some (.own c))->∃ p o,L[i]?=some (some (.ref p))/\S p=some o/\tG (zJ S Z) c o/\Z p
def Vw (S:SS) (Z:Addr->Prop) (y:T) (d:D):Prop:=Sn (zJ S Z) y d\/∃ ts p ds,y=.lst ts/\d=.ref p/\S p=some (.lst ds)/\zl (zJ S Z) ts ds/\Z p
abbrev Rk:=SS->SS->(Addr->Prop)->T->D->Prop
def YF:Rk:=λ _ S' Z y d=>Vw S' Z y d
def xG:Rk:=λ _ S' Z y d=>Sn (zJ S' Z) y d
def zD:Rk:=λ S S' Z y d=>Sn (zJ S' Z) y d/\∀ ts,y=.lst ts->∃ p ds,d=.ref p/\S p=none/\S' p=some (.lst ds)/\zl (zJ S' λ a=>Z a\/a=p) ts ds
class Cl (R:Rk):Prop where
 cl:∀ {S S1 S':SS}{Z:Addr->Prop}{y:T}{d:D},Sx S S1->R S1 S' Z y d->R S S' Z y d
 of:∀ {S S':SS}{Z:Addr->Prop}{y:T}{d:D},(∀ ts,y≠.lst ts)->Sn (zJ S' Z) y d->R S S' Z y d
instance:Cl YF:=⟨λ _ h=>h,λ _ h=>.inl h⟩
instance:Cl xG:=⟨λ _ h=>h,λ _ h=>h⟩
instance:Cl zD:=⟨λ s h=>⟨h.1,λ ts e=>by
 obtain⟨p,ds,h1,h2,h3⟩:=h.2 ts e
 exact⟨p,ds,h1,s.none h2,h3⟩⟩,λ n h=>⟨h,λ ts e=>absurd e (n ts)⟩⟩
section
variable {S S':SS}{Z:Addr->Prop}{L:yc}{J:Ev}{y:T}{d:D}
def ER.grow (h:ER S Z L J) (s:Sx S S'):ER S' Z L J:=
 ⟨λ a z q=>h.zd a z (s.none q),λ i t e=>by
  obtain⟨d,h1,h2⟩:=h.im i t e
  exact⟨d,h1,Sn.sx (wM s) t h2⟩,λ i ts e=>by
  obtain⟨p,ds,h1,h2,h3,h4⟩:=h.ow i ts e
  exact⟨p,ds,h1,s _ _ h2,tG.sx (wM s) h3,h4⟩⟩
def Vw.grow (h:Vw S Z y d) (s:Sx S S'):Vw S' Z y d:=by
 rcases h with h | ⟨ts,p,ds,h1,h2,h3,h4,h5⟩
 ·exact .inl (Sn.sx (wM s) y h)
 ·exact .inr ⟨ts,p,ds,h1,h2,s _ _ h3,zl.sx (wM s) ts h4,h5⟩
def Vw.sn (h:Vw S Z y d):Sn S y d:=by
 rcases h with h | ⟨ts,p,ds,rfl,rfl,h3,h4,_⟩
 ·exact Sn.sx (nI S Z) y h
 ·simp only[Sn]
  exact⟨ds,.inr ⟨p,rfl,h3⟩,zl.sx (nI S Z) ts h4⟩
theorem Vw.zk (h:Vw S Z .zk d):d=.zk:=by
 rcases h with h | ⟨_,_,_,h,_⟩
 ·simpa only [Sn] using h
 ·cases h
theorem Vw.bl {b:Bool}(h:Vw S Z (.bl b) d):d=.bl b:=by
 rcases h with h | ⟨_,_,_,h,_⟩
 ·simpa only [Sn] using h
 ·cases h
theorem Vw.int {b:Int}(h:Vw S Z (.int b) d):d=.int b:=by
 rcases h with h | ⟨_,_,_,h,_⟩
 ·simpa only [Sn] using h
 ·cases h
theorem Vw.str {b:Str}(h:Vw S Z (.str b) d):d=.str b:=by
 rcases h with h | ⟨_,_,_,h,_⟩
 ·simpa only [Sn] using h
 ·cases h
theorem Vw.tup {ts:List T}(h:Vw S Z (.tup ts) d):∃ ds,d=.tup ds/\zl (zJ S Z) ts ds:=by
 rcases h with h | ⟨_,_,_,h,_⟩
 ·simpa only [Sn] using h
 ·cases h
theorem Vw.lst {ts:List T}(h:Vw S Z (.lst ts) d):∃ ds,(d=.xP ds\/∃ a,d=.ref a/\S a=some (.lst ds))/\zl (zJ S Z) ts ds:=by
 rcases h with h | ⟨us,p,ds,h1,h2,h3,h4,_⟩
 ·simp only[Sn] at h
  obtain⟨ds,h1,h2⟩:=h
  refine⟨ds,?_,h2⟩
  rcases h1 with h1 | ⟨a,h1,h3⟩
  ·exact .inl h1.1
  ·exact .inr ⟨a,h1,(tw h3).2⟩
 ·cases h1
  exact⟨ds,.inr ⟨p,h2,h3⟩,h4⟩
noncomputable def xX:T->Option (List T)
 | .tup ts=>some ts
 | .lst ts=>some ts
 | _=>none
@[simp] theorem zab (ts:List T):xX (.tup ts)=some ts:=rfl
@[simp] theorem zac (ts:List T):xX (.lst ts)=some ts:=rfl
def Vw.seq {ts:List T}(h:Vw S Z y d) (e:xX y=some ts):∃ ds,zN d S=some ds/\zl (zJ S Z) ts ds:=by
 cases y with
 | tup us=>cases e;obtain⟨ds,rfl,h2⟩:=h.tup;exact⟨ds,rfl,h2⟩
 | lst us=>
  cases e
  obtain⟨ds,h1 | ⟨a,rfl,h1⟩,h2⟩:=h.lst
  ·subst h1;exact⟨ds,rfl,h2⟩
  ·exact⟨ds,by unfold zN;dsimp only;rw[h1],h2⟩
 | _=>cases e
theorem Vw.yT (h:Vw S Z .yT d):∃ a Aa,(d=.ref a/\Aa=[])/\S a=some (.zH Aa):=by
 rcases h with h | ⟨_,_,_,h,_⟩
 ·simp only[Sn] at h
  obtain⟨a,Aa,h1,h2⟩:=h
  exact⟨a,Aa,h1,(tw h2).2⟩
 ·cases h
def cH:Sn S .zk .zk:=by simp only[Sn]
def wG {b:Bool}:Sn S (.bl b) (.bl b):=by simp only[Sn]
def wV {i:Int}:Sn S (.int i) (.int i):=by simp only[Sn]
def cG {x:Str}:Sn S (.str x) (.str x):=by simp only[Sn]
def qP {ts:List T}{ds:List D}(h:zl S ts ds):Sn S (.tup ts) (.tup ds):=by simp only[Sn];exact⟨ds,rfl,h⟩
def sR {ts:List T}{ds:List D}{p:Addr}(hz:∀ a,Z a->S a≠none) (hp:S p=none) (h:zl (zJ S Z) ts ds):zD S (ups S p (.lst ds)) Z (.lst ts) (.ref p):=by
 have nz:¬ Z p:=λ z=>hz p z hp
 have s:Sx S (ups S p (.lst ds)):=.new hp _
 refine⟨?_,λ us e=>?_⟩
 ·simp only[Sn]
  exact⟨ds,.inr ⟨p,rfl,by rw[uu nz,sN]⟩,zl.sx (wM s) ts h⟩
 ·cases e
  exact⟨p,ds,rfl,hp,sN,zl.sx (pH s hp) ts h⟩
end
def xv (R:Rk) (f:Ev->Option T) (t:zu):Prop:=∀ S Z L J y Q,ER S Z L J->f J=some y->(∀ d S',Sx S S'->R S S' Z y d->Q d S')->t L S Q
abbrev vg:=xv xG
abbrev yH:=xv YF
abbrev xO:=xv zD
def xv.imp {R R':Rk}{f:Ev->Option T}{t:zu}(h:xv R f t) (i:∀ S S' Z y d,R S S' Z y d->R' S S' Z y d):xv R' f t:=λ S Z L J y Q hE e hq=>h S Z L J y Q hE e λ d S' s r=>hq d S' s (i _ _ _ _ _ r)
def xv.er {f:Ev->Option T}{t:zu}(h:vg f t):yH f t:=h.imp λ _ _ _ _ _ r=>.inl r
def xv.fe {f:Ev->Option T}{t:zu}(h:xO f t):vg f t:=h.imp λ _ _ _ _ _ r=>r.1
def xv.fr {f:Ev->Option T}{t:zu}(h:xO f t):yH f t:=h.fe.er
@[simp] noncomputable def zm (i:Nat):Ev->Option T:=fun J=>match J[i]? with
 | some (some (.im t))=>some t
 | _=>none
@[simp] noncomputable def zf (i:Nat):Ev->Option T:=fun J=>match J[i]? with
 | some (some (.im t))=>some t
 | some (some (.own (.lst ts)))=>some (.lst ts)
 | _=>none
@[simp] noncomputable def cS (t:T):Ev->Option T:=λ _=>some t
@[simp] abbrev cI (i:Int):Ev->Option T:=cS (.int i)
def aq (i:Nat):vg (zm i) (yt i):=λ S Z L J y Q hE e hq=>by
 unfold zm at e
 split at e
 ·rename_i t h
  cases e
  obtain⟨d,h1,h2⟩:=hE.im i _ h
  unfold yt;rw[h1]
  exact hq d S (.refl S) h2
 ·cases e
def S8 (i:Nat):yH (zf i) (yt i):=λ S Z L J y Q hE e hq=>by
 unfold zf at e
 split at e
 ·rename_i t h
  cases e
  obtain⟨d,h1,h2⟩:=hE.im i _ h
  unfold yt;rw[h1]
  exact hq d S (.refl S) (.inl h2)
 ·rename_i ts h
  cases e
  obtain⟨p,o,h1,h2,h3,h4⟩:=hE.ow i _ h
  unfold yt;rw[h1]
  cases o with
  | zH _=>exact h3.elim
  | lst ds=>exact hq _ S (.refl S) (.inr ⟨ts,p,ds,rfl,rfl,h2,h3,h4⟩)
 ·cases e
def Rz (i:Int):xO (cS (.int i)) (dC (.int i)):=λ S Z L J y Q hE e hq=>by cases e;exact hq _ S (.refl S) (Cl.of (λ _=>nofun) wV)
def RK (i:Bool):xO (cS (.bl i)) (dC (.bl i)):=λ S Z L J y Q hE e hq=>by cases e;exact hq _ S (.refl S) (Cl.of (λ _=>nofun) wG)
def SH (i:Str):xO (cS (.str i)) (dC (.str i)):=λ S Z L J y Q hE e hq=>by cases e;exact hq _ S (.refl S) (Cl.of (λ _=>nofun) cG)
def SU:xO (cS .zk) (dC .zk):=λ S Z L J y Q hE e hq=>by cases e;exact hq _ S (.refl S) (Cl.of (λ _=>nofun) cH)
@[simp] noncomputable def ze (f:T->T->Option T) (fa fb:Ev->Option T):Ev->Option T:=fun J=>(fa J).bind λ x=>(fb J).bind λ y=>f x y
def Good2 (R:Rk) (f:T->T->Option T) (g:yG):Prop:=∀ S Z x y z d e Q,(∀ a,Z a->S a≠none)->Vw S Z x d->Vw S Z y e->f x y=some z->(∀ c S',Sx S S'->R S S' Z z c->Q c S')->g d e S Q
def qd {R:Rk} [Cl R] {f:T->T->Option T}{g:yG}{fa fb:Ev->Option T}{ta tb:zu}(hg:Good2 R f g) (ha:yH fa ta) (hb:yH fb tb):xv R (ze f fa fb) (yw g ta tb):=λ S Z L J y Q hE e hq=>by
 unfold ze at e
 obtain⟨x,e1,e⟩:=Ak.mp e
 obtain⟨z,e2,e⟩:=Ak.mp e
 refine ha S Z L J x _ hE e1 λ d S1 s1 r1=>?_
 refine hb S1 Z L J z _ (hE.grow s1) e2 λ d2 S2 s2 r2=>?_
 exact hg S2 Z x z y d d2 Q ((hE.grow (s1.trans s2)).zd) (Vw.grow r1 s2) r2 e λ c S' s r=>hq c S' ((s1.trans s2).trans s) (Cl.cl (s1.trans s2) r)
@[simp] noncomputable def i2 (g:Int->Int->T):T->T->Option T
 | .int i,.int j=>some (g i j)
 | _,_=>none
instance {i j:Int}:Decidable (wo i j):=by unfold wo;infer_instance
instance {i j:Int}:Decidable (xg i j):=by unfold xg;infer_instance
instance {i j:Int}:Decidable (sL i j):=by unfold sL;infer_instance
@[simp] noncomputable def nH (C:Int->Int->Prop) [∀ i j,Decidable (C i j)] (g:Int->Int->T):T->T->Option T
 | .int i,.int j=>if C i j then some (g i j) else none
 | _,_=>none
def kG {g:Int->Int->T}{g':Int->Int->D}(h:∀ i j S,Sn S (g i j) (g' i j)) (n:∀ i j ts,g i j≠.lst ts):Good2 zD (i2 g) (yW g'):=λ S Z x y z d e Q hz hx hy ef hq=>by
 unfold i2 at ef
 split at ef
 ·cases ef
  cases hx.int;cases hy.int
  exact hq _ S (.refl S) (Cl.of (n _ _) (h _ _ _))
 ·cases ef
def fg {C:Int->Int->Prop} [∀ i j,Decidable (C i j)] {g:Int->Int->T}{g':Int->Int->D}(h:∀ i j S,Sn S (g i j) (g' i j)) (n:∀ i j ts,g i j≠.lst ts):Good2 zD (nH C g) (fI C g'):=λ S Z x y z d e Q hz hx hy ef hq=>by
 unfold nH at ef
 split at ef
 ·split at ef
  ·rename_i hh
   cases ef
   cases hx.int;cases hy.int
   exact⟨hh,hq _ S (.refl S) (Cl.of (n _ _) (h _ _ _))⟩
  ·cases ef
 ·cases ef
@[simp] def uE:T->T->Option T:=i2 λ i j=>.int (i-j)
@[simp] def zS:T->T->Option T:=nH (λ _ j=>0<j) λ i j=>.int (i%j)
@[simp] def yv:T->T->Option T:=nH xg λ i j=>.int (i/j)
@[simp] def lZ:T->T->Option T:=nH sL λ i j=>.int (i ^ j.toNat)
@[simp] def tu:T->T->Option T:=i2 λ i j=>.bl (decide (i<=j))
@[simp] def kF:T->T->Option T:=i2 λ i j=>.bl (decide (j<i))
@[simp] def kH:T->T->Option T:=i2 λ i j=>.bl (decide (j<=i))
section
variable {fa fb:Ev->Option T}{ta tb:zu}
def SG (ha:yH fa ta) (hb:yH fb tb):xO (ze uE fa fb) (yw (yW λ i j=>.int (i-j)) ta tb):=qd (kG (λ _ _ _=>wV) λ _ _ _=>nofun) ha hb
def SY (ha:yH fa ta) (hb:yH fb tb):xO (ze zS fa fb) (yw (fI (λ _ j=>0<j) λ i j=>.int (i%j)) ta tb):=qd (fg (λ _ _ _=>wV) λ _ _ _=>nofun) ha hb
def R5 (ha:yH fa ta) (hb:yH fb tb):xO (ze yv fa fb) (yw (fI xg λ i j=>.int (i/j)) ta tb):=qd (fg (λ _ _ _=>wV) λ _ _ _=>nofun) ha hb
def SM (ha:yH fa ta) (hb:yH fb tb):xO (ze lZ fa fb) (yw (fI sL λ i j=>.int (i ^ j.toNat)) ta tb):=qd (fg (λ _ _ _=>wV) λ _ _ _=>nofun) ha hb
end
def zR (neg:Bool):T->T->Option T:=λ x y=>if dep x<=60/\dep y<=60 then some (.bl (cond neg (!eqT x y) (eqT x y))) else none
def pE (neg:Bool):T->T->Option T:=λ x y=>match xX y with
 | some ts=>if dep x<=60/\xt ts<=60 then some (.bl (cond neg (!(ts.any λ t=>eqT t x)) (ts.any λ t=>eqT t x))) else none
 | none=>none
def PO {neg:Bool}:Good2 zD (zR neg) (vo neg):=λ S Z x y z d e Q hz hx hy ef hq=>by
 unfold zR at ef
 split at ef
 ·rename_i h
  cases ef
  exact⟨x,y,hx.sn,hy.sn,h.1,h.2,hq _ S (.refl S) (Cl.of (λ _=>nofun) wG)⟩
 ·cases ef
def PN {neg:Bool}:Good2 zD (pE neg) (rj neg):=λ S Z x y z d e Q hz hx hy ef hq=>by
 unfold pE at ef
 split at ef
 ·rename_i ts ht
  split at ef
  ·rename_i h
   cases ef
   obtain⟨ds,h1,h2⟩:=hy.seq ht
   exact⟨x,ts,ds,hx.sn,h1,zl.sx (nI S Z) ts h2,h.1,h.2,hq _ S (.refl S) (Cl.of (λ _=>nofun) wG)⟩
  ·cases ef
 ·cases ef
@[simp] def zq:T->T->Option T:=λ x y=>match xX x,y with
 | some ts,.int i=>L2.zW ts i
 | _,_=>none
def Zw:Good2 xG zq wB:=λ S Z x y z d e Q hz hx hy ef hq=>by
 unfold zq at ef
 split at ef
 ·rename_i ts i ht
  cases hy.int
  obtain⟨ds,h1,h2⟩:=hx.seq ht
  obtain⟨c,h3,h4⟩:=h2.at ef
  unfold zN at h1
  split at h1
  ·cases h1;exact Oo h3 (hq c S (.refl S) h4)
  ·cases h1;exact Oq h3 (hq c S (.refl S) h4)
  ·split at h1
   ·rename_i q
    cases h1
    exact Ot q h3 (hq c S (.refl S) h4)
   ·cases h1
  ·cases h1
 ·cases ef
@[simp] noncomputable def y8:T->T->Option T
 | .int i,.int j=>some (.int (i+j))
 | .str i,.str j=>if i.length+j.length<=sizeLine then some (.str (i++j)) else none
 | .lst ts,.lst us=>if ts.length+us.length<=sizeLine then some (.lst (ts++us)) else none
 | .tup ts,.tup us=>if ts.length+us.length<=sizeLine then some (.tup (ts++us)) else none
 | _,_=>none
def u4:yG:=λ x y S Q=>match x,y with
 | .int i,.int j=>Q (.int (i+j)) S
 | .str i,.str j=>i.length+j.length<=sizeLine/\Q (.str (i++j)) S
 | .tup ds,.tup es=>ds.length+es.length<=sizeLine/\Q (.tup (ds++es)) S
 | .zk,_=>False
 | .bl _,_=>False
 | .int _,_=>False
 | .str _,_=>False
 | .tup _,_=>False
 | x,y=>match zN x S,zN y S with
  | some ds,some es=>(∀ ts,y≠.tup ts)/\ds.length+es.length<=sizeLine/\∀ r,S r=none->Q (.ref r) (ups S r (.lst (ds++es)))
  | _,_=>False
def good_add:Good2 zD y8 u4:=λ S Z x y z d e Q hz hx hy ef hq=>by
 unfold y8 at ef
 split at ef
 ·cases ef;cases hx.int;cases hy.int
  exact hq _ S (.refl S) (Cl.of (λ _=>nofun) wV)
 ·split at ef
  ·rename_i h
   cases ef;cases hx.str;cases hy.str
   exact⟨h,hq _ S (.refl S) (Cl.of (λ _=>nofun) cG)⟩
  ·cases ef
 ·split at ef
  ·rename_i h
   cases ef
   obtain⟨ds,h1,h2⟩:=hx.seq rfl
   obtain⟨es,h3,h4⟩:=hy.seq rfl
   have nt:∀ ts,e≠.tup ts:=by
    obtain⟨_,q | ⟨_,q,_⟩,_⟩:=hy.lst <;> subst q <;> exact λ _=>nofun
   have key:(∀ ts,e≠.tup ts)/\ds.length+es.length<=sizeLine/\∀ r,S r=none->Q (.ref r) (ups S r (.lst (ds++es))):=
    ⟨nt,by rw[h2.len,h4.len];exact h,λ r hr=>hq _ _ (.new hr _) (sR hz hr (h2.append h4))⟩
   obtain⟨_,q | ⟨a,q,_⟩,_⟩:=hx.lst
   ·subst q;unfold u4;dsimp only;rw[h1,h3];exact key
   ·subst q;unfold u4;dsimp only;rw[h1,h3];exact key
  ·cases ef
 ·split at ef
  ·rename_i h
   cases ef
   obtain⟨ds,rfl,h2⟩:=hx.tup
   obtain⟨es,rfl,h4⟩:=hy.tup
   exact⟨by rw[h2.len,h4.len];exact h,hq _ S (.refl S) (Cl.of (λ _=>nofun) (qP (h2.append h4)))⟩
  ·cases ef
 ·cases ef
def vf (f:Ev->Option Bool) (t:yC):Prop:=∀ S Z L J y Q,ER S Z L J->f J=some y->(∀ S',Sx S S'->Q y S')->t L S Q
@[simp] noncomputable def zZ (f:Ev->Option T):Ev->Option Bool:=fun J=>(f J).bind λ x=>match x with
 | .bl b=>some b
 | _=>none
@[simp] noncomputable def sP:T->Option Bool
 | .zk=>some false
 | .bl b=>some b
 | .int i=>some (i != 0)
 | .str x=>if x.length<=sizeLine then some ((x.length:Int) != 0) else none
 | .tup ts=>some (!ts.isEmpty)
 | .lst ts=>some (!ts.isEmpty)
 | .yT=>none
 | .err _ _ _=>none
@[simp] def xb (f:Ev->Option T):Ev->Option Bool:=fun J=>(f J).bind sP
@[simp] noncomputable def rm (f g:Ev->Option Bool):Ev->Option Bool:=fun J=>(f J).bind λ b=>if b=true then g J else some false
@[simp] noncomputable def u6 (f g:Ev->Option Bool):Ev->Option Bool:=fun J=>(f J).bind λ b=>if b=true then some true else g J
@[simp] noncomputable def vM (f:Ev->Option Bool):Ev->Option Bool:=fun J=>(f J).map (!·)
section
variable {f g:Ev->Option T}{t u:zu}{fb gb:Ev->Option Bool}{tb ub:yC}{R:Rk}
def SA (h:yH f t):vf (zZ f) (vd t):=λ S Z L J y Q hE e hq=>by
 obtain⟨x,e1,e2⟩:=Ak.mp e
 refine h S Z L J x _ hE e1 λ d S1 s1 r1=>?_
 split at e2
 ·cases e2
  cases Vw.bl r1
  exact hq S1 s1
 ·cases e2
def SE (h:yH f t):vf (xb f) (ZS t):=λ S Z L J y Q hE e hq=>by
 obtain⟨x,e1,e2⟩:=Ak.mp e
 refine h S Z L J x _ hE e1 λ d S1 s1 r1=>?_
 cases x with
 | zk=>cases Vw.zk r1;cases e2;exact hq S1 s1
 | bl b=>cases Vw.bl r1;cases e2;exact hq S1 s1
 | int b=>cases Vw.int r1;cases e2;exact hq S1 s1
 | str b=>
  cases Vw.str r1
  simp only[sP] at e2
  split at e2
  ·rename_i hh
   cases e2;exact⟨hh,hq S1 s1⟩
  ·cases e2
 | tup ts=>
  obtain⟨ds,rfl,h2⟩:=Vw.tup r1
  cases e2
  show Q (!ds.isEmpty) S1
  rw[h2.empty];exact hq S1 s1
 | lst ts=>
  obtain⟨ds,rfl | ⟨a,rfl,h1⟩,h2⟩:=Vw.lst r1
  ·cases e2
   show Q (!ds.isEmpty) S1
   rw[h2.empty];exact hq S1 s1
  ·cases e2
   refine Wo h1 ?_
   rw[h2.empty];exact hq S1 s1
 | _=>cases e2
def R9 (h:vf fb tb) (h':vf gb ub):vf (rm fb gb) (nR tb ub):=λ S Z L J y Q hE e hq=>by
 obtain⟨b,e1,e2⟩:=Ak.mp e
 refine h S Z L J b _ hE e1 λ S1 s1=>?_
 split at e2
 ·rename_i hb;rw[if_pos hb]
  exact h' S1 Z L J y _ (hE.grow s1) e2 λ S2 s2=>hq S2 (s1.trans s2)
 ·rename_i hb;rw[if_neg hb];cases e2;exact hq S1 s1
def R6 (h:vf fb tb) (h':vf gb ub):vf (u6 fb gb) (nP tb ub):=λ S Z L J y Q hE e hq=>by
 obtain⟨b,e1,e2⟩:=Ak.mp e
 refine h S Z L J b _ hE e1 λ S1 s1=>?_
 split at e2
 ·rename_i hb;rw[if_pos hb];cases e2;exact hq S1 s1
 ·rename_i hb;rw[if_neg hb]
  exact h' S1 Z L J y _ (hE.grow s1) e2 λ S2 s2=>hq S2 (s1.trans s2)
def R7 (h:vf fb tb):vf (vM fb) (nQ tb):=λ S Z L J y Q hE e hq=>by
 unfold vM at e
 obtain⟨b,e1,rfl⟩:=AB.mp e
 exact h S Z L J b _ hE e1 λ S1 s1=>hq S1 s1
@[simp] noncomputable def qw (f g:Ev->Option T):Ev->Option T:=fun J=>(f J).bind λ x=>match x with
 | .bl k=>if k=true then g J else some (.bl false)
 | _=>none
@[simp] noncomputable def gm (f:Ev->Option T):Ev->Option T:=fun J=>(f J).bind λ x=>match x with
 | .bl k=>some (.bl (!k))
 | _=>none
@[simp] noncomputable def Zt (c:Ev->Option Bool) (f g:Ev->Option T):Ev->Option T:=fun J=>(c J).bind λ b=>if b=true then f J else g J
def RM [Cl R] (h:yH f t) (h':xv R g u):xv R (qw f g) (n_ t u):=λ S Z L J y Q hE e hq=>by
 obtain⟨x,e1,e2⟩:=Ak.mp e
 refine h S Z L J x _ hE e1 λ d S1 s1 r1=>?_
 split at e2
 ·cases Vw.bl r1
  split at e2
  ·rename_i hb
   dsimp only;rw[if_pos hb]
   exact h' S1 Z L J y _ (hE.grow s1) e2 λ d S2 s2 r2=>hq d S2 (s1.trans s2) (Cl.cl s1 r2)
  ·rename_i hb
   dsimp only;rw[if_neg hb]
   cases e2
   exact hq _ S1 s1 (Cl.of (λ _=>nofun) wG)
 ·cases e2
def SR [Cl R] (h:yH f t):xv R (gm f) (nW t):=λ S Z L J y Q hE e hq=>by
 obtain⟨x,e1,e2⟩:=Ak.mp e
 refine h S Z L J x _ hE e1 λ d S1 s1 r1=>?_
 split at e2
 ·cases Vw.bl r1
  cases e2
  exact hq _ S1 s1 (Cl.of (λ _=>nofun) wG)
 ·cases e2
def R1 [Cl R] (hc:vf fb tb) (h:xv R f t) (h':xv R g u):xv R (Zt fb f g) (nY tb t u):=λ S Z L J y Q hE e hq=>by
 obtain⟨b,e1,e2⟩:=Ak.mp e
 refine hc S Z L J b _ hE e1 λ S1 s1=>?_
 split at e2
 ·rename_i hb;rw[if_pos hb]
  exact h S1 Z L J y _ (hE.grow s1) e2 λ d S2 s2 r2=>hq d S2 (s1.trans s2) (Cl.cl s1 r2)
 ·rename_i hb;rw[if_neg hb]
  exact h' S1 Z L J y _ (hE.grow s1) e2 λ d S2 s2 r2=>hq d S2 (s1.trans s2) (Cl.cl s1 r2)
end
noncomputable def mE (S:SS) (Z:Addr->Prop):List T->List D->Prop
 | [],ds=>ds=[]
 | t::ts,ds=>∃ c cs,ds=c::cs/\Vw S Z t c/\mE S Z ts cs
def qB (f:Ev->Option (List T)) (t:yk):Prop:=∀ S Z L J ys Q,ER S Z L J->f J=some ys->(∀ ds S',Sx S S'->mE S' Z ys ds->Q ds S')->t L S Q
def rF (f:Ev->Option (List T)) (t:yk):Prop:=∀ S Z L J ys Q,ER S Z L J->f J=some ys->(∀ ds S',Sx S S'->zl (zJ S' Z) ys ds->Q ds S')->t L S Q
@[simp] noncomputable def zi:Ev->Option (List T):=λ _=>some []
@[simp] noncomputable def zb (f:Ev->Option T) (g:Ev->Option (List T)):Ev->Option (List T):=fun J=>(f J).bind λ x=>(g J).bind λ xs=>some (x::xs)
section
variable {f:Ev->Option T}{g:Ev->Option (List T)}{t:zu}{u:yk}
def Sy:qB zi kY:=λ S Z L J y Q hE e hq=>by cases e;exact hq [] S (.refl S) rfl
def Su:rF zi kY:=λ S Z L J y Q hE e hq=>by cases e;exact hq [] S (.refl S) .nil
def Sz (h:yH f t) (h':qB g u):qB (zb f g) (qq t u):=λ S Z L J y Q hE e hq=>by
 obtain⟨x,e1,e0⟩:=Ak.mp e
 obtain⟨xs,e2,e3⟩:=Ak.mp e0
 cases e3
 refine h S Z L J x _ hE e1 λ d S1 s1 r1=>?_
 refine h' S1 Z L J xs _ (hE.grow s1) e2 λ ds S2 s2 r2=>?_
 exact hq _ S2 (s1.trans s2) ⟨d,ds,rfl,Vw.grow r1 s2,r2⟩
def Sv (h:vg f t) (h':rF g u):rF (zb f g) (qq t u):=λ S Z L J y Q hE e hq=>by
 obtain⟨x,e1,e0⟩:=Ak.mp e
 obtain⟨xs,e2,e3⟩:=Ak.mp e0
 cases e3
 refine h S Z L J x _ hE e1 λ d S1 s1 r1=>?_
 refine h' S1 Z L J xs _ (hE.grow s1) e2 λ ds S2 s2 r2=>?_
 exact hq _ S2 (s1.trans s2) (.cons (Sn.sx (wM s2) x r1) r2)
@[simp] noncomputable def tupS (g:Ev->Option (List T)):Ev->Option T:=fun J=>(g J).bind λ xs=>if xs.length<=sizeLine then some (.tup xs) else none
@[simp] noncomputable def yV (g:Ev->Option (List T)):Ev->Option T:=fun J=>(g J).bind λ xs=>if xs.length<=sizeLine then some (.lst xs) else none
def S9 (h:rF g u):xO (tupS g) (Ya u):=λ S Z L J y Q hE e hq=>by
 obtain⟨xs,e1,e2⟩:=Ak.mp e
 split at e2
 ·rename_i hl
  cases e2
  refine h S Z L J xs _ hE e1 λ ds S1 s1 r1=>⟨by rw[r1.len];exact hl,hq _ S1 s1 (Cl.of (λ _=>nofun) (qP r1))⟩
 ·cases e2
def S_ (h:rF g u):xO (yV g) (Ye u):=λ S Z L J y Q hE e hq=>by
 obtain⟨xs,e1,e2⟩:=Ak.mp e
 split at e2
 ·rename_i hl
  cases e2
  refine h S Z L J xs _ hE e1 λ ds S1 s1 r1=>⟨by rw[r1.len];exact hl,λ p hp=>hq _ _ (s1.trans (.new hp _)) (Cl.cl s1 (sR (hE.grow s1).zd hp r1))⟩
 ·cases e2
end
@[simp] noncomputable def zv (F:List T->Option T) (g:Ev->Option (List T)):Ev->Option T:=fun J=>(g J).bind F
def vX (R:Rk) (F:List T->Option T) (f:xH):Prop:=∀ S Z ys z ds Q,(∀ a,Z a->S a≠none)->mE S Z ys ds->F ys=some z->(∀ c S',Sx S S'->R S S' Z z c->Q c S')->f ds S Q
def RE {R:Rk} [Cl R] {F:List T->Option T}{f:xH}{g:Ev->Option (List T)}{u:yk}(hf:vX R F f) (h:qB g u):xv R (zv F g) (xE f u):=λ S Z L J y Q hE e hq=>by
 obtain⟨xs,e1,e2⟩:=Ak.mp e
 refine h S Z L J xs _ hE e1 λ ds S1 s1 r1=>?_
 exact hf S1 Z xs y ds Q (hE.grow s1).zd r1 e2 λ c S' s r=>hq c S' (s1.trans s) (Cl.cl s1 r)
@[simp] noncomputable def wJ:List T->Option T
 | [.str z]=>if z.length<=sizeLine then some (.int z.length) else none
 | [y]=>(xX y).map λ ts=>.int ts.length
 | _=>none
def vu {S:SS}{Z:Addr->Prop}{y:T}{ds:List D}(h:mE S Z [y] ds):∃ d,ds=[d]/\Vw S Z y d:=by
 obtain⟨c,cs,rfl,h1,h2⟩:=h
 cases h2
 exact⟨c,rfl,h1⟩
def dW {S:SS}{Z:Addr->Prop}{y z:T}{ds:List D}(h:mE S Z [y,z] ds):∃ d e,ds=[d,e]/\Vw S Z y d/\Vw S Z z e:=by
 obtain⟨c,cs,rfl,h1,c2,cs2,rfl,h2,h3⟩:=h
 cases h3
 exact⟨c,c2,rfl,h1,h2⟩
def PL:vX zD wJ u0:=λ S Z ys z ds Q hz hv e hq=>by
 unfold wJ at e
 split at e
 ·obtain⟨d,rfl,h1⟩:=vu hv
  split at e
  ·rename_i hl
   cases e
   cases h1.str
   exact⟨hl,hq _ S (.refl S) (Cl.of (λ _=>nofun) wV)⟩
  ·cases e
 ·obtain⟨d,rfl,h1⟩:=vu hv
  obtain⟨ts,e1,rfl⟩:=AB.mp e
  obtain⟨es,h2,h3⟩:=h1.seq e1
  refine Om h2 ?_
  rw[h3.len]
  exact hq _ S (.refl S) (Cl.of (λ _=>nofun) wV)
 ·cases e
@[simp] noncomputable def listS:List T->Option T
 | [y]=>(xX y).map .lst
 | _=>none
def PK:vX zD listS uz:=λ S Z ys z ds Q hz hv e hq=>by
 unfold listS at e
 split at e
 ·obtain⟨d,rfl,h1⟩:=vu hv
  obtain⟨ts,e1,rfl⟩:=AB.mp e
  obtain⟨es,h2,h3⟩:=h1.seq e1
  exact Ol h2 λ p hp=>hq _ _ (.new hp _) (sR hz hp h3)
 ·cases e
@[simp] noncomputable def rP:List T->Option T
 | [y]=>(xX y).map .tup
 | _=>none
def Px:vX zD rP uw:=λ S Z ys z ds Q hz hv e hq=>by
 unfold rP at e
 split at e
 ·rename_i y
  obtain⟨d,rfl,h1⟩:=vu hv
  obtain⟨ts,e1,rfl⟩:=AB.mp e
  obtain⟨es,h2,h3⟩:=h1.seq e1
  have k:Q (.tup es) S:=hq _ S (.refl S) (Cl.of (λ _=>nofun) (qP h3))
  unfold zN at h2
  split at h2
  ·cases h2;exact k
  ·cases h2;exact k
  ·split at h2
   ·rename_i q
    cases h2;exact Oj q k
   ·cases h2
  ·cases h2
 ·cases e
@[simp] noncomputable def qm (g:Int->Int->Int):List T->Option T
 | [.int i,.int j]=>some (.int (g i j))
 | _=>none
def Zx {g:Int->Int->Int}:vX zD (qm g) (vJ λ i j=>.int (g i j)):=λ S Z ys z ds Q hz hv e hq=>by
 unfold qm at e
 split at e
 ·obtain⟨d,d',rfl,h1,h2⟩:=dW hv
  cases e;cases h1.int;cases h2.int
  exact hq _ S (.refl S) (Cl.of (λ _=>nofun) wV)
 ·cases e
@[simp] def nA:List T->Option T:=qm λ i j=>if j>i then j else i
@[simp] def kr:List T->Option T:=qm λ i j=>if j<i then j else i
noncomputable def sr:List T->Option (List Bool)
 | []=>some []
 | .bl b::ts=>(sr ts).map (b::·)
 | _::_=>none
theorem Yz:∀ {ts:List T}{bs:List Bool},sr ts=some bs->ts=bs.map T.bl
 | [],bs,h=>by cases h;rfl
 | .bl b::ts,bs,h=>by
  unfold sr at h
  obtain⟨cs,h1,rfl⟩:=AB.mp h
  rw[Au,<- Yz h1]
 | .zk::ts,bs,h=>by cases h
 | .int _::ts,bs,h=>by cases h
 | .str _::ts,bs,h=>by cases h
 | .tup _::ts,bs,h=>by cases h
 | .lst _::ts,bs,h=>by cases h
def Y0 (bs:List Bool):sr (bs.map T.bl)=some bs:=by
 induction bs with
 | nil=>rfl
 | cons b bs ih=>rw[Au];unfold sr;rw[ih];rfl
@[simp] noncomputable def mx (g:List Bool->Bool):List T->Option T
 | [.lst ts]=>(sr ts).map λ bs=>.bl (g bs)
 | _=>none
def vK (g:List Bool->Bool):xH:=λ ds S Q=>match ds with
 | [.tup _]=>False
 | [d]=>∃ bs:List Bool,zN d S=some (bs.map D.bl)/\Q (.bl (g bs)) S
 | _=>False
def PQ {g:List Bool->Bool}:vX zD (mx g) (vK g):=λ S Z ys z ds Q hz hv e hq=>by
 unfold mx at e
 split at e
 ·obtain⟨d,rfl,h1⟩:=vu hv
  obtain⟨bs,e1,rfl⟩:=AB.mp e
  cases Yz e1
  obtain⟨es,h2,h3⟩:=h1.seq rfl
  cases h3.Y1
  have key:∃ bs:List Bool,zN d S=some (bs.map D.bl)/\Q (.bl (g bs)) S:=⟨bs,h2,hq _ S (.refl S) (Cl.of (λ _=>nofun) wG)⟩
  obtain⟨_,q | ⟨a,q,_⟩,_⟩:=h1.lst
  ·subst q;exact key
  ·subst q;exact key
 ·cases e
structure FR (S0:SS) (Z0:Addr->Prop) (S:SS) (Z:Addr->Prop) (L:yc) (J:Ev):Prop where
 er:ER S Z L J
 len:L.length=J.length
 sx:Sx S0 S
 z0:∀ a,Z0 a->S0 a≠none
 zz:∀ a,Z0 a->Z a
 zn:∀ a,Z a->Z0 a\/S0 a=none
 fr:∀ (i:Nat) ts p,J[i]?=some (some (.own ts))->L[i]?=some (some (.ref p))->S0 p=none
 dj:∀ (i j:Nat) ts us p,i≠j->J[i]?=some (some (.own ts))->J[j]?=some (some (.own us))->L[i]?=some (some (.ref p))->L[j]?=some (some (.ref p))->False
def yz {α:Type}{l:List α}{i j:Nat}{a b:α}(h:(l.set i a)[j]?=some b):(i=j/\i<l.length/\b=a)\/(i≠j/\l[j]?=some b):=by
 rw[CM] at h
 by_cases e:i=j
 ·subst e
  rw[if_pos rfl] at h
  by_cases hl:i<l.length
  ·rw[if_pos hl] at h;cases h;exact .inl ⟨rfl,hl,rfl⟩
  ·rw[if_neg hl] at h;cases h
 ·rw[if_neg e] at h;exact .inr ⟨e,h⟩
def xK {α:Type}{l:List α}{i j:Nat}{a:α}(h:i≠j):(l.set i a)[j]?=l[j]?:=by rw[CM,if_neg h]
def pJ {α:Type}{l:List α}{i:Nat}{a:α}(h:i<l.length):(l.set i a)[i]?=some a:=by rw[CM,if_pos rfl,if_pos h]
section
variable {S0 S S':SS}{Z0 Z:Addr->Prop}{L:yc}{J:Ev}{y:T}{d:D}
theorem FR.grow (h:FR S0 Z0 S Z L J) (s:Sx S S'):FR S0 Z0 S' Z L J:=⟨h.er.grow s,h.len,h.sx.trans s,h.z0,h.zz,h.zn,h.fr,h.dj⟩
def FR.qR (h:FR S0 Z0 S Z L J) (i:Nat) (r:Sn (zJ S Z) y d):FR S0 Z0 S Z (L.set i (some d)) (J.set i (some (.im y))):=by
 refine⟨⟨h.er.zd,λ j t e=>?_,λ j ts e=>?_⟩,by simp[h.len],h.sx,h.z0,h.zz,h.zn,λ j ts p e e'=>?_,λ j k ts us p n e1 e2 e3 e4=>?_⟩
 ·rcases yz e with ⟨rfl,hl,e⟩ | ⟨n,e⟩
  ·cases e;exact⟨d,pJ (by rw[h.len];exact hl),r⟩
  ·rw[xK n];exact h.er.im j t e
 ·rcases yz e with ⟨rfl,hl,e⟩ | ⟨n,e⟩
  ·cases e
  ·rw[xK n];exact h.er.ow j ts e
 ·rcases yz e with ⟨rfl,hl,e⟩ | ⟨n,e⟩
  ·cases e
  ·rw[xK n] at e';exact h.fr j ts p e e'
 ·rcases yz e1 with ⟨rfl,hl,e⟩ | ⟨n1,e1⟩
  ·cases e
  rcases yz e2 with ⟨rfl,hl,e⟩ | ⟨n2,e2⟩
  ·cases e
  rw[xK n1] at e3;rw[xK n2] at e4
  exact h.dj j k ts us p n e1 e2 e3 e4
def FR.cM {ts:C}{ds:O}{p:Addr}(h:FR S0 Z0 S Z L J) (s:Sx S S') (i:Nat) (hp:S p=none) (hd:S' p=some ds) (r:tG (zJ S' λ a=>Z a\/a=p) ts ds):
  FR S0 Z0 S' (λ a=>Z a\/a=p) (L.set i (some (.ref p))) (J.set i (some (.own ts))):=by
 have np:∀ (j:Nat) us q,J[j]?=some (some (.own us))->L[j]?=some (some (.ref q))->q≠p:=λ j us q e e' z=>by
  subst z
  obtain⟨p',Hi,h1,h2,_⟩:=h.er.ow j us e
  rw[e'] at h1;cases h1;rw[hp] at h2;cases h2
 refine⟨⟨λ a z=>?_,λ j t e=>?_,λ j us e=>?_⟩,by simp[h.len],h.sx.trans s,h.z0,λ a z=>.inl (h.zz a z),λ a z=>z.elim (h.zn a) (λ q=>.inr (by subst q;exact h.sx.none hp)),λ j us q e e'=>?_,λ j k us vs q n e1 e2 e3 e4=>?_⟩
 ·rcases z with z | rfl
  ·exact λ q=>h.er.zd a z (s.none q)
  ·rw[hd];nofun
 ·rcases yz e with ⟨rfl,hl,e⟩ | ⟨n,e⟩
  ·cases e
  ·rw[xK n]
   obtain⟨d,h1,h2⟩:=h.er.im j t e
   exact⟨d,h1,Sn.sx (pH s hp) t h2⟩
 ·rcases yz e with ⟨rfl,hl,e⟩ | ⟨n,e⟩
  ·cases e;exact⟨p,ds,pJ (by rw[h.len];exact hl),hd,r,.inr rfl⟩
  ·rw[xK n]
   obtain⟨q,es,h1,h2,h3,h4⟩:=h.er.ow j us e
   exact⟨q,es,h1,s _ _ h2,tG.sx (pH s hp) h3,.inl h4⟩
 ·rcases yz e with ⟨rfl,hl,e⟩ | ⟨n,e⟩
  ·rw[pJ (by rw[h.len];exact hl)] at e';cases e';exact h.sx.none hp
  ·rw[xK n] at e';exact h.fr j us q e e'
 ·rcases yz e1 with ⟨rfl,hl,e⟩ | ⟨n1,e1⟩
  ·rcases yz e2 with ⟨rfl,_,_⟩ | ⟨n2,e2⟩
   ·exact n rfl
   ·rw[pJ (by rw[h.len];exact hl)] at e3;cases e3
    rw[xK n2] at e4
    exact np k vs p e2 e4 rfl
  ·rcases yz e2 with ⟨rfl,hl,_⟩ | ⟨n2,e2⟩
   ·rw[pJ (by rw[h.len];exact hl)] at e4;cases e4
    rw[xK n1] at e3
    exact np j us p e1 e3 rfl
   ·rw[xK n1] at e3;rw[xK n2] at e4
    exact h.dj j k us vs q n e1 e2 e3 e4
def FR.forget (h:FR S0 Z0 S Z L J) (i:Nat):FR S0 Z0 S Z L (J.set i none):=by
 refine⟨⟨h.er.zd,λ j t e=>?_,λ j ts e=>?_⟩,by simp[h.len],h.sx,h.z0,h.zz,h.zn,λ j ts p e e'=>?_,λ j k ts us p n e1 e2 e3 e4=>?_⟩
 ·rcases yz e with ⟨rfl,hl,e⟩ | ⟨n,e⟩
  ·cases e
  ·exact h.er.im j t e
 ·rcases yz e with ⟨rfl,hl,e⟩ | ⟨n,e⟩
  ·cases e
  ·exact h.er.ow j ts e
 ·rcases yz e with ⟨rfl,hl,e⟩ | ⟨n,e⟩
  ·cases e
  ·exact h.fr j ts p e e'
 ·rcases yz e1 with ⟨rfl,hl,e⟩ | ⟨n1,e1⟩
  ·cases e
  rcases yz e2 with ⟨rfl,hl,e⟩ | ⟨n2,e2⟩
  ·cases e
  exact h.dj j k ts us p n e1 e2 e3 e4
@[simp] noncomputable def yN (is:List Nat) (J:Ev):Ev:=is.foldl (fun J i=>J.set i none) J
theorem FR.yN:∀ (is:List Nat) {J:Ev},FR S0 Z0 S Z L J->FR S0 Z0 S Z L (yN is J)
 | [],_,h=>h
 | i::is,_,h=>FR.yN is (h.forget i)
def FR.freeze {ts:List T}{p:Addr}(h:FR S0 Z0 S Z L J) (i:Nat) (e:J[i]?=some (some (.own (.lst ts)))) (ed:L[i]?=some (some (.ref p))):
  FR S0 Z0 S (λ a=>Z a/\a≠p) L (J.set i (some (.im (.lst ts))))/\Sn (zJ S λ a=>Z a/\a≠p) (.lst ts) (.ref p):=by
 obtain⟨p',o,h1,h2,h3,h4⟩:=h.er.ow i _ e
 rw[ed] at h1;cases h1
 obtain⟨ds,rfl⟩:∃ ds,o=.lst ds:=by
  cases o with
  | lst ds=>exact⟨ds,rfl⟩
  | zH _=>exact h3.elim
 replace h3:zl (zJ S Z) ts ds:=h3
 have hS:Sn (zJ S λ a=>Z a/\a≠p) (.lst ts) (.ref p):=by
  simp only[Sn]
  exact⟨ds,.inr ⟨p,rfl,by rw[uu (λ z=>z.2 rfl)];exact h2⟩,zl.sx (uv λ a z=>z.1) ts h3⟩
 refine⟨?_,hS⟩
 refine⟨⟨λ a z=>h.er.zd a z.1,λ j t e'=>?_,λ j us e'=>?_⟩,by simp[h.len],h.sx,h.z0,λ a z=>⟨h.zz a z,λ q=>?_⟩,λ a z=>h.zn a z.1,λ j us q e' Jj=>?_,λ j k us vs q n e1 e2 e3 e4=>?_⟩
 ·rcases yz e' with ⟨rfl,hl,e'⟩ | ⟨n,e'⟩
  ·cases e';exact⟨_,ed,hS⟩
  ·obtain⟨d,g1,g2⟩:=h.er.im j t e'
   exact⟨d,g1,Sn.sx (uv λ a z=>z.1) t g2⟩
 ·rcases yz e' with ⟨rfl,hl,e'⟩ | ⟨n,e'⟩
  ·cases e'
  ·obtain⟨q,es,g1,g2,g3,g4⟩:=h.er.ow j us e'
   exact⟨q,es,g1,g2,tG.sx (uv λ a z=>z.1) g3,g4,λ z=>by subst z;exact h.dj i j _ us q n e e' ed g1⟩
 ·subst q;exact h.z0 a z (h.fr i _ a e ed)
 ·rcases yz e' with ⟨rfl,hl,e'⟩ | ⟨n,e'⟩
  ·cases e'
  ·exact h.fr j us q e' Jj
 ·rcases yz e1 with ⟨rfl,hl,e⟩ | ⟨n1,e1⟩
  ·cases e
  rcases yz e2 with ⟨rfl,hl,e⟩ | ⟨n2,e2⟩
  ·cases e
  exact h.dj j k us vs q n e1 e2 e3 e4
def FR.mut {ts us:C}{es:O}{p:Addr}(h:FR S0 Z0 S Z L J) (i:Nat) (e:J[i]?=some (some (.own ts))) (ed:L[i]?=some (some (.ref p))) (r:tG (zJ S Z) us es):
  FR S0 Z0 (ups S p es) Z L (J.set i (some (.own us))):=by
 obtain⟨p',ds,h1,h2,h3,h4⟩:=h.er.ow i ts e
 rw[ed] at h1;cases h1
 have hh:zJ (ups S p es) Z=zJ S Z:=Pm h4
 have hpn:=h.fr i ts p e ed
 refine⟨⟨λ a z=>?_,λ j t e'=>?_,λ j vs e'=>?_⟩,by simp[h.len],λ b o q=>?_,h.z0,h.zz,h.zn,λ j vs q e' Jj=>?_,λ j k vs ws q n e1 e2 e3 e4=>?_⟩
 ·by_cases hp:a=p
  ·subst hp;rw[sN];nofun
  ·rw[tL hp];exact h.er.zd a z
 ·rw[hh]
  rcases yz e' with ⟨rfl,hl,e'⟩ | ⟨n,e'⟩
  ·cases e'
  ·exact h.er.im j t e'
 ·rw[hh]
  rcases yz e' with ⟨rfl,hl,e'⟩ | ⟨n,e'⟩
  ·cases e';exact⟨p,es,ed,sN,r,h4⟩
  ·obtain⟨q,FT,g1,g2,g3,g4⟩:=h.er.ow j vs e'
   refine⟨q,FT,g1,?_,g3,g4⟩
   rw[tL (λ z=>by subst z;exact h.dj i j ts vs q n e e' ed g1)];exact g2
 ·rw[tL (λ z=>by subst z;rw[hpn] at q;cases q)];exact h.sx b o q
 ·rcases yz e' with ⟨rfl,hl,_⟩ | ⟨n,e'⟩
  ·rw[ed] at Jj;cases Jj;exact hpn
  ·exact h.fr j vs q e' Jj
 ·rcases yz e1 with ⟨rfl,hl,_⟩ | ⟨n1,e1⟩
  ·rcases yz e2 with ⟨rfl,hl,_⟩ | ⟨n2,e2⟩
   ·exact n rfl
   ·exact h.dj _ k ts ws q n e e2 e3 e4
  ·rcases yz e2 with ⟨rfl,hl,_⟩ | ⟨n2,e2⟩
   ·exact h.dj j _ vs ts q n e1 e e3 e4
   ·exact h.dj j k vs ws q n e1 e2 e3 e4
noncomputable def iM (S0 S:SS) (Z:Addr->Prop):SS:=open Classical in λ a=>if S0 a=none/\Z a then none else S a
def lV {a:Addr}(h:¬ (S0 a=none/\Z a)):iM S0 S Z a=S a:=if_neg h
def iL {a:Addr}(h:S0 a=none/\Z a):iM S0 S Z a=none:=if_pos h
def FR.rebase (h:FR S0 Z0 S Z L J):∃ S1,Sx S0 S1/\FR S1 Z0 S Z L J/\Sx (zJ S Z) S1:=by
 refine⟨iM S0 S Z,λ b o q=>?_,⟨h.er,h.len,λ b o q=>?_,λ a z=>?_,h.zz,λ a z=>?_,λ i ts p e ed=>?_,h.dj⟩,λ b o q=>?_⟩
 ·rw[lV (λ z=>by rw[z.1] at q;cases q)];exact h.sx _ _ q
 ·by_cases w:S0 b=none/\Z b
  ·rw[iL w] at q;cases q
  ·rw[lV w] at q;exact q
 ·rw[lV (λ q=>h.z0 a z q.1)]
  exact h.er.zd a (h.zz a z)
 ·rcases h.zn a z with w | w
  ·exact .inl w
  ·exact .inr (iL ⟨w,z⟩)
 ·obtain⟨p',ds,h1,h2,h3,h4⟩:=h.er.ow i ts e
  rw[ed] at h1;cases h1
  exact iL ⟨h.fr i ts p e ed,h4⟩
 ·obtain⟨q1,q2⟩:=tw q
  rw[lV (λ z=>q1 z.2)];exact q2
def FR.back {S1:SS}(h:FR S1 Z0 S Z L J) (s:Sx S0 S1) (z0:∀ a,Z0 a->S0 a≠none):FR S0 Z0 S Z L J:=⟨h.er,h.len,s.trans h.sx,z0,h.zz,λ a z=>(h.zn a z).imp id s.none,λ i ts p e ed=>s.none (h.fr i ts p e ed),h.dj⟩
def FR.WY {S1:SS}{Z1:Addr->Prop}(h:FR S0 Z0 S Z L J) (b:Sx (zJ S1 Z1) S0) (zz:∀ a,Z0 a->Z1 a):Sx (zJ S1 Z1) (zJ S Z):=λ a o q=>by
 have q0:=b _ _ q
 obtain⟨q1,q2⟩:=tw q
 rw[uu]
 ·exact h.sx _ _ q0
 ·intro z
  rcases h.zn a z with w | w
  ·exact q1 (zz a w)
  ·rw[w] at q0;cases q0
end
inductive Out where
 | nx (J:Ev) | rt (t:T) | bk (J:Ev) | ct (J:Ev)
abbrev Sm:=Ev->Option Out
def NI (R:Rk) (S0:SS) (Z0:Addr->Prop) (o:Out) (E:tJ):Prop:=match o with
 | .nx J=>∀ S Z L,FR S0 Z0 S Z L J->E.nx L S
 | .bk J=>∀ S Z L,FR S0 Z0 S Z L J->E.bk L S
 | .ct J=>∀ S Z L,FR S0 Z0 S Z L J->E.ct L S
 | .rt y=>∀ d S,Sx S0 S->R S0 S Z0 y d->E.rt d S
def ym (R:Rk) (g:Sm) (t:yh):Prop:=∀ S0 Z0 S Z L J o E,FR S0 Z0 S Z L J->g J=some o->NI R S0 Z0 o E->t E L S
class Lo (R:Rk):Prop extends Cl R where
 lo:∀ {S0 S S':SS}{Z0 Z:Addr->Prop}{y:T}{d:D},Sx S0 S->(∀ a,Z0 a->Z a)->R S S' Z y d->R S0 S' Z0 y d
instance:Lo xG:=⟨λ _ z h=>Sn.sx (uv z) _ h⟩
instance:Lo zD:=⟨λ s z h=>⟨Sn.sx (uv z) _ h.1,λ ts e=>by
 obtain⟨p,ds,h1,h2,h3,h4⟩:=h.2 ts e
 exact⟨p,ds,h1,s.none h2,h3,zl.sx (uv λ a q=>q.imp (z a) id) ts h4⟩⟩⟩
@[simp] noncomputable def zr (g h:Sm):Sm:=fun J=>(g J).bind λ o=>match o with
 | .nx J'=>h J'
 | o=>some o
@[simp] noncomputable def yy:Sm:=fun J=>some (.nx J)
@[simp] noncomputable def zM (i:Nat) (f:Ev->Option T):Sm:=fun J=>(f J).map λ y=>.nx (J.set i (some (.im y)))
@[simp] noncomputable def tD (i:Nat) (f:Ev->Option T):Sm:=fun J=>(f J).bind λ y=>match y with
 | .lst ts=>some (.nx (J.set i (some (.own (.lst ts)))))
 | y=>some (.nx (J.set i (some (.im y))))
@[simp] noncomputable def fO (f:Ev->Option T):Sm:=fun J=>(f J).map λ _=>.nx J
@[simp] noncomputable def retS (f:Ev->Option T):Sm:=fun J=>(f J).map .rt
@[simp] noncomputable def rZ (i:Nat):Sm:=fun J=>match J[i]? with
 | some (some (.own (.lst ts)))=>some (.rt (.lst ts))
 | _=>none
@[simp] noncomputable def y6 (c:Ev->Option Bool) (g h:Sm):Sm:=fun J=>(c J).bind λ b=>if b=true then g J else h J
@[simp] noncomputable def fx (i:Nat) (J:Ev):Ev:=match J[i]? with
 | some (some (.own (.lst ts)))=>J.set i (some (.im (.lst ts)))
 | _=>J
@[simp] def fw (i:Nat) (g:Sm):Sm:=fun J=>g (fx i J)
section
variable {R:Rk}{g h:Sm}{t u:yh}{f:Ev->Option T}{te:zu}
def T7 (hg:ym R g t) (hh:ym R h u):ym R (zr g h) (qp t u):=λ S0 Z0 S Z L J o E F e P=>by
 obtain⟨o1,e1,e2⟩:=Ak.mp e
 refine hg S0 Z0 S Z L J o1 { E with nx:=u E } F e1 ?_
 cases o1 with
 | nx J1=>exact λ S1 Z1 L1 F1=>hh S0 Z0 S1 Z1 L1 J1 o E F1 e2 P
 | rt y=>cases e2;exact P
 | bk y=>cases e2;exact P
 | ct y=>cases e2;exact P
def T6:ym R yy fU:=λ S0 Z0 S Z L J o E F e P=>by cases e;exact P S Z L F
def TV (i:Nat) (hf:vg f te):ym R (zM i f) (t8 te (hName i)):=λ S0 Z0 S Z L J o E F e P=>by
 obtain⟨y,e1,rfl⟩:=AB.mp e
 exact hf S Z L J y _ F.er e1 λ d S1 s1 r1=>P S1 Z _ ((F.grow s1).qR i r1)
def TU (i:Nat) (hf:xO f te):ym R (tD i f) (t8 te (hName i)):=λ S0 Z0 S Z L J o E F e P=>by
 obtain⟨y,e1,e2⟩:=Ak.mp e
 refine hf S Z L J y _ F.er e1 λ d S1 s1 r1=>?_
 cases y with
 | lst ts=>
  cases e2
  obtain⟨p,ds,rfl,h1,h2,h3⟩:=r1.2 ts rfl
  exact P S1 _ _ (F.cM (ts:=.lst ts) (ds:=.lst ds) s1 i h1 h2 h3)
 | _=>cases e2;exact P S1 Z _ ((F.grow s1).qR i r1.1)
def TN (hf:yH f te):ym R (fO f) (kZ te):=λ S0 Z0 S Z L J o E F e P=>by
 obtain⟨y,e1,rfl⟩:=AB.mp e
 exact hf S Z L J y _ F.er e1 λ d S1 s1 r1=>P S1 Z _ (F.grow s1)
def TC [Lo R] (hf:xv R f te):ym R (retS f) (fT te):=λ S0 Z0 S Z L J o E F e P=>by
 obtain⟨y,e1,rfl⟩:=AB.mp e
 exact hf S Z L J y _ F.er e1 λ d S1 s1 r1=>P d S1 (F.sx.trans s1) (Lo.lo F.sx F.zz r1)
def gh (i:Nat):ym zD (rZ i) (fT (yt i)):=λ S0 Z0 S Z L J o E F e P=>by
 unfold rZ at e
 split at e
 ·rename_i ts h
  cases e
  obtain⟨p,ob,h1,h2,h3,h4⟩:=F.er.ow i _ h
  obtain⟨ds,rfl⟩:∃ ds,ob=.lst ds:=by
   cases ob with
   | lst ds=>exact⟨ds,rfl⟩
   | zH _=>exact h3.elim
  replace h3:zl (zJ S Z) ts ds:=h3
  have hn:=F.fr i _ p h h1
  have nz:¬ Z0 p:=λ z=>F.z0 p z hn
  show yt i L S E.rt
  unfold yt;rw[h1]
  refine P _ S F.sx ⟨?_,λ us e=>?_⟩
  ·simp only[Sn]
   exact⟨ds,.inr ⟨p,rfl,by rw[uu nz];exact h2⟩,zl.sx (uv F.zz) ts h3⟩
  ·cases e
   exact⟨p,ds,rfl,hn,h2,zl.sx (uv λ a q=>q.elim (F.zz a) λ q=>q▸h4) ts h3⟩
 ·cases e
def ym.fv (h:ym zD g t):ym xG g t:=λ S0 Z0 S Z L J o E F e P=>by
 refine h S0 Z0 S Z L J o E F e ?_
 cases o with
 | rt y=>exact λ d S s r=>P d S s r.1
 | _=>exact P
def TH {c:Ev->Option Bool}{tc:yC}(hc:vf c tc) (hg:ym R g t) (hh:ym R h u):ym R (y6 c g h) (fV tc t u):=λ S0 Z0 S Z L J o E F e P=>by
 obtain⟨b,e1,e2⟩:=Ak.mp e
 refine hc S Z L J b _ F.er e1 λ S1 s1=>?_
 split at e2
 ·rename_i hb;rw[if_pos hb];exact hg S0 Z0 S1 Z L J o E (F.grow s1) e2 P
 ·rename_i hb;rw[if_neg hb];exact hh S0 Z0 S1 Z L J o E (F.grow s1) e2 P
def FR.fz {S0 S:SS}{Z0 Z:Addr->Prop}{L:yc}{J:Ev}(F:FR S0 Z0 S Z L J) (i:Nat):∃ Z',FR S0 Z0 S Z' L (fx i J):=by
 unfold fx
 split
 ·rename_i ts h
  obtain⟨p,ds,h1,_⟩:=F.er.ow i _ h
  exact⟨_,(F.freeze i h h1).1⟩
 ·exact⟨Z,F⟩
def TJ (i:Nat) (hg:ym R g t):ym R (fw i g) t:=λ S0 Z0 S Z L J o E F e P=>by
 obtain⟨Z',F'⟩:=F.fz i
 exact hg S0 Z0 S Z' L _ o E F' e P
def jj (g:T->Ev->Option Ev) (t:xF):Prop:=∀ S0 Z0 S Z L J J' y d Q,FR S0 Z0 S Z L J->Sn (zJ S Z) y d->g y J=some J'->(∀ L',FR S0 Z0 S Z L' J'->Q L' S)->t d L S Q
def ji (g:List T->Ev->Option Ev) (t:wQ):Prop:=∀ S0 Z0 S Z L J J' ys ds Q,FR S0 Z0 S Z L J->zl (zJ S Z) ys ds->g ys J=some J'->(∀ L',FR S0 Z0 S Z L' J'->Q L' S)->t ds L S Q
@[simp] noncomputable def zG (i:Nat):T->Ev->Option Ev:=λ y J=>some (J.set i (some (.im y)))
@[simp] noncomputable def uL:List T->Ev->Option Ev
 | [],J=>some J
 | _::_,_=>none
@[simp] noncomputable def xA (g:T->Ev->Option Ev) (h:List T->Ev->Option Ev):List T->Ev->Option Ev
 | y::ys,J=>(g y J).bind fun J'=>h ys J'
 | [],_=>none
@[simp] noncomputable def vw (n:Nat) (g:List T->Ev->Option Ev):T->Ev->Option Ev
 | .tup ys,J=>if ys.length=n then g ys J else none
 | _,_=>none
def Sj (i:Nat):jj (zG i) (hName i):=λ S0 Z0 S Z L J J' y d Q F r e hq=>by cases e;exact hq _ (F.qR i r)
def Sf:ji uL gU:=λ S0 Z0 S Z L J J' ys ds Q F r e hq=>by
 cases ys with
 | nil=>simp only[zl] at r;subst r;cases e;exact⟨rfl,hq _ F⟩
 | cons _ _=>cases e
def Sg {g:T->Ev->Option Ev}{h:List T->Ev->Option Ev}{t:xF}{u:wQ}(hg:jj g t) (hh:ji h u):ji (xA g h) (gW t u):=λ S0 Z0 S Z L J J' ys ds Q F r e hq=>by
 cases ys with
 | nil=>cases e
 | cons y ys=>
  simp only[zl] at r
  obtain⟨c,cs,rfl,r1,r2⟩:=r
  obtain⟨J1,e1,e2⟩:=Ak.mp e
  exact hg S0 Z0 S Z L J J1 y c _ F r1 e1 fun L1 F1=>hh S0 Z0 S Z L1 J1 J' ys cs Q F1 r2 e2 hq
def Si {n:Nat}{g:List T->Ev->Option Ev}{t:wQ}(hg:ji g t):jj (vw n g) (kE n t):=λ S0 Z0 S Z L J J' y d Q F r e hq=>by
 cases y with
 | tup ys=>
  simp only[Sn] at r
  obtain⟨ds,rfl,r⟩:=r
  simp only[vw] at e
  split at e
  ·rename_i hl
   exact⟨by rw[r.len];exact hl,hg S0 Z0 S Z L J J' ys ds Q F r e hq⟩
  ·cases e
 | _=>cases e
def rE (free:Bool) (f:Ev->Option (List T)) (ti:wO):Prop:=∀ S Z L J ts Q,ER S Z L J->f J=some ts->(∀ I S',Sx S S'->zl (zJ S' Z) ts I.items->(∀ HJ,Sx (if free=true then zJ S' Z else S') HJ->I.keep HJ)->Q I S')->ti L S Q
@[simp] def xQ (f:Ev->Option T):Ev->Option (List T):=fun J=>(f J).bind xX
def TZ {f:Ev->Option T}{te:zu}(hf:yH f te):rE false (xQ f) (gK te):=λ S Z L J ts Q hE e hq=>by
 obtain⟨y,e1,e2⟩:=Ak.mp e
 refine hf S Z L J y _ hE e1 λ d S1 s1 r1=>?_
 cases y with
 | tup us=>
  cases e2
  obtain⟨ds,rfl,h2⟩:=Vw.tup r1
  exact hq _ S1 s1 h2 λ _ _=>trivial
 | lst us=>
  cases e2
  obtain⟨ds,rfl | ⟨a,rfl,h1⟩,h2⟩:=Vw.lst r1
  ·exact hq _ S1 s1 h2 λ _ _=>trivial
  ·dsimp only;rw[h1]
   exact hq ⟨ds,_⟩ S1 s1 h2 λ HJ s=>s _ _ h1
 | _=>cases e2
def T_ {f:Ev->Option T}{te:zu}(hf:vg f te):rE true (xQ f) (gK te):=λ S Z L J ts Q hE e hq=>by
 obtain⟨y,e1,e2⟩:=Ak.mp e
 refine hf S Z L J y _ hE e1 λ d S1 s1 r1=>?_
 cases y with
 | tup us=>
  cases e2
  obtain⟨ds,rfl,h2⟩:=Vw.tup (.inl r1)
  exact hq _ S1 s1 h2 λ _ _=>trivial
 | lst us=>
  cases e2
  have r2:=r1
  unfold xG at r2
  simp only[Sn] at r2
  obtain⟨ds,⟨rfl,_⟩ | ⟨a,rfl,h1⟩,h2⟩:=r2
  ·exact hq _ S1 s1 h2 λ _ _=>trivial
  ·dsimp only;rw[(tw h1).2]
   exact hq ⟨ds,_⟩ S1 s1 h2 λ HJ s=>s _ _ h1
 | _=>cases e2
noncomputable def rangeT (lo:Int) (n:Nat):List T:=(List.range n).map λ(k:Nat)=>T.int (lo+(k:Int))
def cF {S:SS}(lo:Int) (n:Nat):zl S (rangeT lo n) (vy lo n):=by
 unfold rangeT vy
 induction List.range n with
 | nil=>exact .nil
 | cons k l ih=>exact .cons wV ih
noncomputable def inR (j:Int):Bool:=decide (-100000000<=j)&&decide (j<=100000000)
def Zs {j:Int}:inR j=true↔-100000000<=j/\j<=100000000:=by simp[inR]
def Ph {j:Int}(h:inR j=true):-(2 ^ 62)<=j/\j<2 ^ 62:=by have:=Zs.mp h;lia
noncomputable def tR:List T->Option (List T)
 | [.int j]=>if inR j=true then some (rangeT 0 j.toNat) else none
 | _=>none
@[simp] noncomputable def wK (F:List T->Option (List T)) (g:Ev->Option (List T)):Ev->Option (List T):=fun J=>(g J).bind F
def Sb {b:Bool}{g:Ev->Option (List T)}{tA:yk}(h:qB g tA):rE b (wK tR g) (gL tA):=λ S Z L J ts Q hE e hq=>by
 obtain⟨ys,e1,e2⟩:=Ak.mp e
 refine h S Z L J ys _ hE e1 λ ds S1 s1 r1=>?_
 unfold tR at e2
 split at e2
 ·split at e2
  ·rename_i hc
   cases e2
   obtain⟨d,rfl,h1⟩:=vu r1
   cases h1.int
   exact⟨Ph hc,hq _ S1 s1 (cF _ _) λ _ _=>trivial⟩
  ·cases e2
 ·cases e2
noncomputable def w6 (is:List Nat) (g:T->Ev->Option Ev) (b:Sm):List T->Ev->Option Out
 | [],J=>some (.nx (yN is J))
 | y::ys,J=>(g y (yN is J)).bind fun J1=>(b J1).bind λ o=>match o with
  | .nx J2=>w6 is g b ys J2
  | .ct J2=>w6 is g b ys J2
  | .bk J2=>some (.nx (yN is J2))
  | .rt t=>some (.rt t)
@[simp] def vm (is:List Nat) (f:Ev->Option (List T)) (g:T->Ev->Option Ev) (b:Sm):Sm:=fun J=>(f J).bind λ ts=>w6 is g b ts J
def TK {is:List Nat}{fi:Ev->Option (List T)}{ti:wO}{g:T->Ev->Option Ev}{tg:xF}{b:Sm}{tb:yh} [Lo R] (hi:rE true fi ti) (hg:jj g tg) (hb:ym R b tb):ym R (vm is fi g b) (nZ ti tg tb):=λ S0 Z0 S Z L J o E F e P=>by
 obtain⟨ts,e1,e2⟩:=Ak.mp e
 refine hi S Z L J ts _ F.er e1 λ I S1 s1 r1 hk=>?_
 rw[if_pos rfl] at hk
 obtain⟨SB,b1,FB,b2⟩:=(F.grow s1).rebase
 have lo:∀ S' d y,R SB S' Z0 y d->R S0 S' Z0 y d:=λ S' d y r=>Lo.lo b1 (λ _ z=>z) r
 have zz:=F.zz
 refine⟨λ i L' S'=>∃ Z' J',FR SB Z0 S' Z' L' J'/\w6 is g b (ts.drop i) J'=some o,⟨Z,J,FB,e2⟩,λ i L' S' ⟨Z',J',F',_⟩=>hk S' (b2.trans F'.sx),λ i d L' S' hd ⟨Z',J',F',e'⟩=>?_,fun L' S' ⟨Z',J',F',e'⟩=>?_⟩
 ·obtain⟨y,hy,r2⟩:=r1.fu hd
  have Ao:=(AK.mp hy).1
  have CH:ts.drop i=y::ts.drop (i+1):=by
   rw[List.drop_eq_getElem_cons Ao,(AK.mp hy).2]
  rw[CH] at e'
  unfold w6 at e'
  obtain⟨J1,g1,e'⟩:=Ak.mp e'
  obtain⟨o1,g2,e'⟩:=Ak.mp e'
  refine hg SB Z0 S' Z' L' _ J1 y d _ (F'.yN is) (Sn.sx (F'.WY b2 zz) y r2) g1 fun L2 F2=>?_
  refine hb SB Z0 S' Z' L2 J1 o1 _ F2 g2 ?_
  cases o1 with
  | nx J2=>exact λ S3 Z3 L3 F3=>⟨Z3,J2,F3,e'⟩
  | ct J2=>exact λ S3 Z3 L3 F3=>⟨Z3,J2,F3,e'⟩
  | bk J2=>cases e';exact λ S3 Z3 L3 F3=>P S3 Z3 L3 ((F3.yN is).back b1 F.z0)
  | rt y=>cases e';exact λ d S3 s3 r3=>P d S3 (b1.trans s3) (lo _ _ _ r3)
 ·rw[show I.items.length=ts.length from r1.len,List.drop_length] at e'
  unfold w6 at e'
  cases e'
  exact P S' Z' L' ((F'.yN is).back b1 F.z0)
end
@[simp] noncomputable def uQ (i:Nat) (f:Ev->Option T):Sm:=fun J=>match J[i]? with
 | some (some (.own (.lst ts)))=>(f J).bind λ y=>if ts.length<sizeLine then some (.nx (J.set i (some (.own (.lst (ts++[y])))))) else none
 | _=>none
section
variable {R:Rk}{f:Ev->Option T}{te:zu}
def TX (i:Nat) (hf:vg f te):ym R (uQ i f) (kZ (r9 (yt i) te)):=λ S0 Z0 S Z L J o E F e P=>by
 unfold uQ at e
 split at e
 ·rename_i ts h
  obtain⟨y,e1,e2⟩:=Ak.mp e
  split at e2
  ·rename_i hl
   cases e2
   obtain⟨p,ob,h1,h2,h3,h4⟩:=F.er.ow i _ h
   obtain⟨ds,rfl⟩:∃ ds,ob=.lst ds:=by
    cases ob with
    | lst ds=>exact⟨ds,rfl⟩
    | zH _=>exact h3.elim
   replace h3:zl (zJ S Z) ts ds:=h3
   show r9 (yt i) te L S _
   unfold r9 yt
   rw[h1]
   refine⟨⟨ds,h2⟩,hf S Z L J y _ F.er e1 λ d S1 s1 r1=>?_⟩
   dsimp only
   rw[s1 _ _ h2]
   have F1:=F.grow s1
   refine⟨by rw[h3.len];exact hl,P _ Z L (F1.mut (us:=.lst (ts++[y])) (es:=.lst (ds++[d])) i h h1 ((zl.sx (wM s1) ts h3).append (.cons r1 .nil)))⟩
  ·cases e2
 ·cases e
end
def sg (pick:List (Option Nat)) (ti:wO) (g:xF) (tc:yC) (te:zu):zu:=fun L S Q=>ti L S λ I S1=>I.items.length<=sizeLine/\(∀ S,Sx S1 S->I.keep S)/\∀ p,S1 p=none->∃ W:Nat->SS->List D->Prop,W 0 S1 []/\
 (∀ i S S' acc,(∀ b o,b≠p->S b=some o->S' b=some o)->W i S acc->W i S' acc)/\
 (∀ i d S acc,I.items[i]?=some d->Sx S1 S->S p=some (.lst acc)->W i S acc->g d (um pick L) S fun L2 S2=>qy (um pick L) L2/\tc L2 S2 λ b S3=>if b=true then te L2 S3 λ y S4=>Sx S S4/\W (i+1) S4 (acc++[y]) else Sx S S3/\W (i+1) S3 acc)/\
 ∀ S2 acc,Sx S1 S2->S2 p=some (.lst acc)->W I.items.length S2 acc->Q (.ref p) S2
@[simp] noncomputable def o_ (pick:List (Option Nat)) (J:Ev):Ev:=pick.map λ o=>o.bind λ i=>(J[i]?).join
noncomputable def qt (h:T->Option (Option T)):List T->Option (List T)
 | []=>some []
 | y::ys=>(h y).bind λ o=>(qt h ys).map λ zs=>match o with
  | some z=>z::zs
  | none=>zs
@[simp] def qk (pick:List (Option Nat)) (g:T->Ev->Option Ev) (c:Ev->Option Bool) (f:Ev->Option T) (J:Ev) (y:T):Option (Option T):=
 (g y (o_ pick J)).bind fun J2=>(c J2).bind λ b=>if b=true then (f J2).map some else some none
def w9 (pick:List (Option Nat)) (it:Ev->Option (List T)) (g:T->Ev->Option Ev) (c:Ev->Option Bool) (f:Ev->Option T):Ev->Option T:=fun J=>(it J).bind λ ts=>if ts.length<=sizeLine then (qt (qk pick g c f J) ts).map .lst else none
@[simp] noncomputable def sk:Ev->Option Bool:=λ _=>some true
def SD:vf sk ZR:=λ S Z L J y Q hE e hq=>by cases e;exact hq S (.refl S)
def jl (pick:List (Option Nat)) (g:T->Ev->Option Ev) (t:xF):Prop:=∀ B S Z L J J' y d Q,(∀ i:Nat,pick[i]?=some none->B[i]?=some none)->qy B L->L.length=J.length->ER S Z L J->Sn (zJ S Z) y d->g y J=some J'->
 (∀ L',ER S Z L' J'->qy B L'->L'.length=J'.length->Q L' S)->t d L S Q
def jk (pick:List (Option Nat)) (g:List T->Ev->Option Ev) (t:wQ):Prop:=∀ B S Z L J J' y d Q,(∀ i:Nat,pick[i]?=some none->B[i]?=some none)->qy B L->L.length=J.length->ER S Z L J->zl (zJ S Z) y d->g y J=some J'->
 (∀ L',ER S Z L' J'->qy B L'->L'.length=J'.length->Q L' S)->t d L S Q
def ER.qR {S:SS}{Z:Addr->Prop}{L:yc}{J:Ev}{y:T}{d:D}(h:ER S Z L J) (hl:L.length=J.length) (i:Nat) (r:Sn (zJ S Z) y d):ER S Z (L.set i (some d)) (J.set i (some (.im y))):=by
 refine⟨h.zd,λ j t e=>?_,λ j ts e=>?_⟩
 ·rcases yz e with ⟨rfl,Gm,e⟩ | ⟨n,e⟩
  ·cases e;exact⟨d,pJ (by rw[hl];exact Gm),r⟩
  ·rw[xK n];exact h.im j t e
 ·rcases yz e with ⟨rfl,Gm,e⟩ | ⟨n,e⟩
  ·cases e
  ·rw[xK n];exact h.ow j ts e
variable {pick:List (Option Nat)}
def Ss (i:Nat) (hi:pick[i]?=some none:=by rfl):jl pick (zG i) (hName i):=λ B S Z L J J' y d Q hB hs hl hE r e hq=>by
 cases e
 refine hq _ (hE.qR hl i r) ⟨by rw[CO];exact hs.1,λ j c q=>?_⟩ (by simp[hl])
 by_cases hj:i=j
 ·subst hj;rw[hB i hi] at q;cases q
 ·rw[xK hj];exact hs.2 j c q
def Sk:jk pick uL gU:=λ B S Z L J J' y d Q hB hs hl hE r e hq=>by
 cases y with
 | nil=>simp only[zl] at r;subst r;cases e;exact⟨rfl,hq _ hE hs hl⟩
 | cons _ _=>cases e
def So {g:T->Ev->Option Ev}{h:List T->Ev->Option Ev}{t:xF}{u:wQ}(hg:jl pick g t) (hh:jk pick h u):jk pick (xA g h) (gW t u):=λ B S Z L J J' y d Q hB hs hl hE r e hq=>by
 cases y with
 | nil=>cases e
 | cons y ys=>
  simp only[zl] at r
  obtain⟨c,cs,rfl,r1,r2⟩:=r
  obtain⟨J1,e1,e2⟩:=Ak.mp e
  exact hg B S Z L J J1 y c _ hB hs hl hE r1 e1 fun L1 E1 s1 l1=>hh B S Z L1 J1 J' ys cs Q hB s1 l1 E1 r2 e2 hq
def Sq {n:Nat}{g:List T->Ev->Option Ev}{t:wQ}(hg:jk pick g t):jl pick (vw n g) (kE n t):=λ B S Z L J J' y d Q hB hs hl hE r e hq=>by
 cases y with
 | tup ys=>
  simp only[Sn] at r
  obtain⟨ds,rfl,r⟩:=r
  simp only[vw] at e
  split at e
  ·rename_i hn
   exact⟨by rw[r.len];exact hn,hg B S Z L J J' ys ds Q hB hs hl hE r e hq⟩
  ·cases e
 | _=>cases e
def bA {J:Ev}{i:Nat}{w:W}(h:(o_ pick J)[i]?=some (some w)):∃ j:Nat,pick[i]?=some (some j)/\J[j]?=some (some w):=by
 unfold o_ at h
 rw[AE] at h
 cases q:pick[i]? with
 | none=>rw[q] at h;cases h
 | some o=>
  rw[q] at h
  cases o with
  | none=>simp at h
  | some j=>
   simp only[Option.map_some,BP,Option.some.injEq] at h
   refine⟨j,rfl,?_⟩
   cases q2:J[j]? with
   | none=>rw[q2] at h;cases h
   | some o2=>rw[q2] at h;simp only[Option.join_some] at h;rw[h]
def bB {L:yc}{i j:Nat}{d:D}(h:pick[i]?=some (some j)) (h':L[j]?=some (some d)):(um pick L)[i]?=some (some d):=by
 unfold um
 rw[AE,h]
 simp[h']
def ER.VY {S:SS}{Z:Addr->Prop}{L:yc}{J:Ev}(h:ER S Z L J):ER S Z (um pick L) (o_ pick J):=by
 refine⟨h.zd,λ i t e=>?_,λ i ts e=>?_⟩
 ·obtain⟨j,h1,h2⟩:=bA e
  obtain⟨d,h3,h4⟩:=h.im j t h2
  exact⟨d,bB h1 h3,h4⟩
 ·obtain⟨j,h1,h2⟩:=bA e
  obtain⟨p,ds,h3,h4⟩:=h.ow j ts h2
  exact⟨p,ds,bB h1 h3,h4⟩
def ER.hide {S S':SS}{Z:Addr->Prop}{L:yc}{J:Ev}{p:Addr}(h:ER S Z L J) (s:Sx S S') (hp:S p=none) (G9:S' p≠none):ER S' (λ a=>Z a\/a=p) L J:=by
 refine⟨λ a z q=>?_,λ i t e=>?_,λ i ts e=>?_⟩
 ·rcases z with z | rfl
  ·exact h.zd a z (s.none q)
  ·exact G9 q
 ·obtain⟨d,h1,h2⟩:=h.im i t e
  exact⟨d,h1,Sn.sx (pH s hp) t h2⟩
 ·obtain⟨q,ds,h1,h2,h3,h4⟩:=h.ow i ts e
  exact⟨q,ds,h1,s _ _ h2,tG.sx (pH s hp) h3,.inl h4⟩
def Rb {it:Ev->Option (List T)}{ti:wO}{g:T->Ev->Option Ev}{tg:xF}{c:Ev->Option Bool}{tc:yC}{f:Ev->Option T}{te:zu}{b:Bool}(hi:rE b it ti) (hg:jl pick g tg) (hc:vf c tc) (hf:vg f te):
  xO (w9 pick it g c f) (sg pick ti tg tc te):=λ S Z L J y Q hE e hq=>by
 obtain⟨ts,e1,e2⟩:=Ak.mp e
 split at e2
 case isFalse=>cases e2
 rename_i hlen
 obtain⟨zs,e3,rfl⟩:=AB.mp e2
 refine hi S Z L J ts _ hE e1 λ I S1 s1 r1 hk=>⟨by rw[r1.len];exact hlen,λ S' s'=>hk S' ?_,λ p hp=>?_⟩
 ·cases b
  ·exact s'
  ·exact (nI _ _).trans s'
 have E1:=hE.grow s1
 have nz:¬ Z p:=λ z=>E1.zd p z hp
 refine⟨λ i S' acc=>∃ us ws,zl (zJ S' λ a=>Z a\/a=p) us acc/\qt (qk pick g c f J) (ts.drop i)=some ws/\zs=us++ws,⟨[],zs,.nil,e3,rfl⟩,λ i S' HJ acc hh ⟨us,ws,h1,h2⟩=>⟨us,ws,zl.sx (λ a o q=>?_) us h1,h2⟩,λ i d S2 acc hd s2 AU ⟨us,ws,h1,h2,h3⟩=>?_,λ S2 acc s2 AU ⟨us,ws,h1,h2,h3⟩=>?_⟩
 ·obtain⟨q1,q2⟩:=tw q
  rw[uu q1]
  exact hh a o (λ z=>q1 (.inr z)) q2
 ·obtain⟨x,hx,rx⟩:=r1.fu hd
  have Ao:=(AK.mp hx).1
  have CH:ts.drop i=x::ts.drop (i+1):=by rw[List.drop_eq_getElem_cons Ao,(AK.mp hx).2]
  rw[CH] at h2
  unfold qt at h2
  obtain⟨o,o1,h2⟩:=Ak.mp h2
  obtain⟨ws',o2,rfl⟩:=AB.mp h2
  have E2:=(E1.hide s2 hp (by rw[AU];nofun)).VY (pick:=pick)
  unfold qk at o1
  obtain⟨J2,g1,o1⟩:=Ak.mp o1
  obtain⟨bb,g2,o1⟩:=Ak.mp o1
  refine hg (um pick L) S2 _ _ _ J2 x d _ (λ j hj=>?_) ⟨rfl,λ _ _ q=>q⟩ (by unfold um o_;simp) E2 (Sn.sx (pH s2 hp) x rx) g1 fun L2 E3 l3 _=>⟨l3,?_⟩
  ·unfold um;rw[AE,hj];rfl
  refine hc S2 _ L2 J2 bb _ E3 g2 λ S3 s3=>?_
  split at o1
  ·rename_i hb
   rw[if_pos hb]
   obtain⟨z,g3,rfl⟩:=AB.mp o1
   refine hf S3 _ L2 J2 z _ (E3.grow s3) g3 λ dz S4 s4 r4=>⟨s3.trans s4,us++[z],ws',?_,o2,by rw[h3];simp⟩
   exact (zl.sx (wM (s3.trans s4)) us h1).append (.cons r4 .nil)
  ·rename_i hb
   rw[if_neg hb]
   cases o1
   exact⟨s3,us,ws',zl.sx (wM s3) us h1,o2,h3⟩
 ·rw[show I.items.length=ts.length from r1.len,List.drop_length] at h2
  cases h2
  rw[Ci] at h3
  subst h3
  refine hq _ S2 (s1.trans s2) ⟨?_,λ vs e=>?_⟩
  ·simp only[Sn]
   exact⟨acc,.inr ⟨p,rfl,by rw[uu nz];exact AU⟩,zl.sx (uv λ a z=>.inl z) zs h1⟩
  ·cases e
   exact⟨p,acc,rfl,s1.none hp,AU,h1⟩
class Sr (R:Rk):Prop extends Lo R where
 sn:∀ {S S':SS}{Z:Addr->Prop}{y:T}{d:D},R S S' Z y d->Sn (zJ S' Z) y d
instance:Sr xG:=⟨λ h=>h⟩
instance:Sr zD:=⟨λ h=>h.1⟩
def zI (R:Rk) (F:List T->Option T):wj:=λ ds S Q=>∃ Z ys y,(∀ a,Z a->S a≠none)/\zl (zJ S Z) ys ds/\F ys=some y/\∀ d S',Sx S S'->R S S' Z y d->Q d S'
def zI.mo {R:Rk}{F:List T->Option T}:pX (zI R F):=λ _ _ _ _ hq ⟨Z,ys,y,h1,h2,h3,h4⟩=>⟨Z,ys,y,h1,h2,h3,λ d S' s r=>hq _ _ (h4 d S' s r)⟩
def gi {R:Rk} [Lo R] {F:List T->Option T}{g:Ev->Option (List T)}{u:yk}(h:rF g u):xv R (zv F g) (k_ (zI R F) u):=λ S Z L J y Q hE e hq=>by
 obtain⟨xs,e1,e2⟩:=Ak.mp e
 refine h S Z L J xs _ hE e1 λ ds S1 s1 r1=>?_
 exact⟨Z,xs,y,(hE.grow s1).zd,r1,e2,λ d S' s r=>hq d S' (s1.trans s) (Cl.cl s1 r)⟩
@[simp] noncomputable def qM (N:List Str) (ys:List T):Ev:=ys.map (λ y=>some (.im y))++List.replicate (N.length-ys.length) none
@[simp] noncomputable def aa:Option Out->Option T
 | some (.rt y)=>some y
 | some (.nx _)=>some .zk
 | _=>none
@[simp] def z_ (N:List Str) (n:Nat) (g:Sm):List T->Option T:=λ ys=>if ys.length=n then aa (g (qM N ys)) else none
theorem zI.len {R:Rk}{N:List Str}{n:Nat}{g:Sm}{ds:List D}{S:SS}{Q:DK}(hs:zI R (z_ N n g) ds S Q):ds.length=n:=by
 obtain⟨Z,ys,y,hz,r,e,hq⟩:=hs
 unfold z_ at e
 split at e
 ·rename_i h;rw[r.len];exact h
 ·cases e
def WJ {N:List Str}{ds:List D}{i:Nat}{d:D}(h:ds[i]?=some d):(uF N ds)[i]?=some (some d):=by
 have hi:=(AK.mp h).1
 unfold uF
 rw[Ct (by simpa using hi),AE,h];rfl
def lH {N:List Str}{ys:List T}{i:Nat}{w:W}(h:(qM N ys)[i]?=some (some w)):∃ y,ys[i]?=some y/\w=.im y:=by
 unfold qM at h
 have hi:i<ys.length:=by
  rcases Bs i ys.length with q | q
  ·exact q
  ·rw[C8 (by simpa using q),DF] at h
   split at h <;> cases h
 rw[Ct (by simpa using hi),AE] at h
 cases q:ys[i]? with
 | none=>rw[q] at h;cases h
 | some y=>rw[q] at h;cases h;exact⟨y,rfl,rfl⟩
def Yx {R:Rk} [Lo R] {N:List Str}{n:Nat}{g:Sm}{t:yh}(h:ym R g t) {ds:List D}{S:SS}{Q:DK}(hs:zI R (z_ N n g) ds S Q):t { nx:=λ _ S'=>Q .zk S',rt:=Q } (uF N ds) S:=by
 obtain⟨Z,ys,y,hz,r,e,hq⟩:=hs
 unfold z_ at e
 split at e
 case isFalse=>cases e
 obtain⟨o,e1,e2⟩:∃ o,g (qM N ys)=some o/\aa (some o)=some y:=by
  cases q:g (qM N ys) with
  | none=>rw[q] at e;cases e
  | some o=>exact⟨o,rfl,by rw[<- q];exact e⟩
 refine h S Z S Z _ _ o _ ⟨⟨hz,λ i t e=>?_,λ i ts e=>?_⟩,?_,.refl S,hz,λ _ z=>z,λ _ z=>.inl z,λ i ts p e _=>?_,λ i j ts us p _ e _ _ _=>?_⟩ e1 ?_
 ·obtain⟨y',h1,h2⟩:=lH e
  cases h2
  obtain⟨d,h3,h4⟩:=r.fm h1
  exact⟨d,WJ h3,h4⟩
 ·obtain⟨y',h1,h2⟩:=lH e
  cases h2
 ·unfold uF qM
  have:=r.len
  simp[this]
 ·obtain⟨y',h1,h2⟩:=lH e
  cases h2
 ·obtain⟨y',h1,h2⟩:=lH e
  cases h2
 ·cases o with
  | rt y'=>cases e2;exact λ d S' s r=>hq d S' s r
  | nx J'=>
   cases e2
   exact λ S' Z' L' F=>hq .zk S' F.sx (Cl.of (λ _=>nofun) cH)
  | _=>cases e2
noncomputable def xl (Aa:List (Key×T)) (k:Key):Option T:=(Aa.find? λ kv=>decide (kv.1=k)).map (·.2)
noncomputable def ui (Aa:List (Key×T)) (k:Key) (v:T):List (Key×T):=
 if (Aa.any λ kv=>decide (kv.1=k))=true then Aa.map (λ kv=>if kv.1=k then (kv.1,v) else kv) else Aa++[(k,v)]
section
variable {S:SS}
theorem yA.len:∀ {a:List (Key×T)}{b:List (Key×D)},yA S a b->b.length=a.length
 | [],_,h=>by cases h;rfl
 | (k,t)::r,_,h=>by
  obtain⟨d,m,rfl,_,h2⟩:=h
  simp[yA.len h2]
theorem yA.val:∀ {a:List (Key×T)}{b:List (Key×D)}(k:Key),yA S a b->(xl a k=none/\ud b k=none)\/∃ t d,xl a k=some t/\ud b k=some d/\Sn S t d
 | [],_,k,h=>by cases h;exact .inl ⟨rfl,rfl⟩
 | (j,t)::r,_,k,h=>by
  obtain⟨d,m,rfl,h1,h2⟩:=h
  by_cases e:j=k
  ·subst e;exact .inr ⟨t,d,by simp[xl],by simp[ud],h1⟩
  ·rcases yA.val k h2 with ⟨g1,g2⟩ | ⟨t',d',g1,g2,g3⟩
   ·exact .inl ⟨by simpa [xl,e] using g1,by simpa [ud,e] using g2⟩
   ·exact .inr ⟨t',d',by simpa [xl,e] using g1,by simpa [ud,e] using g2,g3⟩
theorem yA.any:∀ {a:List (Key×T)}{b:List (Key×D)}(k:Key),yA S a b->(b.any λ kv=>decide (kv.1=k))=a.any λ kv=>decide (kv.1=k)
 | [],_,k,h=>by cases h;rfl
 | (j,t)::r,_,k,h=>by
  obtain⟨d,m,rfl,h1,h2⟩:=h
  rw[BG,BG,yA.any k h2]
theorem yA.uW {k:Key}{t:T}{d:D}(r:Sn S t d):∀ {a:List (Key×T)}{b:List (Key×D)},yA S a b->yA S (a.map λ kv=>if kv.1=k then (kv.1,t) else kv) (b.map λ kv=>if kv.1=k then (kv.1,d) else kv)
 | [],_,h=>by cases h;rfl
 | (j,u)::a,_,h=>by
  obtain⟨e,m,rfl,h1,h2⟩:=h
  rw[Au,Au]
  by_cases q:j=k
  ·rw[if_pos q,if_pos q];exact⟨d,_,rfl,r,yA.uW r h2⟩
  ·rw[if_neg q,if_neg q];exact⟨e,_,rfl,h1,yA.uW r h2⟩
theorem yA.snoc {k:Key}{t:T}{d:D}(r:Sn S t d):∀ {a:List (Key×T)}{b:List (Key×D)},yA S a b->yA S (a++[(k,t)]) (b++[(k,d)])
 | [],_,h=>by cases h;exact⟨d,[],rfl,r,rfl⟩
 | (j,u)::a,_,h=>by
  obtain⟨e,m,rfl,h1,h2⟩:=h
  exact⟨e,_,rfl,h1,yA.snoc r h2⟩
def yA.put {a:List (Key×T)}{b:List (Key×D)}(h:yA S a b) (k:Key) {t:T}{d:D}(r:Sn S t d):yA S (ui a k t) (putD b k d):=by
 unfold ui putD
 rw[h.any k]
 split
 ·exact yA.uW r h
 ·exact yA.snoc r h
end
@[simp] noncomputable def ZU (i:Nat):Sm:=fun J=>some (.nx (J.set i (some (.own (.zH [])))))
@[simp] def fQ (i:Nat) (f:Ev->Option T):Ev->Option T:=fun J=>(f J).bind λ y=>match J[i]?,y with
 | some (some (.own (.zH Aa))),.int k=>xl Aa (.inl k)
 | _,_=>none
@[simp] def ZW (i:Nat) (f g:Ev->Option T):Ev->Option T:=fun J=>(f J).bind λ y=>(g J).bind λ z=>match J[i]?,y with
 | some (some (.own (.zH Aa))),.int k=>some ((xl Aa (.inl k)).getD z)
 | _,_=>none
@[simp] def ZT (i:Nat) (f v:Ev->Option T):Sm:=fun J=>(v J).bind λ z=>(f J).bind λ y=>match J[i]?,y with
 | some (some (.own (.zH Aa))),.int k=>if Aa.length<sizeLine then some (.nx (J.set i (some (.own (.zH (ui Aa (.inl k) z)))))) else none
 | _,_=>none
@[simp] noncomputable def fP (i:Nat):Ev->Option T:=fun J=>match J[i]? with
 | some (some (.own (.zH Aa)))=>some (.int Aa.length)
 | _=>none
def kh {S:SS}{Z:Addr->Prop}{L:yc}{J:Ev}(hE:ER S Z L J) {i:Nat}{Aa:List (Key×T)}(h:J[i]?=some (some (.own (.zH Aa)))):∃ p b,L[i]?=some (some (.ref p))/\S p=some (.zH b)/\yA (zJ S Z) Aa b:=by
 obtain⟨p,o,h1,h2,h3,_⟩:=hE.ow i _ h
 cases o with
 | zH b=>exact⟨p,b,h1,h2,h3⟩
 | lst _=>exact h3.elim
section
variable {R:Rk}{f g v:Ev->Option T}{ty tx tv:zu}
def TR (i:Nat):ym R (ZU i) (t8 Yh (hName i)):=λ S0 Z0 S Z L J o E F e P=>by
 cases e
 intro p hp
 exact P _ _ _ (F.cM (ts:=.zH []) (ds:=.zH []) (.new hp _) i hp sN rfl)
def au (i:Nat) (hf:yH f ty):vg (fQ i f) (Yk (yt i) ty):=λ S Z L J y Q hE e hq=>by
 obtain⟨x,e1,e2⟩:=Ak.mp e
 split at e2
 ·rename_i Aa k h
  obtain⟨p,b,h1,h2,h3⟩:=kh hE h
  show yt i L S _
  unfold yt;rw[h1]
  refine hf S Z L J _ _ hE e1 λ d S1 s1 r1=>?_
  cases Vw.int r1
  rcases (yA.sx (wM s1) h3).val (.inl k) with ⟨g1,_⟩ | ⟨t,d,g1,g2,g3⟩
  ·rw[g1] at e2;cases e2
  ·rw[g1] at e2;cases e2
   exact⟨p,b,k,d,rfl,rfl,s1 _ _ h2,g2,hq d S1 s1 g3⟩
 ·cases e2
def av (i:Nat) (hf:yH f ty) (hg:vg g tx):vg (ZW i f g) (Yj (yt i) ty tx):=λ S Z L J y Q hE e hq=>by
 obtain⟨x,e1,e⟩:=Ak.mp e
 obtain⟨z,e2,e3⟩:=Ak.mp e
 split at e3
 ·rename_i Aa k h
  cases e3
  obtain⟨p,b,h1,h2,h3⟩:=kh hE h
  show yt i L S _
  unfold yt;rw[h1]
  refine⟨p,rfl,⟨b,h2⟩,hf S Z L J _ _ hE e1 λ d S1 s1 r1=>?_⟩
  cases Vw.int r1
  refine hg S1 Z L J z _ (hE.grow s1) e2 λ dz S2 s2 r2=>⟨k,b,rfl,(s1.trans s2) _ _ h2,?_⟩
  rcases (yA.sx (wM (s1.trans s2)) h3).val (.inl k) with ⟨g1,g2⟩ | ⟨t,d,g1,g2,g3⟩
  ·rw[g2];rw[g1] at hq;exact hq _ S2 (s1.trans s2) r2
  ·rw[g2];rw[g1] at hq;exact hq _ S2 (s1.trans s2) g3
 ·cases e3
def TQ (i:Nat) (hf:yH f ty) (hv:vg v tv):ym R (ZT i f v) (Yi (yt i) ty tv):=λ S0 Z0 S Z L J o E F e P=>by
 obtain⟨z,e1,e⟩:=Ak.mp e
 obtain⟨x,e2,e3⟩:=Ak.mp e
 split at e3
 ·rename_i Aa k h
  split at e3
  ·rename_i hl
   cases e3
   refine hv S Z L J z _ F.er e1 λ dz S1 s1 r1=>?_
   have F1:=F.grow s1
   obtain⟨p,b,h1,h2,h3⟩:=kh F1.er h
   show yt i L S1 _
   unfold yt;rw[h1]
   refine hf S1 Z L J _ _ F1.er e2 λ d S2 s2 r2=>?_
   cases Vw.int r2
   have h4:=yA.sx (wM s2) h3
   exact⟨p,b,k,rfl,rfl,s2 _ _ h2,by rw[h4.len];exact hl,P _ Z L ((F1.grow s2).mut (us:=.zH (ui Aa (.inl k) z)) (es:=.zH (putD b (.inl k) dz)) i h h1 (h4.put _ (Sn.sx (wM s2) z r1)))⟩
  ·cases e3
 ·cases e3
def RA (i:Nat):xO (fP i) (xE ZG (qq (yt i) kY)):=λ S Z L J y Q hE e hq=>by
 unfold fP at e
 split at e
 ·rename_i Aa h
  cases e
  obtain⟨p,b,h1,h2,h3⟩:=kh hE h
  show yt i L S _
  unfold yt;rw[h1]
  refine⟨p,b,rfl,h2,?_⟩
  rw[h3.len]
  exact hq _ S (.refl S) (Cl.of (λ _=>nofun) wV)
 ·cases e
end
@[simp] noncomputable def gs (f:Ev->Option T):Ev->Option T:=fun J=>(f J).bind λ x=>match x with
 | .int i=>some (.int (-i))
 | _=>none
def Yd (ta:zu):zu:=fun L S Q=>ta L S λ x S1=>match x with
 | .int i=>Q (.int (-i)) S1
 | _=>False
def SX {f:Ev->Option T}{te:zu}(h:yH f te):xO (gs f) (Yd te):=λ S Z L J y Q hE e hq=>by
 obtain⟨x,e1,e2⟩:=Ak.mp e
 refine h S Z L J x _ hE e1 λ d S1 s1 r1=>?_
 split at e2
 ·cases Vw.int r1
  cases e2
  exact hq _ S1 s1 (Cl.of (λ _=>nofun) wV)
 ·cases e2
def PH:vX zD nA ZF:=Zx
def PC:vX zD kr ZE:=Zx
noncomputable def uq:List T->Option (List Int)
 | []=>some []
 | .int i::ts=>(uq ts).map (i::·)
 | _::_=>none
noncomputable def uh:List T->Option (List (List Int))
 | []=>some []
 | .tup r::ts=>(uq r).bind λ x=>(uh ts).map (x::·)
 | _::_=>none
noncomputable def yo (r:List Int):T:=.tup (r.map T.int)
theorem nG:∀ {ts:List T}{is:List Int},uq ts=some is->ts=is.map T.int
 | [],is,h=>by cases h;rfl
 | .int b::ts,is,h=>by
  unfold uq at h
  obtain⟨cs,h1,rfl⟩:=AB.mp h
  rw[Au,<- nG h1]
 | .zk::ts,bs,h=>by cases h
 | .bl _::ts,bs,h=>by cases h
 | .str _::ts,bs,h=>by cases h
 | .tup _::ts,bs,h=>by cases h
 | .lst _::ts,bs,h=>by cases h
theorem iI:∀ {ts:List T}{rs:List (List Int)},uh ts=some rs->ts=rs.map yo
 | [],is,h=>by cases h;rfl
 | .tup r::ts,is,h=>by
  unfold uh at h
  obtain⟨x,h1,h⟩:=Ak.mp h
  obtain⟨cs,h2,rfl⟩:=AB.mp h
  rw[Au,<- iI h2,nG h1];rfl
 | .zk::ts,bs,h=>by cases h
 | .bl _::ts,bs,h=>by cases h
 | .str _::ts,bs,h=>by cases h
 | .int _::ts,bs,h=>by cases h
 | .lst _::ts,bs,h=>by cases h
def Zp (is:List Int):uq (is.map T.int)=some is:=by
 induction is with
 | nil=>rfl
 | cons b bs ih=>rw[Au];unfold uq;rw[ih];rfl
def iJ (rs:List (List Int)):uh (rs.map yo)=some rs:=by
 induction rs with
 | nil=>rfl
 | cons b bs ih=>
  show uh (.tup (b.map T.int)::bs.map yo)=_
  unfold uh;rw[Zp,ih];rfl
theorem tQ {S:SS}:∀ {is:List Int}{ds:List D},zl S (is.map T.int) ds↔ds=is.map D.int
 | [],ds=>by simp only[A9,zl]
 | i::is,ds=>by
  rw[Au]
  simp only[zl,Sn]
  constructor
  ·rintro⟨c,cs,rfl,rfl,h⟩
   rw[tQ.mp h];rfl
  ·rintro rfl
   exact⟨.int i,_,rfl,rfl,tQ.mpr rfl⟩
theorem qO {S:SS}:∀ {rs:List (List Int)}{ds:List D},zl S (rs.map yo) ds↔ds=rs.map xY
 | [],ds=>by simp only[A9,zl]
 | r::rs,ds=>by
  rw[Au]
  simp only[zl,yo,Sn]
  constructor
  ·rintro⟨c,cs,rfl,⟨es,rfl,h1⟩,h⟩
   rw[qO.mp h,tQ.mp h1];rfl
  ·rintro rfl
   exact⟨xY r,_,rfl,⟨_,rfl,tQ.mpr rfl⟩,qO.mpr rfl⟩
@[simp] noncomputable def Wg:T->Option String
 | .zk=>some "NoneType"
 | .bl _=>some "bool"
 | .int _=>some "int"
 | .str _=>some "str"
 | .tup _=>some "tuple"
 | .lst _=>some "list"
 | .yT=>some "dict"
 | .err _ _ _=>none
@[simp] def E_ (ty:String) (f:Ev->Option T):Ev->Option T:=fun J=>(f J).bind λ x=>(Wg x).map λ t=>.bl (xo t ty)
theorem Vw.err {S:SS}{Z:Addr->Prop}{c f:Str}{t:T}{d:D}(h:Vw S Z (.err c f t) d):∃ x,d=.err c f x/\Sn (zJ S Z) t x:=by
 rcases h with h | ⟨_,_,_,h,_⟩
 ·simpa only [Sn] using h
 ·cases h
def R0 {ty:String}{f:Ev->Option T}{te:zu}(hf:yH f te):xO (E_ ty f) (nX ty te):=λ S Z L J y Q hE e hq=>by
 obtain⟨x,e1,e2⟩:=Ak.mp e
 obtain⟨n,e3,rfl⟩:=AB.mp e2
 refine hf S Z L J x _ hE e1 λ d S1 s1 r1=>?_
 have key:sO d S1=some n:=by
  rw[<- e3]
  cases x with
  | zk=>cases Vw.zk r1;rfl
  | bl _=>cases Vw.bl r1;rfl
  | int _=>cases Vw.int r1;rfl
  | str _=>cases Vw.str r1;rfl
  | tup _=>obtain⟨ds,rfl,_⟩:=Vw.tup r1;rfl
  | lst _=>
   obtain⟨ds,rfl | ⟨a,rfl,h1⟩,h2⟩:=Vw.lst r1
   ·rfl
   ·unfold sO;dsimp only;rw[h1];rfl
  | yT=>
   obtain⟨a,Aa,⟨rfl,_⟩,h1⟩:=Vw.yT r1
   unfold sO;dsimp only;rw[h1];rfl
  | err _ _ _=>cases e3
 rw[key]
 exact hq _ S1 s1 (Cl.of (λ _=>nofun) wG)
@[simp] noncomputable def isNone:T->Bool
 | .zk=>true
 | _=>false
noncomputable def pD:D->Bool
 | .zk=>true
 | _=>false
noncomputable def zt (p:Int×Int):T:=.tup [.int p.1,.int p.2]
noncomputable def zU (ns:List Int):T:=.lst (ns.map .int)
@[simp] theorem zaa:sizeLine=16777216:=rfl
def Qw {n:Nat}(h:n<=10000):n<=sizeLine:=BA h (by decide)
def vR {α:Type}{xs:List α}{k:Nat}{x:α}(h:xs[k]?=some x):L2.zW xs (k:Int)=some x:=by
 unfold L2.zW L2.w_
 have hk:=(AK.mp h).1
 rw[if_pos (by lia),if_pos (by lia)]
 simpa using h
@[simp] theorem Y7 {α:Type}{xs:List α}{x:α}:L2.zW (xs++[x]) (-1)=some x:=by
 unfold L2.zW L2.w_
 rw[if_neg (by lia),if_pos (by simp;lia)]
 have:(-1+((xs++[x]).length:Int)).toNat=xs.length:=by simp;lia
 rw[BP,this]
 simp
@[simp] theorem zap {α:Type}{x:α}{xs:List α}:L2.zW (x::xs) 0=some x:=vR (k:=0) rfl
@[simp] theorem zao {α:Type}{x y:α}{xs:List α}:L2.zW (x::y::xs) 1=some y:=vR (k:=1) rfl
@[simp] theorem zan {α:Type}{x y z:α}{xs:List α}:L2.zW (x::y::z::xs) 2=some z:=vR (k:=2) rfl
@[simp] theorem zam {α:Type}{x y z w:α}{xs:List α}:L2.zW (x::y::z::w::xs) 3=some w:=vR (k:=3) rfl
theorem fX {α:Type}(enc:α->T) (g:α->Option T) (h:T->Option (Option T)):∀ (xs:List α),(∀ x∈xs,h (enc x)=some (g x))->qt h (xs.map enc)=some (xs.filterMap g)
 | [],_=>rfl
 | x::xs,hh=>by
  rw[Au]
  unfold qt
  rw[hh x Ap,fX enc g h xs λ y hy=>hh y (Ax _ hy)]
  cases q:g x <;> simp[q]
def OP {α:Type}(enc:α->T) (g:α->T) (h:T->Option (Option T)) (xs:List α) (hh:∀ x∈xs,h (enc x)=some (some (g x))):qt h (xs.map enc)=some (xs.map g):=by
 rw[fX enc (λ x=>some (g x)) h xs hh]
 simp
def sZ {α:Type}(enc:α->T) (h:α->T) {pick:List (Option Nat)}{it:Ev->Option (List T)}{g:T->Ev->Option Ev}{c:Ev->Option Bool}{f:Ev->Option T}{J:Ev}(xs:List α) (hi:it J=some (xs.map enc)) (hl:xs.length<=16777216)
  (hh:∀ x∈xs,qk pick g c f J (enc x)=some (some (h x))):w9 pick it g c f J=some (.lst (xs.map h)):=by
 unfold w9
 rw[hi,BP,if_pos (by rw[AD];exact hl),OP enc h _ xs hh];rfl
def k7 {α:Type}(enc:α->T) (h:α->Option T) {pick:List (Option Nat)}{it:Ev->Option (List T)}{g:T->Ev->Option Ev}{c:Ev->Option Bool}{f:Ev->Option T}{J:Ev}(xs:List α) (hi:it J=some (xs.map enc)) (hl:xs.length<=16777216)
  (hh:∀ x∈xs,qk pick g c f J (enc x)=some (h x)):w9 pick it g c f J=some (.lst (xs.filterMap h)):=by
 unfold w9
 rw[hi,BP,if_pos (by rw[AD];exact hl),fX enc h _ xs hh];rfl
section
variable {α:Type}{is:List Nat}{g:T->Ev->Option Ev}{b:Sm}
noncomputable def turn (g:T->Ev->Option Ev) (b:Sm) (y:T) (J:Ev):Option Out:=(g y J).bind b
theorem gE (y:T) (ys:List T) (J:Ev):w6 is g b (y::ys) J=(turn g b y (yN is J)).bind λ o=>match o with
  | .nx J2=>w6 is g b ys J2
  | .ct J2=>w6 is g b ys J2
  | .bk J2=>some (.nx (yN is J2))
  | .rt t=>some (.rt t):=by
 unfold turn
 rw[w6]
 cases g y (yN is J) <;> rfl
theorem aJ (enc:α->T) (test:α->Bool) (v:T) (J0:Ev):∀ (xs:List α) (J:Ev),yN is J=J0->(∀ x∈xs,∃ J',yN is J'=J0/\turn g b (enc x) J0=some (if test x=true then .rt v else .nx J'))->w6 is g b (xs.map enc) J=some (if xs.any test=true then .rt v else .nx J0)
 | [],J,h,_=>by rw[A9,w6,h];rfl
 | x::xs,J,h,hs=>by
  obtain⟨J',h1,h2⟩:=hs x Ap
  rw[Au,gE,h,h2,BG]
  cases q:test x with
  | true=>simp
  | false=>
   have ih:=aJ enc test v J0 xs J' h1 λ y hy=>hs y (Ax _ hy)
   simpa using ih
theorem aI (enc:α->T) (I:List α->Ev->Prop):∀ (xs:List α) (pre:List α) (J:Ev),I pre (yN is J)->
  (∀ p x q,pre++xs=p++x::q->∀ J,I p J->∃ J',turn g b (enc x) J=some (.nx J')/\I (p++[x]) (yN is J'))->∃ J',w6 is g b (xs.map enc) J=some (.nx J')/\I (pre++xs) J'
 | [],pre,J,h,_=>⟨yN is J,by rw[A9,w6],by simpa using h⟩
 | x::xs,pre,J,h,hs=>by
  obtain⟨J',h1,h2⟩:=hs pre x xs rfl _ h
  rw[Au,gE,h1]
  have ih:=aI enc I xs (pre++[x]) J' h2 λ p y q e=>hs p y q (by rw[<- e];simp)
  simpa using ih
def tq (enc:α->T) (I:List α->Ev->Prop) (xs:List α) (J:Ev) (h:I [] (yN is J))
  (hs:∀ p x q,xs=p++x::q->∀ J,I p J->∃ J',turn g b (enc x) J=some (.nx J')/\I (p++[x]) (yN is J')):∃ J',w6 is g b (xs.map enc) J=some (.nx J')/\I xs J':=aI enc I xs [] J h hs
end
def qU (n:Nat) (h:n<=100000):tR [.int (n:Int)]=some ((List.range n).map λ(k:Nat)=>T.int (0+(k:Int))):=by
 show (if inR (n:Int)=true then some (rangeT 0 (n:Int).toNat) else none)=_
 rw[if_pos (Zs.mpr ⟨by lia,by lia⟩)]
 rfl
def rO (a:Key) (b:T) (Aa:List (Key×T)) (j:Key):xl ((a,b)::Aa) j=if a=j then some b else xl Aa j:=by
 by_cases h:a=j <;> simp[xl,h]
theorem cg (k j:Key) (d:T):∀ Aa:List (Key×T),xl (Aa.map λ kv=>if kv.1=k then (kv.1,d) else kv) j=(xl Aa j).map λ x=>if j=k then d else x
 | []=>rfl
 | (a,b)::Aa=>by
  have ih:=cg k j d Aa
  rw[Au]
  by_cases hk:a=k
  ·rw[if_pos hk,rO,rO,ih]
   by_cases hj:a=j
   ·subst hj;subst hk;simp
   ·rw[if_neg hj,if_neg hj]
  ·rw[if_neg hk,rO,rO,ih]
   by_cases hj:a=j
   ·subst hj;simp[hk]
   ·rw[if_neg hj,if_neg hj]
theorem cf (k j:Key) (d:T):∀ Aa:List (Key×T),(∀ kv∈Aa,¬ kv.1=k)->xl (Aa++[(k,d)]) j=if j=k then some d else xl Aa j
 | [],_=>by
  show xl [(k,d)] j=_
  rw[rO]
  by_cases h:j=k
  ·subst h;simp
  ·rw[if_neg h,if_neg (λ z=>h z.symm)]
 | (a,b)::Aa,hn=>by
  have ih:=cf k j d Aa λ kv En=>hn kv (Ax _ En)
  have ha:¬ a=k:=hn (a,b) Ap
  show xl ((a,b)::(Aa++[(k,d)])) j=_
  rw[rO,rO,ih]
  by_cases hj:a=j
  ·subst hj;simp[ha]
  ·rw[if_neg hj,if_neg hj]
def YA (Aa:List (Key×T)) (k:Key):(Aa.any λ kv=>decide (kv.1=k))=(xl Aa k).isSome:=by
 unfold xl
 rw[Option.isSome_map,BL,Bb,List.find?_isSome]
def l7 (Aa:List (Key×T)) (k j:Key) (d:T):xl (ui Aa k d) j=if j=k then some d else xl Aa j:=by
 unfold ui
 split
 ·rename_i h
  rw[YA] at h
  rw[cg]
  by_cases hj:j=k
  ·subst hj
   obtain⟨x,hx⟩:=DG.mp h
   simp[hx]
  ·simp[hj]
 ·rename_i h
  exact cf k j d Aa λ kv En z=>h (Bb.mpr ⟨kv,En,KU z⟩)
def aO (Aa:List (Key×T)) (k:Key) (d:T):(ui Aa k d).length=if (xl Aa k).isSome=true then Aa.length else Aa.length+1:=by
 have e:=YA Aa k
 unfold ui
 rw[e]
 split <;> simp
noncomputable def vx (p:Int×Int):List Int:=[p.1,p.2]
def tP (ps:List (Int×Int)):List (Int×Int):=(L4.xJ (ps.map vx)).map λ r=>(r.getD 0 0,r.getD 1 0)
def cC (ps:List (Int×Int)):(tP ps).map vx=L4.xJ (ps.map vx):=by
 unfold tP
 rw[AZ]
 conv=>rhs;rw[<- List.map_id (L4.xJ (ps.map vx))]
 refine CL λ r hr=>?_
 obtain⟨p,_,rfl⟩:=Ay.mp ((L4.uV _).mem_iff.mp hr)
 rfl
def jQ (ps:List (Int×Int)):(tP ps).Perm ps:=by
 have h:=L4.uV (ps.map vx)
 have:(tP ps).Perm ((ps.map vx).map λ r=>(r.getD 0 0,r.getD 1 0)):=h.map _
 rwa [AZ,show ((λ r:List Int=>(r.getD 0 0,r.getD 1 0)) ∘ vx)=id from rfl,List.map_id] at this
def p9 (p q:Int×Int):Prop:=p.1<q.1\/(p.1=q.1/\p.2<=q.2)
def cB (ps:List (Int×Int)):(tP ps).Pairwise p9:=by
 have h:=L4.jP (ps.map vx)
 rw[<- cC,Cf] at h
 refine h.imp λ{p q} CB=>?_
 unfold vx at CB
 rw[HT.sY,HT.sY] at CB
 unfold p9
 by_cases e:q.1=p.1
 ·rw[if_pos e] at CB
  by_cases e2:q.2=p.2
  ·lia
  ·rw[if_neg e2] at CB
   have:=of_decide_eq_false CB
   lia
 ·rw[if_neg e] at CB
  have:=of_decide_eq_false CB
  lia
def Vt (ps:List (Int×Int)):uh (ps.map zt)=some (ps.map vx):=by
 have:=iJ (ps.map vx)
 rwa [AZ,show yo ∘ vx=zt from rfl] at this
noncomputable def wN (q p:Int×Int):Bool:=decide (p.1<=q.1)&&decide (p.2<=q.2)
def yb (ps:List (Int×Int)) (q:Int×Int):Bool:=ps.any (wN q)
def x9 {ps:List (Int×Int)}{q:Int×Int}:yb ps q=true↔∃ p∈ps,p.1<=q.1/\p.2<=q.2:=by
 unfold yb wN
 simp[Bb]
def OK {ps qs:List (Int×Int)}(h:ps.Perm qs) (q:Int×Int):yb ps q=yb qs q:=by
 rw[BL,x9,x9]
 exact⟨λ⟨p,h1,h2⟩=>⟨p,h.mem_iff.mp h1,h2⟩,λ⟨p,h1,h2⟩=>⟨p,h.mem_iff.mpr h1,h2⟩⟩
def OL (ps qs:List (Int×Int)) (q:Int×Int):yb (ps++qs) q=(yb ps q||yb qs q):=by
 unfold yb;rw[List.any_append]
def vt (ps:List (Int×Int)):Prop:=ps.Pairwise λ p q=>p.1<q.1/\q.2<p.2
theorem vt.eq:∀ {ps qs:List (Int×Int)},vt ps->vt qs->(∀ q,yb ps q=yb qs q)->ps=qs
 | [],[],_,_,_=>rfl
 | [],q::qs,_,_,h=>by
  have:=h q
  rw[show yb [] q=false from rfl] at this
  have h2:yb (q::qs) q=true:=x9.mpr ⟨q,Ap,AQ _,AQ _⟩
  rw[h2] at this;cases this
 | p::ps,[],_,_,h=>by
  have:=h p
  rw[show yb [] p=false from rfl] at this
  have h2:yb (p::ps) p=true:=x9.mpr ⟨p,Ap,AQ _,AQ _⟩
  rw[h2] at this;cases this
 | p::ps,q::qs,hp,hq,h=>by
  have Jz:=Bz.mp hp
  have Hg:=Bz.mp hq
  have a1:∃ r∈q::qs,r.1<=p.1/\r.2<=p.2:=x9.mp (by rw[<- h];exact x9.mpr ⟨p,Ap,AQ _,AQ _⟩)
  have a2:∃ r∈p::ps,r.1<=q.1/\r.2<=q.2:=x9.mp (by rw[h];exact x9.mpr ⟨q,Ap,AQ _,AQ _⟩)
  obtain⟨r,hr,r1,r2⟩:=a1
  obtain⟨u,hu,u1,u2⟩:=a2
  have qr:q.1<=r.1:=by
   rcases Ai.mp hr with e | e
   ·subst e;exact AQ _
   ·exact Int.le_of_lt (Hg.1 r e).1
  have pu:p.1<=u.1:=by
   rcases Ai.mp hu with e | e
   ·subst e;exact AQ _
   ·exact Int.le_of_lt (Jz.1 u e).1
  have e1:p.1=q.1:=by lia
  have er:r=q:=by
   rcases Ai.mp hr with e | e
   ·exact e
   ·have:=(Hg.1 r e).1;lia
  have eu:u=p:=by
   rcases Ai.mp hu with e | e
   ·exact e
   ·have:=(Jz.1 u e).1;lia
  subst er eu
  have e2:u.2=r.2:=by lia
  have epq:u=r:=Prod.ext e1 e2
  subst epq
  rw[vt.eq Jz.2 Hg.2 λ x=>?_]
  have hx:=h x
  unfold yb at hx ⊢
  rw[BG,BG] at hx
  cases g:wN x u with
  | false=>rw[g] at hx;simpa using hx
  | true=>
   have gx:u.1<=x.1/\u.2<=x.2:=by simpa [wN] using g
   have key:∀ {l:List (Int×Int)},(∀ v∈l,u.1<v.1/\v.2<u.2)->l.any (wN x)=l.any (wN (x.1,u.2-1)):=by
    intro l hl
    rw[BL,Bb,Bb]
    constructor
    ·rintro⟨v,hv,hg⟩
     have:=hl v hv
     have hg':v.1<=x.1/\v.2<=x.2:=by simpa [wN] using hg
     exact⟨v,hv,by simp[wN];lia⟩
    ·rintro⟨v,hv,hg⟩
     have:=hl v hv
     have hg':v.1<=x.1/\v.2<=u.2-1:=by simpa [wN] using hg
     exact⟨v,hv,by simp[wN];lia⟩
   rw[key Jz.1,key Hg.1]
   have hy:=h (x.1,u.2-1)
   unfold yb at hy
   rw[BG,BG] at hy
   have gn:wN (x.1,u.2-1) u=false:=by
    unfold wN
    rw[show decide (u.2<=(x.1,u.2-1).2)=false from KI (by show ¬ u.2<=u.2-1;lia),CN]
   rw[gn] at hy
   simpa using hy
noncomputable def tB (l:Option Int) (x:Int):Bool:=match l with
 | none=>true
 | some m=>decide (x<m)
noncomputable def yM:List (Int×Int)->Option Int->List (Int×Int)
 | [],_=>[]
 | p::ps,l=>if tB l p.2=true then p::yM ps (some p.2) else yM ps l
def wZ (ps:List (Int×Int)):List (Int×Int):=yM (tP ps) none
theorem nJ:∀ (ps:List (Int×Int)) (l:Option Int) (q:Int×Int),q∈yM ps l->q∈ps/\∀ m,l=some m->q.2<m
 | [],l,q,h=>by simp[yM] at h
 | p::ps,l,q,h=>by
  unfold yM at h
  split at h
  ·rename_i c
   have hm:∀ m,l=some m->p.2<m:=λ m e=>by subst e;simpa [tB] using c
   rcases Ai.mp h with e | e
   ·subst e;exact⟨Ap,hm⟩
   ·obtain⟨h1,h2⟩:=nJ ps _ q e
    exact⟨Ax _ h1,λ m e=>by have:=h2 _ rfl;have:=hm m e;lia⟩
  ·obtain⟨h1,h2⟩:=nJ ps _ q h
   exact⟨Ax _ h1,h2⟩
theorem gX:∀ (ps:List (Int×Int)) (l:Option Int),ps.Pairwise p9->vt (yM ps l)
 | [],l,_=>by simp[yM,vt]
 | p::ps,l,h=>by
  have h1:=Bz.mp h
  unfold yM
  split
  ·refine Bz.mpr ⟨λ q hq=>?_,gX ps _ h1.2⟩
   obtain⟨g1,g2⟩:=nJ ps _ q hq
   have:=h1.1 q g1
   have:=g2 _ rfl
   unfold p9 at *
   lia
  ·exact gX ps _ h1.2
theorem gY:∀ (ps:List (Int×Int)) (l:Option Int),ps.Pairwise p9->∀ p∈ps,(∃ q∈yM ps l,q.1<=p.1/\q.2<=p.2)\/∃ m,l=some m/\m<=p.2
 | [],l,_,p,hp=>by cases hp
 | r::ps,l,h,p,hp=>by
  have h1:=Bz.mp h
  unfold yM
  split
  ·rename_i c
   rcases Ai.mp hp with e | e
   ·subst e;exact .inl ⟨p,Ap,AQ _,AQ _⟩
   ·rcases gY ps (some r.2) h1.2 p e with ⟨q,q1,q2⟩ | ⟨m,e1,e2⟩
    ·exact .inl ⟨q,Ax _ q1,q2⟩
    ·cases e1
     have:=h1.1 p e
     unfold p9 at this
     exact .inl ⟨r,Ap,by lia,e2⟩
  ·rename_i c
   rcases Ai.mp hp with e | e
   ·subst e
    cases l with
    | none=>simp[tB] at c
    | some m=>exact .inr ⟨m,rfl,by simpa [tB] using c⟩
   ·exact gY ps l h1.2 p e
def gJ (ps:List (Int×Int)):vt (wZ ps):=gX _ _ (cB ps)
def Q3 {ps:List (Int×Int)}{q:Int×Int}(h:q∈wZ ps):q∈ps:=(jQ ps).mem_iff.mp (nJ _ _ q h).1
def k6 (ps:List (Int×Int)) (q:Int×Int):yb (wZ ps) q=yb ps q:=by
 rw[<- OK (jQ ps) q,BL,x9,x9]
 constructor
 ·rintro⟨p,h1,h2⟩
  exact⟨p,(nJ _ _ p h1).1,h2⟩
 ·rintro⟨p,h1,h2⟩
  rcases gY (tP ps) none (cB ps) p h1 with ⟨r,r1,r2⟩ | ⟨m,e,_⟩
  ·exact⟨r,r1,by lia,by lia⟩
  ·cases e
end L5
namespace L2
open PySem PySem.Spec PyProof.Rows
section
variable {X:Cx}
def bw (K:Ab):R2:=λ x y H Q=>∃ l b xs zs,x=.ref l/\y=.ref b/\zO K H l xs/\zO K H b zs/\xs.length+zs.length<=sizeLine/\∀ p,H p=none->Q (.ref p) (upd H p (.lst (xs++zs)))
def Tx:yd X (binaryOp .Add) (bw X.K):=by
 intro EC s Y H x y v u Q I rx ry h
 obtain⟨l,b,xs,zs,rfl,rfl,hH,hB,hz,q⟩:=h
 cases rx
 cases ry
 obtain⟨its,r,p1,_⟩:=I.list hH
 obtain⟨Fm,r2,p2,_⟩:=I.list hB
 obtain⟨⟨cls,dd,data,sl⟩,ho,hc,n,hd⟩:=p1.isList
 obtain⟨⟨Ib,Hj,data2,He⟩,GU,Gu,n2,hd2⟩:=p2.isList
 simp only at hc hd Gu hd2
 subst hc hd Gu hd2
 have e:its.toArray++Fm.toArray=(its++Fm).toArray:=by simp
 refine concat_meets ⟨_,ho,rfl⟩ ⟨_,GU,rfl⟩ noFill_list_add seq_list_add PySem.F.slot_list_add PySem.F.entry_list_add (PySem.F.args_list_add_2 _ _) (list_addW l b its.toArray Fm.toArray n n2 dd Hj sl He (by rw[AA,AA,<- r.length,<- r2.length];exact hz)) ⟨ho,GU,?_⟩
 rw[e]
 exact⟨.ref _,_,I.Qu (t':=s.toks) (r.append r2) (by rw[B6];lia),rfl,q _ I.fresh⟩
def br (K:Ab):R2:=λ x y H Q=>∃ a b ys,x=.ref a/\y=.ref b/\zX K H a []/\zX K H b ys/\Q (.ref b) H
def Tv:yd X (binaryOp .Add) (br X.K):=by
 intro EC s Y H x y v u Q I rx ry h
 obtain⟨l,b,ys,rfl,rfl,hH,hB,q⟩:=h
 cases rx
 cases ry
 obtain⟨its,r,p1,_⟩:=I.tuple hH
 obtain⟨Fm,r2,p2,_⟩:=I.tuple hB
 obtain⟨⟨cls,dd,data,sl⟩,ho,hc,n,hd⟩:=id p1
 obtain⟨⟨Ib,Hj,data2,He⟩,GU,Gu,n2,hd2⟩:=id p2
 simp only at hc hd Gu hd2
 subst hc hd Gu hd2
 exact concat_meets ⟨_,ho,rfl⟩ ⟨_,GU,rfl⟩ noFill_tuple_add seq_tuple_add PySem.F.slot_tuple_add PySem.F.entry_tuple_add (PySem.F.args_tuple_add_2 _ _)
   (tuple_addW0 l b its.toArray Fm.toArray n n2 dd Hj sl He (by cases r;rfl)) ⟨ho,GU,⟨.ref b,H,I,rfl,q⟩⟩
end
end L2
namespace L5
open PySem PySem.Spec L2 L3
open PyProof.Rows hiding St
section
variable {X:Cx}{K:Ab}{a b c e:Expr}{es:List Expr}{ta tb tc te:zu}{tA:yk}{pos p:Pos}
def u4.mo:xx u4:=λ x y S Q Q' hq h=>by
 cases x with
 | int i=>cases y <;> first | exact hq _ _ h | exact h
 | str i=>cases y <;> first | exact⟨h.1,hq _ _ h.2⟩ | exact h
 | tup i=>cases y <;> first | exact⟨h.1,hq _ _ h.2⟩ | exact h
 | xP ds=>
  unfold u4 at h ⊢
  dsimp only at h ⊢
  split at h
  ·exact⟨h.1,h.2.1,λ r hr=>hq _ _ (h.2.2 r hr)⟩
  ·exact h.elim
 | ref q=>
  unfold u4 at h ⊢
  dsimp only at h ⊢
  split at h
  ·exact⟨h.1,h.2.1,λ r hr=>hq _ _ (h.2.2 r hr)⟩
  ·exact h.elim
 | _=>exact h
def rV {H:Hp}{S:SS}{d:D}{v:V}{ds:List D}(r:zh K H d v) (p:zE K H S) (e:zN d S=some ds) (n:∀ ts,d≠.tup ts):∃ a xs,v=.ref a/\zO K H a xs/\zo K H ds xs:=by
 unfold zN at e
 split at e
 ·exact absurd rfl (n _)
 ·cases e
  simp only[zh] at r
  obtain⟨a,xs,h1,h2,h3⟩:=r
  exact⟨a,xs,h1,h2.sq,h3⟩
 ·split at e
  ·rename_i q
   cases e
   simp only[zh] at r
   subst r
   obtain⟨xs,h1,h2⟩:=p _ _ q
   exact⟨_,xs,rfl,zO.of h1,h2⟩
  ·cases e
 ·cases e
abbrev bz (K:Ab):R2:=λ x y H Q=>wW (λ i j=>.int (i+j)) x y H Q\/((∃ i j,x=.str i/\y=.str j/\i.length+j.length<=sizeLine/\Q (.str (i++j)) H)\/(bw K x y H Q\/(br K x y H Q\/bu K x y H Q)))
def u4.fits:xj K u4 (bz K):=λ x y d e H S Q h1 h2 h3 h=>by
 have lst:(∀ ts,d≠.tup ts)->(match zN d S,zN e S with
  | some ds,some es=>(∀ ts,e≠.tup ts)/\ds.length+es.length<=sizeLine/\∀ r,S r=none->wb K H Q (.ref r) (ups S r (.lst (ds++es)))
  | _,_=>False)->bz K x y H Q:=λ n h=>by
  split at h
  ·rename_i ds es q1 q2
   obtain⟨a,xs,rfl,g1,g2⟩:=rV h1 h3 q1 n
   obtain⟨b,ys,rfl,g3,g4⟩:=rV h2 h3 q2 h.1
   refine .inr (.inr (.inl ⟨a,b,xs,ys,rfl,rfl,g1,g3,by rw[<- g2.length,<- g4.length];exact h.2.1,λ p hp=>?_⟩))
   exact h.2.2 p (h3.none hp) _ _ (by simp only[zh]) (.new hp _) (h3.ups (.new hp _) ⟨_,ye,zo.ext (.new hp _) _ (g2.append g4)⟩)
  ·exact h.elim
 cases d with
 | int i=>
  cases e with
  | int j=>
   simp only[zh] at h1 h2
   exact .inl ⟨_,_,h1,h2,h _ H (by simp only[zh]) (.refl H) h3⟩
  | _=>exact h.elim
 | str i=>
  cases e with
  | str j=>
   simp only[zh] at h1 h2
   exact .inr (.inl ⟨_,_,h1,h2,h.1,h.2 _ H (by simp only[zh]) (.refl H) h3⟩)
  | _=>exact h.elim
 | tup ds=>
  cases e with
  | tup es=>
   have GX:=h1
   have Ko:=h2
   simp only[zh] at h1 h2
   obtain⟨a,xs,rfl,g1,g2⟩:=h1
   obtain⟨b,ys,rfl,g3,g4⟩:=h2
   have hl:=g2.length
   have Gm:=g4.length
   by_cases hx:xs=[]
   ·subst hx
    have:ds=[]:=by cases ds <;> simp_all
    subst this
    exact .inr (.inr (.inr (.inl ⟨a,b,ys,rfl,rfl,g1,g3,h.2 _ H Ko (.refl H) h3⟩)))
   ·refine .inr (.inr (.inr (.inr ⟨a,b,xs,ys,rfl,rfl,g1,g3,hx,by rw[<- hl,<- Gm];exact h.1,λ hy=>?_,λ hy p hp=>?_⟩)))
    ·subst hy
     have:es=[]:=by cases es <;> simp_all
     subst this
     refine h.2 _ H ?_ (.refl H) h3
     rw[Ci];exact GX
    ·refine h.2 _ _ ?_ (.new hp _) (h3.new hp)
     simp only[zh]
     exact⟨p,_,rfl,zX.of ye,zo.ext (.new hp _) _ (g2.append g4)⟩
  | _=>exact h.elim
 | xP ds=>exact lst (λ _=>nofun) h
 | ref q=>exact lst (λ _=>nofun) h
 | _=>exact h.elim
def xm (ha:PD X a ta) (hb:PD X b tb):PD X (.BinOp a .Add b pos) (yw u4 ta tb):=pj (T2.or (Tz.or (Tx.or (Tv.or Tw)))) u4.fits u4.mo ha hb
def vK.mo {g:List Bool->Bool}:vW (vK g):=λ ds S Q Q' hq h=>by
 unfold vK at h ⊢
 split at h
 ·exact h.elim
 ·obtain⟨bs,h1,h2⟩:=h
  exact⟨bs,h1,hq _ _ h2⟩
 ·exact h.elim
def vK.fits {g:List Bool->Bool}:uS K (vK g) (λ xs H Q=>∃ p,∃ bs:List Bool,xs=[.ref p]/\zO K H p (bs.map V.bl)/\Q (.bl (g bs)) H):=λ xs ds H S Q h0 h2 h=>by
 unfold vK at h
 split at h
 ·exact h.elim
 ·rename_i d hn
  obtain⟨x,hx,h1⟩:=h0.one;subst hx
  obtain⟨bs,e,h⟩:=h
  obtain⟨a,ys,rfl,g1,g2⟩:=rV h1 h2 e (λ ts z=>hn ts z)
  rw[g2.bools] at g1
  exact⟨a,bs,rfl,g1,h _ H (by simp only[zh]) (.refl H) h2⟩
 ·exact h.elim
def bX (hm:X.mg "all"=none) (ha:xi X (e::es) tA) (hc:X.calm=true:=by rfl) (hg:Gl X "all":=by rfl) (he:starEach (e::es) X.env=(false,eval e X.env)::starEach es X.env:=by rfl) (Am:(backTo pos (starEach es X.env)).any (·.1)=false:=by rfl):PD X (.Call (.Name "all" p) (e::es) [] pos) (xE (vK λ bs=>bs.all id) tA):=
 uZ (uG (Nw hc) hg hm boot_all ha.pa (by decide) (by decide) he Am) vK.mo vK.fits ha.mo
def Tb (hm:X.mg "any"=none) (ha:xi X (e::es) tA) (hc:X.calm=true:=by rfl) (hg:Gl X "any":=by rfl) (he:starEach (e::es) X.env=(false,eval e X.env)::starEach es X.env:=by rfl) (Am:(backTo pos (starEach es X.env)).any (·.1)=false:=by rfl):PD X (.Call (.Name "any" p) (e::es) [] pos) (xE (vK λ bs=>bs.any id) tA):=
 uZ (uG (Nv hc) hg hm boot_any ha.pa (by decide) (by decide) he Am) vK.mo vK.fits ha.mo
def QU {H:Hp}{d:D}{v:V}(r:zh K H d v):decide (v=.zk)=pD d:=by
 cases d with
 | tup _=>simp only[zh] at r;obtain⟨a,xs,rfl,_⟩:=r;rfl
 | xP _=>simp only[zh] at r;obtain⟨a,xs,rfl,_⟩:=r;rfl
 | err _ _ _=>simp only[zh] at r;obtain⟨a,_,_,_,rfl,_⟩:=r;rfl
 | _=>simp only[zh] at r;subst r;rfl
def bP (ha:PD X a ta):PD X (.UnaryOp .USub a pos) (Yd ta):=by
 refine⟨fun L S Q Q' hq h=>ha.mo L S _ _ (λ x S1 z=>by
  cases x <;> first
   | exact hq _ _ z
   | exact z) h,PE.imp (Um Wc ha.pe) fun Y H Q hu=>?_⟩
 obtain⟨L,S,r1,r2,h⟩:=hu
 refine zK.go ha.mo r1 r2 h λ x S1 v H1 h1 q1 e1 p1=>?_
 cases x with
 | int i=>simp only[zh] at q1;exact⟨i,q1,h1 _ H1 (by simp only[zh]) e1 p1⟩
 | _=>exact h1.elim
section
variable {N':List Str}{pick:List (Option Nat)}{scope:Scope}{tg elt iter:Expr}{ifs:List Expr}{ti:wO}{g:xF}{Hd:yC}
def sg.mo (hi:jm ti):yn (sg pick ti g Hd te):=fun L S Q Q' hq z=>hi L S _ _ (λ I S1 ⟨h1,h2,h3⟩=>⟨h1,h2,λ p hp=>by
 obtain⟨W,w0,w1,w2,w3⟩:=h3 p hp
 exact⟨W,w0,w1,w2,λ S2 acc a b c=>hq _ _ (w3 S2 acc a b c)⟩⟩) z
def cm (hi:jm ti) (hg:jn g) (hc:wU Hd) (he:yn te) {Y:St}{H:Hp}{Q:VK}(hu:zK K (sg pick ti g Hd te) Y H Q):jK pick (wF K ti) (l9 K g) (xW K Hd) (zK K te) Y H Q:=by
 obtain⟨L,S,r1,r2,z⟩:=hu
 refine⟨L,S,r1,r2,hi L S _ _ (λ I S1 hF J H1 e1 p1 rep D hD=>?_) z⟩
 obtain⟨hlen,hk,hF⟩:=hF
 have Kh:S1 D=none:=p1.none hD
 obtain⟨W,w0,wm,Ir,JG⟩:=hF D Kh
 refine⟨λ i m Y H2=>m=I.items.length-i/\i<=I.items.length/\Ext H1 H2/\yx K H2 (um pick L) Y/\∃ S2 acc,zE K H2 S2/\Sx S1 S2/\S2 D=some (.lst acc)/\acc.length<=i/\W i S2 acc,⟨_,rfl,AO _,.new hD _,((r1.ext e1).pick pick).ext (.new hD _),ups S1 D (.lst []),[],?_,.new Kh _,sN,Aj _,?_⟩,?_⟩
 ·exact p1.ups (.new hD _) ⟨[],ye,.nil⟩
 ·exact wm 0 S1 _ [] (λ b o hb q=>by rw[tL hb];exact q) w0
 rintro i m Y2 H2 ⟨rfl,Gy,x2,q1,S2,acc,q2,sx,JC,AU,hW⟩
 obtain⟨g1,g2⟩:=rep i H2 S2 x2 q2 (hk S2 sx)
 by_cases hl:i<I.items.length
 ·have hd:I.items[i]?=some I.items[i]:=by simp[hl]
  obtain⟨go,yl⟩:=g1 _ hd
  refine .inr ⟨go,λ x H3 hy=>?_⟩
  obtain⟨x3,p3,d3⟩:=yl x H3 hy
  refine⟨_,_,S2,d3,q1.ext x3,p3,hg _ _ S2 _ _ (fun L4 S4 z4 Y4 H4 a1 a2 a3=>?_) (Ir i _ S2 acc hd sx JC hW)⟩
  obtain⟨hle,z4⟩:=z4
  refine xW.go hc a1 a3 z4 λ b S5 H5 z5 x5 p5=>wA (λ z5=>?_) (λ z5=>?_) z5
  ·refine zK.go he (a1.ext x5) p5 z5 λ y S6 v H6 z6 q6 x6 p6=>?_
   obtain⟨s6,hW6⟩:=z6
   obtain⟨ys,h6,r6⟩:=p6 _ _ (s6 _ _ JC)
   have e6:Ext H6 (upd H6 D (.lst (ys++[v]))):=.lst h6 _
   have hlen2:ys.length<=i:=by rw[<- r6.length];exact AU
   refine⟨ys,I.items.length-(i+1),h6,by lia,by lia,rfl,hl,((((x2.trans x3).trans a2).trans x5).trans x6).trans e6,hle.rep ((a1.ext (x5.trans x6)).ext e6),ups S6 D (.lst (acc++[y])),acc++[y],?_,λ b o hb=>?_,sN,by simp;lia,?_⟩
   ·exact p6.ups e6 ⟨_,ye,zo.ext e6 _ (r6.snoc q6)⟩
   ·rw[tL (by intro q;subst q;rw[Kh] at hb;cases hb)]
    exact s6 _ _ (sx _ _ hb)
   ·exact wm _ S6 _ _ (λ b o hb q=>by rw[tL hb];exact q) hW6
  ·obtain⟨s5,hW5⟩:=z5
   exact⟨I.items.length-(i+1),by lia,rfl,hl,((x2.trans x3).trans a2).trans x5,hle.rep (a1.ext x5),S5,acc,p5,sx.trans s5,s5 _ _ JC,by lia,hW5⟩
 ·have e:i=I.items.length:=by lia
  subst e
  exact .inl ⟨g2 (Aj _),JG S2 acc sx JC hW _ H2 (by simp only[zh]) (e1.trans x2) q2⟩
def sW (Sc:qH X N' pick scope) (hc:X.calm=true) (hi:rB X tg iter ti) (hg:∀ cl C s H fp,rC (yP X N' scope cl C s H fp) tg g) (hf:∀ cl C s H fp,jg (yP X N' scope cl C s H fp) ifs Hd) (he:∀ cl C s H fp,PD (yP X N' scope cl C s H fp) elt te)
  (hs:∀ x,foldedSetIterable iter X.env x=pure x:=by intro _;rfl):
  PD X (.ListComp elt [⟨tg,iter,ifs,0⟩] scope pos) (sg pick ti g Hd te):=
 ⟨sg.mo hi.mo,λ EC s Y H Q I hu=>Uv (g:=l9 X.K g) (tc:=xW X.K Hd) (te:=zK X.K te) Sc hc hi.pi (λ cl C s H fp=>(hg cl C s H fp).pg) (λ cl C s H fp=>(hf cl C s H fp).pf) (λ cl C s H fp=>(he cl C s H fp).pe) hs EC s Y H Q I (cm hi.mo (hg [] 0 s H []).mo (hf [] 0 s H []).mo (he [] 0 s H []).mo hu)⟩
def l_ {i:Nat}{y:Str}{py BQ:Pos}(Sc:qH X N' pick scope) (hc:X.calm=true) (hi:rB X tg iter ti) (hg:∀ cl C s H fp,rC (yP X N' scope cl C s H fp) tg g) (hf:∀ cl C s H fp,jg (yP X N' scope cl C s H fp) ifs Hd) (he:∀ cl C s H fp,PD (yP X N' scope cl C s H fp) elt te)
  (hN:X.N.Nodup) (hy:X.N[i]?=some y) (hx:Loc X.env.scope y)
  (BS:swapsWith (.ListComp elt [⟨tg,iter,ifs,0⟩] scope pos) (some (.Name y py)) BQ.line X.env=pure true:=by rfl)
  (Cb:X.fn y=true\/X.env.scope.names.lookup y=some .local:=by first | exact .inl rfl | exact .inr rfl | assumption)
  (hs:∀ x,foldedSetIterable iter X.env x=pure x:=by intro _;rfl):
  vV X (.Assign [.Name y py] (.ListComp elt [⟨tg,iter,ifs,0⟩] scope pos) BQ) (t8 (sg pick ti g Hd te) (hName i)):=by
 refine⟨t8.mo (sg.mo hi.mo) λ _ _ _ _ _ hq z=>hq _ _ z,λ EC s Y H D I hu=>VM (g:=l9 X.K g) (tc:=xW X.K Hd) (te:=zK X.K te) Sc hc hi.pi (λ cl C s H fp=>(hg cl C s H fp).pg) (λ cl C s H fp=>(hf cl C s H fp).pf) (λ cl C s H fp=>(he cl C s H fp).pe) hN hy hx BS Cb hs EC s Y H D I ?_⟩
 obtain⟨L,S,r1,r2,z⟩:=hu
 refine cm hi.mo (hg [] 0 s H []).mo (hf [] 0 s H []).mo (he [] 0 s H []).mo ⟨L,S,r1,r2,sg.mo hi.mo L S _ _ (λ x S1 z v H1 q1 e1 p1=>?_) z⟩
 exact z _ H1 ((r1.ext e1).set i q1) e1 p1
end
end
section
variable {P:Program}{w:World}{K:Ab}{mg:Aq}{base:Heap}{f:Addr}{fd:FuncData}
def Z8 {R:Rk} [Lo R] {x:Str}{st:Stmt}{N ps:List Str}{k n:Nat}{g:Sm}(F:vh K x x st f fd) (Sc:zY N ps (zy st)) (hn:n=ps.length)
  (Fb:∀ (Af:Value) (A:Around) (outer:List Env) (s:Shared) (H:Hp) (E:XK),ya k (A.deeper (envOfC x (zy st) s.heap.objs.size f Af))->
   ∃ t,uB (wC xI P w K mg base N x (zy st) f Af A outer s H E).vA (xD st) t/\ym R g t):xy P w K mg base xI (k+1) f fd ps (tM K (zI R (z_ N n g))):=
 PY F Sc (λ ds S Q h=>by rw[h.len,hn]) λ Af A outer s H E hr=>by
  obtain⟨t,h1,h2⟩:=Fb Af A outer s H E hr
  exact⟨t,h1,λ ds S Q h=>Yx h2 h⟩
def Oh {R:Rk} [Lo R] {x:Str}{st:Stmt}{N ps:List Str}{k n:Nat}{g:Sm}(F:vh K x x st f fd) (hm:mg x=some (.ref f)) (Sc:zY N ps (zy st)) (hn:n=ps.length)
  (hb:∀ (kV doc pm:Value) (an:Option Addr) (Af ct:Value) (us:Ad),us.length=ps.length->bindArgs (PySem.W.fnOf x x (vO st) (xD st) (zy st) .none kV doc pm an Af ct) ⟨us,[]⟩=pure (ps.zip us))
  (Fb:∀ (Af:Value) (A:Around) (outer:List Env) (s:Shared) (H:Hp) (E:XK),ya k (A.deeper (envOfC x (zy st) s.heap.objs.size f Af))->
   ∃ t,uB (wC xI P w K mg base N x (zy st) f Af A outer s H E).vA (xD st) t/\ym R g t):FD P w K mg base x (k+1) ps (zI R (z_ N n g)):=
 ⟨⟨f,fd,Z8 F Sc hn Fb,hm,F.kp,F.binds hb⟩,zI.mo⟩
def QC {R:Rk} [Sr R] {F:List T->Option T}(hF:∀ ns:List Int,ns.length<=63->F [.lst (ns.map T.int)]=some (.bl true)) {H:Hp}{a:Addr}{ns:List Int}{E:XK}(hO:jh H) (hS:zO K H a (ns.map V.int)) (hl:ns.length<=63):tM K (zI R F) [.ref a] H (λ v _=>v=.bl true) E:=by
 have hFz:pV K H a (ns.map V.int):=by
  rcases hS with (h | h) | h
  ·rcases hO a with z | ⟨o,xs,z⟩
   ·rw[h] at z;cases z
   ·rw[h] at z;cases z
  ·exact .inl h
  ·exact .inr h
 refine⟨[.xP (ns.map D.int)],λ _=>none,.cons ?_ .nil,(λ a o z=>nomatch z),λ _=>False,[.lst (ns.map T.int)],.bl true,nofun,.cons ?_ .nil,hF ns hl,λ d S' s r v H' rv _ _=>?_⟩
 ·simp only[zh]
  exact⟨a,_,rfl,hFz,zo.gj ns⟩
 ·simp only[Sn]
  exact⟨_,.inl ⟨rfl,T3 ns⟩,tQ.mpr rfl⟩
 ·have:=Sr.sn r
  simp only[Sn] at this
  subst this
  simpa only [zh] using rv
end
end L5
namespace ST
open PySem PySem.SetTable
def uR (xs:List Nat):Prop:=xs.Pairwise (· < ·)
def fq {xs:Array Nat}{m d:Nat}(h:m<xs.size):xs.getD m d=xs[m]:=by simp[Array.getD,h]
theorem ej (xs:Array Nat) (j:Nat) (hr:uR xs.toList):∀ (f lo hi:Nat),hi-lo<=f->lo<=hi->hi<=xs.size->(∀ i (h:i<xs.size),i<lo->xs[i]<j)->(∀ i (h:i<xs.size),hi<=i->j<=xs[i])->
  below.go xs j f lo hi<=xs.size/\(∀ i (h:i<xs.size),i<below.go xs j f lo hi->xs[i]<j)/\∀ i (h:i<xs.size),below.go xs j f lo hi<=i->j<=xs[i]
 | 0,lo,hi,h1,h2,h3,h4,h5=>by
  unfold below.go
  have:lo=hi:=by lia
  subst this
  exact⟨h3,h4,h5⟩
 | f+1,lo,hi,h1,h2,h3,h4,h5=>by
  unfold below.go
  have wH:∀ i k (hi:i<xs.size) (hk:k<xs.size),i<=k->xs[i]<=xs[k]:=λ i k hi hk DM=>by
   rcases Bs i k with q | q
   ·have r:=Cs.mp hr i k (by simpa using hi) (by simpa using hk) q
    rw[Cp,Cp] at r
    exact BO r
   ·have:i=k:=by lia
    subst this;exact Aj _
  by_cases hl:lo<hi
  ·rw[if_pos hl]
   dsimp only
   have hm:(lo+hi)/2<xs.size:=by lia
   rw[fq hm]
   by_cases c:xs[(lo+hi)/2]<j
   ·rw[if_pos c]
    refine ej xs j hr f _ hi (by lia) (by lia) h3 (λ i Gy Ao=>?_) h5
    have:=wH i ((lo+hi)/2) Gy hm (by lia)
    lia
   ·rw[if_neg c]
    refine ej xs j hr f lo _ (by lia) (by lia) (by lia) h4 (λ i Gy hge=>?_)
    have:=wH ((lo+hi)/2) i hm Gy hge
    lia
  ·rw[if_neg hl]
   have:lo=hi:=by lia
   subst this
   exact⟨h3,h4,h5⟩
def jd {xs:Array Nat}{j:Nat}(hr:uR xs.toList):below xs j<=xs.size/\(∀ i (h:i<xs.size),i<below xs j->xs[i]<j)/\∀ i (h:i<xs.size),below xs j<=i->j<=xs[i]:=
 ej xs j hr xs.size 0 xs.size (by lia) (by lia) (Aj _) (λ i h q=>by lia) (λ i h q=>by lia)
def below_at {xs:Array Nat}{j i:Nat}(hr:uR xs.toList) (h:xs[i]?=some j):below xs j=i:=by
 obtain⟨h1,h2,h3⟩:=jd (j:=j) hr
 obtain⟨hi,e⟩:=Array.getElem?_eq_some_iff.mp h
 have a:¬ i<below xs j:=λ q=>by have:=h2 i hi q;lia
 have b:¬ below xs j<i:=λ q=>by
  have:=h3 (below xs j) (by lia) (Aj _)
  have r:=Cs.mp hr (below xs j) i (by simp;lia) (by simpa using hi) q
  simp at r
  lia
 lia
def N4 {xs:Array Nat}{j:Nat}(hr:uR xs.toList):(xs[below xs j]?=some j)↔j∈xs.toList:=by
 constructor
 ·intro h
  obtain⟨hi,e⟩:=Array.getElem?_eq_some_iff.mp h
  rw[<- e];simp
 ·intro h
  obtain⟨i,hi,e⟩:=B3.mp h
  have hx:xs[i]?=some j:=by
   simp at hi
   simp[hi] at e ⊢;exact e
  rw[below_at hr hx];exact hx
noncomputable def u9 (M:Nat) (p:Probe):Probe:=
 if p.more>0 then { p with j:=p.j+1,more:=p.more-1 } else
 let (i,perturb):=leap M p.i p.perturb
 { p with j:=i,more:=runEnd M i-i,i,perturb }
def eE (t:SetTable) (p:Probe):t.advance p=u9 t.mask p:=rfl
noncomputable def qT (M i perturb:Nat):Probe:={ j:=i,more:=runEnd M i-i,i:=i,perturb:=perturb,dummy:=none }
noncomputable def way (M:Nat) (h:Int):Nat->Probe
 | 0=>qT M (bits h%(M+1)) (bits h)
 | k+1=>u9 M (way M h k)
def NC (M:Nat) (p:Probe) (h:p.dummy=none):(u9 M p).dummy=none:=by
 unfold u9
 split
 ·exact h
 ·exact h
theorem jE (M:Nat) (h:Int):∀ k,(way M h k).dummy=none
 | 0=>rfl
 | k+1=>NC M _ (jE M h k)
noncomputable def zV (M:Nat) (h:Int):Nat->Nat×Nat
 | 0=>(bits h%(M+1),bits h)
 | n+1=>leap M (zV M h n).1 (zV M h n).2
theorem iH (M i pt:Nat) (h:Int) (k:Nat) (hk:way M h k=qT M i pt):∀ m,m<=runEnd M i-i->way M h (k+m)={ j:=i+m,more:=runEnd M i-i-m,i:=i,perturb:=pt,dummy:=none }
 | 0,_=>by rw[Nat.add_zero,hk];rfl
 | m+1,hm=>by
  have ih:=iH M i pt h k hk m (by lia)
  show u9 M (way M h (k+m))=_
  rw[ih]
  unfold u9
  rw[if_pos (by show runEnd M i-i-m>0;lia)]
  simp only[Probe.mk.injEq]
  exact⟨by lia,by lia,trivial,trivial,trivial⟩
def Vs (M i:Nat):runEnd M i-i<=9:=by unfold runEnd;split <;> lia
def cW (M:Nat) (h:Int) (n k:Nat) (hk:way M h k=qT M (zV M h n).1 (zV M h n).2):way M h (k+(runEnd M (zV M h n).1-(zV M h n).1)+1)=qT M (zV M h (n+1)).1 (zV M h (n+1)).2:=by
 have:=iH M _ _ h k hk _ (Aj _)
 show u9 M (way M h (k+_))=_
 rw[this]
 unfold u9
 rw[if_neg (by show ¬ _-_-(_-_)>0;lia)]
 rfl
theorem cX (M:Nat) (h:Int):∀ n,∃ k,k<=10*n/\way M h k=qT M (zV M h n).1 (zV M h n).2
 | 0=>⟨0,by lia,rfl⟩
 | n+1=>by
  obtain⟨k,h1,h2⟩:=cX M h n
  have:=Vs M (zV M h n).1
  exact⟨_,by lia,cW M h n k h2⟩
def N2 (h:Int):bits h<2 ^ 64:=by
 unfold bits
 have h1:=DB h (show (2 ^ 64:Int)≠0 by decide)
 have h2:=Int.emod_lt_of_pos h (show (0:Int)<2 ^ 64 by decide)
 lia
theorem bC (M:Nat) (h:Int):∀ n,(zV M h n).2*32 ^ n<=bits h
 | 0=>by simp[zV]
 | n+1=>by
  have ih:=bC M h n
  show ((zV M h n).2/32)*32 ^ (n+1)<=_
  have:(zV M h n).2/32*32<=(zV M h n).2:=Nat.div_mul_le_self _ _
  calc (zV M h n).2/32*32 ^ (n+1)=((zV M h n).2/32*32)*32 ^ n:=by rw[Nat.pow_succ,DA (32 ^ n) 32,Nat.mul_assoc]
   _<=(zV M h n).2*32 ^ n:=Nat.mul_le_mul_right _ this
   _<=_:=ih
def Uk (M:Nat) (h:Int) (n:Nat) (hn:13<=n):(zV M h n).2=0:=by
 rcases Nat.eq_zero_or_pos (zV M h n).2 with q | q
 ·exact q
 ·have h1:=bC M h n
  have h2:=N2 h
  have h3:32 ^ 13<=32 ^ n:=Nat.pow_le_pow_right (by decide) hn
  have h4:1*32 ^ n<=(zV M h n).2*32 ^ n:=Nat.mul_le_mul_right _ q
  have h5:(2:Nat) ^ 64<32 ^ 13:=by decide
  lia
noncomputable def tU (M:Nat) (i:Nat):Nat->Nat
 | 0=>i
 | n+1=>(tU M i n*5+1)%(M+1)
theorem aQ (M:Nat) (h:Int):∀ n,(zV M h (13+n)).1=tU M (zV M h 13).1 n
 | 0=>rfl
 | n+1=>by
  have ih:=aQ M h n
  have hz:=Uk M h (13+n) (by lia)
  show ((zV M h (13+n)).1*5+1+(zV M h (13+n)).2/32)%(M+1)=_
  rw[hz,ih]
  rfl
theorem nr (M i:Nat):∀ a b,tU M i (a+b)=tU M (tU M i a) b
 | a,0=>rfl
 | a,b+1=>by
  show (tU M i (a+b)*5+1)%(M+1)=_
  rw[nr M i a b];rfl
noncomputable def nq (M:Nat):Nat->Nat->List Nat
 | 0,_=>[]
 | n+1,i=>i::nq M n ((i*5+1)%(M+1))
theorem gf (M:Nat):∀ n i x,x∈nq M n i->∃ k,k<n/\tU M i k=x
 | 0,i,x,h=>by cases h
 | n+1,i,x,h=>by
  rcases Ai.mp h with e | e
  ·exact⟨0,by lia,e.symm⟩
  ·obtain⟨k,h1,h2⟩:=gf M n _ x e
   exact⟨k+1,by lia,by rw[Nat.add_comm,nr];exact h2⟩
def vq (M:Nat):Prop:=M=7\/M=31\/M=127
def Te (M:Nat) (hM:vq M):(∀ e,e<=M->e∈nq M (M+1) 0)/\tU M 0 (M+1)=0:=by
 have key:∀ M,((List.range (M+1)).all λ e=>(nq M (M+1) 0).contains e)=true->∀ e,e<=M->e∈nq M (M+1) 0:=λ M h e he=>by
  have:=Bj.mp h e (AR.mpr (by lia))
  simpa using this
 rcases hM with rfl | rfl | rfl
 ·exact⟨key 7 (AG),AG⟩
 ·exact⟨key 31 (AG),AG⟩
 ·exact⟨key 127 (AG),AG⟩
def Td (M:Nat) (hM:vq M) (i e:Nat) (hi:i<=M) (he:e<=M):∃ n,n<=M/\tU M i n=e:=by
 obtain⟨h1,h2⟩:=Te M hM
 obtain⟨a,a1,a2⟩:=gf M _ _ _ (h1 i hi)
 obtain⟨b,b1,b2⟩:=gf M _ _ _ (h1 e he)
 rcases Bs b a with q | q
 ·refine⟨M+1+b-a,by lia,?_⟩
  rw[<- a2,<- nr,show a+(M+1+b-a)=(M+1)+b by lia,nr,h2,b2]
 ·refine⟨b-a,by lia,?_⟩
  rw[<- a2,<- nr,show a+(b-a)=b by lia,b2]
theorem Q4 (M:Nat) (h:Int):∀ n,(zV M h n).1<=M
 | 0=>by have:=C4 (bits h) (show 0<M+1 by lia);show bits h%(M+1)<=M;lia
 | n+1=>by
  have:=C4 ((zV M h n).1*5+1+(zV M h n).2/32) (show 0<M+1 by lia)
  show (_%(M+1):Nat)<=M
  lia
def aR (M:Nat) (hM:vq M) (h:Int) (e:Nat) (he:e<=M):∃ n,n<M+14/\(zV M h n).1=e:=by
 obtain⟨n,h1,h2⟩:=Td M hM (zV M h 13).1 e (Q4 M h 13) he
 exact⟨13+n,by lia,by rw[aQ,h2]⟩
def XW (M:Nat) (hM:vq M) (h:Int) (e:Nat) (he:e<=M):∃ k,k<10*(M+15)/\(way M h k).j=e:=by
 obtain⟨n,h1,h2⟩:=aR M hM h e he
 obtain⟨k,k1,k2⟩:=cX M h n
 exact⟨k,by lia,by rw[k2];exact h2⟩
theorem dU (M:Nat) (h:Int):∀ k,(way M h k).j+(way M h k).more<=M/\(way M h k).i<=M
 | 0=>by
  have h1:bits h%(M+1)<=M:=by have:=C4 (bits h) (show 0<M+1 by lia);lia
  refine⟨?_,h1⟩
  show bits h%(M+1)+(runEnd M (bits h%(M+1))-bits h%(M+1))<=M
  unfold runEnd;split <;> lia
 | k+1=>by
  obtain⟨h1,h2⟩:=dU M h k
  show (u9 M (way M h k)).j+(u9 M (way M h k)).more<=M/\(u9 M (way M h k)).i<=M
  unfold u9
  split
  ·rename_i c
   exact⟨by show (way M h k).j+1+((way M h k).more-1)<=M;lia,h2⟩
  ·have h3:((way M h k).i*5+1+(way M h k).perturb/32)%(M+1)<=M:=by have:=C4 ((way M h k).i*5+1+(way M h k).perturb/32) (show 0<M+1 by lia);lia
   refine⟨?_,h3⟩
   show _%(M+1)+(runEnd M (_%(M+1))-_%(M+1))<=M
   unfold runEnd;split <;> lia
def jD (M:Nat) (h:Int) (k:Nat):(way M h k).j<=M:=by have:=(dU M h k).1;lia
structure Tab (t:SetTable) (hs:List Int):Prop where
 mask:vq t.mask
 rn:t.dummies=#[]
 len:t.place.size=hs.length
 wH:uR t.place.toList
 top:∀ j∈t.place.toList,j<=t.mask
 oX:∀ (i:Nat) h j,hs[i]?=some h->t.place[i]?=some j->∃ k,(way t.mask h k).j=j/\∀ k'<k,(way t.mask h k').j∈t.place.toList
theorem Tab.live {t:SetTable}{hs:List Int}(T:Tab t hs) {i j:Nat}(h:t.place[i]?=some j):t.slot j=.live i:=by
 unfold SetTable.slot
 dsimp only
 rw[below_at T.wH h,if_pos (by rw[h];simp)]
theorem Tab.empty {t:SetTable}{hs:List Int}(T:Tab t hs) {j:Nat}(h:j∉t.place.toList):t.slot j=.empty:=by
 unfold SetTable.slot
 dsimp only
 have n1:¬ (t.place[below t.place j]? == some j)=true:=λ q=>h ((N4 T.wH).mp (by simpa using q))
 rw[if_neg n1,if_neg (by rw[T.rn];simp[has])]
theorem Tab.at {t:SetTable}{hs:List Int}(T:Tab t hs) {j:Nat}(h:j∈t.place.toList):∃ (i:Nat) (g:Int),t.place[i]?=some j/\hs[i]?=some g:=by
 obtain⟨i,hi,e⟩:=B3.mp h
 have Gy:i<t.place.size:=by simpa using hi
 refine⟨i,hs[i]'(by rw[<- T.len];exact Gy),?_,by simp⟩
 rw[Bk Gy]
 rw[Cp] at e
 rw[e]
theorem Zy {t:SetTable}{hs:List Int}(T:Tab t hs) {hashAt:Nat->Int}(hA:∀ (i:Nat) g,hs[i]?=some g->hashAt i=g) (h:Int):∀ (f k:Nat),(∃ e,k<=e/\e<k+f/\(way t.mask h e).j∉t.place.toList)->
  ∃ k1,k<=k1/\(∀ m,k<=m->m<k1->∃ (i:Nat) (g:Int),t.place[i]?=some (way t.mask h m).j/\hs[i]?=some g/\g≠h)/\
   ((way t.mask h k1).j∉t.place.toList/\probe.go t hashAt h f (way t.mask h k)=some (.empty (way t.mask h k1).j none)\/
    ∃ i,t.place[i]?=some (way t.mask h k1).j/\hs[i]?=some h/\probe.go t hashAt h f (way t.mask h k)=some (.candidate (way t.mask h k1).j i (way t.mask h (k1+1))))
 | 0,k,⟨e,h1,h2,_⟩=>by lia
 | f+1,k,⟨e,h1,h2,h3⟩=>by
  by_cases hm:(way t.mask h k).j∈t.place.toList
  ·obtain⟨i,g,p1,p2⟩:=T.at hm
   by_cases hg:g=h
   ·refine⟨k,Aj _,λ m a b=>by lia,.inr ⟨i,p1,by rw[<- hg];exact p2,?_⟩⟩
    unfold probe.go
    rw[T.live p1]
    dsimp only
    rw[hA i g p2,if_pos (by simp[hg]),eE]
    rfl
   ·have An:e≠k:=λ q=>by subst q;exact h3 hm
    obtain⟨k1,q1,q2,q3⟩:=Zy T hA h f (k+1) ⟨e,by lia,by lia,h3⟩
    have eq:probe.go t hashAt h (f+1) (way t.mask h k)=probe.go t hashAt h f (way t.mask h (k+1)):=by
     conv=>lhs;unfold probe.go
     rw[T.live p1]
     dsimp only
     rw[hA i g p2,if_neg (by simp[hg]),eE]
     rfl
    rw[eq]
    refine⟨k1,by lia,λ m a b=>?_,q3⟩
    rcases Nat.eq_or_lt_of_le a with w | w
    ·subst w;exact⟨i,g,p1,p2,hg⟩
    ·exact q2 m w b
  ·refine⟨k,Aj _,λ m a b=>by lia,.inl ⟨hm,?_⟩⟩
   unfold probe.go
   rw[T.empty hm,jE]
def ax {xs ys:List Nat}(hx:xs.Nodup) (h:∀ x∈xs,x∈ys):xs.length<=ys.length:=by
 induction xs generalizing ys with
 | nil=>simp
 | cons x xs ih=>
  have h1:=Bh.mp hx
  have hxy:=h x Ap
  have:=ih h1.2 (ys:=ys.erase x) λ z hz=>by
   have An:z≠x:=λ e=>h1.1 (e▸hz)
   exact (DV An).mpr (h z (Ax _ hz))
  rw[DU hxy] at this
  have hp:=DT hxy
  simp only[AW]
  lia
def least {P:Nat->Prop}(k:Nat) (h:P k):∃ m,m<=k/\P m/\∀ m'<m,¬ P m':=by
 induction k using Nat.strongRecOn with
 | ind k ih=>
  rcases Classical.em (∃ m',m'<k/\P m') with ⟨m',h1,h2⟩ | q
  ·obtain⟨m,g1,g2⟩:=ih m' h1 h2
   exact⟨m,by lia,g2⟩
  ·exact⟨k,Aj _,h,λ m' hm hp=>q ⟨m',hm,hp⟩⟩
def P_ {xs:List Nat}{M:Nat}(h:xs.length<=M):∃ e,e<=M/\e∉xs:=by
 rcases Classical.em (∃ e,e<=M/\e∉xs) with q | q
 ·exact q
 ·have:=ax (xs:=List.range (M+1)) (ys:=xs) DS λ e he=>by
   have:=AR.mp he
   rcases Classical.em (e∈xs) with w | w
   ·exact w
   ·exact absurd ⟨e,by lia,w⟩ q
  simp at this
  lia
def eO (t:SetTable) (h:Int) (j:Nat):Prop:=j∉t.place.toList/\∃ k,(way t.mask h k).j=j/\∀ k'<k,(way t.mask h k').j∈t.place.toList
def Tab.first {t:SetTable}{hs:List Int}(T:Tab t hs) (hl:hs.length<=t.mask) (h:Int):∃ K,K<10*(t.mask+15)/\(way t.mask h K).j∉t.place.toList/\∀ k'<K,(way t.mask h k').j∈t.place.toList:=by
 obtain⟨e,e1,e2⟩:=P_ (xs:=t.place.toList) (M:=t.mask) (by rw[BB,T.len];exact hl)
 obtain⟨k,k1,k2⟩:=XW t.mask T.mask h e e1
 obtain⟨K,q1,q2,q3⟩:=least (P:=λ n=>(way t.mask h n).j∉t.place.toList) k (by rw[k2];exact e2)
 exact⟨K,by lia,q2,λ k' hk=>Classical.not_not.mp (q3 k' hk)⟩
def Vx {xs:List Nat}{j p:Nat}(h:uR xs) (h1:∀ x∈xs.take p,x<j) (h2:∀ x∈xs.drop p,j<x):uR (xs.take p++j::xs.drop p):=by
 refine List.pairwise_append.mpr ⟨h.sublist (List.take_sublist _ _),Bz.mpr ⟨h2,h.sublist (List.drop_sublist _ _)⟩,λ a ha b hb=>?_⟩
 rcases Ai.mp hb with e | e
 ·subst e;exact h1 a ha
 ·have:=h1 a ha;have:=h2 b e;lia
def Zq {α:Type}{xs:List α}{p i:Nat}{x y:α}(hp:p<=xs.length) (h:(xs.take p++x::xs.drop p)[i]?=some y):(i=p/\y=x)\/(i<p/\xs[i]?=some y)\/(p<i/\xs[i-1]?=some y):=by
 have hl:(xs.take p).length=p:=by rw[DY];lia
 rcases Dz i p with q | q | q
 ·rw[Ct (by lia),List.getElem?_take,if_pos q] at h
  exact .inr (.inl ⟨q,h⟩)
 ·subst q
  rw[C8 (by lia),hl] at h
  simp at h
  exact .inl ⟨rfl,h.symm⟩
 ·rw[C8 (by lia),hl] at h
  obtain⟨d,hd⟩:∃ d,i-p=d+1:=⟨i-p-1,by lia⟩
  rw[hd] at h
  simp only[DR,List.getElem?_drop] at h
  refine .inr (.inr ⟨q,?_⟩)
  rw[show i-1=p+d by lia];exact h
theorem Tab.put {t:SetTable}{hs:List Int}(T:Tab t hs) {h:Int}{j:Nat}(F:eO t h j):
  (t.put j).2<=hs.length/\(t.put j).1={ t with place:=insertAt t.place (t.put j).2 j }/\Tab (t.put j).1 (hs.take (t.put j).2++h::hs.drop (t.put j).2):=by
 obtain⟨b1,b2,b3⟩:=jd (xs:=t.place) (j:=j) T.wH
 obtain⟨fn,K,k1,k2⟩:=F
 have e2:(t.put j).2=below t.place j:=rfl
 have e1:(t.put j).1={ t with place:=insertAt t.place (t.put j).2 j }:=by
  show ({ t with place:=insertAt t.place (below t.place j) j,dummies:=_ }:SetTable)=_
  rw[if_neg (by rw[T.rn];simp[has]),e2]
 have pl:(insertAt t.place (below t.place j) j).toList=t.place.toList.take (below t.place j)++j::t.place.toList.drop (below t.place j):=toList_insertAt _ _ _
 have old:∀ x∈t.place.toList,x∈(insertAt t.place (below t.place j) j).toList:=λ x hx=>by
  rw[pl]
  have:=DQ (below t.place j) t.place.toList
  rw[<- this] at hx
  rcases A0.mp hx with q | q
  ·exact CQ _ q
  ·exact AY _ (Ax _ q)
 rw[e2] at e1 ⊢
 refine⟨by rw[<- T.len];exact b1,e1,?_⟩
 rw[e1]
 refine⟨T.mask,T.rn,?_,?_,?_,?_⟩
 ·show (insertAt t.place (below t.place j) j).size=_
  rw[<- BB,pl]
  simp[T.len]
 ·show uR (insertAt t.place (below t.place j) j).toList
  rw[pl]
  refine Vx T.wH (λ x hx=>?_) (λ x hx=>?_)
  ·obtain⟨i,hi,e⟩:=B3.mp hx
   rw[DY] at hi
   rw[List.getElem_take,Cp] at e
   rw[<- e];exact b2 i (by simp at hi;lia) (by lia)
  ·obtain⟨i,hi,e⟩:=B3.mp hx
   rw[List.length_drop] at hi
   rw[List.getElem_drop,Cp] at e
   have h3:=b3 (below t.place j+i) (by simp at hi;lia) (by lia)
   have hm:x∈t.place.toList:=List.mem_of_mem_drop hx
   have An:x≠j:=λ q=>fn (q▸hm)
   lia
 ·intro x hx
  show x<=t.mask
  have hx:x∈(insertAt t.place (below t.place j) j).toList:=hx
  rw[pl] at hx
  rcases A0.mp hx with q | q
  ·exact T.top x (List.mem_of_mem_take q)
  ·rcases Ai.mp q with e | e
   ·subst e;rw[<- k1];exact jD _ _ _
   ·exact T.top x (List.mem_of_mem_drop e)
 ·intro i g x hg hx
  show ∃ k,(way t.mask g k).j=x/\∀ k'<k,(way t.mask g k').j∈(insertAt t.place (below t.place j) j).toList
  have hx:(insertAt t.place (below t.place j) j)[i]?=some x:=hx
  rw[<- BK,pl] at hx
  have Am:below t.place j<=t.place.toList.length:=by simpa using b1
  have Ee:below t.place j<=hs.length:=by rw[<- T.len];exact b1
  rcases Zq Am hx with ⟨c1,c2⟩ | ⟨c1,c2⟩ | ⟨c1,c2⟩ <;> rcases Zq Ee hg with ⟨d1,d2⟩ | ⟨d1,d2⟩ | ⟨d1,d2⟩ <;> first
   | lia
   | (subst c2 d2;exact⟨K,k1,λ k' hk=>old _ (k2 k' hk)⟩)
   | (obtain⟨k,g1,g2⟩:=T.oX _ g x d2 (by rw[<- BK];exact c2)
      exact⟨k,g1,λ k' hk=>old _ (g2 k' hk)⟩)
def rG (owner:Array (Option Nat)) (j:Nat):Prop:=∃ k,owner[j]?=some (some k)
def Od {P:Nat->Bool}{n k:Nat}(h:(List.range n).find? P=some k):k<n/\P k=true/\∀ k'<k,P k'=false:=by
 obtain⟨h1,as,bs,h2,h3⟩:=List.find?_eq_some_iff_append.mp h
 have hlen:as.length=k:=by
  have e:(List.range n)[as.length]?=some k:=by rw[h2];simp
  have:=(AK.mp e)
  obtain⟨q1,q2⟩:=this
  rw[DW] at q2
  exact q2
 have hk:k<n:=by
  have:k∈List.range n:=by rw[h2];simp
  exact AR.mp this
 refine⟨hk,h1,λ k' Gr=>?_⟩
 have:k'∈as:=by
  have e:(List.range n)[k']?=some k':=List.getElem?_range (by lia)
  rw[h2,Ct (by lia)] at e
  exact Bl e
 have:=h3 k' this
 simpa using this
def getD_none {owner:Array (Option Nat)}{j:Nat}(h:((owner.getD j (some 0)).isNone)=true):owner[j]?=some none:=by
 unfold Array.getD at h
 split at h
 ·rename_i hj
  have e:owner[j]=none:=by simpa using h
  rw[Bk hj,e]
 ·simp at h
def Z2 {owner:Array (Option Nat)}{j:Nat}(hj:j<owner.size) (h:((owner.getD j (some 0)).isNone)=false):rG owner j:=by
 unfold Array.getD at h
 rw[dif_pos hj] at h
 cases q:owner[j] with
 | none=>simp[q] at h
 | some k=>exact⟨k,by rw[Bk hj,q]⟩
theorem Z6 (M:Nat) (owner:Array (Option Nat)) (hsz:owner.size=M+1) (h:Int):∀ (fuel n kn:Nat),way M h kn=qT M (zV M h n).1 (zV M h n).2->(∀ q<kn,rG owner (way M h q).j)->
  (∃ n',n<=n'/\n'<n+fuel/\owner[(zV M h n').1]?=some none)->
  ∃ j q,layClean.free M owner fuel (zV M h n).1 (zV M h n).2=some j/\(way M h q).j=j/\owner[j]?=some none/\∀ q'<q,rG owner (way M h q').j
 | 0,n,kn,_,_,⟨n',h1,h2,_⟩=>by lia
 | fuel+1,n,kn,hk,ho,⟨n',h1,h2,h3⟩=>by
  have hre:runEnd M (zV M h n).1+1-(zV M h n).1=runEnd M (zV M h n).1-(zV M h n).1+1:=by unfold runEnd;split <;> lia
  have GK:∀ m,m<=runEnd M (zV M h n).1-(zV M h n).1->(way M h (kn+m)).j=(zV M h n).1+m:=λ m hm=>by rw[iH M _ _ h kn hk m hm]
  unfold layClean.free
  cases hf:(List.range (runEnd M (zV M h n).1+1-(zV M h n).1)).find? (λ k=>(owner.getD ((zV M h n).1+k) (some 0)).isNone) with
  | some k=>
   obtain⟨f1,f2,f3⟩:=Od hf
   refine⟨_,kn+k,rfl,GK k (by lia),getD_none f2,λ q' hq=>?_⟩
   rcases Bs q' kn with w | w
   ·exact ho q' w
   ·have e:(way M h q').j=(zV M h n).1+(q'-kn):=by
     have:=GK (q'-kn) (by lia)
     rwa [show kn+(q'-kn)=q' by lia] at this
    have hle:=jD M h q'
    rw[e] at hle ⊢
    exact Z2 (by lia) (f3 (q'-kn) (by lia))
  | none=>
   have f3:=List.find?_eq_none.mp hf
   have occ:∀ m,m<=runEnd M (zV M h n).1-(zV M h n).1->rG owner ((zV M h n).1+m):=λ m hm=>by
    have hle:=jD M h (kn+m)
    rw[GK m hm] at hle
    exact Z2 (by lia) (Bool.eq_false_iff.mpr (f3 m (AR.mpr (by lia))))
   have An:n'≠n:=λ e=>by
    subst e
    obtain⟨k,Gr⟩:=occ 0 (AO _)
    rw[Nat.add_zero] at Gr
    rw[Gr] at h3;cases h3
   dsimp only
   obtain⟨j,q,r1,r2⟩:=Z6 M owner hsz h fuel (n+1) _ (cW M h n kn hk) (λ q hq=>by
    rcases Bs q kn with w | w
    ·exact ho q w
    ·have e:=GK (q-kn) (by lia)
     rw[show kn+(q-kn)=q by lia] at e
     rw[e];exact occ _ (by lia)) ⟨n',by lia,by lia,h3⟩
   exact⟨j,q,r1,r2⟩
structure Lay (M:Nat) (hs:List Int) (owner:Array (Option Nat)) (m:Nat):Prop where
 size:owner.size=M+1
 below:∀ (j k:Nat),owner[j]?=some (some k)->k<m
 each:∀ (k:Nat),k<m->∃ (j:Nat),owner[j]?=some (some k)
 once:∀ (i j k:Nat),owner[i]?=some (some k)->owner[j]?=some (some k)->i=j
 oX:∀ (j k:Nat) h,owner[j]?=some (some k)->hs[k]?=some h->∃ q,(way M h q).j=j/\∀ q'<q,rG owner (way M h q').j
theorem Lay.none {M:Nat}(hM:vq M) {hs:List Int}{owner:Array (Option Nat)}{m:Nat}(L:Lay M hs owner m) (hm:m<=M):∃ (e:Nat),e<=M/\owner[e]?=some Option.none:=by
 rcases Classical.em (∃ (e:Nat),e<=M/\owner[e]?=some Option.none) with q | q
 ·exact q
 ·exfalso
  have Aw:∀ (e:Nat),e<=M->∃ (k:Nat),owner[e]?=some (some k):=λ e he=>by
   have Ao:e<owner.size:=by rw[L.size];lia
   cases w:owner[e] with
   | none=>exact absurd ⟨e,he,by rw[Bk Ao,w]⟩ q
   | some k=>exact⟨k,by rw[Bk Ao,w]⟩
  have:=ax (xs:=(List.range (M+1)).map λ e=>((owner[e]?).getD Option.none).getD 0) (ys:=List.range m) (by
   refine Cf.mpr (List.Pairwise.imp_of_mem ?_ DS)
   intro a b ha hb An e
   refine An ?_
   obtain⟨k,hk⟩:=Aw a (by have:=AR.mp ha;lia)
   obtain⟨k',Gr⟩:=Aw b (by have:=AR.mp hb;lia)
   rw[hk,Gr] at e
   simp at e
   subst e
   exact L.once a b k hk Gr) (λ x hx=>by
   obtain⟨e,he,rfl⟩:=Ay.mp hx
   obtain⟨k,hk⟩:=Aw e (by have:=AR.mp he;lia)
   rw[hk]
   exact AR.mpr (L.below e k hk))
  simp at this
  lia
def lL {α:Type}{xs:Array α}{j i:Nat}{a b:α}(h:(xs.setIfInBounds j a)[i]?=some b):(i=j/\b=a)\/(i≠j/\xs[i]?=some b):=by
 rw[Dy] at h
 by_cases e:j=i
 ·subst e
  rw[if_pos rfl] at h
  split at h
  ·cases h;exact .inl ⟨rfl,rfl⟩
  ·cases h
 ·rw[if_neg e] at h;exact .inr ⟨λ q=>e q.symm,h⟩
def Lay.step {M:Nat}(hM:vq M) {hs:List Int}{owner:Array (Option Nat)}{m:Nat}{h:Int}(L:Lay M hs owner m) (hm:m<=M) (hh:hs[m]?=some h):
  ∃ j,layClean.free M owner (turns M) (bits h%(M+1)) (bits h)=some j/\Lay M hs (owner.setIfInBounds j (some m)) (m+1):=by
 obtain⟨e,e1,e2⟩:=L.none hM hm
 obtain⟨n',n1,n2⟩:=aR M hM h e e1
 obtain⟨j,q,r1,r2,r3,r4⟩:=Z6 M owner L.size h (turns M) 0 0 rfl (λ q hq=>by lia) ⟨n',by lia,by unfold turns;lia,by rw[n2];exact e2⟩
 have hj:j<owner.size:=(Array.getElem?_eq_some_iff.mp r3).1
 have keep:∀ x,rG owner x->rG (owner.setIfInBounds j (some m)) x:=λ x ⟨k,hk⟩=>by
  have An:j≠x:=λ w=>by subst w;rw[r3] at hk;cases hk
  exact⟨k,by rw[Dy,if_neg An];exact hk⟩
 have self:(owner.setIfInBounds j (some m))[j]?=some (some m):=by rw[Dy,if_pos rfl,if_pos hj]
 refine⟨j,r1,⟨by simp[L.size],λ x k hx=>?_,λ k hk=>?_,λ x y k hx hy=>?_,λ x k g hx hg=>?_⟩⟩
 ·rcases lL hx with ⟨_,w⟩ | ⟨_,w⟩
  ·cases w;lia
  ·have:=L.below x k w;lia
 ·rcases Bs k m with w | w
  ·obtain⟨x,hx⟩:=L.each k w
   have An:j≠x:=λ w=>by subst w;rw[r3] at hx;cases hx
   exact⟨x,by rw[Dy,if_neg An];exact hx⟩
  ·have:k=m:=by lia
   subst this;exact⟨j,self⟩
 ·rcases lL hx with ⟨w1,w⟩ | ⟨w1,w⟩ <;> rcases lL hy with ⟨v1,v⟩ | ⟨v1,v⟩
  ·lia
  ·cases w;have:=L.below y _ v;lia
  ·cases v;have:=L.below x _ w;lia
  ·exact L.once x y k w v
 ·rcases lL hx with ⟨w1,w⟩ | ⟨w1,w⟩
  ·cases w
   rw[hh] at hg;cases hg
   subst w1
   exact⟨q,r2,λ q' hq=>keep _ (r4 q' hq)⟩
  ·obtain⟨q,g1,g2⟩:=L.oX x k g w hg
   exact⟨q,g1,λ q' hq=>keep _ (g2 q' hq)⟩
theorem aV {M:Nat}(hM:vq M) {hs:List Int}(hl:hs.length<=M+1):∀ (EI:List Int) (owner:Array (Option Nat)) (m:Nat),m<=hs.length->hs.drop m=EI->Lay M hs owner m->
  ∃ G3,EI.foldl (λ acc h=>do
   let (owner,k) <- acc
   let j <- layClean.free M owner (turns M) (bits h%(M+1)) (bits h)
   pure (owner.setIfInBounds j (some k),k+1)) (some (owner,m))=some (G3,hs.length)/\Lay M hs G3 hs.length
 | [],owner,m,Hh,hd,L=>by
  have hm:hs.length<=m:=List.drop_eq_nil_iff.mp hd
  have e:m=hs.length:=by lia
  subst e;exact⟨owner,rfl,L⟩
 | h::EI,owner,m,Hh,hd,L=>by
  have hm:hs[m]?=some h:=by
   have:=congrArg (λ l=>l[0]?) hd
   simpa using this
  have Ao:m<hs.length:=(AK.mp hm).1
  obtain⟨j,j1,j2⟩:=L.step hM (by lia) hm
  have Hq:hs.drop (m+1)=EI:=by
   have:=congrArg List.tail hd
   simpa using this
  obtain⟨o',h1,h2⟩:=aV hM hl EI _ (m+1) (by lia) Hq j2
  refine⟨o',?_,h2⟩
  rw[Dx,<- h1]
  show _=_
  congr 1
  show ((layClean.free M owner (turns M) (bits h%(M+1)) (bits h)).bind λ j=>some (owner.setIfInBounds j (some m),m+1))=_
  rw[j1];rfl
def Q7 (M:Nat) (hs:List Int):Lay M hs (Array.replicate (M+1) Option.none) 0:=by
 have no:∀ (j k:Nat),(Array.replicate (M+1) (Option.none:Option Nat))[j]?≠some (some k):=λ j k h=>by
  rw[Array.getElem?_replicate] at h
  split at h <;> cases h
 exact⟨by simp,λ j k h=>absurd h (no j k),λ k hk=>by lia,λ i j k h=>absurd h (no i k),λ j k h e=>absurd e (no j k)⟩
def Q8 {M:Nat}(hM:vq M) (hashes:Array Int) (hl:hashes.size<=M+1):∃ owner,layClean M hashes=some owner/\Lay M hashes.toList owner hashes.size:=by
 obtain⟨o,h1,h2⟩:=aV hM (hs:=hashes.toList) (by simpa using hl) hashes.toList _ 0 (AO _) (by simp) (Q7 M _)
 refine⟨o,?_,by simpa using h2⟩
 unfold layClean
 rw[<- Array.foldl_toList,h1]
 rfl
noncomputable def lives (M:Nat) (owner:Array (Option Nat)):List (Nat×Nat):=(List.range (M+1)).filterMap λ j=>(owner.getD j Option.none).map (j,·)
def getD_some {owner:Array (Option Nat)}{j k:Nat}:owner.getD j Option.none=some k↔owner[j]?=some (some k):=by
 unfold Array.getD
 split
 ·rename_i h
  rw[Bk h]
  simp
 ·rename_i h
  rw[CK (by lia)]
  simp
def qg {M:Nat}{owner:Array (Option Nat)}(hs:owner.size=M+1) {j k:Nat}:(j,k)∈lives M owner↔owner[j]?=some (some k):=by
 unfold lives
 rw[CP]
 constructor
 ·rintro⟨x,hx,e⟩
  obtain⟨y,e1,e2⟩:=AB.mp e
  cases e2
  exact getD_some.mp e1
 ·intro h
  have hj:=(Array.getElem?_eq_some_iff.mp h).1
  exact⟨j,AR.mpr (by lia),by rw[getD_some.mpr h];rfl⟩
def aL (M:Nat) (owner:Array (Option Nat)):(lives M owner).Pairwise λ a b=>a.1<b.1:=by
 unfold lives
 rw[List.pairwise_filterMap]
 refine List.Pairwise.imp ?_ List.pairwise_lt_range
 intro a b CY x hx y hy
 obtain⟨_,_,e1⟩:=AB.mp hx
 obtain⟨_,_,e2⟩:=AB.mp hy
 subst e1 e2
 exact CY
def aW {M:Nat}(hM:vq M) (finger moves:Nat) (led plain:Bool) (hashes:Array Int) (hl:hashes.size<=M+1):
  ∃ t order,laid M finger moves led plain hashes=some (t,order)/\t.mask=M/\t.finger=finger/\t.led=led/\t.plain=plain/\order.toList.Perm (List.range hashes.size)/\Tab t (order.toList.map λ k=>hashes.toList.getD k 0):=by
 obtain⟨owner,h1,L⟩:=Q8 hM hashes hl
 refine⟨_,_,by unfold laid;rw[h1];rfl,rfl,rfl,rfl,rfl,?_,?_⟩
 ·show ((lives M owner).map (·.2)).toArray.toList.Perm _
  rw[C3]
  refine (DP ?_ DS).mpr λ k=>?_
  ·refine Cf.mpr (List.Pairwise.imp_of_mem ?_ (aL M owner))
   intro a b ha hb CY e
   have h2:=(qg L.size (j:=a.1) (k:=a.2)).mp ha
   have h3:=(qg L.size (j:=b.1) (k:=b.2)).mp hb
   have e:a.2=b.2:=e
   rw[e] at h2
   have:=L.once _ _ _ h2 h3
   lia
  ·rw[AR]
   constructor
   ·intro h
    obtain⟨⟨j,k'⟩,h2,rfl⟩:=Ay.mp h
    exact L.below j _ ((qg L.size).mp h2)
   ·intro h
    obtain⟨j,hj⟩:=L.each k h
    exact Ay.mpr ⟨(j,k),(qg L.size).mpr hj,rfl⟩
 ·have pl:∀ x,x∈(lives M owner).map (·.1)↔rG owner x:=λ x=>by
   constructor
   ·intro h
    obtain⟨⟨j,k⟩,h2,rfl⟩:=Ay.mp h
    exact⟨k,(qg L.size).mp h2⟩
   ·rintro⟨k,hk⟩
    exact Ay.mpr ⟨(x,k),(qg L.size).mpr hk,rfl⟩
  refine⟨hM,rfl,?_,?_,?_,?_⟩
  ·show ((lives M owner).map (·.1)).toArray.size=(((lives M owner).map (·.2)).toArray.toList.map _).length
   simp
  ·show uR ((lives M owner).map (·.1)).toArray.toList
   rw[C3]
   exact Cf.mpr (aL M owner)
  ·intro x hx
   show x<=M
   have hx:x∈((lives M owner).map (·.1)).toArray.toList:=hx
   rw[C3] at hx
   obtain⟨k,hk⟩:=(pl x).mp hx
   have:=(Array.getElem?_eq_some_iff.mp hk).1
   rw[L.size] at this
   lia
  ·intro i g x hg hx
   have hx:((lives M owner).map (·.1)).toArray[i]?=some x:=hx
   have hg:(((lives M owner).map (·.2)).toArray.toList.map λ k=>hashes.toList.getD k 0)[i]?=some g:=hg
   rw[List.getElem?_toArray,AE] at hx
   rw[C3,AE,AE] at hg
   obtain⟨p,p1,p2⟩:=AB.mp hx
   rw[p1] at hg
   simp only[Option.map_some,Option.some.injEq] at hg
   obtain⟨j,k⟩:=p
   cases p2
   have hm:=(qg L.size).mp (Bl p1)
   have hk:=L.below _ _ hm
   obtain⟨q,q1,q2⟩:=L.oX _ k g hm (by rw[<- hg];simp[hk])
   refine⟨q,q1,λ q' hq=>?_⟩
   show _∈((lives M owner).map (·.1)).toArray.toList
   rw[C3]
   exact (pl _).mpr (q2 q' hq)
section
variable {prog:Program}{w:World}{A:Around}{E:Ae}{s:Shared}
abbrev rk (prog:Program) (w:World):HeapKind prog w (List Int):=tupleKind (intKind prog w)
def items_int {ks:List Int}{vs:Ad}(h:ItemsAre (intKind prog w) ks vs):∀ v∈vs,∃ n t,v=.int n t:=by
 induction h with
 | nil=>intro v hv;cases hv
 | cons h1 _ ih=>
  intro v hv
  rcases Ai.mp hv with rfl | hv
  ·obtain⟨t,e⟩:=Value.isInt_shape h1
   exact⟨_,t,e⟩
  ·exact ih v hv
def az {ks:List Int}{a:Addr}{Q:Bool->Shared->Prop}(hk:IsTupleKey (intKind prog w) s.heap ks a) (h:Q false s):wpAny (model prog w) A (ofAClassStatement 8 (.ref a)) Q E s:=by
 have hT:=hk.typeIs
 obtain⟨o,items,n,ho,_,hd,hi⟩:=hk
 unfold ofAClassStatement
 refine JI (wpAny_typeOf hT ?_)
 show wpAny _ _ (pure true >>= _) _ _ s
 refine JI (Ac ?_)
 simp only[CS,Bc,if_false]
 refine JI (KW ho hd ?_)
 dsimp only
 refine JI ?_
 show wpAny _ _ (forIn items _ _) _ _ s
 rw[<- Array.forIn_toList]
 refine wpAny_forIn_list _ (λ EI r s'=>r.1=none/\s'=s/\∀ v∈EI,∃ n t,v=.int n t) _ ?_ ?_ _ _ ⟨rfl,rfl,items_int hi⟩
 ·rintro v EI r s' ⟨hr,rfl,Aw⟩
  obtain⟨m,t,rfl⟩:=Aw v Ap
  show wpAny _ _ (pure false >>= _) _ _ _
  refine JI (Ac ?_)
  simp only[Bc,if_false]
  exact Ac ⟨rfl,rfl,λ u hu=>Aw u (Ax _ hu)⟩
 ·rintro⟨r1,r2⟩ s' ⟨hr,rfl,_⟩
  simp only at hr
  subst hr
  exact Ac h
def Pq {ks:List Int}{a:Addr}{Q:Bool->Shared->Prop}(hk:IsTupleKey (intKind prog w) s.heap ks a) (h:Q true s):wpAny (model prog w) A (hashByValue 8 (.ref a)) Q E s:=by
 have hT:=hk.typeIs
 obtain⟨o,items,n,ho,_,hd,hi⟩:=hk
 unfold hashByValue
 refine JI (wpAny_specialOf hT F.slot_tuple_hash.lookup ?_)
 dsimp only
 refine JI (KW ho hd ?_)
 refine JI ?_
 show wpAny _ _ (forIn items _ _) _ _ s
 rw[<- Array.forIn_toList]
 refine wpAny_forIn_list _ (λ EI r s'=>r.1=none/\s'=s/\∀ v∈EI,∃ n t,v=.int n t) _ ?_ ?_ _ _ ⟨rfl,rfl,items_int hi⟩
 ·rintro v EI r s' ⟨hr,rfl,Aw⟩
  obtain⟨m,t,rfl⟩:=Aw v Ap
  show wpAny _ _ (pure true >>= _) _ _ _
  refine JI (Ac ?_)
  simp only[CS,Bc,if_false]
  exact Ac ⟨rfl,rfl,λ u hu=>Aw u (Ax _ hu)⟩
 ·rintro⟨r1,r2⟩ s' ⟨hr,rfl,_⟩
  simp only at hr
  subst hr
  exact Ac h
def Wa {ks:List Int}{b:Addr}{Q:Bool->Shared->Prop}(hk:IsTupleKey (intKind prog w) s.heap ks b) (l:Ad) (hl:∀ v∈l,∃ k c,v=.ref c/\IsTupleKey (intKind prog w) s.heap k c) (h:Q false s):
  wpAny (model prog w) A (searchCouldBeSeen (.ref b) l) Q E s:=by
 unfold searchCouldBeSeen
 refine JI ?_
 refine wpAny_forIn_list _ (λ EI r s'=>r.1=none/\s'=s/\∀ v∈EI,∃ k c,v=.ref c/\IsTupleKey (intKind prog w) s.heap k c) _ ?_ ?_ _ _ ⟨rfl,rfl,hl⟩
 ·rintro v EI r s' ⟨hr,rfl,Aw⟩
  obtain⟨k,c,rfl,hc⟩:=Aw v Ap
  have Hv:∀ u∈EI,∃ k c,u=Value.ref c/\IsTupleKey (intKind prog w) s'.heap k c:=λ u hu=>Aw u (Ax _ hu)
  dsimp only
  by_cases e:(b == c||(carriedByValue (.ref b)&&carriedByValue (.ref c)))=true
  ·rw[if_pos e]
   exact Ac ⟨rfl,rfl,Hv⟩
  ·rw[if_neg e]
   refine JI ((rk prog w).quiet hk ?_)
   simp only[CS,Bc,if_false]
   refine JI ((rk prog w).quiet hc ?_)
   simp only[CS,Bc,if_false]
   refine JI (az hk ?_)
   simp only[Bc,if_false]
   refine JI (az hc ?_)
   simp only[Bc,if_false]
   exact Ac ⟨rfl,rfl,Hv⟩
 ·rintro⟨r1,r2⟩ s' ⟨hr,rfl,_⟩
  simp only at hr
  subst hr
  exact Ac h
structure rN (h:Heap) (es:Array (Int×Value)) (t:SetTable) (xs:List (List Int×Addr)):Prop where
 es:es.toList=xs.map λ e=>((rk prog w).hash e.1,Value.ref e.2)
 is:∀ e∈xs,IsTupleKey (intKind prog w) h e.1 e.2
 tab:Tab t (xs.map λ e=>(rk prog w).hash e.1)
 nL:xs.length<=t.mask
theorem rN.fits {h:Heap}{es:Array (Int×Value)}{t:SetTable}{xs:List (List Int×Addr)}(X:rN (prog:=prog) (w:=w) h es t xs):t.fits es.size=true:=by
 have hl:es.size=xs.length:=by have:=congrArg List.length X.es;simpa using this
 have h1:=X.tab.len
 rw[AD] at h1
 have h2:=X.nL
 unfold SetTable.fits SetTable.fill
 rw[X.tab.rn,hl,h1]
 simp
 lia
def rN.at {h:Heap}{es:Array (Int×Value)}{t:SetTable}{xs:List (List Int×Addr)}(X:rN (prog:=prog) (w:=w) h es t xs) {i:Nat}{e:List Int×Addr}(he:xs[i]?=some e):es[i]?=some ((rk prog w).hash e.1,Value.ref e.2):=by
 rw[<- BK,X.es,AE,he];rfl
theorem cO {a:Addr}{o:Obj}{es:Array (Int×Value)}{ep:Nat}{t:SetTable}{xs:List (List Int×Addr)}{key:List Int}{b:Addr}{Q:SetFound->Shared->Prop}
  (hu:A.units<cLine) (ho:s.heap.get? a=some o) (hd:o.data=.set es ep t) (X:rN (prog:=prog) (w:=w) s.heap es t xs) (hb:IsTupleKey (intKind prog w) s.heap key b)
  (h1:key∈xs.map (·.1)->Q (.there none) s) (h2:key∉xs.map (·.1)->∀ j,eO t ((rk prog w).hash key) j->Q (.free j false) s):
  ∀ (fuel k:Nat) (GI:Option Probe),GI.getD (t.probeStart ((rk prog w).hash key))=way t.mask ((rk prog w).hash key) k->(∀ m<k,∃ (i:Nat) (e:List Int×Addr),t.place[i]?=some (way t.mask ((rk prog w).hash key) m).j/\xs[i]?=some e/\e.1≠key)->(∃ K,k<=K/\K<k+fuel/\K<10*(t.mask+15)/\(way t.mask ((rk prog w).hash key) K).j∉t.place.toList/\∀ m<K,(way t.mask ((rk prog w).hash key) m).j∈t.place.toList)->
   wpAny (model prog w) A (setSearchFrom a (.ref b) ((rk prog w).hash key) true fuel GI) Q E s
 | 0,k,GI,_,_,⟨K,q1,q2,_⟩=>by lia
 | fuel+1,k,GI,AJ,IU,⟨K,q1,q2,q3,q4,q5⟩=>by
  have T:=X.tab
  have Ej:t.gaveWay=false:=by
   unfold SetTable.gaveWay
   rcases T.mask with e | e | e <;> rw[e] <;> rfl
  unfold setSearchFrom
  refine JI (KP ho hd X.fits ?_)
  dsimp only
  rw[Ej]
  simp only[Bc,if_false]
  have hA:∀ (i:Nat) g,(xs.map λ e=>(rk prog w).hash e.1)[i]?=some g->((es[i]?).map (·.1)).getD 0=g:=λ i g hg=>by
   rw[AE] at hg
   obtain⟨e,e1,e2⟩:=AB.mp hg
   rw[X.at e1];exact e2
  obtain⟨k1,g1,g2,g3⟩:=Zy T (hashAt:=λ i=>((es[i]?).map (·.1)).getD 0) hA ((rk prog w).hash key) (10*turns t.mask) k ⟨K,q1,by unfold turns;lia,q4⟩
  rw[AJ]
  have look:∀ (i:Nat) g,(xs.map λ e=>(rk prog w).hash e.1)[i]?=some g->∃ e,xs[i]?=some e/\(rk prog w).hash e.1=g:=λ i g hg=>by
   rw[AE] at hg
   obtain⟨e,e1,e2⟩:=AB.mp hg
   exact⟨e,e1,e2⟩
  have Gj:∀ m<k1,∃ (i:Nat) (e:List Int×Addr),t.place[i]?=some (way t.mask ((rk prog w).hash key) m).j/\xs[i]?=some e/\e.1≠key:=λ m hm=>by
   rcases Bs m k with c | c
   ·exact IU m c
   ·obtain⟨i,g,p1,p2,p3⟩:=g2 m c hm
    obtain⟨e,e1,e2⟩:=look i g p2
    exact⟨i,e,p1,e1,λ q=>p3 (by rw[<- e2,q])⟩
  rcases g3 with ⟨n1,n2⟩ | ⟨i,n1,n2,n3⟩
  ·have JW:t.probe _ ((rk prog w).hash key) (way t.mask ((rk prog w).hash key) k)=_:=n2
   simp only[SetTable.probe] at JW ⊢
   erw [n2]
   dsimp only
   refine Ac (h2 (λ hm=>?_) _ ⟨n1,k1,rfl,λ m hm=>?_⟩)
   ·obtain⟨e,he,ek⟩:=Ay.mp hm
    obtain⟨i,hi⟩:=Dw.mp he
    have hh:(xs.map λ e=>(rk prog w).hash e.1)[i]?=some ((rk prog w).hash key):=by rw[AE,hi,<- ek];rfl
    have CV:i<t.place.size:=by rw[T.len];exact (AK.mp hh).1
    obtain⟨kk,w1,w2⟩:=T.oX i _ _ hh (Bk CV)
    rcases Dz kk k1 with c | c | c
    ·obtain⟨i',e',p1,p2,p3⟩:=Gj kk c
     rw[w1] at p1
     have:i=i':=by
      rw[<- below_at T.wH (Bk CV),<- below_at T.wH p1]
     subst this
     rw[hi] at p2;cases p2
     exact p3 ek
    ·subst c;rw[w1] at n1;exact n1 (by simp)
    ·exact n1 (w2 k1 c)
   ·obtain⟨i',e',p1,_⟩:=Gj m hm
    exact Bl (by rw[BK];exact p1)
  ·simp only[SetTable.probe]
   erw [n3]
   dsimp only
   obtain⟨e,e1,e2⟩:=look i _ n2
   have hes:=X.at e1
   have hey:=X.is e (Bl e1)
   have main:wpAny (model prog w) A (holding [Value.ref e.2] (eqBool (.ref e.2) (.ref b)) >>= λ equal=>setState a >>= λ x=>match x with
     | (FT,_,t')=>if (true&&equal)=true then pure (SetFound.there none) else
      match t'.sameMemory t.moves t.mask with
      | some same=>
       have jp:=λ FX=>match FX with
        | none=>do
         rule "set.search.anew"
         setSearchFrom a (.ref b) ((rk prog w).hash key) true fuel none
        | some i'=>if equal=true then pure (SetFound.there (some i')) else setSearchFrom a (.ref b) ((rk prog w).hash key) true fuel (some (way t.mask ((rk prog w).hash key) (k1+1)))
       match if same=true then t'.slot (way t.mask ((rk prog w).hash key) k1).j else Slot.empty with
       | .live i'=>match FT[i']? with
        | some (_,y')=>do
         let r <- isSame y' (.ref e.2)
         let FX <- pure (if r=true then some i' else none)
         jp FX
        | none=>do
         let FX <- pure none
         jp FX
       | _=>do
        let FX <- pure none
        jp FX
      | _=>unsupported "set.changed-during-lookup:is-the-new-block-at-the-old-address") Q E s:=by
    refine JI (KJ ((rk prog w).eqBool hu hey hb ?_))
    refine JI (KP ho hd X.fits ?_)
    dsimp only
    by_cases hk:e.1=key
    ·rw[KU hk]
     simp only[DC,if_true]
     exact Ac (h1 (Ay.mpr ⟨e,Bl e1,hk⟩))
    ·rw[KI hk]
     simp only[CN,Bc,if_false]
     have sm:t.sameMemory t.moves t.mask=some true:=by unfold SetTable.sameMemory;simp
     rw[sm]
     dsimp only
     rw[if_pos rfl,T.live n1]
     dsimp only
     rw[hes]
     dsimp only
     refine JI (wpAny_isSame_ref_self ?_)
     refine JI (Ac ?_)
     rw[if_pos rfl]
     dsimp only
     have hKk:k1<K:=by
      rcases Dz K k1 with c | c | c
      ·obtain⟨i',e',p1,_⟩:=Gj K c
       exact absurd (Bl (by rw[BK];exact p1)) q4
      ·subst c
       exact absurd (Bl (by rw[BK];exact n1)) q4
      ·exact c
     refine cO hu ho hd X hb h1 h2 fuel (k1+1) _ rfl (λ m hm=>?_) ⟨K,by lia,by lia,q3,q4,q5⟩
     rcases Bs m k1 with c | c
     ·exact Gj m c
     ·have:m=k1:=by lia
      subst this
      exact⟨i,e,n1,e1,hk⟩
   rw[hes]
   by_cases hl:t.led=true
   ·rw[hl]
    simp only[CS,Bc,if_false]
    exact main
   ·have Gm:t.led=false:=by simpa using hl
    rw[Gm]
    simp only[Cy,if_true]
    refine JI (Wa hb _ (λ v hv=>?_) ?_)
    ·obtain⟨p,hp,rfl⟩:=Ay.mp hv
     rw[Array.toList_filter,Bu,X.es] at hp
     obtain⟨⟨e',Kd,rfl⟩,_⟩:=(And.intro (Ay.mp hp.1) hp.2)
     exact⟨e'.1,e'.2,rfl,X.is e' Kd⟩
    ·simp only[Bc,if_false]
     exact main
structure vS (prog:Program) (w:World) (h:Heap) (a:Addr) (xs:List (List Int×Addr)) (led:Bool):Prop where
 ex:∃ es ep t,h.get? a=some { cls:=.type "set",dict:=none,data:=.set es ep t }/\rN (prog:=prog) (w:=w) h es t xs/\t.led=led/\t.plain=true/\xs.length*5<t.mask*3
 nd:(xs.map (·.1)).Nodup
def jJ {h h':Heap}{ks:List Int}{b a:Addr}{es:Array (Int×Value)}{ep:Nat}{t:SetTable}{c:Value}{d:Option Addr}{sl:Array (Option Value)}(x:IsTupleKey (intKind prog w) h ks b) (ho:h.get? a=some { cls:=c,dict:=d,data:=.set es ep t,slots:=sl }) (hs:Heap.SameBut a h h'):IsTupleKey (intKind prog w) h' ks b:=by
 obtain⟨o',items,n,FE,hc,Hq,hi⟩:=x
 have An:b≠a:=by
  rintro rfl
  obtain rfl:o'=_:=A5 (FE.symm.trans ho)
  cases Hq
 exact⟨o',items,n,(hs.2 b An).trans FE,hc,Hq,hi⟩
def lY {h:Heap}{a:Addr}{es FT:Array (Int×Value)}{ep:Nat}{t t':SetTable}(ho:h.get? a=some { cls:=.type "set",dict:=none,data:=.set es ep t }):(h.update a (Obj.putSet FT t')).get? a=some { cls:=.type "set",dict:=none,data:=.set FT (ep+1) t' }:=by
 have e:Obj.putSet FT t' { cls:=.type "set",dict:=none,data:=.set es ep t }={ cls:=.type "set",dict:=none,data:=.set FT (ep+1) t' }:=putSet_of FT t' rfl
 have:=KN (Obj.putSet FT t') ho (by rw[e];rfl)
 rw[e] at this;exact this
theorem iW {α β:Type}(l:List α) (f:α->β) (d:β):∀ (order:List Nat),(∀ k∈order,k<l.length)->order.map (λ k=>(l.map f).getD k d)=(order.filterMap λ k=>l[k]?).map f
 | [],_=>rfl
 | k::order,h=>by
  have hk:=h k Ap
  have ih:=iW l f d order λ j hj=>h j (Ax _ hj)
  rw[Au,Cu,A3 hk]
  dsimp only
  rw[Au,ih]
  congr 1
  simp[hk]
def Vz {a:Addr}{es:Array (Int×Value)}{ep:Nat}{t:SetTable}{xs:List (List Int×Addr)}{led:Bool}{wanted M:Nat}{Q:Unit->Shared->Prop}
  (ho:s.heap.get? a=some { cls:=.type "set",dict:=none,data:=.set es ep t }) (X:rN (prog:=prog) (w:=w) s.heap es t xs) (BE:t.led=led) (Am:t.plain=true) (hM:vq M) (hw:sizeAbove wanted=M+1) (AL:xs.length*5<M*3) (BM:(xs.map (·.1)).Nodup)
  (h:∀ h' EY,Heap.SameBut a s.heap h'->vS prog w h' a EY led->EY.Perm xs->Q () { s with heap:=h' }):wpAny (model prog w) A (setRelay a wanted) Q E s:=by
 have hlen:es.size=xs.length:=by have:=congrArg List.length X.es;simpa using this
 have Er:(es.map (·.1)).toList=xs.map λ e=>(rk prog w).hash e.1:=by rw[Array.toList_map,X.es,AZ];rfl
 have hsz:(es.map (·.1)).size=xs.length:=by rw[C6,hlen]
 obtain⟨t',order,h1,h2,h3,h4,h5,h6,h7⟩:=aW hM t.finger (t.movedTo M) t.led t.plain (es.map (·.1)) (by rw[hsz];lia)
 rw[hsz] at h6
 have Ao:∀ k∈order.toList,k<xs.length:=λ k hk=>by simpa using h6.mem_iff.mp hk
 unfold setRelay
 refine JI (KP ho rfl X.fits ?_)
 dsimp only
 rw[if_neg (by rw[hw];rcases hM with e | e | e <;> rw[e] <;> decide)]
 have hr:t.relaid (es.map (·.1)) wanted=some (t',order):=by
  unfold SetTable.relaid
  rw[hw,Nat.add_sub_cancel];exact h1
 rw[hr]
 have BW:(order.filterMap (es[·]?)).toList=(order.toList.filterMap λ k=>xs[k]?).map λ e=>((rk prog w).hash e.1,Value.ref e.2):=by
  rw[Array.toList_filterMap,List.map_filterMap]
  congr 1
  funext k
  rw[<- BK,X.es,AE]
 have EV:(order.toList.filterMap λ k=>xs[k]?).Perm xs:=(h6.filterMap _).trans (by rw[List.filterMap_getElem?_range_length])
 have BR:(order.filterMap (es[·]?)).size=es.size:=by
  rw[<- BB,BW,AD,EV.length_eq,hlen]
 refine JI (m:=_) ?_
 show wpAny _ _ (do
  let some (t,order):=some (t',order) | unsupported "internal:set-table-without-room"
  let FT:=order.filterMap (es[·]?)
  if FT.size != es.size then unsupported "internal:set-table-lost-an-element"
  pure (FT,t)) _ _ _
 dsimp only
 rw[if_neg (by rw[BR];simp)]
 refine Ac ?_
 have Be:(order.filterMap (es[·]?)).size<=sizeLine:=by
  rw[BR,hlen]
  have:sizeLine=16777216:=rfl
  rcases hM with e | e | e <;> subst e <;> lia
 refine wpAny_storeSet_of ho rfl ?_ Be
 have sb:=Heap.SameBut.update s.heap a (Obj.putSet (order.filterMap (es[·]?)) t')
 refine h _ _ sb ⟨⟨_,ep+1,t',lY ho,⟨BW,λ e he=>jJ (X.is e (EV.mem_iff.mp he)) ho sb,?_,?_⟩,by rw[h4];exact BE,by rw[h5];exact Am,?_⟩,(EV.map _).nodup_iff.mpr BM⟩ EV
 ·rw[<- iW xs (λ e=>(rk prog w).hash e.1) 0 order.toList Ao,<- Er]
  exact h7
 ·rw[EV.length_eq,h2];lia
 ·rw[EV.length_eq,h2];exact AL
def cK (n:Nat) (M:Nat) (hM:vq M) (h1:n*5<M*3) (h2:M*3<=(n+1)*5) (hn:n<70):∃ M',vq M'/\sizeAbove (grown (n+1))=M' + 1/\(n+1)*5<M'*3:=by
 rcases hM with e | e | e <;> subst e
 ·have:n=4:=by lia
  subst this;exact⟨31,.inr (.inl rfl),AG,by lia⟩
 ·have:n=18:=by lia
  subst this;exact⟨127,.inr (.inr rfl),AG,by lia⟩
 ·lia
def ND {a:Addr}{xs:List (List Int×Addr)}{key:List Int}{b:Addr}{led:Bool}{Q:Bool->Shared->Prop}(hu:A.units<cLine) (S:vS prog w s.heap a xs led) (hb:IsTupleKey (intKind prog w) s.heap key b) (hn:xs.length<70)
  (h:∀ h' EY r,Heap.SameBut a s.heap h'->vS prog w h' a EY led->(key∈xs.map (·.1)/\EY=xs\/key∉xs.map (·.1)/\EY.Perm (xs++[(key,b)]))->Q r { s with heap:=h' }):
  wpAny (model prog w) A (setAddHashed a (.ref b) ((rk prog w).hash key)) Q E s:=by
 obtain⟨⟨es,ep,t,ho,X,BE,Am,AL⟩,BM⟩:=S
 have hlen:es.size=xs.length:=by have:=congrArg List.length X.es;simpa using this
 unfold setAddHashed setAddHashedIn
 refine KJ (JI (KP ho rfl X.fits ?_))
 dsimp only
 rw[if_neg (by simp[byScan,Value.scannable])]
 obtain⟨K,k1,k2,k3⟩:=X.tab.first (by rw[AD];exact X.nL) ((rk prog w).hash key)
 have hmk:t.mask<=127:=by rcases X.tab.mask with e | e | e <;> lia
 refine JI ?_
 unfold setSearch
 refine cO (key:=key) (b:=b) hu ho rfl X hb (λ hm=>?_) (λ hm j F=>?_) 100000 0 none rfl (λ m hm=>by lia) ⟨K,by lia,by lia,k1,k2,k3⟩
 ·dsimp only
  refine Ac ?_
  have:=h s.heap xs false ⟨rfl,λ _ _=>rfl⟩ ⟨⟨es,ep,t,ho,X,BE,Am,AL⟩,BM⟩ (.inl ⟨hm,rfl⟩)
  exact this
 ·dsimp only
  refine JI (KP ho rfl X.fits ?_)
  dsimp only
  obtain⟨p1,p2,p3⟩:=X.tab.put F
  rw[AD] at p1
  have CA:(t.put j).1.plain=true:=by rw[p2];exact Am
  have Ca:(t.put j).1.mask=t.mask:=by rw[p2]
  have Ao:(t.put j).1.led=led:=by rw[p2];exact BE
  generalize hT:(t.put j)=P at *
  obtain⟨t1,p⟩:=P
  dsimp only at *
  rw[CA]
  simp only[if_true]
  refine JI (Pq hb ?_)
  simp only[if_true]
  let F9:=xs.take p++(key,b)::xs.drop p
  have EV:F9.Perm (xs++[(key,b)]):=by
   have e:xs.take p++xs.drop p=xs:=DQ p xs
   have:F9.Perm ((key,b)::(xs.take p++xs.drop p)):=List.perm_middle
   rw[e] at this
   exact this.trans (List.perm_append_singleton _ _).symm
  have Gw:F9.length=xs.length+1:=by rw[EV.length_eq];simp
  have GW:(insertAt es p ((rk prog w).hash key,Value.ref b)).toList=F9.map λ e=>((rk prog w).hash e.1,Value.ref e.2):=by
   rw[toList_insertAt,X.es]
   simp[F9,Dv,Du]
  have G7:(insertAt es p ((rk prog w).hash key,Value.ref b)).size=xs.length+1:=by rw[<- BB,GW,AD,Gw]
  have Be:(insertAt es p ((rk prog w).hash key,Value.ref b)).size<=sizeLine:=by
   rw[G7]
   have:sizeLine=16777216:=rfl
   lia
  refine JI (wpAny_storeSet_of ho rfl ?_ Be)
  have sb:=Heap.SameBut.update s.heap a (Obj.putSet (insertAt es p ((rk prog w).hash key,Value.ref b)) t1)
  have Ij:=lY (FT:=insertAt es p ((rk prog w).hash key,Value.ref b)) (t':=t1) ho
  have hm7:7<=t.mask:=by rcases X.tab.mask with e | e | e <;> lia
  have X1:rN (prog:=prog) (w:=w) (s.heap.update a (Obj.putSet (insertAt es p ((rk prog w).hash key,Value.ref b)) t1)) (insertAt es p ((rk prog w).hash key,Value.ref b)) t1 F9:=by
   refine⟨GW,λ e he=>?_,?_,by rw[Gw,Ca];lia⟩
   ·rcases A0.mp (EV.mem_iff.mp he) with q | q
    ·exact jJ (X.is e q) ho sb
    ·cases AX.mp q;exact jJ hb ho sb
   ·have:F9.map (λ e=>(rk prog w).hash e.1)=(xs.map λ e=>(rk prog w).hash e.1).take p++(rk prog w).hash key::(xs.map λ e=>(rk prog w).hash e.1).drop p:=by simp[F9,Dv,Du]
    rw[this];exact p3
  have G_:(F9.map (·.1)).Nodup:=by
   refine (EV.map _).nodup_iff.mpr ?_
   rw[Cw,List.nodup_append]
   refine⟨BM,by simp,λ x hx y hy=>?_⟩
   simp at hy
   subst hy
   exact λ e=>hm (e▸hx)
  by_cases hf:t1.tooFull=true
  ·rw[hf]
   simp only[Cy,DC,if_true]
   have Gf:t1.fill=xs.length+1:=by
    unfold SetTable.fill
    rw[p3.rn,p3.len]
    simp
    lia
   have F6:t.mask*3<=(xs.length+1)*5:=by
    have:=hf
    unfold SetTable.tooFull at this
    rw[Gf,Ca] at this
    simpa using this
   obtain⟨M',g1,g2,g3⟩:=cK xs.length t.mask X.tab.mask AL F6 hn
   rw[hlen]
   refine JI (Vz (led:=led) Ij X1 Ao CA g1 g2 (by rw[Gw];exact g3) G_ λ h' EY sb' S' pm=>?_)
   refine Ac ?_
   exact h h' EY true (sb.trans sb') S' (.inr ⟨hm,pm.trans EV⟩)
  ·have GV:t1.tooFull=false:=by simpa using hf
   rw[GV]
   simp only[Cy,CN,Bc,if_false]
   refine Ac ?_
   have Gf:t1.fill=xs.length+1:=by
    unfold SetTable.fill
    rw[p3.rn,p3.len]
    simp
    lia
   have F6:(xs.length+1)*5<t.mask*3:=by
    have:=GV
    unfold SetTable.tooFull at this
    rw[Gf,Ca] at this
    simpa using this
   exact h _ F9 true sb ⟨⟨_,ep+1,t1,Ij,X1,Ao,CA,by rw[Gw,Ca];exact F6⟩,G_⟩ (.inr ⟨hm,EV⟩)
end
noncomputable def vC (w:World):Bool:=!w.params.followText "set-order"
def yU (w:World):Obj:={ cls:=.type "set",dict:=none,data:=.set #[] 0 (.fresh 0 0 (vC w)) }
section
variable {prog:Program}{w:World}{A:Around}{E:Ae}{s:Shared}
set_option maxHeartbeats 3200000 in
def Ym (a:Value) {Q:Ae}(h:Q (.ref s.heap.objs.size) { s with heap:=s.heap.push (yU w) }):
  codeAny (model prog w) A (.call (.builtin "set.__new__") ⟨[.type "set",a],[]⟩) (wants Q E) s:=by
 refine codeAny_of_tree ?_
 show wpAny _ A.in1 (checkBuiltinCall "set.__new__" ⟨[.type "set",a],[]⟩ >>= λ _=>again (.builtin "set.__new__" ⟨[.type "set",a],[]⟩)) _ _ s
 refine JI (wpAny_of_eq (F.newCall_set_1 a) (Ac ⟨plainId_quiet F.plain_set_new _,codeAny_builtin F.entry_set_new ?_⟩))
 rw[Around.under_plainId F.plain_set_new _]
 unfold Builtin.«set.__new__» Builtin.Frozenset.newClass newSet setsByText
 have sub:=sub_set_self
 obtain⟨hp,g,d,tk,os⟩:=s
 dsimp only
 wp_walk
 refine K5 (Ac ?_)
 dsimp only
 simp only[newObj]
 exact JI (wpAny_alloc (Ac (Ac h)))
def WW {h:Heap}{a:Addr}(ho:h.get? a=some (yU w)):vS prog w h a [] (vC w):=
 ⟨⟨#[],0,_,ho,⟨rfl,λ e he=>(by cases he),⟨.inl rfl,rfl,rfl,.nil,λ j hj=>(by cases hj),λ i g j hg=>(by cases hg)⟩,by simp⟩,rfl,rfl,by show 0*5<7*3;lia⟩,.nil⟩
end
end ST
namespace ST
open PySem PySem.SetTable PyProof.Rows
structure Up (its:Av) (rows:List (List Int)) (i:Nat) (xs:List (List Int×Addr)):Prop where
 own:∀ e∈xs,∃ j,j<i/\its[j]?=some (.ref e.2)/\rows[j]?=some e.1
 all:∀ (j:Nat) r,j<i->rows[j]?=some r->r∈xs.map (·.1)
def Up.len {its:Av}{rows:List (List Int)}{i:Nat}{xs:List (List Int×Addr)}(U:Up its rows i xs) (nd:(xs.map (·.1)).Nodup):xs.length<=i:=by
 have:∀ x∈xs.map (·.1),x∈(List.range i).map λ j=>rows.getD j []:=λ x hx=>by
  obtain⟨e,he,rfl⟩:=Ay.mp hx
  obtain⟨j,h1,_,h3⟩:=U.own e he
  refine Ay.mpr ⟨j,AR.mpr h1,?_⟩
  rw[Bv,h3];rfl
 have key:∀ (l m:List (List Int)),l.Nodup->(∀ x∈l,x∈m)->l.length<=m.length:=by
  intro l
  induction l with
  | nil=>intro m _ _;exact AO _
  | cons x l ih=>
   intro m hn hs
   have h1:=Bh.mp hn
   have hx:=hs x Ap
   have:=ih (m.erase x) h1.2 λ z hz=>(DV (λ e:z=x=>h1.1 (by rw[<- e];exact hz))).mpr (hs z (Ax _ hz))
   rw[DU hx] at this
   have:=DT hx
   simp only[AW];lia
 have:=key _ _ nd this
 simpa using this
def Up.step {its:Av}{rows:List (List Int)}{i:Nat}{xs EY:List (List Int×Addr)}{key:List Int}{b:Addr}(U:Up its rows i xs) (hi:its[i]?=some (.ref b)) (hr:rows[i]?=some key)
  (h:key∈xs.map (·.1)/\EY=xs\/key∉xs.map (·.1)/\EY.Perm (xs++[(key,b)])):Up its rows (i+1) EY:=by
 rcases h with ⟨hm,rfl⟩ | ⟨_,hp⟩
 ·refine⟨λ e he=>?_,λ j r hj Bm=>?_⟩
  ·obtain⟨j,h1,h2⟩:=U.own e he
   exact⟨j,by lia,h2⟩
  ·rcases Bs j i with q | q
   ·exact U.all j r q Bm
   ·have:j=i:=by lia
    subst this
    rw[hr] at Bm;cases Bm;exact hm
 ·refine⟨λ e he=>?_,λ j r hj Bm=>?_⟩
  ·rcases A0.mp (hp.mem_iff.mp he) with q | q
   ·obtain⟨j,h1,h2⟩:=U.own e q
    exact⟨j,by lia,h2⟩
   ·cases AX.mp q
    exact⟨i,by lia,hi,hr⟩
  ·have G9:=hp.map (·.1)
   rw[G9.mem_iff,Cw]
   rcases Bs j i with q | q
   ·exact CQ _ (U.all j r q Bm)
   ·have:j=i:=by lia
    subst this
    rw[hr] at Bm;cases Bm
    exact AY _ Ap
section
variable {prog:Program}{w:World}{A:Around}{R:Result->Shared->Prop}{I:Addr}{fp wr:List Addr}{G:Array GenState->Array GenState->Prop}{n:Nat}{P:Nat->Value->Prop}{St:Nat->Shared->Prop}
def qx (prog:Program) (w:World) (h:Heap) (its:Av) (rows:List (List Int)):Prop:=∀ (i:Nat) v,its[i]?=some v->∃ b r,v=.ref b/\rows[i]?=some r/\IsTupleKey (intKind prog w) h r b
def qx.at {h h':Heap}{its:Av}{rows:List (List Int)}(T:qx prog w h its rows) (k:∀ (i:Nat) b,its[i]?=some (.ref b)->∀ o,h.get? b=some o->h'.get? b=some o):qx prog w h' its rows:=λ i v hv=>by
 obtain⟨b,r,rfl,h1,o,items,m,h2,h3⟩:=T i v hv
 exact⟨b,r,rfl,h1,o,items,m,k i b hv o h2,h3⟩
def Qs (W:WalksS prog w A.in1 I fp wr G n (λ i v=>P i v) St) (Sa:Addr) (Jg:Sa∉fp) {its:Av}{rows:List (List Int)}(hP:∀ i v,P i v->its[i]?=some v) (hn:n<70) (hu:A.units+1<cLine) (led:Bool)
  (B_:∀ (i:Nat) b,its[i]?=some (.ref b)->b∉Sa::wr):∀ (k i:Nat) (s:Shared) (xs:List (List Int×Addr)),n-i=k->i<=n->St i s->vS prog w s.heap Sa xs led->qx prog w s.heap its rows->Up its rows i xs->
   (∀ s' EY,Moved (Sa::wr) G s s'->vS prog w s'.heap Sa EY led->Up its rows n EY->R (.ok (.ret .none)) s')->
   codeAny (model prog w) A (.builtin "set.update.loop" ⟨[.ref Sa,.ref I],[]⟩) R s:=by
 have Jf:Sa∉wr:=λ z=>Jg (W.sub _ z)
 have more:∀ b∈wr,b∈Sa::wr:=λ b hb=>Ax _ hb
 have Hw:∀ {s s':Shared}{xs:List (List Int×Addr)}{Jo:List Addr},Sa∉Jo->(∀ e∈xs,e.2∉Jo)->Moved Jo G s s'->vS prog w s.heap Sa xs led->vS prog w s'.heap Sa xs led:=λ{s s' xs Jo} h1 h2 hm ⟨⟨es,ep,t,ho,X,r1,r2,r3⟩,nd⟩=>
  ⟨⟨es,ep,t,hm.heap Sa _ h1 ho,⟨X.es,λ e he=>by
   obtain⟨o,items,m,g1,g2⟩:=X.is e he
   exact⟨o,items,m,hm.heap _ _ (h2 e he) g1,g2⟩,X.tab,X.nL⟩,r1,r2,r3⟩,nd⟩
 intro k
 induction k with
 | zero=>
  intro i s xs hk hi AJ hS hT hU hR
  have e:i=n:=by lia
  subst e
  refine codeAny_builtin F.entry_set_update_loop ?_
  rw[Around.under_plainId F.plain_set_update_loop _]
  show wpAny _ A.in1 (pyNext (.ref I) >>= _) _ _ s
  refine JI (W.done s _ _ AJ λ s' hm=>?_)
  refine Ac (hR s' xs (hm.mono more) (Hw Jf (λ e he=>?_) hm hS) hU)
  obtain⟨j,_,h2,_⟩:=hU.own e he
  exact λ z=>B_ j e.2 h2 (more _ z)
 | succ k ih=>
  intro i s xs hk hi AJ hS hT hU hR
  have Ao:i<n:=by lia
  refine codeAny_builtin F.entry_set_update_loop ?_
  rw[Around.under_plainId F.plain_set_update_loop _]
  show wpAny _ A.in1 (pyNext (.ref I) >>= _) _ _ s
  refine JI (W.item i s _ _ Ao AJ λ v s1 Ki HQ hm=>?_)
  have hv:=hP i v Ki
  have T1:qx prog w s1.heap its rows:=hT.at λ j b hj o e=>hm.heap b o (λ z=>B_ j b hj (more _ z)) e
  obtain⟨b,r,rfl,hr,hb⟩:=T1 i v hv
  have S1:vS prog w s1.heap Sa xs led:=Hw Jf (λ e he=>by
   obtain⟨j,_,h2,_⟩:=hU.own e he
   exact λ z=>B_ j e.2 h2 (more _ z)) hm hS
  have hl:xs.length<70:=by have:=hU.len hS.nd;lia
  show wpAny _ A.in1 (holding [Value.ref b] (setAdd Sa (.ref b)) >>= _) _ _ s1
  refine JI (KJ ?_)
  unfold setAdd
  refine KJ (JI ((rk prog w).pyHash (k:=r) (a:=b) (A:=A.in1) hu hb ?_))
  refine ND (s:={ s1 with toks:=s1.toks+(rk prog w).draws r }) (A:=A.in1) hu S1 hb hl λ h' EY rr sb S' hx=>?_
  have fr:=W.frame (i+1) s1 h' (s1.toks+(rk prog w).draws r) HQ (Ce _ _) λ c hc o e=>(sb.2 c (λ z:c=Sa=>Jg (z▸hc))).trans e
  refine Ac ⟨plainId_quiet F.plain_set_update_loop _,ih (i+1) _ EY (by lia) Ao fr S' (T1.at λ j c hj o e=>?_) (hU.step hv hr hx) λ s2 Iq Ho S2 U2=>?_⟩
  ·exact (sb.2 c (λ z=>B_ j c hj (z▸Ap))).trans e
  ·refine hR s2 Iq (Moved.trans W.gtrans ((hm.mono more).then_heap (Ce _ _) λ c o hc e=>?_) Ho) S2 U2
   exact (sb.2 c (λ z=>hc (z▸Ap))).trans e
end
section
variable {prog:Program}{w:World}{A:Around}{E:Ae}{s:Shared}
set_option maxHeartbeats 6400000 in
def Ng {l:Addr}{its:Av}{rows:List (List Int)}{Q:Ae}(hh:A.handled=none) (hu:A.units+64<cLine) (hl:s.heap.IsList l its) (hT:qx prog w s.heap its rows) (hn:its.size<70)
  (h:∀ (h':Heap) (tk:Nat) xs,vS prog w h' s.heap.objs.size xs (vC w)->Up its rows its.size xs->(∀ b o,b<s.heap.objs.size->s.heap.get? b=some o->h'.get? b=some o)->Q (.ref s.heap.objs.size) { s with heap:=h',toks:=tk }):
  wpAny (model prog w) A (call (.type "set") [.ref l]) Q E s:=by
 obtain⟨c,tl,El⟩:=F.called_set.mro
 have made:=F.called_set.made
 have JK:=F.called_set.sub
 refine wpAny_call (codeAny_of_tree ?_)
 show wpAny _ _ (callAny (.type "set") _) _ _ _
 refine Ac ⟨Code.quiet_builtin _ (AG),codeAny_builtin F.entry_type_call ?_⟩
 rw[Around.under_plain (weight_type_call_type "set" [.ref l] []) rfl]
 have nt:=F.called_set.notType
 have cc:=F.called_set.canCreate
 have tc:=F.typeCall_set_1 (.ref l)
 repeat (any_goals (first | assumption | wp_step))
 refine codeAny_mono (Ym (.ref l) (E:=E) (Q:=λ obj s₁=>obj=.ref s.heap.objs.size/\s₁={ s with heap:=s.heap.push (yU w) }) ⟨rfl,rfl⟩) λ r s₁ hr=>?_
 cases r with
 | error e=>exact hr
 | ok fl=>
  cases fl with
  | ret obj=>
   obtain⟨rfl,rfl⟩:=hr
   have hS:(s.heap.push (yU w)).get? s.heap.objs.size=some (yU w):=AF _ rfl
   have Kg:Shared.TypeIs { s with heap:=s.heap.push (yU w) } (.ref s.heap.objs.size) "set":=⟨_,hS,rfl⟩
   have li:=F.called_set.init.lookup
   have bi:=F.called_set.init.bind (.ref s.heap.objs.size)
   repeat (any_goals (first | assumption | wp_step))
   let s1:Shared:={ s with heap:=s.heap.push (yU w) }
   refine codeAny_mono (codeAny_call_builtin (R:=wants (λ r s₂=>r=.none/\∃ h' tk xs,s₂={ s with heap:=h',toks:=tk }/\vS prog w h' s.heap.objs.size xs (vC w)/\Up its rows its.size xs/\
     ∀ b o,b<s.heap.objs.size->s.heap.get? b=some o->h'.get? b=some o) E) F.called_set.init.plain F.entry_set_init (check_set_init_1 Kg ?_)) λ r₂ s₂ HU=>?_
   ·obtain⟨⟨JT,G4,IC,GB⟩,De,AN,nl,Cm⟩:=id hl
    simp only at AN Cm
    subst AN Cm
    have HX:(s.heap.push (yU w)).get? l=some { cls:=.type "list",dict:=G4,data:=.seq its nl,slots:=GB }:=KC _ De
    have sls:=F.sub_list_set
    have slf:=F.sub_list_frozenset
    have nd:(Value.type "list" == Value.type "dict")=false:=by decide
    have Gw:(s.heap.push (yU w)).IsList l its:=⟨_,HX,rfl,nl,rfl⟩
    unfold Builtin.«set.__init__» noKeywords Builtin.Frozenset.updateFrom
    generalize Kj:pyIter=PI
    unfold yU at *
    wp_walk
    subst Kj
    refine K4 Gw (JI (wpAny_runValue ?_))
    have IY:l<s.heap.objs.size:=Al De
    have hsz:(s.heap.push (yU w)).objs.size=s.heap.objs.size+1:=Heap.size_push _ _
    have HZ:l≠(s.heap.push (yU w)).objs.size:=by rw[hsz];exact Ar (BH IY)
    have HK:s.heap.objs.size≠(s.heap.push (yU w)).objs.size:=by rw[hsz];exact Ar (Cj _)
    have low:∀ b:Addr,b<s.heap.objs.size->b≠(s.heap.push (yU w)).objs.size:=λ b hb=>by rw[hsz];exact Ar (BH hb)
    have tin:∀ (i:Nat) b,its[i]?=some (.ref b)->b<s.heap.objs.size:=λ i b hb=>by
     obtain⟨b',r,e,_,o,_,_,ho,_⟩:=hT i _ hb
     cases e;exact Al ho
    refine Qs (A:=A.in1.in1) (P:=λ i v=>its[i]?=some v) ((Walks.list (A:=A.in1.in1.in1) (by simp[hh]) _ l HZ its).toS) s.heap.objs.size ?_ (its:=its) (rows:=rows) (λ _ _ q=>q) hn (show A.units+1+1+1<cLine by lia) (vC w) ?_ its.size 0 _ [] (by lia) (AO _)
     ⟨⟨_,AF _ rfl,rfl,rfl⟩,Gw.push _⟩ (WW (w:=w) (KC _ hS)) (hT.at λ i b _ o e=>KC _ (KC _ e)) ⟨λ e he=>(by cases he),λ j r hj=>(by lia)⟩ ?_
    ·intro hm
     rcases Ai.mp hm with q | q
     ·exact HK q
     ·exact BI IY (AX.mp q)
    ·intro i b hb hm
     have Ao:=tin i b hb
     rcases Ai.mp hm with q | q
     ·exact Ar Ao q
     ·exact low b Ao (AX.mp q)
    ·intro s' EY hm S' U'
     obtain⟨h',g',d',GP,HN⟩:=s'
     obtain rfl:g'=s.gens:=hm.gens
     obtain rfl:d'=s.drawn:=hm.drawn
     obtain rfl:HN=s.os:=hm.os
     refine Ac (Ac ⟨rfl,h',GP,EY,rfl,S',U',λ b o hb e=>?_⟩)
     refine hm.heap b o (λ q=>?_) (KC _ (KC _ e))
     rcases Ai.mp q with q | q
     ·exact Ar hb q
     ·exact low b hb (AX.mp q)
   ·cases r₂ with
    | error e=>exact HU
    | ok Kr=>
     cases Kr with
     | ret r=>
      obtain⟨rfl,h',tk,xs,rfl,g1,g2,g3⟩:=HU
      repeat (any_goals (first | assumption | wp_step))
      exact h h' tk xs g1 g2 g3
     | _=>exact HU.elim
  | _=>exact hr.elim
end
end ST
namespace ST
open PySem PySem.SetTable
section facts
def b_:Manifest.owners.lookup (String.ofList ['r','o','t','a','r','e','t','i','_','t','e','s'].reverse)=some Manifest.sig_set_iterator:=by kernel_rfl
def qQ:Slot "set_iterator" "__next__" "set_iterator.__next__":=
 .of (owner:="set_iterator") (n:="__next__") (by rw[typeLookup_type,builtinLookup_eq_fast];kernel_rfl) (AG) (AG) (AG) (by first | exact .inl (AG) | exact .inr (AG)) (by rw[isSubtype_type];kernel_rfl)
def ZL:entryFor table "set_iterator.__next__"=some Builtin.«set_iterator.__next__»:=entryFor_of_tree (by kernel_rfl)
def Y9 (a:Value):argsOk "set_iterator.__next__" ⟨[a],[]⟩:=by
 unfold argsOk
 rw[signature?_of (id:="set_iterator.__next__") (n:=['_','_','t','x','e','n','_','_']) (o:=['r','o','t','a','r','e','t','i','_','t','e','s']) (by kernel_rfl) b_]
 kernel_rfl
def Oz:entryFor table "set.__iter__"=some Builtin.«frozenset.__iter__»:=entryFor_alias (id':="frozenset.__iter__") (by kernel_rfl) rfl (AG) (by kernel_rfl)
def cJ:Slot "set_iterator" "__iter__" "set_iterator.__iter__":=
 .of (owner:="set_iterator") (n:="__iter__") (by rw[typeLookup_type,builtinLookup_eq_fast];kernel_rfl) (AG) (AG) (AG) (by first | exact .inl (AG) | exact .inr (AG)) (by rw[isSubtype_type];kernel_rfl)
def Oy:entryFor table "set_iterator.__iter__"=some Builtin.«dict_keyiterator.__iter__»:=entryFor_alias (id':="dict_keyiterator.__iter__") (by kernel_rfl) rfl (AG) (by kernel_rfl)
def N7 (a:Value):argsOk "set_iterator.__iter__" ⟨[a],[]⟩:=by
 unfold argsOk
 rw[signature?_of (id:="set_iterator.__iter__") (n:=['_','_','r','e','t','i','_','_']) (o:=['r','o','t','a','r','e','t','i','_','t','e','s']) (by kernel_rfl) b_]
 kernel_rfl
end facts
theorem ZJ {α:Type}:∀ (l:List α) (i:Nat) (x:α),l[i]?=some x->l.Perm (x::l.eraseIdx i)
 | [],i,x,h=>by simp at h
 | y::l,0,x,h=>by simp at h;subst h;simp
 | y::l,i+1,x,h=>by
  have ih:=ZJ l i x (by simpa using h)
  rw[List.eraseIdx_cons_succ]
  exact (ih.cons y).trans (.swap x y _)
theorem b8 {α:Type}(next:Nat->Nat):∀ (f k:Nat) (left:List α) (out:Array α),left.length=f->(pickOrder.go next f k left out).toList.Perm (out.toList++left)
 | 0,k,left,out,h=>by
  cases left with
  | nil=>unfold pickOrder.go;simp
  | cons _ _=>simp at h
 | f+1,k,left,out,h=>by
  unfold pickOrder.go
  have Ao:next k%left.length<left.length:=C4 _ (by lia)
  rw[A3 Ao]
  dsimp only
  refine (b8 next f (k+1) _ _ (by rw[List.length_eraseIdx_of_lt Ao];lia)).trans ?_
  rw[Array.toList_push,List.append_assoc]
  exact (ZJ left _ _ (A3 Ao)).symm.append_left _
def VX {α:Type}(next:Nat->Nat) (xs:Array α):(pickOrder next xs).toList.Perm xs.toList:=by
 unfold pickOrder
 simpa using b8 next xs.size 0 xs.toList #[] (by simp)
noncomputable def comes (w:World) (a:Addr) (es:Array (Int×Value)) (ep:Nat):Array (Int×Value):=if w.params.followText "set-order"=true then pickOrder (w.params.setOrder a ep) es else es
def pN (w:World) (a:Addr) (es:Array (Int×Value)) (ep:Nat):(comes w a es ep).toList.Perm es.toList:=by
 unfold comes
 split
 ·exact VX _ _
 ·exact .refl _
noncomputable def s_ (a:Addr) (slot i n ep:Nat):Obj:={ cls:=.type "set_iterator",data:=.fields #[rawInt slot,rawInt i,.ref a,rawInt n,rawInt ep] }
noncomputable def slotAt (t:SetTable):Nat->Nat
 | 0=>0
 | i+1=>t.place.getD i 0+1
theorem N3 {t:SetTable}(hr:uR t.place.toList):∀ i,i<=t.place.size->below t.place (slotAt t i)=i
 | 0,_=>by
  obtain⟨h1,h2,h3⟩:=jd (xs:=t.place) (j:=0) hr
  rcases Nat.eq_zero_or_pos (below t.place 0) with q | q
  ·exact q
  ·have:=h2 0 (by lia) q
   lia
 | i+1,hi=>by
  have hd:t.place.getD i 0=t.place[i]:=fq (by lia)
  show below t.place (t.place.getD i 0+1)=i+1
  rw[hd]
  obtain⟨h1,h2,h3⟩:=jd (xs:=t.place) (j:=t.place[i] + 1) hr
  have wH:∀ a b (ha:a<t.place.size) (hb:b<t.place.size),a<b->t.place[a]<t.place[b]:=λ a b ha hb CY=>by
   have r:=Cs.mp hr a b (by simpa using ha) (by simpa using hb) CY
   rw[Cp,Cp] at r
   exact r
  rcases Dz (below t.place (t.place[i] + 1)) (i+1) with q | q | q
  ·have:=h3 i (by lia) (by lia)
   lia
  ·exact q
  ·have a:=h2 (i+1) (by lia) q
   have b:=wH i (i+1) (by lia) (by lia) (by lia)
   lia
structure wR (w:World) (h:Heap) (a:Addr) (es:Array (Int×Value)) (ep:Nat) (t:SetTable):Prop where
 get:h.get? a=some { cls:=.type "set",dict:=none,data:=.set es ep t }
 fits:t.fits es.size=true
 wH:uR t.place.toList
 led:t.led=vC w
 plain:t.plain=true
theorem wR.size {w:World}{h:Heap}{a:Addr}{es:Array (Int×Value)}{ep:Nat}{t:SetTable}(S:wR w h a es ep t):t.place.size=es.size:=by
 have:=S.fits
 simp only[SetTable.fits,Bi,beq_iff_eq] at this
 exact this.1
section
variable {prog:Program}{w:World}{A:Around}{E:Ae}{s:Shared}
def aA {a:Addr}{es:Array (Int×Value)}{ep:Nat}{t:SetTable}{i:Nat}{Q:Option (Value×Nat)->Shared->Prop}(S:wR w s.heap a es ep t) (hi:i<=es.size) (slot:Nat) (hs:w.params.followText "set-order"=false->slot=slotAt t i)
  (h:∀ Fv,(w.params.followText "set-order"=false->Fv=slotAt t (i+1))->Q ((comes w a es ep)[i]?.map λ e=>(e.2,Fv)) s):wpAny (model prog w) A (setNext a slot i ep) Q E s:=by
 unfold setNext setsByText
 refine JI (KP S.get rfl S.fits ?_)
 dsimp only
 refine JI (JI (K5 (Ac ?_)))
 show wpAny _ A (if w.params.followText "set-order"=true then _ else _) Q E s
 cases hb:w.params.followText "set-order" with
 | true=>
  rw[if_pos rfl,if_neg (by simp)]
  unfold setWalk setsByText
  refine JI (JI (KP S.get rfl S.fits ?_))
  dsimp only
  refine JI (JI (K5 (Ac ?_)))
  show wpAny _ A (if w.params.followText "set-order"=true then _ else _) _ E s
  rw[if_pos hb]
  refine JI (K5 (Ac ?_))
  refine Ac ?_
  have:=h slot (λ q=>by rw[hb] at q;cases q)
  unfold comes at this
  rw[if_pos hb] at this
  exact this
 | false=>
  rw[if_neg (by simp)]
  split
  ·rename_i hd
   have Hq:(!t.plain&&decide (es.size>1))=true:=hd
   rw[S.plain] at Hq;simp at Hq
  ·show wpAny _ A ((if (!t.led&&!es.isEmpty)=true then unsupported "set:maker-not-led" else pure ()) >>= _) Q E s
   have hl:t.led=true:=by rw[S.led];unfold vC;rw[hb];rfl
   rw[if_neg (by rw[hl];simp)]
   refine JI (Ac (Ac ?_))
   have Be:=hs hb
   have hz:=S.size
   rw[Be,N3 S.wH i (by rw[hz];exact hi)]
   have:=h (slotAt t (i+1)) (λ _=>rfl)
   unfold comes at this
   rw[if_neg (by rw[hb];simp)] at this
   rcases Bs i es.size with q | q
   ·have hp:i<t.place.size:=by rw[hz];exact q
    rw[Bk q] at this
    rw[Bk q,Bk hp]
    have e:slotAt t (i+1)=t.place[i] + 1:=by show t.place.getD i 0+1=_;rw[fq hp]
    rw[e] at this
    exact this
   ·rw[CK q] at this
    rw[CK q]
    exact this
def ql {a I:Addr}{slot i n ep:Nat}(ho:s.heap.get? I=some (s_ a slot i n ep)):s.TypeIs (.ref I) "set_iterator":=⟨_,ho,rfl⟩
def cz (k:Nat):((k:Int)).toNat=k:=CJ k
def WU {I a:Addr}{es:Array (Int×Value)}{ep:Nat}{t:SetTable}{i slot:Nat}{e:Int×Value}{Q:Option Value->Shared->Prop}(ho:s.heap.get? I=some (s_ a slot i es.size ep)) (S:wR w s.heap a es ep t) (hs:w.params.followText "set-order"=false->slot=slotAt t i) (he:(comes w a es ep)[i]?=some e)
  (hi:i<es.size) (h:∀ h' Fv,(w.params.followText "set-order"=false->Fv=slotAt t (i+1))->h'.get? I=some (s_ a Fv (i+1) es.size ep)->Heap.SameBut I s.heap h'->Q (some e.2) { s with heap:=h' }):wpAny (model prog w) A (pyNext (.ref I)) Q E s:=by
 unfold pyNext
 refine JI (wpAny_attempt (K0 (name:=Str.ofString "__next__") (ql ho) qQ (KQ qQ (ql ho) ZL ?_ (Y9 _))))
 refine JI (Ac ?_)
 dsimp only
 refine JI (wpAny_fieldsOf ho rfl ?_)
 dsimp only[rawInt]
 refine JI (JI (KP S.get rfl S.fits (Ac ?_)))
 rw[if_neg (by simp)]
 refine JI (aA S (by lia) slot hs λ Fv GZ=>?_)
 rw[cz] at GZ ⊢
 rw[he]
 dsimp only[Option.map_some]
 refine JI (KS ho rfl (by simp) ?_)
 have o1:=KN (Obj.mapFields (·.set! 0 (Value.int (Fv:Int) 0))) ho rfl
 refine JI (KS o1 rfl (by simp) ?_)
 have o2:=KN (Obj.mapFields (·.set! 1 (Value.int ((i:Int)+1) 0))) o1 rfl
 refine Ac ⟨_,rfl,Ac (h _ Fv GZ o2 ((Heap.SameBut.update ..).trans (Heap.SameBut.update ..)))⟩
def WV {I a:Addr}{es:Array (Int×Value)}{ep:Nat}{t:SetTable}{slot:Nat}{Q:Option Value->Shared->Prop}(hh:A.handled=none) (ho:s.heap.get? I=some (s_ a slot es.size es.size ep)) (S:wR w s.heap a es ep t) (hs:w.params.followText "set-order"=false->slot=slotAt t es.size)
  (h:∀ h',Heap.ExtBut I s.heap h'->Q none { s with heap:=h' }):wpAny (model prog w) A (pyNext (.ref I)) Q E s:=by
 have hn:(comes w a es ep)[es.size]?=none:=by
  have:=(pN w a es ep).length_eq
  simp only[BB] at this
  rw[CK (by lia)]
 unfold pyNext
 refine JI (wpAny_attempt (K0 (name:=Str.ofString "__next__") (ql ho) qQ (KQ qQ (ql ho) ZL ?_ (Y9 _))))
 refine JI (Ac ?_)
 dsimp only
 refine JI (wpAny_fieldsOf ho rfl ?_)
 dsimp only[rawInt]
 refine JI (JI (KP S.get rfl S.fits (Ac ?_)))
 rw[if_neg (by simp)]
 refine JI (aA S (by simp) slot (by simpa using hs) λ Fv GZ=>?_)
 rw[cz,hn]
 dsimp only[Option.map_none]
 refine JI (KS ho rfl (by simp) ?_)
 refine JI ?_
 simp only[newExc,newTuple]
 refine JI (KY ?_ (by size_fits))
 refine JI (m:=firstArgMember _ _) (wpAny_of_eq (a:=Value.none) (by first | rfl | (simp only[firstArgMember];rfl)) (KY ?_ (by size_fits)))
 unfold raiseNew
 refine JI (wpAny_handled ?_)
 rw[show A.in1.handled=none from hh]
 refine JI ((Ac (wpAny_throw ?_)))
 refine JI ((wpAny_isInstance (T:="StopIteration") (b:=true) ⟨_,AF _ rfl,rfl⟩ isSubtype_stop ?_))
 exact Ac (h _ (((Heap.SameBut.update ..).extBut.push _).push _))
def WT {I a:Addr}{slot i n ep:Nat}{Q:Ae}(ho:s.heap.get? I=some (s_ a slot i n ep)) (h:Q (.ref I) s):wpAny (model prog w) A (pyIter (.ref I)) Q E s:=by
 refine wpAny_pyIter_slot (ql ho) cJ (KQ cJ (ql ho) Oy ?_ (N7 _))
 exact Ac ⟨_,rfl,"set_iterator",_,ql ho,qQ.lookup,h⟩
def wR.keep {h h':Heap}{a:Addr}{es:Array (Int×Value)}{ep:Nat}{t:SetTable}(S:wR w h a es ep t) (k:∀ o,h.get? a=some o->h'.get? a=some o):wR w h' a es ep t:=⟨k _ S.get,S.fits,S.wH,S.led,S.plain⟩
def XX (hh:A.handled=none) (I a:Addr) (An:a≠I) (es:Array (Int×Value)) (ep:Nat) (t:SetTable):
  Walks prog w A I [I,a] [I] es.size (λ i v=>∃ e,(comes w a es ep)[i]?=some e/\v=e.2) (λ i h=>(∃ slot,(w.params.followText "set-order"=false->slot=slotAt t i)/\h.get? I=some (s_ a slot i es.size ep))/\wR w h a es ep t) where
 sub:=λ b hb=>by simp at hb;simp[hb]
 frame:=λ _ _ _ st k=>by
  obtain⟨⟨slot,h1,h2⟩,S⟩:=st
  exact⟨⟨slot,h1,k I (by simp) _ h2⟩,S.keep λ o e=>k a (by simp) o e⟩
 item:=λ i s Q E hi st hQ=>by
  obtain⟨⟨slot,h1,h2⟩,S⟩:=st
  have hl:i<(comes w a es ep).size:=by
   have:=(pN w a es ep).length_eq
   simp only[BB] at this
   lia
  refine WU h2 S h1 (Bk hl) hi λ h' Fv g1 g2 g3=>?_
  exact hQ _ h' s.toks ⟨_,Bk hl,rfl⟩ ⟨⟨Fv,g1,g2⟩,S.keep λ o e=>(g3.2 a An).trans e⟩ λ b o hb e=>(g3.2 b (λ z=>hb (by simp[z]))).trans e
 done:=λ s Q E st hQ=>by
  obtain⟨⟨slot,h1,h2⟩,S⟩:=st
  exact WV hh h2 S h1 λ h' g=>hQ h' s.toks λ b o hb e=>g b o (λ z=>hb (by simp[z])) e
 self:=λ _ _ _ _ st hQ=>by
  obtain⟨⟨slot,h1,h2⟩,S⟩:=st
  exact WT h2 hQ
def Qv:typeLookup (.type "set") "__len__"=pure (some (.builtin "set.__len__")):=F.slot_set_len.lookup
def split_len:splitId "set.__len__"=some ("set","__len__"):=by decide +kernel
def RW {a:Addr}{es:Array (Int×Value)}{ep:Nat}{t:SetTable}{Q:Bool->Shared->Prop}(S:wR w s.heap a es ep t) (h:Q false s):wpAny (model prog w) A (setDrawn a) Q E s:=by
 unfold setDrawn setsByText
 refine JI (KP S.get rfl S.fits ?_)
 dsimp only
 refine JI (JI (K5 (Ac (Ac ?_))))
 show Q (!w.params.followText "set-order"&&(!t.plain&&decide (es.size>1))) s
 rw[S.plain]
 simpa using h
set_option maxHeartbeats 4000000 in
def RZ {a:Addr}{es:Array (Int×Value)}{ep:Nat}{t:SetTable}{Q:Bool->Shared->Prop}(S:wR w s.heap a es ep t) (h:Q false s):wpAny (model prog w) A (Builtin.List.listLengthHint (.ref a)) Q E s:=by
 have Ty:s.TypeIs (.ref a) "set":=⟨_,S.get,rfl⟩
 unfold Builtin.List.listLengthHint
 refine JI (wpAny_specialOf Ty Qv ?_)
 dsimp only
 rw[split_len]
 dsimp only
 refine JI (wpAny_isInstance (b:=true) Ty sub_set_self ?_)
 rw[if_neg (by decide)]
 rw[if_pos (AG)]
 refine JI (wpAny_typeOf Ty ?_)
 exact Ac h
set_option maxHeartbeats 4000000 in
def OQ {a:Addr}{es:Array (Int×Value)}{ep:Nat}{t:SetTable}{Q:List Value->Shared->Prop}(hh:A.handled=none) (S:wR w s.heap a es ep t) (hn:es.size<=sizeLine)
  (h:∀ (h':Heap) (tk:Nat),(∀ b o,b<s.heap.objs.size->s.heap.get? b=some o->h'.get? b=some o)->s.heap.objs.size<=h'.objs.size->Q ((comes w a es ep).toList.map (·.2)) { s with heap:=h',toks:=tk }):wpAny (model prog w) A (collect (.ref a)) Q E s:=by
 have ha:a<s.heap.objs.size:=Al S.get
 unfold collect
 refine JI (wpAny_runValue (codeAny_builtin F.entry_proto_collect ?_))
 rw[Around.under_plainId F.plain_proto_collect _]
 show wpAny _ A.in1 (newList [] >>= λ l=>again (.builtin "list.__iadd__" ⟨[l,.ref a],[]⟩)) _ _ s
 refine JI (KY (Ac ⟨plainId_quiet F.plain_list_iadd _,codeAny_builtin F.entry_list_iadd ?_⟩))
 rw[Around.under_plainId F.plain_list_iadd _]
 let L0:Obj:={ cls:=.type "list",data:=.seq ([]:Ad).toArray }
 have S1:wR w (s.heap.push L0) a es ep t:=S.keep λ o e=>KC _ e
 have T1:Shared.TypeIs { s with heap:=s.heap.push L0 } (.ref a) "set":=⟨_,S1.get,rfl⟩
 show wpAny _ A.in1 (Builtin.List.listExtendWith (.ref s.heap.objs.size) (.ref a) (.ref s.heap.objs.size)) _ _ { s with heap:=s.heap.push L0 }
 unfold Builtin.List.listExtendWith
 refine JI (wpAny_typeOf T1 ?_)
 have An:s.heap.objs.size≠a:=BI ha
 have c1:Builtin.List.listSameRef (.ref s.heap.objs.size) (.ref a)=false:=by simp[Builtin.List.listSameRef,An]
 rw[if_neg (by rw[c1];decide)]
 refine JI (wpAny_pyIter_slot T1 F.slot_set_iter (KQ F.slot_set_iter T1 Oz ?_ (F.args_set_iter_1 _)))
 refine JI (JI (Ac (Ac ?_)))
 refine JI (JI (JI (KP S1.get rfl S1.fits (Ac (Ac ?_)))))
 refine JI (RW S1 ?_)
 rw[if_neg (by decide)]
 refine JI (Ac ?_)
 refine JI (wpAny_setEpoch_of S1.get rfl S1.fits ?_)
 refine JI (KY (Ac ⟨_,rfl,"set_iterator",_,⟨_,AF _ rfl,rfl⟩,qQ.lookup,?_⟩))
 let I:=(s.heap.push L0).objs.size
 let h2:=(s.heap.push L0).push (s_ a 0 0 es.size ep)
 have S2:wR w h2 a es ep t:=S1.keep λ o e=>KC _ e
 have hI:h2.get? I=some (s_ a 0 0 es.size ep):=AF _ rfl
 have hL:h2.get? s.heap.objs.size=some L0:=KC _ (AF _ rfl)
 have hsz:(s.heap.push L0).objs.size=s.heap.objs.size+1:=Heap.size_push _ _
 show wpAny _ A.in1 _ _ _ { s with heap:=h2 }
 refine JI (KJ (RZ (s:={ s with heap:=h2 }) S2 ?_))
 rw[if_pos (AG)]
 refine JI (wpAny_rule ?_)
 refine JI ?_
 show wpAny _ A.in1 (updateSeq s.heap.objs.size (·.push .none) >>= λ _=>updateSeq s.heap.objs.size (·.pop)) _ _ { s with heap:=h2 }
 refine JI (wpAny_updateSeq hL rfl ?_)
 have hL2:=KN (Obj.mapSeq (·.push Value.none)) hL rfl
 refine wpAny_updateSeq hL2 rfl ?_
 have hL3:=KN (Obj.mapSeq (·.pop)) hL2 rfl
 let h3:=(h2.update s.heap.objs.size (Obj.mapSeq (·.push Value.none))).update s.heap.objs.size (Obj.mapSeq (·.pop))
 have JS:∀ b o,b≠s.heap.objs.size->h2.get? b=some o->h3.get? b=some o:=λ b o hb e=>(KO _ _ (Ne.symm hb)).trans ((KO _ _ (Ne.symm hb)).trans e)
 have haI:a≠I:=by show a≠(s.heap.push L0).objs.size;rw[hsz];exact Ar (BH ha)
 have hIn:I≠s.heap.objs.size:=by show (s.heap.push L0).objs.size≠_;rw[hsz];exact BI (Cj _)
 refine Ac ⟨plainId_quiet F.plain_extend_loop _,codeAny_extend_loopS ((XX (A:=A.in1) hh I a haI es ep t).toS) hn s.heap.objs.size ?_ _ es.size 0 { s with heap:=h3 } #[] _ rfl (AO _) ⟨⟨0,λ _=>rfl,JS I _ hIn hI⟩,S2.keep λ o e=>JS a o (Ne.symm An) e⟩ hL3 (ItemsOf.nil _) λ s' acc c' hm hS' AU=>?_⟩
 ·intro hm
  rcases Ai.mp hm with q | q
  ·exact hIn q.symm
  ·exact An (AX.mp q)
 ·refine JI (wpAny_load hS' (Ac ?_))
  obtain⟨h',g',d',GP,HN⟩:=s'
  obtain rfl:g'=s.gens:=hm.gens
  obtain rfl:d'=s.drawn:=hm.drawn
  obtain rfl:HN=s.os:=hm.os
  have hcm:(comes w a es ep).size=es.size:=by
   have:=(pN w a es ep).length_eq
   simpa using this
  have e:acc.toList=(comes w a es ep).toList.map (·.2):=by
   refine List.ext_getElem? λ j=>?_
   rw[AE]
   rcases Bs j es.size with q | q
   ·have Dh:j<acc.size:=by rw[AU.1];exact q
    have hj:acc[j]?=some acc[j]:=Bk Dh
    obtain⟨e,e1,e2⟩:=AU.2 j _ hj
    rw[BK,BK,hj,e1,e2];rfl
   ·rw[BK,BK,CK (by rw[AU.1];exact q),CK (by rw[hcm];exact q)];rfl
  rw[e]
  refine h h' GP (λ b o hb e=>hm.heap b o (λ q=>?_) (JS b o (Ar hb) (KC _ (KC _ e)))) ?_
  ·rcases Ai.mp q with q | q
   ·exact Ar hb q
   ·have q':b=(s.heap.push L0).objs.size:=AX.mp q
    rw[hsz] at q'
    exact Ar (BH hb) q'
  ·exact BO (Al hS')
end
end ST
namespace ST
open PySem PySem.SetTable PyProof.Rows L4
section
variable {prog:Program}{w:World}{A:Around}{E:Ae}{s:Shared}
def c9 {a:Addr}{es:Array (Int×Value)}{ep:Nat}{t:SetTable}{Q:Ae}{Out:Array Value->Prop}(hh:A.handled=none) (S:wR w s.heap a es ep t) (hz:es.size<=sizeLine)
  (core:∀ s6:Shared,2<=es.size->(∀ b o,s.heap.get? b=some o->s6.heap.get? b=some o)->Core prog w A.in1.in1 E ((comes w a es ep).toList.map (·.2)) Out s6) (short:es.size<2->Out ((comes w a es ep).toList.map (·.2)).toArray)
  (fin:∀ (out:Av) (h':Heap) (tk l:Nat),Out out->out.size=es.size->s.heap.objs.size<=l->(∀ b o,s.heap.get? b=some o->h'.get? b=some o)->(∃ e,h'.get? l=some (seqObj "list" out e))->Q (.ref l) { s with heap:=h',toks:=tk }):
  wpAny (model prog w) A (call (.builtin "sorted") [.ref a]) Q E s:=by
 have AN:((comes w a es ep).toList.map (·.2)).length=es.size:=by
  have:=(pN w a es ep).length_eq
  rw[AD,this,BB]
 refine Calls.call_function_entry kind_sorted plain_sorted entry_sorted (args_sorted1 _) ?_
 unfold Builtin.«sorted»
 refine JI (m:=checkCount "sorted" 1 1 _) (Ac (JI (OQ (A:=A.in1) hh S hz λ h1 tk k1 k2=>JI (wpAny_newList ?_ (by rw[AN];exact hz)))))
 generalize hvs:(comes w a es ep).toList.map (·.2)=vs at *
 have Hn:(h1.push (seqObj "list" vs.toArray 0)).get? h1.objs.size=some (seqObj "list" vs.toArray 0):=AF _ rfl
 have k3:∀ b o,s.heap.get? b=some o->h1.get? b=some o:=λ b o q=>k1 b o (Al q) q
 show wpAny _ _ _ _ _ { s with heap:=h1.push (seqObj "list" vs.toArray 0),toks:=tk }
 refine JI (KJ (KQ slot_list_sort ⟨_,Hn,rfl⟩ entry_list_sort (gF Hn (by rw[AN];exact hz) (λ h2 s6 k=>core s6 (by rw[<- AN];exact h2) λ b o q=>k b o ?_ (KC _ (k3 b o q))) (λ h2=>short (by rw[<- AN];exact h2)) λ out g1 g2=>⟨_,rfl,?_⟩) (args_list_sort _)))
 ·exact Ar (A2 (Al q) k2)
 ·refine Ac ⟨_,rfl,fin out _ tk h1.objs.size g1 (by rw[g2,AN]) k2 (λ b o q=>?_) (sortedHeap_at (n:=0) Hn)⟩
  have Ao:b<h1.objs.size:=Al (k3 b o q)
  rw[sortedHeap_old (Ar Ao) (by rw[size_push'];exact BH Ao),Heap.get?_push_ne _ _ _ (Ar Ao)]
  exact k3 b o q
end
end ST
namespace ST
open PySem PySem.SetTable PySem.Spec PyProof.Rows L2
def yO (w:World) (a:Addr) (us:Ad):Heap->Prop:=λ h=>∃ es ep t,wR w h a es ep t/\es.toList.map (·.2)=us
def yO.vj {w:World}{a:Addr}{us:Ad}{h1 h2:Heap}(S:yO w a us h1) (k:∀ o,h1.get? a=some o->h2.get? a=some o):yO w a us h2:=by
 obtain⟨es,ep,t,S,e⟩:=S
 exact⟨es,ep,t,S.keep k,e⟩
def vS.at {prog:Program}{w:World}{h:Heap}{a:Addr}{xs:List (List Int×Addr)}(S:vS prog w h a xs (vC w)):yO w a (xs.map λ e=>Value.ref e.2) h:=by
 obtain⟨⟨es,ep,t,ho,X,h1,h2,h3⟩,_⟩:=S
 exact⟨es,ep,t,⟨ho,X.fits,X.tab.wH,h1,h2⟩,by rw[X.es,AZ];rfl⟩
section
variable {X:Cx}
abbrev je (K:Ab) (H:Hp) (ys:List V) (rows:List (List Int)):Prop:=Paired (λ v r=>r≠[]/\∃ b,v=V.ref b/\zX K H b (r.map V.int)) ys rows
theorem a_:∀ {ns:List Int}{us:Ad},Vals (ns.map V.int) us->∀ {prog:Program}{w:World},ItemsAre (intKind prog w) ns us
 | [],_,.nil,_,_=>.nil
 | n::ns,_,.cons r t,prog,w=>by
  obtain⟨tk,rfl⟩:=r
  exact .cons (intKind_is _ _ _ _) (a_ t)
structure qA (ys:List V) (rows:List (List Int)) (vs:List V) (rs:List (List Int)):Prop where
 sub:∀ (i:Nat) v r,vs[i]?=some v->rs[i]?=some r->∃ (j:Nat),ys[j]?=some v/\rows[j]?=some r
 len:vs.length=rs.length
 nd:rs.Nodup
 all:∀ r∈rows,r∈rs
def Nc (hc:X.calm=true) (hu:X.A.units+64<cLine):yB X (.type "set") (λ xs H Q=>∃ p ys,∃ rows:List (List Int),xs=[.ref p]/\zO X.K H p ys/\je X.K H ys rows/\rows.length<64/\
  ∀ (l:Addr) (us:Ad) (vs:List V) (rs:List (List Int)),H l=none->Vals vs us->qA ys rows vs rs->Q (.ref l) (upd H l (.ext (yO X.w l us)))):=by
 intro EC s Y H xs us Q I r h
 obtain⟨p,ys,rows,rfl,hq,hr,Gg,q⟩:=h
 obtain⟨u,rfl,ru⟩:=vals1 r
 cases ru
 obtain⟨its,rv,pl,hz⟩:=I.list hq
 have hl:=rv.length
 have Ck:ys.length=rows.length:=Paired.length hr
 have vi:qx X.prog X.w s.heap its.toArray rows:=λ i v hv=>by
  have IL:its[i]?=some v:=by simpa using hv
  have hi:i<its.length:=(AK.mp IL).1
  obtain⟨An,b,hb,Cz⟩:=L4.Paired.at' hr (i:=i) (by lia) V.zk ([]:List Int)
  have hy:ys[i]?=some (V.ref b):=by
   rw[A3 (by lia)]
   have:ys.getD i V.zk=ys[i]'(by lia):=by simp[show i<ys.length by lia]
   rw[this] at hb;rw[hb]
  obtain⟨v',e1,e2⟩:=rv.get hy
  rw[IL] at e1;cases e1
  cases (show v=Value.ref b from e2)
  obtain⟨Fm,GY,⟨o,e,AN,n,hd⟩,_⟩:=I.tuple Cz
  refine⟨b,rows.getD i [],rfl,?_,o,Fm.toArray,n,e,AN,hd,by simpa using a_ GY⟩
  simp[show i<rows.length by lia]
 have hh:X.A.handled=none:=I.ok.hd hc
 refine Ng (A:=X.A) hh hu pl.isList vi (by rw[AA];lia) λ h' tk xs S U k=>?_
 have kk:∀ b o,s.heap.get? b=some o->h'.get? b=some o:=λ b o e=>k b o (Al e) e
 have AH:H s.heap.objs.size=none:=I.zp.fresh (Aj _)
 have Ip:=S.at
 have vals:Vals (xs.map λ e=>V.ref e.2) (xs.map λ e=>Value.ref e.2):=by
  clear S U Ip
  induction xs with
  | nil=>exact .nil
  | cons e xs ih=>exact .cons rfl ih
 refine⟨.ref s.heap.objs.size,_,I.laid (t':=tk) (o:=.ext (yO X.w s.heap.objs.size (xs.map λ e=>Value.ref e.2))) kk (Aj _) ?_,rfl,q _ _ (xs.map λ e=>V.ref e.2) (xs.map (·.1)) AH vals ⟨λ i v r hv GS=>?_,by simp,S.nd,λ r GS=>?_⟩⟩
 ·obtain⟨es,ep,t,St,e⟩:=id Ip
  exact⟨Ip,⟨_,St.get⟩,λ h1 h2 S1 k=>S1.vj k⟩
 ·rw[AE] at hv GS
  obtain⟨e,e1,rfl⟩:=AB.mp hv
  rw[e1] at GS
  cases GS
  obtain⟨j,j1,j2,j3⟩:=U.own e (Bl e1)
  refine⟨j,?_,j3⟩
  have GL:its[j]?=some (Value.ref e.2):=by simpa using j2
  have Dh:j<ys.length:=by rw[hl];exact (AK.mp GL).1
  obtain⟨v',e2,e3⟩:=rv.get (A3 Dh)
  rw[GL] at e2;cases e2
  obtain⟨An,b,hb,_⟩:=L4.Paired.at' hr (i:=j) (by lia) V.zk ([]:List Int)
  have:ys.getD j V.zk=ys[j]:=by simp[Dh]
  rw[this] at hb
  rw[hb] at e3
  cases (show Value.ref e.2=Value.ref b from e3)
  rw[A3 Dh,hb]
 ·obtain⟨j,hj⟩:=Dw.mp GS
  exact U.all j r (by have:=(AK.mp hj).1;rw[AA];lia) hj
theorem Paired.mk {α β:Type}{F:α->β->Prop}:∀ {l:List α}{m:List β},l.length=m.length->(∀ (i:Nat) a b,l[i]?=some a->m[i]?=some b->F a b)->Paired F l m
 | [],[],_,_=>.nil
 | a::l,b::m,h,f=>.cons (f 0 a b rfl rfl) (Paired.mk (by simpa using h) λ i x y hx hy=>f (i+1) x y (by simpa using hx) (by simpa using hy))
 | [],_::_,h,_=>by simp at h
 | _::_,[],h,_=>by simp at h
def Na (hc:X.calm=true):yB X (.builtin "sorted") (λ xs H Q=>∃ l us vs,∃ rs:List (List Int),xs=[.ref l]/\H l=some (.ext (yO X.w l us))/\Vals vs us/\je X.K H vs rs/\rs.length<64/\
  ∀ (p:Addr) (idx:List Nat),H p=none->idx.Perm (List.range vs.length)->(idx.map λ i=>rs.getD i []).Pairwise (λ a b=>HT.lexLt b a=false)->Q (.ref p) (upd H p (.lst (idx.map λ i=>vs.getD i .zk)))):=by
 intro EC s Y H xs us0 Q I r h
 obtain⟨l,us,vs,rs,rfl,hl,hv,hr,Gg,q⟩:=h
 obtain⟨u,rfl,ru⟩:=vals1 r
 cases ru
 obtain⟨⟨es,ep,t,S,eu⟩,-,-⟩:=(show y_ X.prog X.w H s.heap l (.ext (yO X.w l us)) from I.zp l _ hl)
 have hlen:es.size=us.length:=by rw[<- eu];simp
 have hvl:=hv.length
 have hrl:vs.length=rs.length:=Paired.length hr
 have hh:X.A.handled=none:=I.ok.hd hc
 obtain⟨ix,Jv,JY⟩:∃ ix:List Nat,ix.Perm (List.range us.length)/\(comes X.w l es ep).toList.map (·.2)=ix.map λ i=>us.getD i Value.none:=by
  have hp:((comes X.w l es ep).toList.map (·.2)).Perm us:=by rw[<- eu];exact (pN X.w l es ep).map _
  generalize (comes X.w l es ep).toList.map (·.2)=cs at hp
  clear eu hl hv hvl hlen
  induction hp with
  | nil=>exact⟨[],.refl _,rfl⟩
  | @cons x a b _ ih=>
   obtain⟨ix,i1,i2⟩:=ih
   refine⟨0::ix.map (· + 1),?_,?_⟩
   ·rw[AW,C5]
    exact (i1.map _).cons 0
   ·rw[Au,AZ,i2]
    rfl
  | @swap x y a=>
   refine⟨1::0::(List.range a.length).map (· + 2),?_,?_⟩
   ·rw[AW,AW,C5,C5,Au,AZ]
    exact .swap _ _ _
   ·rw[Au,Au,AZ]
    refine congrArg _ (congrArg _ ?_)
    refine B2 (by simp) λ i h1 h2=>?_
    simp[h1]
  | @trans a b c _ _ J5 J4=>
   obtain⟨i1,p1,e1⟩:=J5
   obtain⟨i2,p2,e2⟩:=J4
   have hlb:b.length=c.length:=by rw[e2,AD,p2.length_eq];simp
   refine⟨i1.map λ i=>i2.getD i 0,?_,?_⟩
   ·refine (p1.map _).trans ?_
    have e:(List.range b.length).map (λ i=>i2.getD i 0)=i2:=by
     have Hh:i2.length=b.length:=by rw[p2.length_eq,hlb];simp
     rw[<- Hh]
     refine B2 (by simp) λ i h1 h2=>?_
     simp[h2]
    rw[e];exact p2
   ·rw[e1,AZ]
    refine CL λ i hi=>?_
    have Gy:i<b.length:=by simpa using p1.mem_iff.mp hi
    have Hh:i<i2.length:=by rw[p2.length_eq,<- hlb];simpa using Gy
    show b.getD i _=c.getD (i2.getD i 0) _
    rw[e2]
    simp[Hh]
 have DL:∀ i∈ix,i<us.length:=λ i hi=>by simpa using Jv.mem_iff.mp hi
 have FO:∀ h6:Heap,(∀ b o,s.heap.get? b=some o->h6.get? b=some o)->L4.sD h6 ((comes X.w l es ep).toList.map (·.2)) (ix.map λ i=>rs.getD i []):=λ h6 k=>by
  rw[JY]
  refine Paired.mk (by simp) λ j a b ha hb=>?_
  rw[AE] at ha hb
  obtain⟨i,hi,rfl⟩:=AB.mp ha
  rw[hi] at hb
  cases hb
  have CV:=DL i (Bl hi)
  obtain⟨An,b,hbv,Cz⟩:=L4.Paired.at' hr (i:=i) (by lia) V.zk ([]:List Int)
  obtain⟨u',e1,e2⟩:=hv.get (i:=i) (x:=vs.getD i V.zk) (by simp[show i<vs.length by lia])
  rw[hbv] at e2
  cases (show u'=Value.ref b from e2)
  obtain⟨Fm,GY,⟨o,e,AN,n,hd⟩,_⟩:=I.tuple Cz
  have eg:us.getD i Value.none=Value.ref b:=by simp[e1]
  refine⟨An,b,o,Fm.toArray,n,eg,k _ _ e,AN,hd,by simpa using intsAre_of GY⟩
 have AN:((comes X.w l es ep).toList.map (·.2)).length=us.length:=by rw[JY,AD,Jv.length_eq];simp
 refine c9 (Out:=L4.mH ((comes X.w l es ep).toList.map (·.2)) (ix.map λ i=>rs.getD i [])) hh S (by rw[hlen];have:sizeLine=16777216:=rfl;lia) (λ s6 h2 k=>L4.fW (FO _ k) (by rw[AN,<- hlen];exact h2) (by rw[AN];lia)) (λ h1=>?_) λ out h' tk p ho hs hp k Dr=>?_
 ·refine⟨List.range ((comes X.w l es ep).toList.map (·.2)).length,.refl _,?_,?_⟩
  ·refine B2 (by simp) λ i h1 h2=>?_
   simp at h2
   simp[h2]
  ·rw[Cf,Cs]
   intro i j hi hj A1
   rw[AN] at hi hj
   simp at hi hj
   lia
 ·obtain⟨idx,g1,g2,g3⟩:=ho
  obtain⟨e,he⟩:=Dr
  rw[AN] at g1
  have AH:H p=none:=I.zp.fresh hp
  have Dj:∀ i∈idx,i<us.length:=λ i hi=>by simpa using g1.mem_iff.mp hi
  have hxl:ix.length=us.length:=by rw[Jv.length_eq];simp
  let jx:=idx.map λ i=>ix.getD i 0
  have hjp:jx.Perm (List.range vs.length):=by
   rw[hvl]
   refine (g1.map _).trans ?_
   have e:(List.range us.length).map (λ i=>ix.getD i 0)=ix:=by
    rw[<- hxl]
    refine B2 (by simp) λ i h1 h2=>?_
    simp[h2]
   rw[e];exact Jv
  have hjr:(jx.map λ i=>rs.getD i [])=idx.map λ i=>(ix.map λ i=>rs.getD i []).getD i []:=by
   rw[AZ]
   refine CL λ i hi=>?_
   have:=Dj i hi
   simp[show i<ix.length by lia]
  refine⟨.ref p,_,I.laid (t':=tk) (o:=.lst (jx.map λ i=>vs.getD i .zk)) k hp ?_,rfl,q p jx AH hjp (by rw[hjr];exact g3)⟩
  refine⟨by rw[AD,hjp.length_eq,B7];have:sizeLine=16777216:=rfl;lia,out.toList,e,?_,by simpa using he⟩
  rw[g2,JY]
  refine Paired.mk (by simp[jx]) λ j a b ha hb=>?_
  rw[AE] at ha hb
  obtain⟨i,hi,rfl⟩:=AB.mp hb
  simp only[jx,AE,hi,Option.map_some,Option.some.injEq] at ha
  have CV:=Dj i (Bl hi)
  have hx:ix.getD i 0<us.length:=by
   have:ix.getD i 0∈ix:=by simp[show i<ix.length by lia]
   exact DL _ this
  obtain⟨u',e1,e2⟩:=hv.get (i:=ix.getD i 0) (x:=vs.getD (ix.getD i 0) V.zk) (by
   have Hf:ix.getD i 0<vs.length:=by lia
   generalize ix.getD i 0=q at Hf
   rw[Bv,A3 Hf];rfl)
  subst ha
  have e3:(ix.map λ i=>us.getD i Value.none).getD i Value.none=u':=by
   simp[show i<ix.length by lia] at e1 ⊢
   simp[e1]
  rw[e3];exact e2
end
end ST
namespace L5
open PySem PySem.Spec L2 L3
open PyProof.Rows hiding St
noncomputable def wy:List (List Int)->List (List Int)
 | []=>[]
 | r::rs=>if r∈wy rs then wy rs else r::wy rs
theorem ny {r:List Int}:∀ {rs:List (List Int)},r∈wy rs↔r∈rs
 | []=>.rfl
 | x::rs=>by
  unfold wy
  split
  ·rename_i h
   rw[ny,Ai]
   exact⟨.inr,λ h'=>h'.elim (λ e=>e▸ny.mp h) id⟩
  ·rw[Ai,Ai,ny]
theorem gk:∀ rs:List (List Int),(wy rs).Nodup
 | []=>.nil
 | x::rs=>by
  unfold wy
  split
  ·exact gk rs
  ·rename_i h
   exact Bh.mpr ⟨h,gk rs⟩
theorem km:∀ rs:List (List Int),(wy rs).length<=rs.length
 | []=>Aj _
 | x::rs=>by
  unfold wy
  have:=km rs
  split <;> simp only[AW] <;> lia
def uN:xH:=λ ds S Q=>match ds with
 | [.tup _]=>False
 | [d]=>∃ rows:List (List Int),zN d S=some (rows.map xY)/\rows.length<64/\(∀ r∈rows,r≠[])/\∀ l,S l=none->Q (.ref l) (ups S l (.lst ((L4.xJ (wy rows)).map xY)))
 | _=>False
noncomputable def lK:List T->Option T
 | [.lst ts]=>(uh ts).bind λ rs=>if rs.length<64/\∀ r∈rs,r≠[] then some (.lst ((L4.xJ (wy rs)).map yo)) else none
 | _=>none
def Pz:vX zD lK uN:=λ S Z ys z ds Q hz hv e hq=>by
 unfold lK at e
 split at e
 ·obtain⟨d,rfl,h1⟩:=vu hv
  obtain⟨rs,e1,e2⟩:=Ak.mp e
  split at e2
  ·rename_i hc
   cases e2
   cases iI e1
   obtain⟨es,h2,h3⟩:=h1.seq rfl
   cases qO.mp h3
   have key:∃ rows:List (List Int),zN d S=some (rows.map xY)/\rows.length<64/\(∀ r∈rows,r≠[])/\∀ l,S l=none->Q (.ref l) (ups S l (.lst ((L4.xJ (wy rows)).map xY))):=
    ⟨rs,h2,hc.1,hc.2,λ l hl=>hq _ _ (.new hl _) (sR hz hl (qO.mpr rfl))⟩
   obtain⟨_,q | ⟨a,q,_⟩,_⟩:=h1.lst
   ·subst q;exact key
   ·subst q;exact key
  ·cases e2
 ·cases e
section
variable {K:Ab}{e:Expr}{p:Pos}
def uN.mo:vW uN:=λ ds S Q Q' hq h=>by
 unfold uN at h ⊢
 split at h
 ·exact h.elim
 ·obtain⟨rows,h1,h2,h3,h4⟩:=h
  exact⟨rows,h1,h2,h3,λ l hl=>hq _ _ (h4 l hl)⟩
 ·exact h.elim
def zo.pick {H:Hp}{ys vs:List V}{rows rs:List (List Int)}(h:zo K H (rows.map xY) ys) (P:ST.qA ys rows vs rs):zo K H (rs.map xY) vs:=by
 have key:∀ (vs:List V) (rs:List (List Int)),vs.length=rs.length->(∀ (i:Nat) v r,vs[i]?=some v->rs[i]?=some r->∃ (j:Nat),ys[j]?=some v/\rows[j]?=some r)->zo K H (rs.map xY) vs:=by
  intro vs
  induction vs with
  | nil=>intro rs hl _;cases rs with
   | nil=>exact .nil
   | cons _ _=>simp at hl
  | cons v vs ih=>intro rs hl hp;cases rs with
   | nil=>simp at hl
   | cons r rs=>
    refine .cons ?_ (ih rs (by simpa using hl) λ i v r hv hr=>hp (i+1) v r (by simpa using hv) (by simpa using hr))
    obtain⟨j,j1,j2⟩:=hp 0 v r rfl rfl
    obtain⟨x,e1,e2⟩:=h.get (i:=j) (d:=xY r) (by rw[AE,j2];rfl)
    rw[j1] at e1;cases e1
    exact e2
 exact key vs rs P.len P.sub
def qA.mem {ys vs:List V}{rows rs:List (List Int)}(P:ST.qA ys rows vs rs) {r:List Int}:r∈rs↔r∈rows:=by
 refine⟨λ h=>?_,P.all r⟩
 obtain⟨i,hi⟩:=Dw.mp h
 have hl:i<vs.length:=by rw[P.len];exact (AK.mp hi).1
 obtain⟨j,_,j2⟩:=P.sub i _ r (A3 hl) hi
 exact Bl j2
def uN.fits {w:World}:uS K uN (λ xs H Q=>∃ p ys,∃ rows:List (List Int),xs=[.ref p]/\zO K H p ys/\ST.je K H ys rows/\rows.length<64/\
  ∀ (l:Addr) (us:Ad) (vs:List V) (rs:List (List Int)),H l=none->Vals vs us->ST.qA ys rows vs rs->
   ∃ l' Ht Gx,∃ JO:List (List Int),[V.ref l]=[.ref l']/\(upd H l (.ext (ST.yO w l us))) l'=some (.ext (ST.yO w l' Ht))/\Vals Gx Ht/\ST.je K (upd H l (.ext (ST.yO w l us))) Gx JO/\JO.length<64/\
    ∀ (p:Addr) (idx:List Nat),(upd H l (.ext (ST.yO w l us))) p=none->idx.Perm (List.range Gx.length)->(idx.map λ i=>JO.getD i []).Pairwise (λ a b=>HT.lexLt b a=false)->Q (.ref p) (upd (upd H l (.ext (ST.yO w l us))) p (.lst (idx.map λ i=>Gx.getD i .zk)))):=λ xs ds H S Q h0 h2 h=>by
 unfold uN at h
 split at h
 ·exact h.elim
 ·rename_i d hn
  obtain⟨x,hx,h1⟩:=h0.one;subst hx
  obtain⟨rows,e,Gg,An,h⟩:=h
  obtain⟨a,ys,rfl,g1,g2⟩:=rV h1 h2 e (λ ts z=>hn ts z)
  refine⟨a,ys,rows,rfl,g1,oQ g2 An,Gg,λ l us vs rs hf hv P=>?_⟩
  have g3:=zo.pick g2 P
  have x1:Ext H (upd H l (.ext (ST.yO w l us))):=.new hf _
  have Dd:rs.Perm (wy rows):=(DP P.nd (gk rows)).mpr λ r=>by rw[qA.mem P,ny]
  refine⟨l,us,vs,rs,rfl,ye,hv,oQ (zo.ext x1 _ g3) λ r hr=>An r ((qA.mem P).mp hr),by rw[Dd.length_eq];have:=km rows;lia,λ p idx hp hi hs=>?_⟩
  rw[P.len] at hi
  have heq:=L4.cA ((aF hi).trans Dd) hs
  have Am:p≠l:=λ z=>by subst z;rw[ye] at hp;cases hp
  have J_:H p=none:=by rw[zF Am] at hp;exact hp
  have x2:Ext (upd H l (.ext (ST.yO w l us))) (upd (upd H l (.ext (ST.yO w l us))) p (.lst (idx.map λ i=>vs.getD i .zk))):=.new hp _
  have r1:zE K (upd H l (.ext (ST.yO w l us))) S:=h2.new hf
  refine h p (h2.none J_) _ _ (by simp only[zh]) (x1.trans x2) (r1.ups x2 ⟨_,ye,?_⟩)
  rw[<- heq]
  exact zo.ext (x1.trans x2) _ (zo.perm g3 λ i h=>by simpa using hi.mem_iff.mp h)
 ·exact h.elim
end
end L5
namespace ST
open PySem PySem.SetTable PyProof.Rows
theorem Zz {t:SetTable}{hs:List Int}(T:Tab t hs) (h:Int):∀ (f k K:Nat),k<=K->K<k+f->(way t.mask h K).j∉t.place.toList->(∀ m<K,(way t.mask h m).j∈t.place.toList)->probe.go t (λ _=>h+1) h f (way t.mask h k)=some (.empty (way t.mask h K).j none)
 | 0,k,K,h1,h2,_,_=>by lia
 | f+1,k,K,h1,h2,h3,h4=>by
  by_cases e:k=K
  ·subst e
   unfold probe.go
   rw[T.empty h3,jE]
  ·obtain⟨i,g,p1,_⟩:=T.at (h4 k (by lia))
   have ih:=Zz T h f (k+1) K (by lia) (by lia) h3 h4
   conv=>lhs;unfold probe.go
   rw[T.live p1]
   dsimp only
   rw[if_neg (by intro q;have:=eq_of_beq q;lia),eE]
   exact ih
def Oa {t:SetTable}{hs:List Int}(T:Tab t hs) (hl:hs.length<=t.mask) (h:Int):∃ j,t.freeSlot h=some (j,false)/\eO t h j:=by
 obtain⟨K,k1,k2,k3⟩:=T.first hl h
 refine⟨(way t.mask h K).j,?_,⟨k2,K,rfl,k3⟩⟩
 have g:=Zz T h (10*turns t.mask) 0 K (AO _) (by unfold turns;lia) k2 k3
 unfold SetTable.freeSlot
 have e:t.probe (λ _=>h+1) h (t.probeStart h)=some (.empty (way t.mask h K).j none):=g
 rw[e]
 rfl
structure vT (prog:Program) (w:World) (h:Heap) (a:Addr) (xs:List (Int×Tok)) (led:Bool):Prop where
 ex:∃ es ep t,h.get? a=some { cls:=.type "set",dict:=none,data:=.set es ep t }/\es.toList=xs.map (λ e=>((intKind prog w).hash e.1,Value.int e.1 e.2))/\Tab t (xs.map λ e=>(intKind prog w).hash e.1)/\t.led=led/\t.plain=true/\xs.length*5<t.mask*3
 nd:(xs.map (·.1)).Nodup
section
variable {prog:Program}{w:World}{A:Around}{E:Ae}{s:Shared}
def fits_of {es:Array (Int×Value)}{t:SetTable}{hs:List Int}{n:Nat}(h1:es.size=n) (T:Tab t hs) (h2:hs.length=n) (h3:n<=t.mask):t.fits es.size=true:=by
 have l:=T.len
 unfold SetTable.fits SetTable.fill
 rw[T.rn,h1,l,h2]
 simp
 lia
def nE {n m:Int}{t:Tok}:(intKind prog w).is n (.int m t)=true↔n=m:=by
 constructor
 ·intro h
  obtain⟨t',e⟩:=Value.isInt_shape (show Value.isInt n (.int m t)=true from h)
  cases e;rfl
 ·rintro rfl;exact intKind_is _ _ _ _
def O0 {es:Array (Int×Value)}{xs:List (Int×Tok)}(h:es.toList=xs.map (λ e=>((intKind prog w).hash e.1,Value.int e.1 e.2))):ElemsOf (intKind prog w) es.toList:=λ e he=>by
 rw[h] at he
 obtain⟨x,_,rfl⟩:=Ay.mp he
 exact⟨⟨x.1,nE.mpr rfl,rfl⟩,rfl⟩
def V1 {es:Array (Int×Value)}{t:SetTable}{xs:List (Int×Tok)}{M wanted:Nat}(he:es.toList=xs.map (λ e=>((intKind prog w).hash e.1,Value.int e.1 e.2))) (hM:vq M) (hw:sizeAbove wanted=M+1) (AL:xs.length*5<M*3):
  ∃ FT t',∃ EY:List (Int×Tok),relayAll t es wanted=(FT,t',false)/\FT.toList=EY.map (λ e=>((intKind prog w).hash e.1,Value.int e.1 e.2))/\EY.Perm xs/\Tab t' (EY.map λ e=>(intKind prog w).hash e.1)/\t'.mask=M/\t'.led=t.led/\t'.plain=t.plain/\FT.size=es.size:=by
 have hlen:es.size=xs.length:=by have:=congrArg List.length he;simpa using this
 have Er:(es.map (·.1)).toList=xs.map λ e=>(intKind prog w).hash e.1:=by rw[Array.toList_map,he,AZ];rfl
 have hsz:(es.map (·.1)).size=xs.length:=by rw[C6,hlen]
 obtain⟨t',order,h1,h2,h3,h4,h5,h6,h7⟩:=aW hM t.finger (t.movedTo M) t.led t.plain (es.map (·.1)) (by rw[hsz];lia)
 rw[hsz] at h6
 have Ao:∀ k∈order.toList,k<xs.length:=λ k hk=>by simpa using h6.mem_iff.mp hk
 have hr:t.relaid (es.map (·.1)) wanted=some (t',order):=by
  unfold SetTable.relaid
  rw[hw,Nat.add_sub_cancel];exact h1
 have BW:(order.filterMap (es[·]?)).toList=(order.toList.filterMap λ k=>xs[k]?).map λ e=>((intKind prog w).hash e.1,Value.int e.1 e.2):=by
  rw[Array.toList_filterMap,List.map_filterMap]
  congr 1
  funext k
  rw[<- BK,he,AE]
 have EV:(order.toList.filterMap λ k=>xs[k]?).Perm xs:=(h6.filterMap _).trans (by rw[List.filterMap_getElem?_range_length])
 have BR:(order.filterMap (es[·]?)).size=es.size:=by
  rw[<- BB,BW,AD,EV.length_eq,hlen]
 have hT:Tab t' ((order.toList.filterMap λ k=>xs[k]?).map λ e=>(intKind prog w).hash e.1):=by
  rw[<- iW xs (λ e=>(intKind prog w).hash e.1) 0 order.toList Ao,<- Er]
  exact h7
 refine⟨_,t',_,?_,BW,EV,hT,h2,h4,h5,BR⟩
 have yb:coversAll order es.size=true:=by
  unfold coversAll
  rw[List.isPerm_iff,hlen]
  exact h6
 have fit:t'.fits (order.filterMap (es[·]?)).size=true:=fits_of (n:=xs.length) (by rw[BR,hlen]) hT (by rw[AD,EV.length_eq]) (by rw[h2];lia)
 unfold relayAll
 rw[hr]
 dsimp only
 rw[yb,fit]
 rfl
def add_int {a:Addr}{xs:List (Int×Tok)}{n:Int}{tk:Tok}{led:Bool}{Q:Bool->Shared->Prop}(S:vT prog w s.heap a xs led) (hn:xs.length<70)
  (h:∀ h' EY r,Heap.SameBut a s.heap h'->vT prog w h' a EY led->(n∈xs.map (·.1)/\EY=xs\/n∉xs.map (·.1)/\EY.Perm (xs++[(n,tk)]))->Q r { s with heap:=h' }):
  wpAny (model prog w) A (setAddHashed a (.int n tk) ((intKind prog w).hash n)) Q E s:=by
 have S0:=S
 obtain⟨⟨es,ep,t,ho,he,T,BE,Am,AL⟩,BM⟩:=S
 have hlen:es.size=xs.length:=by have:=congrArg List.length he;simpa using this
 have hm7:7<=t.mask/\t.mask<=127:=by rcases T.mask with e | e | e <;> lia
 have fit:t.fits es.size=true:=fits_of (n:=xs.length) hlen T (by simp) (by lia)
 have hel:=O0 (prog:=prog) (w:=w) he
 unfold setAddHashed setAddHashedIn
 refine KJ (JI (KP ho rfl fit ?_))
 dsimp only
 have bs:byScan (.int n tk) es=true:=by
  have h1:decide (es.size<scanBound)=true:=KU (by unfold scanBound;lia)
  have h2:es.all (·.2.scannable)=true:=by
   rw[Array.all_eq_true_iff_forall_mem]
   intro e hm
   exact (hel e (by simpa using hm)).2
  unfold byScan
  rw[h1,h2]
  rfl
 rw[if_pos bs]
 refine JI ?_
 unfold setAddByScan
 refine JI (wpAny_rule (JI (wpAny_setScan_of (k:=n) (nE.mpr rfl) ho rfl fit hel ?_)))
 have HA:(es.toList.findIdx? (λ e=>(intKind prog w).is n e.2)).isSome=true↔n∈xs.map (·.1):=by
  rw[he,List.findIdx?_isSome,Bb]
  constructor
  ·rintro⟨e,hm,q⟩
   obtain⟨x,hx,rfl⟩:=Ay.mp hm
   exact Ay.mpr ⟨x,hx,(nE.mp q).symm⟩
  ·intro hm
   obtain⟨x,hx,rfl⟩:=Ay.mp hm
   exact⟨_,Ay.mpr ⟨x,hx,rfl⟩,nE.mpr rfl⟩
 cases hc:es.toList.findIdx? (λ e=>(intKind prog w).is n e.2) with
 | some j=>
  dsimp only
  have hm:=HA.mp (by rw[hc];rfl)
  refine Ac ?_
  dsimp only
  exact Ac (h s.heap xs false ⟨rfl,λ _ _=>rfl⟩ S0 (.inl ⟨hm,rfl⟩))
 | none=>
  dsimp only
  have hm:n∉xs.map (·.1):=λ q=>by have:=HA.mpr q;rw[hc] at this;cases this
  obtain⟨j,fs,F⟩:=Oa T (by rw[AD];lia) ((intKind prog w).hash n)
  obtain⟨p1,p2,p3⟩:=T.put F
  rw[AD] at p1
  have CA:(t.put j).1.plain=true:=by rw[p2];exact Am
  have Ca:(t.put j).1.mask=t.mask:=by rw[p2]
  have Ao:(t.put j).1.led=led:=by rw[p2];exact BE
  generalize hT:(t.put j)=P at *
  obtain⟨t1,p⟩:=P
  dsimp only at *
  let F9:=xs.take p++(n,tk)::xs.drop p
  have EV:F9.Perm (xs++[(n,tk)]):=by
   have e:xs.take p++xs.drop p=xs:=DQ p xs
   have:F9.Perm ((n,tk)::(xs.take p++xs.drop p)):=List.perm_middle
   rw[e] at this
   exact this.trans (List.perm_append_singleton _ _).symm
  have Gw:F9.length=xs.length+1:=by rw[EV.length_eq];simp
  have GW:(insertAt es p ((intKind prog w).hash n,Value.int n tk)).toList=F9.map λ e=>((intKind prog w).hash e.1,Value.int e.1 e.2):=by
   rw[toList_insertAt,he]
   simp[F9,Dv,Du]
  have G7:(insertAt es p ((intKind prog w).hash n,Value.int n tk)).size=xs.length+1:=by rw[<- BB,GW,AD,Gw]
  have T1:Tab t1 (F9.map λ e=>(intKind prog w).hash e.1):=by
   have:F9.map (λ e=>(intKind prog w).hash e.1)=(xs.map λ e=>(intKind prog w).hash e.1).take p++(intKind prog w).hash n::(xs.map λ e=>(intKind prog w).hash e.1).drop p:=by simp[F9,Dv,Du]
   rw[this];exact p3
  have Ks:t1.fits (insertAt es p ((intKind prog w).hash n,Value.int n tk)).size=true:=fits_of (n:=xs.length+1) G7 T1 (by rw[AD,Gw]) (by rw[Ca];lia)
  have Dg:layNew t es ((intKind prog w).hash n) (.int n tk)=(insertAt es p ((intKind prog w).hash n,Value.int n tk),t1,false,false):=by
   unfold layNew
   rw[fs]
   dsimp only
   rw[hT]
   dsimp only
   unfold SetTable.orStandIn
   rw[Ks]
   rfl
  have Be:(insertAt es p ((intKind prog w).hash n,Value.int n tk)).size<=sizeLine:=by
   rw[G7]
   have:sizeLine=16777216:=rfl
   lia
  have G_:(F9.map (·.1)).Nodup:=by
   refine (EV.map _).nodup_iff.mpr ?_
   rw[Cw,List.nodup_append]
   refine⟨BM,by simp,λ x hx y hy=>?_⟩
   simp at hy
   subst hy
   exact λ e=>hm (e▸hx)
  have Ij:=lY (FT:=insertAt es p ((intKind prog w).hash n,Value.int n tk)) (t':=t1) ho
  have sb:=Heap.SameBut.update s.heap a (Obj.putSet (insertAt es p ((intKind prog w).hash n,Value.int n tk)) t1)
  have Gf:t1.fill=xs.length+1:=by
   have l:=T1.len
   rw[AD,Gw] at l
   unfold SetTable.fill
   rw[T1.rn,l]
   simp
  rw[Dg]
  dsimp only
  refine JI (m:=pure ()) (Ac ?_)
  rw[CA]
  simp only[if_true]
  refine JI (m:=pure true) (Ac ?_)
  simp only[if_true]
  refine JI (wpAny_storeSet_of ho rfl ?_ Be)
  by_cases hf:t1.tooFull=true
  ·rw[hf]
   simp only[Cy,DC,if_true]
   have F6:t.mask*3<=(xs.length+1)*5:=by
    have:=hf
    unfold SetTable.tooFull at this
    rw[Gf,Ca] at this
    simpa using this
   obtain⟨M',g1,g2,g3⟩:=cK xs.length t.mask T.mask AL F6 hn
   obtain⟨es2,t2,Iq,r1,r2,r3,r4,r5,r6,r7,r8⟩:=V1 (prog:=prog) (w:=w) (t:=t1) GW g1 (wanted:=grown (insertAt es p ((intKind prog w).hash n,Value.int n tk)).size) (by rw[G7];exact g2) (by rw[Gw];exact g3)
   rw[r1]
   dsimp only
   refine JI (m:=pure ()) (Ac (JI (wpAny_storeSet_of Ij rfl ?_ (by rw[r8];exact Be))))
   refine Ac ?_
   dsimp only
   refine Ac (h _ Iq true (sb.trans (Heap.SameBut.update _ a _)) ⟨⟨es2,ep+1+1,t2,lY Ij,r2,r4,by rw[r6];exact Ao,by rw[r7];exact CA,by rw[r3.length_eq,Gw,r5];exact g3⟩,(r3.map _).nodup_iff.mpr G_⟩ (.inr ⟨hm,r3.trans EV⟩))
  ·have GV:t1.tooFull=false:=by simpa using hf
   rw[GV]
   simp only[Cy,CN,Bc,if_false]
   have F6:(xs.length+1)*5<t.mask*3:=by
    have:=GV
    unfold SetTable.tooFull at this
    rw[Gf,Ca] at this
    simpa using this
   refine Ac ?_
   dsimp only
   exact Ac (h _ F9 true sb ⟨⟨_,ep+1,t1,Ij,GW,T1,Ao,CA,by rw[Gw,Ca];exact F6⟩,G_⟩ (.inr ⟨hm,EV⟩))
end
structure sA (its:Av) (ns:List Int) (i:Nat) (xs:List (Int×Tok)):Prop where
 own:∀ e∈xs,∃ j,j<i/\ns[j]?=some e.1
 all:∀ (j:Nat) r,j<i->ns[j]?=some r->r∈xs.map (·.1)
theorem gp:∀ (l m:List Int),l.Nodup->(∀ x∈l,x∈m)->l.length<=m.length
 | [],m,_,_=>AO _
 | x::l,m,hn,hs=>by
  have h1:=Bh.mp hn
  have hx:=hs x Ap
  have:=gp l (m.erase x) h1.2 λ z hz=>(DV (λ e:z=x=>h1.1 (by rw[<- e];exact hz))).mpr (hs z (Ax _ hz))
  rw[DU hx] at this
  have:=DT hx
  simp only[AW];lia
def sA.len {its:Av}{ns:List Int}{i:Nat}{xs:List (Int×Tok)}(U:sA its ns i xs) (nd:(xs.map (·.1)).Nodup):xs.length<=i:=by
 have:=gp (xs.map (·.1)) ((List.range i).map λ j=>ns.getD j 0) nd λ x hx=>by
  obtain⟨e,he,rfl⟩:=Ay.mp hx
  obtain⟨j,h1,h3⟩:=U.own e he
  exact Ay.mpr ⟨j,AR.mpr h1,by rw[Bv,h3];rfl⟩
 simpa using this
def sA.step {its:Av}{ns:List Int}{i:Nat}{xs EY:List (Int×Tok)}{n:Int}{t:Tok}(U:sA its ns i xs) (hr:ns[i]?=some n)
  (h:n∈xs.map (·.1)/\EY=xs\/n∉xs.map (·.1)/\EY.Perm (xs++[(n,t)])):sA its ns (i+1) EY:=by
 have eqi:∀ j:Nat,j<i+1->¬ j<i->j=i:=λ j a b=>by lia
 rcases h with ⟨hm,rfl⟩ | ⟨_,hp⟩
 ·refine⟨λ e he=>?_,λ j r hj Bm=>?_⟩
  ·obtain⟨j,h1,h2⟩:=U.own e he
   exact⟨j,BH h1,h2⟩
  ·by_cases q:j<i
   ·exact U.all j r q Bm
   ·rw[eqi j hj q,hr] at Bm;cases Bm;exact hm
 ·refine⟨λ e he=>?_,λ j r hj Bm=>?_⟩
  ·rcases A0.mp (hp.mem_iff.mp he) with q | q
   ·obtain⟨j,h1,h2⟩:=U.own e q
    exact⟨j,BH h1,h2⟩
   ·cases AX.mp q
    exact⟨i,Cj i,hr⟩
  ·rw[(hp.map (·.1)).mem_iff,Cw]
   by_cases q:j<i
   ·exact CQ _ (U.all j r q Bm)
   ·rw[eqi j hj q,hr] at Bm;cases Bm
    exact AY _ Ap
def Nums (its:Av) (ns:List Int):Prop:=∀ (i:Nat) v,its[i]?=some v->∃ n t,v=.int n t/\ns[i]?=some n
section
variable {prog:Program}{w:World}{A:Around}{R:Result->Shared->Prop}{I:Addr}{fp wr:List Addr}{G:Array GenState->Array GenState->Prop}{n:Nat}{P:Nat->Value->Prop}{St:Nat->Shared->Prop}
def vT.keep {h h':Heap}{a:Addr}{xs:List (Int×Tok)}{led:Bool}(S:vT prog w h a xs led) (k:∀ o,h.get? a=some o->h'.get? a=some o):vT prog w h' a xs led:=
 let ⟨⟨es,ep,t,ho,r⟩,nd⟩:=S;⟨⟨es,ep,t,k _ ho,r⟩,nd⟩
def Qt (W:WalksS prog w A.in1 I fp wr G n (λ i v=>P i v) St) (Sa:Addr) (Jg:Sa∉fp) {its:Av}{ns:List Int}(hP:∀ i v,P i v->its[i]?=some v) (hn:n<70) (led:Bool) (hN:Nums its ns):
  ∀ (k i:Nat) (s:Shared) (xs:List (Int×Tok)),n-i=k->i<=n->St i s->vT prog w s.heap Sa xs led->sA its ns i xs->
   (∀ s' EY,Moved (Sa::wr) G s s'->vT prog w s'.heap Sa EY led->sA its ns n EY->R (.ok (.ret .none)) s')->
   codeAny (model prog w) A (.builtin "set.update.loop" ⟨[.ref Sa,.ref I],[]⟩) R s:=by
 have Jf:Sa∉wr:=λ z=>Jg (W.sub _ z)
 have more:∀ b∈wr,b∈Sa::wr:=λ b hb=>Ax _ hb
 intro k
 induction k with
 | zero=>
  intro i s xs hk hi AJ hS hU hR
  have e:i=n:=by lia
  subst e
  refine codeAny_builtin F.entry_set_update_loop ?_
  rw[Around.under_plainId F.plain_set_update_loop _]
  show wpAny _ A.in1 (pyNext (.ref I) >>= _) _ _ s
  exact JI (W.done s _ _ AJ λ s' hm=>Ac (hR s' xs (hm.mono more) (hS.keep λ o e=>hm.heap _ o Jf e) hU))
 | succ k ih=>
  intro i s xs hk hi AJ hS hU hR
  have Ao:i<n:=by lia
  refine codeAny_builtin F.entry_set_update_loop ?_
  rw[Around.under_plainId F.plain_set_update_loop _]
  show wpAny _ A.in1 (pyNext (.ref I) >>= _) _ _ s
  refine JI (W.item i s _ _ Ao AJ λ v s1 Ki HQ hm=>?_)
  obtain⟨m,t,rfl,hr⟩:=hN i v (hP i v Ki)
  have S1:vT prog w s1.heap Sa xs led:=hS.keep λ o e=>hm.heap _ o Jf e
  have hl:xs.length<70:=by have:=hU.len hS.nd;lia
  show wpAny _ A.in1 (holding [Value.int m t] (setAdd Sa (.int m t)) >>= _) _ _ s1
  refine JI (KJ ?_)
  unfold setAdd
  refine KJ (JI ((intKind prog w).pyHash (A:=A.in1) (k:=m) (nE.mpr rfl) ?_))
  refine add_int (s:={ s1 with toks:=s1.toks+1 }) (A:=A.in1) S1 hl λ h' EY rr sb S' hx=>?_
  have fr:=W.frame (i+1) s1 h' (s1.toks+1) HQ (Ce _ _) λ c hc o e=>(sb.2 c (λ z:c=Sa=>Jg (z▸hc))).trans e
  refine Ac ⟨plainId_quiet F.plain_set_update_loop _,ih (i+1) _ EY (by lia) Ao fr S' (hU.step hr hx) λ s2 Iq Ho S2 U2=>?_⟩
  refine hR s2 Iq (Moved.trans W.gtrans ((hm.mono more).then_heap (Ce _ _) λ c o hc e=>?_) Ho) S2 U2
  exact (sb.2 c (λ z=>hc (z▸Ap))).trans e
end
section
variable {prog:Program}{w:World}{A:Around}{E:Ae}{s:Shared}
def WX {h:Heap}{a:Addr}(ho:h.get? a=some (yU w)):vT prog w h a [] (vC w):=
 ⟨⟨#[],0,_,ho,rfl,⟨.inl rfl,rfl,rfl,.nil,λ j hj=>(by cases hj),λ i g j hg=>(by cases hg)⟩,rfl,rfl,by show 0*5<7*3;lia⟩,.nil⟩
set_option maxHeartbeats 6400000 in
def Nf {l:Addr}{its:Av}{ns:List Int}{Q:Ae}(hh:A.handled=none) (hl:s.heap.IsList l its) (hT:Nums its ns) (hn:its.size<70)
  (h:∀ (h':Heap) (tk:Nat) xs,vT prog w h' s.heap.objs.size xs (vC w)->sA its ns its.size xs->(∀ b o,b<s.heap.objs.size->s.heap.get? b=some o->h'.get? b=some o)->Q (.ref s.heap.objs.size) { s with heap:=h',toks:=tk }):
  wpAny (model prog w) A (call (.type "set") [.ref l]) Q E s:=by
 obtain⟨c,tl,El⟩:=F.called_set.mro
 have made:=F.called_set.made
 have JK:=F.called_set.sub
 refine wpAny_call (codeAny_of_tree ?_)
 show wpAny _ _ (callAny (.type "set") _) _ _ _
 refine Ac ⟨Code.quiet_builtin _ (AG),codeAny_builtin F.entry_type_call ?_⟩
 rw[Around.under_plain (weight_type_call_type "set" [.ref l] []) rfl]
 have nt:=F.called_set.notType
 have cc:=F.called_set.canCreate
 have tc:=F.typeCall_set_1 (.ref l)
 repeat (any_goals (first | assumption | wp_step))
 refine codeAny_mono (Ym (.ref l) (E:=E) (Q:=λ obj s₁=>obj=.ref s.heap.objs.size/\s₁={ s with heap:=s.heap.push (yU w) }) ⟨rfl,rfl⟩) λ r s₁ hr=>?_
 cases r with
 | error e=>exact hr
 | ok fl=>
  cases fl with
  | ret obj=>
   obtain⟨rfl,rfl⟩:=hr
   have hS:(s.heap.push (yU w)).get? s.heap.objs.size=some (yU w):=AF _ rfl
   have Kg:Shared.TypeIs { s with heap:=s.heap.push (yU w) } (.ref s.heap.objs.size) "set":=⟨_,hS,rfl⟩
   have li:=F.called_set.init.lookup
   have bi:=F.called_set.init.bind (.ref s.heap.objs.size)
   repeat (any_goals (first | assumption | wp_step))
   let s1:Shared:={ s with heap:=s.heap.push (yU w) }
   refine codeAny_mono (codeAny_call_builtin (R:=wants (λ r s₂=>r=.none/\∃ h' tk xs,s₂={ s with heap:=h',toks:=tk }/\vT prog w h' s.heap.objs.size xs (vC w)/\sA its ns its.size xs/\
     ∀ b o,b<s.heap.objs.size->s.heap.get? b=some o->h'.get? b=some o) E) F.called_set.init.plain F.entry_set_init (check_set_init_1 Kg ?_)) λ r₂ s₂ HU=>?_
   ·obtain⟨⟨JT,G4,IC,GB⟩,De,AN,nl,Cm⟩:=id hl
    simp only at AN Cm
    subst AN Cm
    have HX:(s.heap.push (yU w)).get? l=some { cls:=.type "list",dict:=G4,data:=.seq its nl,slots:=GB }:=KC _ De
    have sls:=F.sub_list_set
    have slf:=F.sub_list_frozenset
    have nd:(Value.type "list" == Value.type "dict")=false:=by decide
    have Gw:(s.heap.push (yU w)).IsList l its:=⟨_,HX,rfl,nl,rfl⟩
    unfold Builtin.«set.__init__» noKeywords Builtin.Frozenset.updateFrom
    generalize Kj:pyIter=PI
    unfold yU at *
    wp_walk
    subst Kj
    refine K4 Gw (JI (wpAny_runValue ?_))
    have IY:l<s.heap.objs.size:=Al De
    have hsz:(s.heap.push (yU w)).objs.size=s.heap.objs.size+1:=Heap.size_push _ _
    have HZ:l≠(s.heap.push (yU w)).objs.size:=by rw[hsz];exact Ar (BH IY)
    have HK:s.heap.objs.size≠(s.heap.push (yU w)).objs.size:=by rw[hsz];exact Ar (Cj _)
    have low:∀ b:Addr,b<s.heap.objs.size->b≠(s.heap.push (yU w)).objs.size:=λ b hb=>by rw[hsz];exact Ar (BH hb)
    refine Qt (A:=A.in1.in1) (P:=λ i v=>its[i]?=some v) ((Walks.list (A:=A.in1.in1.in1) (by simp[hh]) _ l HZ its).toS) s.heap.objs.size ?_ (its:=its) (ns:=ns) (λ _ _ q=>q) hn (vC w) hT its.size 0 _ [] (by lia) (AO _)
     ⟨⟨_,AF _ rfl,rfl,rfl⟩,Gw.push _⟩ (WX (w:=w) (KC _ hS)) ⟨λ e he=>(by cases he),λ j r hj=>(by lia)⟩ ?_
    ·intro hm
     rcases Ai.mp hm with q | q
     ·exact HK q
     ·exact BI IY (AX.mp q)
    ·intro s' EY hm S' U'
     obtain⟨h',g',d',GP,HN⟩:=s'
     obtain rfl:g'=s.gens:=hm.gens
     obtain rfl:d'=s.drawn:=hm.drawn
     obtain rfl:HN=s.os:=hm.os
     refine Ac (Ac ⟨rfl,h',GP,EY,rfl,S',U',λ b o hb e=>?_⟩)
     refine hm.heap b o (λ q=>?_) (KC _ (KC _ e))
     rcases Ai.mp q with q | q
     ·exact Ar hb q
     ·exact low b hb (AX.mp q)
   ·cases r₂ with
    | error e=>exact HU
    | ok Kr=>
     cases Kr with
     | ret r=>
      obtain⟨rfl,h',tk,xs,rfl,g1,g2,g3⟩:=HU
      repeat (any_goals (first | assumption | wp_step))
      exact h h' tk xs g1 g2 g3
     | _=>exact HU.elim
  | _=>exact hr.elim
end
end ST
namespace L4
open PySem PyProof.Rows
def OO {prog:Program}{w:World}{A:Around}{E:Ae}{s:Shared}{vs:Ad}{ns:List Int}(hI:IntsAre vs ns) (h2:2<=vs.length) (Gg:vs.length<64):
  Core prog w A E vs (λ out=>∃ Ga,IntsAre out.toList Ga/\Ga.Perm ns/\Ga.Pairwise (·<=·)) s:=by
 obtain⟨v1,v2,EI,rfl⟩:∃ v1 v2 EI,vs=v1::v2::EI:=by
  match vs,h2 with
  | v1::v2::EI,_=>exact⟨v1,v2,EI,rfl⟩
 unfold Core
 rw[keyKind_ints hI]
 refine Ac ⟨rfl,?_⟩
 refine KG (wpS_sortRuns (a₀:=pairsOf (v1::v2::EI)) (st:=SortSt.mk' oneType' ((v1::v2::EI).toArray.zip (v1::v2::EI).toArray) #[] 7 none)
   (Q:=λ _ Gi=>(arrOf Gi).Perm (pairsOf (v1::v2::EI))/\failedOf Gi=none/\SortedTo (arrOf Gi) (pairsOf (v1::v2::EI)).size)
   hI.intKeys ⟨Array.Perm.refl _,rfl,rfl,rfl⟩ (by rw[pairsOf_size];simp) (by rw[pairsOf_size];exact Gg) λ Gi a1 a2 a3=>⟨a1,a2,a3⟩) ?_ λ _ _ e=>e
 rintro⟨⟨⟩,Gi⟩ s' ⟨rfl,hp,hf,hs⟩
 exact⟨rfl,hf,sorted_out hI hp hs,by rw[hp.size_eq,pairsOf_size]⟩
end L4
namespace L5
open PySem PySem.Spec L2 L3
open PyProof.Rows hiding St
structure Bq (mg:Aq):Prop where
 set:mg "set"=none
 zip:mg "zip"=none
 enumerate:mg "enumerate"=none
section
variable {X:Cx}{K:Ab}{a b c e:Expr}{ta tb tc:zu}{pos:Pos}{fa fb fc:Ev->Option T}
def sj (f g:yG) (ta tb tc:zu):zu:=fun L S Q=>ta L S λ x S1=>tb L S1 λ y S2=>f x y S2 λ z S3=>match z with
 | .bl k=>if k=true then tc L S3 λ w S4=>g y w S4 Q else Q (.bl false) S3
 | _=>False
def sj.mo {f g:yG}(hf:xx f) (hg:xx g) (ha:yn ta) (hb:yn tb) (hc:yn tc):yn (sj f g ta tb tc):=fun L S Q Q' hq h=>
 ha L S _ _ (λ x S1 h=>hb L S1 _ _ (λ y S2 h=>hf x y S2 _ _ (λ z S3 h=>by
  cases z <;> first
   | exact wA (hc L S3 _ _ λ w S4 h=>hg y w S4 _ _ hq h) (hq _ _) h
   | exact h) h) h) h
def cu {f g:yG}{r r':R2}(hr:xj K f r) (GS:xj K g r') (hf:xx f) (hg:xx g) (ha:yn ta) (hb:yn tb) (hc:yn tc) {Y:St}{H:Hp}{Q:VK}(h:zK K (sj f g ta tb tc) Y H Q):jL r r' (zK K ta) (zK K tb) (zK K tc) Y H Q:=by
 obtain⟨L,S,r1,r2,h⟩:=h
 refine zK.go ha r1 r2 h λ x S1 v H1 h1 q1 e1 p1=>?_
 refine zK.go hb (r1.ext e1) p1 h1 λ y S2 w H2 h2 q2 e2 p2=>?_
 refine hr v w x y H2 S2 _ (zh.ext e2 x q1) q2 p2 (hf x y S2 _ _ (λ d S3 z v3 H3 q3 e3 p3=>?_) h2)
 cases d with
 | bl k=>
  simp only[zh] at q3
  refine⟨k,q3,wA (λ z=>?_) (λ z=>?_) z⟩
  ·refine zK.go hc (r1.ext ((e1.trans e2).trans e3)) p3 z λ w4 S4 v4 H4 h4 q4 e4 p4=>?_
   exact GS w v4 y w4 H4 S4 Q (zh.ext (e3.trans e4) y q2) q4 p4 (hg y w4 S4 _ _ (λ d S' z=>z.ext (((e1.trans e2).trans e3).trans e4)) h4)
  ·exact z _ H3 (by simp only[zh]) ((e1.trans e2).trans e3) p3
 | _=>exact z.elim
@[simp] noncomputable def ja (f g:T->T->Option T) (fa fb fc:Ev->Option T):Ev->Option T:=fun J=>(fa J).bind λ x=>(fb J).bind λ y=>(f x y).bind λ b=>match b with
 | .bl k=>if k=true then (fc J).bind λ z=>g y z else some (.bl false)
 | _=>none
def RD {f g:T->T->Option T}{F G:yG}(hf:Good2 zD f F) (hg:Good2 zD g G) (ha:yH fa ta) (hb:yH fb tb) (hc:yH fc tc):xO (ja f g fa fb fc) (sj F G ta tb tc):=λ S Z L J y Q hE e hq=>by
 obtain⟨x1,e1,e⟩:=Ak.mp e
 obtain⟨x2,e2,e⟩:=Ak.mp e
 obtain⟨b,e3,e⟩:=Ak.mp e
 refine ha S Z L J x1 _ hE e1 λ d1 S1 s1 r1=>?_
 refine hb S1 Z L J x2 _ (hE.grow s1) e2 λ d2 S2 s2 r2=>?_
 refine hf S2 Z x1 x2 b d1 d2 _ (hE.grow (s1.trans s2)).zd (Vw.grow r1 s2) r2 e3 λ c S3 s3 r3=>?_
 split at e
 ·have:=r3.1
  simp only[Sn] at this
  subst this
  split at e
  ·rename_i hk
   obtain⟨x4,e4,e5⟩:=Ak.mp e
   dsimp only;rw[if_pos hk]
   refine hc S3 Z L J x4 _ (hE.grow ((s1.trans s2).trans s3)) e4 λ d4 S4 s4 r4=>?_
   exact hg S4 Z x2 x4 y d2 d4 Q (hE.grow (((s1.trans s2).trans s3).trans s4)).zd (Vw.grow r2 (s3.trans s4)) r4 e5 λ c' S5 s5 r5=>hq c' S5 ((((s1.trans s2).trans s3).trans s4).trans s5) (Cl.cl (((s1.trans s2).trans s3).trans s4) r5)
  ·rename_i hk
   dsimp only;rw[if_neg hk]
   cases e
   exact hq _ S3 ((s1.trans s2).trans s3) (Cl.of (λ _=>nofun) wG)
 ·cases e
def UZ {op GC:CmpOp}{f g:yG}{r r':R2}(ho:yd X (compareOp op) r) (FE:yd X (compareOp GC) r') (hr:xj X.K f r) (GS:xj X.K g r') (hf:xx f) (hg:xx g) (ha:PD X a ta) (hb:PD X b tb) (hc:PD X c tc)
  (hm:lastMarks [op,GC] [b,c]=false:=by with_unfolding_all rfl):PD X (.Compare a [op,GC] [b,c] pos) (sj f g ta tb tc):=
 ⟨sj.mo hf hg ha.mo hb.mo hc.mo,PE.imp (U4 ho FE ha.pe hb.pe hc.pe hm) λ _ _ _ h=>cu hr GS hf hg ha.mo hb.mo hc.mo h⟩
def bK {op GC:CmpOp}{f g:yG}{r r':R2}(ho:yd X (compareOp op) r) (FE:yd X (compareOp GC) r') (hr:xj X.K f r) (GS:xj X.K g r') (hf:xx f) (hg:xx g) (ha:PD X a ta) (hb:PD X b tb) (hc:PD X c tc)
  (hm:lastMarks [op,GC] [b,c]=false:=by with_unfolding_all rfl):xu X (.Compare a [op,GC] [b,c] pos) (vd (sj f g ta tb tc)):=by
 refine⟨vd.mo (sj.mo hf hg ha.mo hb.mo hc.mo),PT.imp (VH ho FE ha.pe hb.pe hc.pe hm) fun Y H Q h=>?_⟩
 obtain⟨L,S,r1,r2,h⟩:=h
 refine cu hr GS hf hg ha.mo hb.mo hc.mo ⟨L,S,r1,r2,sj.mo hf hg ha.mo hb.mo hc.mo L S _ _ (λ d S' z v H' a b c=>?_) h⟩
 cases d with
 | bl k=>simp only[zh] at a;exact⟨k,a,z H' b c⟩
 | _=>exact z.elim
end
end L5
namespace L2
open PySem PySem.Spec PyProof.Rows
section
variable {X:Cx}
def ag:yd X (compareOp .Is) (λ x y H Q=>∃ c d,x=.bl c/\y=.bl d/\Q (.bl (c == d)) H):=by
 intro EC s Y H x y v u Q I rx ry h
 obtain⟨c,d,rfl,rfl,q⟩:=h
 cases rx
 cases ry
 exact is_bool ⟨.bl _,H,I,rfl,q⟩
end
end L2
namespace L5
open PySem PySem.Spec L2 L3
open PyProof.Rows hiding St
section
variable {X:Cx}{K:Ab}{a b c e o i v:Expr}{es:List Expr}{ta tb td ty tv:zu}{pos p pos':Pos}
def vI:yG:=λ x y S Q=>match x,y with
 | .int i,.int j=>Q (.bl (decide (i<j))) S
 | .tup ds,.tup es=>∃ ns ms:List Int,ds=ns.map D.int/\es=ms.map D.int/\Q (.bl (HT.lexLt ns ms)) S
 | _,_=>False
noncomputable def yR:T->T->Option T
 | .int i,.int j=>some (.bl (decide (i<j)))
 | .tup ts,.tup us=>(uq ts).bind λ ns=>(uq us).map λ ms=>.bl (HT.lexLt ns ms)
 | _,_=>none
def vI.mo:xx vI:=λ x y S Q Q' hq h=>by
 unfold vI at h ⊢
 split at h
 ·exact hq _ _ h
 ·obtain⟨ns,ms,h1,h2,h3⟩:=h
  exact⟨ns,ms,h1,h2,hq _ _ h3⟩
 ·exact h.elim
def vI.fits:xj K vI (λ x y H Q=>wW (λ i j=>.bl (decide (i<j))) x y H Q\/iQ K x y H Q):=λ x y d e H S Q h1 h2 h3 h=>by
 unfold vI at h
 split at h
 ·simp only[zh] at h1 h2
  exact .inl ⟨_,_,h1,h2,h _ H (by simp only[zh]) (.refl H) h3⟩
 ·obtain⟨ns,ms,rfl,rfl,h⟩:=h
  simp only[zh] at h1 h2
  obtain⟨a,xs,rfl,g1,g2⟩:=h1
  obtain⟨b,ys,rfl,g3,g4⟩:=h2
  rw[g2.ints] at g1
  rw[g4.ints] at g3
  exact .inr ⟨a,b,ns,ms,rfl,rfl,g1,g3,h _ H (by simp only[zh]) (.refl H) h3⟩
 ·exact h.elim
def gZ:Good2 zD yR vI:=λ S Z x y z d e Q hz hx hy ef hq=>by
 unfold yR at ef
 split at ef
 ·cases ef
  cases hx.int;cases hy.int
  exact hq _ S (.refl S) (Cl.of (λ _=>nofun) wG)
 ·obtain⟨ns,e1,e2⟩:=Ak.mp ef
  obtain⟨ms,e3,rfl⟩:=AB.mp e2
  cases nG e1
  cases nG e3
  obtain⟨ds,rfl,h2⟩:=hx.tup
  obtain⟨es,rfl,h4⟩:=hy.tup
  exact⟨ns,ms,tQ.mp h2,tQ.mp h4,hq _ S (.refl S) (Cl.of (λ _=>nofun) wG)⟩
 ·cases ef
def ae {k:Nat}(hr:ya k X.A):yd X (compareOp .Lt) (λ x y H Q=>wW (λ i j=>.bl (decide (i<j))) x y H Q\/iQ X.K x y H Q):=Tr.or (Tq (by have:=hr.units;lia))
def UN {k:Nat}(hr:ya k X.A) (ha:PD X a ta) (hb:PD X b tb):PD X (.Compare a [.Lt] [b] pos) (yw vI ta tb):=kg (ae hr) vI.fits vI.mo ha hb (uK _)
def nc {k:Nat}(hr:ya k X.A) (ha:PD X a ta) (hb:PD X b tb):xu X (.Compare a [.Lt] [b] pos) (vd (yw vI ta tb)):=sT (ae hr) vI.fits vI.mo ha hb (uK _)
def vn (neg:Bool):yG:=λ x y S Q=>match x,y with
 | .bl c,.bl d=>Q (.bl (cond neg (c != d) (c == d))) S
 | x,.zk=>Q (.bl (cond neg (!pD x) (pD x))) S
 | _,_=>False
noncomputable def wL (neg:Bool):T->T->Option T
 | .bl c,.bl d=>some (.bl (cond neg (c != d) (c == d)))
 | x,.zk=>some (.bl (cond neg (!isNone x) (isNone x)))
 | _,_=>none
def vn.mo {neg:Bool}:xx (vn neg):=λ x y S Q Q' hq h=>by
 unfold vn at h ⊢
 split at h
 ·exact hq _ _ h
 ·exact hq _ _ h
 ·exact h.elim
def vn.fits:xj K (vn false) (λ x y H Q=>(∃ c d,x=.bl c/\y=.bl d/\Q (.bl (c == d)) H)\/(y=.zk/\Q (.bl (decide (x=.zk))) H)):=λ x y d e H S Q h1 h2 h3 h=>by
 unfold vn at h
 split at h
 ·simp only[zh] at h1 h2
  exact .inl ⟨_,_,h1,h2,h _ H (by simp only[zh,cond]) (.refl H) h3⟩
 ·simp only[zh] at h2
  refine .inr ⟨h2,?_⟩
  rw[QU h1]
  exact h _ H (by simp only[zh,cond]) (.refl H) h3
 ·exact h.elim
def QV {S:SS}{Z:Addr->Prop}{x:T}{d:D}(hx:Vw S Z x d):pD d=isNone x:=by
 cases x with
 | zk=>cases hx.zk;rfl
 | bl _=>cases hx.bl;rfl
 | int _=>cases hx.int;rfl
 | str _=>cases hx.str;rfl
 | tup _=>obtain⟨ds,rfl,_⟩:=hx.tup;rfl
 | lst _=>obtain⟨ds,rfl | ⟨a,rfl,h1⟩,h2⟩:=hx.lst <;> rfl
 | yT=>obtain⟨a,Aa,⟨rfl,_⟩,h1⟩:=hx.yT;rfl
 | err _ _ _=>obtain⟨x,rfl,_⟩:=hx.err;rfl
def PM {neg:Bool}:Good2 zD (wL neg) (vn neg):=λ S Z x y z d e Q hz hx hy ef hq=>by
 unfold wL at ef
 split at ef
 ·cases ef
  cases hx.bl;cases hy.bl
  exact hq _ S (.refl S) (Cl.of (λ _=>nofun) wG)
 ·cases ef
  cases hy.zk
  have key:Q (.bl (cond neg (!pD d) (pD d))) S:=by
   rw[QV hx]
   exact hq _ S (.refl S) (Cl.of (λ _=>nofun) wG)
  unfold vn
  cases d <;> exact key
 ·cases ef
def nj (ha:PD X a ta) (hb:PD X b tb):PD X (.Compare a [.Is] [b] pos) (yw (vn false) ta tb):=kg (ag.or af) vn.fits vn.mo ha hb (uK _)
def i_ (ha:PD X a ta) (hb:PD X b tb):xu X (.Compare a [.Is] [b] pos) (vd (yw (vn false) ta tb)):=sT (ag.or af) vn.fits vn.mo ha hb (uK _)
def Yf (td ty tv:zu):yh:=λ E L S=>tv L S λ v S1=>td L S1 λ x S2=>ty L S2 λ y S3=>∃ p ds k j,x=.ref p/\y=.int k/\S3 p=some (.lst ds)/\w_ ds.length k=some j/\E.nx L (ups S3 p (.lst (ds.set j v)))
theorem zo.set {H:Hp}{d:D}{x:V}(h:zh K H d x):∀ {ds:List D}{xs:List V}(j:Nat),zo K H ds xs->zo K H (ds.set j d) (xs.set j x)
 | [],xs,j,r=>by simp only[zo] at r;subst r;exact .nil
 | c::ds,xs,0,r=>by
  simp only[zo] at r
  obtain⟨y,ys,rfl,_,r2⟩:=r
  exact .cons h r2
 | c::ds,xs,j+1,r=>by
  simp only[zo] at r
  obtain⟨y,ys,rfl,r1,r2⟩:=r
  exact .cons r1 (zo.set h j r2)
def UE (ho:PD X o td) (hi:PD X i ty) (hv:PD X v tv) (hs:swapsWithSole [.Subscript o i pos'] v pos.line X.env=pure false:=by rfl) (hw:swappedStores [.Subscript o i pos'] v X.env=pure none:=by rfl)
  (h1:(assignEach [.Subscript o i pos'] X.env).map (·.2)=[assign (.Subscript o i pos') X.env]:=by rfl)
  (ha:∀ v,assign (.Subscript o i pos') X.env v=(do
   let ov <- holding [v] (eval o X.env)
   let iv <- holding [v,ov] (eval i X.env)
   standAt pos'
   holding [v,ov,iv] (setItem ov iv v)
   release [v,ov,iv] []):=by intro _;rfl):vV X (.Assign [.Subscript o i pos'] v pos) (Yf td ty tv):=by
 refine⟨λ E E' L S hE z=>hv.mo L S _ _ (λ w S1 z=>ho.mo L S1 _ _ (λ x S2 z=>hi.mo L S2 _ _ (λ y S3 ⟨p,ds,k,j,a,b,c,d,h⟩=>⟨p,ds,k,j,a,b,c,d,hE.nx _ _ h⟩) z) z) z,PS.imp (VT hv.pe (Ug ho.pe hi.pe set_list ha) hs hw h1) λ D Y H hu=>?_⟩
 obtain⟨L,S,r1,r2,z⟩:=hu
 refine zK.go hv.mo r1 r2 z λ w S1 w1 H1 h1 q1 e1 p1=>?_
 refine zK.go ho.mo (r1.ext e1) p1 h1 λ x S2 w2 H2 h2 q2 e2 p2=>?_
 refine zK.go hi.mo ((r1.ext e1).ext e2) p2 h2 λ y S3 w3 H3 h3 q3 e3 p3=>?_
 obtain⟨p,ds,k,j,rfl,rfl,c1,c2,h⟩:=h3
 simp only[zh] at q2 q3
 subst q2 q3
 obtain⟨xs,g1,g2⟩:=p3 _ _ c1
 have e4:Ext H3 (upd H3 p (.lst (xs.set j w1))):=.lst g1 _
 refine⟨p,xs,k,j,rfl,rfl,g1,by rw[<- g2.length];exact c2,?_⟩
 exact h Y _ ((((r1.ext e1).ext e2).ext e3).ext e4) (((e1.trans e2).trans e3).trans e4) (p3.ups e4 ⟨_,ye,zo.ext e4 _ (zo.set (zh.ext (e2.trans e3) w q1) j g2)⟩)
@[simp] def aH (n:Nat) (f v:Ev->Option T):Sm:=fun J=>(v J).bind λ z=>(f J).bind λ y=>match J[n]?,y with
 | some (some (.own (.lst ts))),.int k=>(w_ ts.length k).map λ j=>.nx (J.set n (some (.own (.lst (ts.set j z)))))
 | _,_=>none
def TF {R:Rk}(n:Nat) {f v:Ev->Option T}(hf:yH f ty) (hv:vg v tv):ym R (aH n f v) (Yf (yt n) ty tv):=λ S0 Z0 S Z L J o E F e P=>by
 obtain⟨z,e1,e⟩:=Ak.mp e
 obtain⟨x,e2,e3⟩:=Ak.mp e
 split at e3
 ·rename_i ts k h
  obtain⟨j,hj,rfl⟩:=AB.mp e3
  refine hv S Z L J z _ F.er e1 λ dz S1 s1 r1=>?_
  have F1:=F.grow s1
  obtain⟨p,ob,h1,h2,h3,h4⟩:=F1.er.ow n _ h
  cases ob with
  | zH _=>exact h3.elim
  | lst ds=>
   show yt n L S1 _
   unfold yt;rw[h1]
   refine hf S1 Z L J _ _ F1.er e2 λ d S2 s2 r2=>?_
   cases Vw.int r2
   have h5:zl (zJ S2 Z) ts ds:=zl.sx (wM s2) ts h3
   exact⟨p,ds,k,j,rfl,rfl,s2 _ _ h2,by rw[h5.len];exact hj,P _ Z L ((F1.grow s2).mut (us:=.lst (ts.set j z)) (es:=.lst (ds.set j dz)) n h h1 (h5.cN j (Sn.sx (wM s2) z r1)))⟩
 ·cases e3
def UT {x y:Str}{u:Value}(hm:X.mg x=some u) (r:RelV (.str y) u) (hg:Gl X x:=by rfl) (hd:(x == ("__debug__":Str))=false:=by decide):PD X (.Name x pos) (dC (.str y)):=nk (iY hg hm r hd) λ _=>by simp only[zh]
end
end L5
namespace ZP
open PySem PyProof.Rows
noncomputable def gO (k:Bool):String:=cond k "tuple_iterator" "list_iterator"
def SI (h:Heap) (k:Bool) (it l:Addr) (i:Nat):Prop:=∃ o,h.get? it=some o/\o.cls=.type (gO k)/\o.data=.fields #[.ref l,.int i 0]
def SQ (h:Heap) (k:Bool) (l:Addr) (xs:Av):Prop:=match k with
 | true=>h.IsTuple l xs
 | false=>h.IsList l xs
def SI.on {h h':Heap}{k:Bool}{it l:Addr}{i:Nat}(x:SI h k it l i) (f:∀ o,h.get? it=some o->h'.get? it=some o):SI h' k it l i:=
 let ⟨o,ho,r⟩:=x;⟨o,f o ho,r⟩
def SQ.on {h h':Heap}{k:Bool}{l:Addr}{xs:Av}(x:SQ h k l xs) (f:∀ o,h.get? l=some o->h'.get? l=some o):SQ h' k l xs:=by
 cases k with
 | true=>obtain⟨o,ho,r⟩:=(show h.IsTuple l xs from x);exact⟨o,f o ho,r⟩
 | false=>obtain⟨o,ho,r⟩:=(show h.IsList l xs from x);exact⟨o,f o ho,r⟩
def SQ.lt {h:Heap}{k:Bool}{l:Addr}{xs:Av}(x:SQ h k l xs):l<h.objs.size:=by
 cases k with
 | true=>obtain⟨o,ho,_⟩:=(show h.IsTuple l xs from x);exact Al ho
 | false=>obtain⟨o,ho,_⟩:=(show h.IsList l xs from x);exact Al ho
theorem SQ.cls {h:Heap}{k:Bool}{l:Addr}{xs:Av}(x:SQ h k l xs):∃ o,h.get? l=some o/\o.cls=.type (cond k "tuple" "list"):=by
 cases k with
 | true=>obtain⟨o,ho,c,_⟩:=(show h.IsTuple l xs from x);exact⟨o,ho,c⟩
 | false=>obtain⟨o,ho,c,_⟩:=(show h.IsList l xs from x);exact⟨o,ho,c⟩
section
variable {prog:Program}{w:World}{A:Around}{E:Ae}{s:Shared}
def made {k:Bool}{l:Addr}{xs:Av}{Q:Ae}(hl:SQ s.heap k l xs)
  (hQ:Q (.ref s.heap.objs.size) { s with heap:=s.heap.push { cls:=.type (gO k),data:=.fields #[.ref l,.int 0 0] } }):wpAny (model prog w) A (pyIter (.ref l)) Q E s:=by
 cases k with
 | true=>exact wpAny_pyIter_tuple hl hQ
 | false=>exact K4 hl hQ
def O6 {it l:Addr}{i:Nat}{xs:Av}{x:Value}{Q:Ae}(hit:s.heap.IsTupleIter it l i) (hl:s.heap.IsTuple l xs) (hx:xs[i]?=some x)
  (hQ:∀ h',h'.IsTupleIter it l (i+1)->Heap.SameBut it s.heap h'->Q x { s with heap:=h' }):wpAny (model prog w) A (Builtin.SmallTypes.nextOf (.ref it)) Q E s:=by
 have ht:=hit.typeIs
 obtain⟨oi,e1,e2,e3⟩:=id hit
 obtain⟨ol,g1,_,n,g2⟩:=hl
 refine JI (K0 (name:=Str.ofString "__next__") ht F.slot_tuple_iterator_next (KQ F.slot_tuple_iterator_next ht F.entry_tuple_iterator_next ?_ (F.args_tuple_iterator_next_1 _)))
 refine JI (m:=field (.ref it) 0) (KH e1 e3 (x:=.ref l) rfl ?_)
 dsimp only
 rw[if_neg (show ¬ ((Value.ref l == Value.none)=true) from BN)]
 refine JI (m:=field (.ref it) 1) (KH e1 e3 (x:=.int i 0) rfl ?_)
 dsimp only
 refine JI (m:=seqItems? (.ref l)) (KW g1 g2 ?_)
 simp only[CJ,hx]
 have there:=KN (Obj.mapFields λ y=>y.setIfInBounds 1 (rawInt ((i:Int)+1))) e1 (Obj.isFreed_of_fields (Obj.data_mapFields e3 _))
 refine JI (KS e1 e3 (by simp) (Ac ⟨x,rfl,Ac (hQ _ ⟨_,there,(Obj.cls_mapFields ..).trans e2,?_⟩ (Heap.SameBut.update ..))⟩))
 rw[Obj.data_mapFields e3];simp[rawInt]
def Ox {it l:Addr}{i:Nat}{xs:Av}{Q:Ae}(hh:A.handled=none) (hit:s.heap.IsTupleIter it l i) (hl:s.heap.IsTuple l xs) (hx:xs[i]?=none)
  (hE:∀ h' e,Heap.ExtBut it s.heap h'->(∃ o,h'.get? e=some o/\o.cls=.type "StopIteration")->E (.ref e) { s with heap:=h' }):wpAny (model prog w) A (Builtin.SmallTypes.nextOf (.ref it)) Q E s:=by
 have ht:=hit.typeIs
 obtain⟨oi,e1,e2,e3⟩:=id hit
 obtain⟨ol,g1,_,n,g2⟩:=hl
 refine JI (K0 (name:=Str.ofString "__next__") ht F.slot_tuple_iterator_next (KQ F.slot_tuple_iterator_next ht F.entry_tuple_iterator_next ?_ (F.args_tuple_iterator_next_1 _)))
 refine JI (m:=field (.ref it) 0) (KH e1 e3 (x:=.ref l) rfl ?_)
 dsimp only
 rw[if_neg (show ¬ ((Value.ref l == Value.none)=true) from BN)]
 refine JI (m:=field (.ref it) 1) (KH e1 e3 (x:=.int i 0) rfl ?_)
 dsimp only
 refine JI (m:=seqItems? (.ref l)) (KW g1 g2 ?_)
 simp only[CJ,hx]
 refine JI (wpAny_rule (JI (KS e1 e3 (by simp) ?_)))
 refine JI (m:=newExc (.type "StopIteration") []) ?_
 simp only[newExc,newTuple]
 refine JI (KY (JI (m:=firstArgMember _ _) (wpAny_of_eq (a:=Value.none) (by first | rfl | (simp only[firstArgMember];rfl)) (KY ?_ (by size_fits)))) (by size_fits))
 simp only[raiseNew]
 refine JI (wpAny_handled ?_)
 rw[show A.in1.handled=none from hh]
 exact JI (Ac (wpAny_throw (hE _ _ (((Heap.SameBut.update ..).extBut.push _).push _) ⟨_,AF _ rfl,rfl⟩)))
def draw {k:Bool}{it l:Addr}{i:Nat}{xs:Av}{x:Value}{Q:Ae}(hit:SI s.heap k it l i) (hl:SQ s.heap k l xs) (hx:xs[i]?=some x)
  (hQ:∀ h',SI h' k it l (i+1)->Heap.SameBut it s.heap h'->Q x { s with heap:=h' }):wpAny (model prog w) A (Builtin.SmallTypes.nextOf (.ref it)) Q E s:=by
 cases k with
 | true=>exact O6 hit hl hx hQ
 | false=>exact wpAny_nextOf_list_item hit hl hx hQ
def kU {k:Bool}{it l:Addr}{i:Nat}{xs:Av}{Q:Ae}(hh:A.handled=none) (hit:SI s.heap k it l i) (hl:SQ s.heap k l xs) (hx:xs[i]?=none)
  (hE:∀ h' e,Heap.ExtBut it s.heap h'->(∃ o,h'.get? e=some o/\o.cls=.type "StopIteration")->E (.ref e) { s with heap:=h' }):wpAny (model prog w) A (Builtin.SmallTypes.nextOf (.ref it)) Q E s:=by
 cases k with
 | true=>exact Ox hh hit hl hx hE
 | false=>exact wpAny_nextOf_list_end hh hit hl hx hE
structure jr (z TI TO i1 i2 l1 l2:Addr):Prop where
 nd:[z,TI,TO,i1,i2].Nodup
 f1:l1∉[z,TI,TO,i1,i2]
 f2:l2∉[z,TI,TO,i1,i2]
structure At (h:Heap) (k1 k2:Bool) (z TI TO i1 i2 l1 l2:Addr) (f0:Value) (n:Nat):Prop where
 z:IsZip h z TI TO f0
 ti:IsPair h TI (.ref i1) (.ref i2)
 to:∃ a b,IsPair h TO a b
 s1:SI h k1 i1 l1 n
 s2:SI h k2 i2 l2 n
def At.keep {h h':Heap}{k1 k2:Bool}{z TI TO i1 i2 l1 l2:Addr}{f0:Value}{n:Nat}(S:At h k1 k2 z TI TO i1 i2 l1 l2 f0 n) (f:∀ b∈[z,TI,TO,i1,i2],∀ o,h.get? b=some o->h'.get? b=some o):At h' k1 k2 z TI TO i1 i2 l1 l2 f0 n:=
 ⟨f z (by simp) _ S.z,f TI (by simp) _ S.ti,let ⟨a,b,e⟩:=S.to;⟨a,b,f TO (by simp) _ e⟩,S.s1.on (f i1 (by simp)),S.s2.on (f i2 (by simp))⟩
def item {k1 k2:Bool}{z TI TO i1 i2 l1 l2:Addr}{n:Nat}{xs ys:Av}{x y:Value}{Q:Option Value->Shared->Prop}(D:jr z TI TO i1 i2 l1 l2) (S:At s.heap k1 k2 z TI TO i1 i2 l1 l2 .none n)
  (h1:SQ s.heap k1 l1 xs) (h2:SQ s.heap k2 l2 ys) (hx:xs[n]?=some x) (hy:ys[n]?=some y)
  (hQ:∀ h',At h' k1 k2 z TI TO i1 i2 l1 l2 (rawInt s.heap.objs.size) (n+1)->IsPair h' s.heap.objs.size x y->(∀ c o,c∉[z,TI,TO,i1,i2]->s.heap.get? c=some o->h'.get? c=some o)->Q (some (.ref s.heap.objs.size)) { s with heap:=h' }):
  wpAny (model prog w) A (pyNext (.ref z)) Q E s:=by
 obtain⟨nd,f1,f2⟩:=D
 simp only[Bh,Ai,AV,or_false,not_or,List.nodup_nil,and_true,not_false_eq_true] at nd f1 f2
 obtain⟨⟨n1,n2,n3,n4⟩,⟨n5,n6,n7⟩,⟨n8,n9⟩,Ju⟩:=nd
 obtain⟨a1,a2,a3,a4,a5⟩:=f1
 obtain⟨b1,b2,b3,b4,b5⟩:=f2
 obtain⟨hz,DI,⟨a,b,D9⟩,s1,s2⟩:=S
 have hT:s.TypeIs (.ref z) "zip":=⟨_,hz,rfl⟩
 unfold pyNext
 refine JI (wpAny_attempt (K0 (name:=Str.ofString "__next__") hT F.slot_zip_next (KQ F.slot_zip_next hT F.entry_zip_next ?_ (F.args_zip_next_1 _))))
 refine JI (m:=field (.ref z) 2) (KH hz rfl (x:=.bool false) rfl ?_)
 refine JI (m:=field (.ref z) 3) (KH hz rfl (x:=.ref TI) rfl ?_)
 refine JI (m:=seqItems? (.ref TI)) (KW DI rfl ?_)
 refine JI (m:=Builtin.SmallTypes.ownedTupleIsFree (.ref z)) (JI (m:=field (.ref z) 0) (KH hz rfl (x:=.none) rfl (Ac ?_)))
 simp only[if_true]
 refine JI (wpAny_rule (JI (KH hz rfl (x:=.ref TO) rfl (JI (K3 hz (by simp) λ g1 Hx e1=>?_)))))
 replace Hx:IsZip g1 z TI TO .ellipsis:=Hx
 refine JI ?_
 simp only[Dt,List.zipIdx_nil,DE,List.forIn_nil]
 refine JI (JI (wpAny_onRaise (JI (m:=Builtin.SmallTypes.nextOf (.ref i1)) (draw (s1.on λ o q=>e1.extBut _ _ (Ne.symm n3) q) (h1.on λ o q=>e1.extBut _ _ a1 q) hx λ g2 s12 e2=>Ac ?_))))
 have to2:IsPair g2 TO a b:=e2.extBut _ _ n8 (e1.extBut _ _ (Ne.symm n2) D9)
 refine JI (KW to2 rfl (JI (wpAny_updateSeq_pair to2 λ g3 to3 e3=>JI (wpAny_letGo (Ac ?_)))))
 replace to3:IsPair g3 TO x b:=to3
 have up:∀ c o,c≠z->c≠i1->c≠TO->s.heap.get? c=some o->g3.get? c=some o:=λ c o c1 c2 c3 q=>e3.extBut _ _ c3 (e2.extBut _ _ c2 (e1.extBut _ _ c1 q))
 refine JI (JI (wpAny_onRaise (JI (m:=Builtin.SmallTypes.nextOf (.ref i2)) (draw (s2.on λ o q=>up _ o (Ne.symm n4) (Ne.symm Ju) (Ne.symm n9) q) (h2.on λ o q=>up _ o b1 b4 b3 q) hy λ g4 s24 e4=>Ac ?_))))
 have to4:IsPair g4 TO x b:=e4.extBut _ _ n9 to3
 refine JI (KW to4 rfl (JI (wpAny_updateSeq_pair to4 λ g5 Jp e5=>JI (wpAny_letGo (Ac (Ac ?_))))))
 replace Jp:IsPair g5 TO x y:=Jp
 refine JI (KW Jp rfl (JI (wpAny_newTuple ?_)))
 have sz:g5.objs.size=s.heap.objs.size:=by rw[e5.1,e4.1,e3.1,e2.1,e1.1]
 have hz5:IsZip g5 z TI TO .ellipsis:=e5.extBut _ _ n2 (e4.extBut _ _ n4 (e3.extBut _ _ n2 (e2.extBut _ _ n3 Hx)))
 have up5:∀ c o,c∉[z,TI,TO,i1,i2]->s.heap.get? c=some o->g5.get? c=some o:=λ c o hc q=>by
  simp only[Ai,AV,or_false,not_or] at hc
  exact e5.extBut _ _ hc.2.2.1 (e4.extBut _ _ hc.2.2.2.2 (up c o hc.1 hc.2.2.2.1 hc.2.2.1 q))
 have ti5:IsPair g5 TI (.ref i1) (.ref i2):=e5.extBut _ _ n5 (e4.extBut _ _ n7 (up _ _ (Ne.symm n1) n6 n5 DI))
 have s15:SI g5 k1 i1 l1 (n+1):=s12.on λ o q=>e5.extBut _ _ (Ne.symm n8) (e4.extBut _ _ Ju (e3.extBut _ _ (Ne.symm n8) q))
 have s25:SI g5 k2 i2 l2 (n+1):=s24.on λ o q=>e5.extBut _ _ (Ne.symm n9) q
 have lz:z<g5.objs.size:=Al hz5
 refine JI (m:=Builtin.SmallTypes.ownedTupleHandOut (.ref z) (.ref g5.objs.size)) ?_
 have hz6:IsZip (g5.push { cls:=.type "tuple",data:=.seq #[x,y] }) z TI TO .ellipsis:=KC _ hz5
 refine JI (K3 hz6 (by simp) λ g7 J6 e7=>?_)
 replace J6:IsZip g7 z TI TO (rawInt g5.objs.size):=J6
 refine K3 J6 (by simp) λ g8 Jx e8=>?_
 replace Jx:IsZip g8 z TI TO (rawInt g5.objs.size):=Jx
 have up8:∀ c o,c≠z->(g5.push { cls:=.type "tuple",data:=.seq #[x,y] }).get? c=some o->g8.get? c=some o:=λ c o c1 q=>e8.extBut _ _ c1 (e7.extBut _ _ c1 q)
 have T8:IsPair g8 g5.objs.size x y:=up8 _ _ (BI lz) (AF _ rfl)
 have Iw:∀ c o,c≠z->g5.get? c=some o->g8.get? c=some o:=λ c o c1 q=>up8 c o c1 (KC _ q)
 rw[sz] at Jx T8
 refine Ac ⟨.ref g5.objs.size,rfl,Ac ?_⟩
 show Q (some (.ref g5.objs.size)) _
 rw[sz]
 refine hQ g8 ⟨Jx,Iw _ _ (Ne.symm n1) ti5,⟨x,y,Iw _ _ (Ne.symm n2) Jp⟩,s15.on λ o q=>Iw _ o (Ne.symm n3) q,s25.on λ o q=>Iw _ o (Ne.symm n4) q⟩ T8 λ c o hc q=>Iw c o (λ e=>hc (by simp[e])) (up5 c o hc q)
def stop {k1 k2:Bool}{z TI TO i1 i2 l1 l2:Addr}{n:Nat}{xs ys:Av}{Q:Option Value->Shared->Prop}(hh:A.handled=none) (D:jr z TI TO i1 i2 l1 l2) (S:At s.heap k1 k2 z TI TO i1 i2 l1 l2 .none n)
  (h1:SQ s.heap k1 l1 xs) (h2:SQ s.heap k2 l2 ys) (Bp:xs[n]?=none\/ys[n]?=none)
  (hQ:∀ h',(∀ c o,c∉[z,TI,TO,i1,i2]->s.heap.get? c=some o->h'.get? c=some o)->Q none { s with heap:=h' }):
  wpAny (model prog w) A (pyNext (.ref z)) Q E s:=by
 obtain⟨nd,f1,f2⟩:=D
 simp only[Bh,Ai,AV,or_false,not_or,List.nodup_nil,and_true,not_false_eq_true] at nd f1 f2
 obtain⟨⟨n1,n2,n3,n4⟩,⟨n5,n6,n7⟩,⟨n8,n9⟩,Ju⟩:=nd
 obtain⟨a1,a2,a3,a4,a5⟩:=f1
 obtain⟨b1,b2,b3,b4,b5⟩:=f2
 obtain⟨hz,DI,⟨a,b,D9⟩,s1,s2⟩:=S
 have hT:s.TypeIs (.ref z) "zip":=⟨_,hz,rfl⟩
 have fin:∀ (h':Heap) (e:Addr),(∀ c o,c∉[z,TI,TO,i1,i2]->s.heap.get? c=some o->h'.get? c=some o)->(∃ o,h'.get? e=some o/\o.cls=.type "StopIteration")->
   wpAny (model prog w) A (do if <- isInstance (.ref e) (.type "StopIteration") then pure none else throw (.ref e)) Q E { s with heap:=h' }:=λ h' e k1 k2=>by
  obtain⟨o,ho,hc⟩:=k2
  exact JI (wpAny_isInstance (T:="StopIteration") (b:=true) ⟨o,ho,hc⟩ isSubtype_stop (Ac (hQ _ k1)))
 unfold pyNext
 refine JI (wpAny_attempt (K0 (name:=Str.ofString "__next__") hT F.slot_zip_next (KQ F.slot_zip_next hT F.entry_zip_next ?_ (F.args_zip_next_1 _))))
 refine JI (m:=field (.ref z) 2) (KH hz rfl (x:=.bool false) rfl ?_)
 refine JI (m:=field (.ref z) 3) (KH hz rfl (x:=.ref TI) rfl ?_)
 refine JI (m:=seqItems? (.ref TI)) (KW DI rfl ?_)
 refine JI (m:=Builtin.SmallTypes.ownedTupleIsFree (.ref z)) (JI (m:=field (.ref z) 0) (KH hz rfl (x:=.none) rfl (Ac ?_)))
 simp only[if_true]
 refine JI (wpAny_rule (JI (KH hz rfl (x:=.ref TO) rfl (JI (K3 hz (by simp) λ g1 Hx e1=>?_)))))
 replace Hx:IsZip g1 z TI TO .ellipsis:=Hx
 refine JI ?_
 simp only[Dt,List.zipIdx_nil,DE,List.forIn_nil]
 cases hx:xs[n]? with
 | none=>
  refine JI (JI (wpAny_onRaise (JI (m:=Builtin.SmallTypes.nextOf (.ref i1)) (kU hh (s1.on λ o q=>e1.extBut _ _ (Ne.symm n3) q) (h1.on λ o q=>e1.extBut _ _ a1 q) hx λ g2 ex e2 he=>?_))))
  have hz2:IsZip g2 z TI TO .ellipsis:=e2 _ _ n3 Hx
  obtain⟨oe,q1,q2⟩:=he
  have ne:ex≠z:=λ q=>by subst q;rw[hz2] at q1;cases q1;simp at q2
  refine K3 hz2 (by simp) λ g3 _ e3=>fin g3 ex (λ c o hc q=>?_) ⟨oe,e3.extBut _ _ ne q1,q2⟩
  simp only[Ai,AV,or_false,not_or] at hc
  exact e3.extBut _ _ hc.1 (e2 _ _ hc.2.2.2.1 (e1.extBut _ _ hc.1 q))
 | some x=>
  have hy:ys[n]?=none:=Bp.resolve_left (by rw[hx];simp)
  refine JI (JI (wpAny_onRaise (JI (m:=Builtin.SmallTypes.nextOf (.ref i1)) (draw (s1.on λ o q=>e1.extBut _ _ (Ne.symm n3) q) (h1.on λ o q=>e1.extBut _ _ a1 q) hx λ g2 s12 e2=>Ac ?_))))
  have to2:IsPair g2 TO a b:=e2.extBut _ _ n8 (e1.extBut _ _ (Ne.symm n2) D9)
  refine JI (KW to2 rfl (JI (wpAny_updateSeq_pair to2 λ g3 to3 e3=>JI (wpAny_letGo (Ac ?_)))))
  have up:∀ c o,c≠z->c≠i1->c≠TO->s.heap.get? c=some o->g3.get? c=some o:=λ c o c1 c2 c3 q=>e3.extBut _ _ c3 (e2.extBut _ _ c2 (e1.extBut _ _ c1 q))
  refine JI (JI (wpAny_onRaise (JI (m:=Builtin.SmallTypes.nextOf (.ref i2)) (kU hh (s2.on λ o q=>up _ o (Ne.symm n4) (Ne.symm Ju) (Ne.symm n9) q) (h2.on λ o q=>up _ o b1 b4 b3 q) hy λ g4 ex e4 he=>?_))))
  have hz4:IsZip g4 z TI TO .ellipsis:=e4 _ _ n4 (e3.extBut _ _ n2 (e2.extBut _ _ n3 Hx))
  obtain⟨oe,q1,q2⟩:=he
  have ne:ex≠z:=λ q=>by subst q;rw[hz4] at q1;cases q1;simp at q2
  refine K3 hz4 (by simp) λ g5 _ e5=>fin g5 ex (λ c o hc q=>?_) ⟨oe,e5.extBut _ _ ne q1,q2⟩
  simp only[Ai,AV,or_false,not_or] at hc
  exact e5.extBut _ _ hc.1 (e4 _ _ hc.2.2.2.2 (up c o hc.1 hc.2.2.2.1 hc.2.2.1 q))
end
abbrev vD (k:Bool) (l:Addr):Obj:={ cls:=.type (gO k),data:=.fields #[.ref l,.int 0 0] }
abbrev pG (k1 k2:Bool) (h:Heap) (l1 l2:Addr):Heap:=(h.push (vD k1 l1)).push (vD k2 l2)
abbrev kD (k1 k2:Bool) (h:Heap) (l1 l2:Addr):Heap:=(pG k1 k2 h l1 l2).push { cls:=.type "tuple",data:=.seq #[.ref h.objs.size,.ref (h.push (vD k1 l1)).objs.size] }
abbrev kC (k1 k2:Bool) (h:Heap) (l1 l2:Addr):Heap:=(kD k1 k2 h l1 l2).push { cls:=.type "tuple",data:=.seq #[.none,.none] }
abbrev pF (k1 k2:Bool) (h:Heap) (l1 l2:Addr):Heap:=(kC k1 k2 h l1 l2).push { cls:=.type "zip",data:=.fields #[.none,.bool false,.bool false,.ref (pG k1 k2 h l1 l2).objs.size,.ref (kD k1 k2 h l1 l2).objs.size] }
def Ql (k1 k2:Bool) (l1 l2:Addr) (xs ys:Av):Meets (Builtin.«zip.__new__» ⟨[.type "zip",.ref l1,.ref l2],[]⟩) (λ _ R s=>SQ s.heap k1 l1 xs/\SQ s.heap k2 l2 ys/\
   R (.ok (.ret (.ref (kC k1 k2 s.heap l1 l2).objs.size))) { s with heap:=pF k1 k2 s.heap l1 l2 }):=
 .of_wp λ prog w A R s h=>by
  obtain⟨hp,g,d,tk,os⟩:=s
  obtain⟨q1,q2,h⟩:=h
  have D_:=sub_zip
  have m1:SQ (Shared.heap ⟨hp,g,d,tk,os⟩) k1 l1 xs:=q1
  have m2:SQ (Shared.heap ⟨hp.push (vD k1 l1),g,d,tk,os⟩) k2 l2 ys:=q2.on λ o e=>KC _ e
  wp_walk using made m1,made m2
  exact⟨_,rfl,h⟩
section
variable {prog:Program}{w:World}{A:Around}{E:Ae}{s:Shared}
def new {k1 k2:Bool}{l1 l2:Addr}{xs ys:Av}{Q:Ae}(h1:SQ s.heap k1 l1 xs) (h2:SQ s.heap k2 l2 ys)
  (h:∀ h' z TI TO i1 i2,(∀ b∈[z,TI,TO,i1,i2],s.heap.objs.size<=b)->jr z TI TO i1 i2 l1 l2->At h' k1 k2 z TI TO i1 i2 l1 l2 .none 0->(∀ c o,s.heap.get? c=some o->h'.get? c=some o)->Q (.ref z) { s with heap:=h' }):
  wpAny (model prog w) A (call (.type "zip") [.ref l1,.ref l2]) Q E s:=by
 refine callType_new F.called_zip (by decide) (F.typeCall_zip_2 _ _) (F.newCall_zip_2 _ _) (λ obj=>F.args_object_init_3 obj _ _) F.entry_zip_new (Ql k1 k2 l1 l2 xs ys) ⟨h1,h2,?_⟩
 have z1:(s.heap.push (vD k1 l1)).objs.size=s.heap.objs.size+1:=Heap.size_push ..
 have z2:(pG k1 k2 s.heap l1 l2).objs.size=s.heap.objs.size+2:=by rw[Heap.size_push,z1]
 have z3:(kD k1 k2 s.heap l1 l2).objs.size=s.heap.objs.size+3:=by rw[Heap.size_push,z2]
 have z4:(kC k1 k2 s.heap l1 l2).objs.size=s.heap.objs.size+4:=by rw[Heap.size_push,z3]
 have p1:∀ (h:Heap) (o:Obj),o.isFreed=false->(h.push o).get? h.objs.size=some o:=λ h o e=>AF _ e
 have u:∀ {h:Heap}{b:Addr}{o:Obj}(o':Obj),h.get? b=some o->(h.push o').get? b=some o:=λ o' e=>KC _ e
 have g5:(pF k1 k2 s.heap l1 l2).get? (kC k1 k2 s.heap l1 l2).objs.size=some _:=p1 _ _ rfl
 have g4:(pF k1 k2 s.heap l1 l2).get? (kD k1 k2 s.heap l1 l2).objs.size=some _:=u _ (p1 _ _ rfl)
 have g3:(pF k1 k2 s.heap l1 l2).get? (pG k1 k2 s.heap l1 l2).objs.size=some _:=u _ (u _ (p1 _ _ rfl))
 have g2:(pF k1 k2 s.heap l1 l2).get? (s.heap.push (vD k1 l1)).objs.size=some (vD k2 l2):=u _ (u _ (u _ (p1 _ _ rfl)))
 have g1:(pF k1 k2 s.heap l1 l2).get? s.heap.objs.size=some (vD k1 l1):=u _ (u _ (u _ (u _ (p1 _ _ rfl))))
 have a1:=h1.lt
 have a2:=h2.lt
 rw[z2,z3,z4] at g5
 rw[z1,z2] at g3
 rw[z3] at g4
 rw[z1] at g2
 generalize hN:s.heap.objs.size=N at *
 have lt:∀ {m:Nat},m<N->∀ j:Nat,¬ m=N+j:=λ hm j=>by lia
 have ne:∀ {i j:Nat},i≠j->¬ (N+i=N+j):=λ A1 e=>A1 (by lia)
 show _/\_
 rw[z4]
 refine⟨⟨_,g5,rfl⟩,h _ (N+4) (N+2) (N+3) N (N+1) (λ b hb=>?_) ⟨?_,?_,?_⟩ ⟨g5,g3,⟨_,_,g4⟩,⟨_,g1,rfl,rfl⟩,⟨_,g2,rfl,rfl⟩⟩ λ c o e=>u _ (u _ (u _ (u _ (u _ e))))⟩
 ·simp only[Ai,AV,or_false] at hb
  have h0:N<=N:=Aj N
  rcases hb with e | e | e | e | e <;> subst e
  ·exact Ce N 4
  ·exact Ce N 2
  ·exact Ce N 3
  ·exact h0
  ·exact Ce N 1
 ·have e0:∀ {i:Nat},i≠0->¬ (N+i=N):=λ hi e=>hi (by lia)
  have e0':∀ {i:Nat},i≠0->¬ (N=N+i):=λ hi e=>hi (by lia)
  simp only[Bh,Ai,AV,or_false,not_or,List.nodup_nil,and_true,not_false_eq_true]
  exact⟨⟨ne (by decide),ne (by decide),e0 (by decide),ne (by decide)⟩,⟨ne (by decide),e0 (by decide),ne (by decide)⟩,⟨e0 (by decide),ne (by decide)⟩,e0' (by decide)⟩
 ·simp only[Ai,AV,or_false,not_or]
  exact⟨lt a1 4,lt a1 2,lt a1 3,Ar a1,lt a1 1⟩
 ·simp only[Ai,AV,or_false,not_or]
  exact⟨lt a2 4,lt a2 2,lt a2 3,Ar a2,lt a2 1⟩
end
end ZP
namespace L2
open PySem PySem.Spec PyProof.Rows ZP
section
variable {X:Cx}{EC:Ag}{Y:St}{H:Hp}{s:Shared}
def Inv.lC {h':Heap}{t':Nat}{fp:List Addr}(I:Inv X EC Y H s) (k:∀ b o,b∉fp->s.heap.get? b=some o->h'.get? b=some o) (hf:∀ b∈fp,vY X EC H b):Inv X EC Y H { s with heap:=h',toks:=t' }:=by
 have IH:∀ b u,H b=some u->b∉fp:=λ b u e z=>by rw[(hf b z).1] at e;cases e
 refine I.step (g':=s.gens) (d':=s.drawn) (ch:=fp) (λ b hb=>?_) (λ b o _ _ hc e _=>k b o hc e) (λ b o _ _ hc e _=>⟨o.slots,k b o hc e⟩) (λ _ _ _ _ n=>n)
  (λ b o hc e=>⟨o,k b o hc e⟩) (λ _ _ e=>e) (λ _ _ _ e=>e) (λ b ps e=>⟨#[],by rw[e];simp⟩) (λ m hm=>?_) (λ b u e=>?_) I.bare
 ·obtain⟨_,q1,_,q2,q3,q4⟩:=hf b hb
  exact⟨q2,q1,q3,q4⟩
 ·obtain⟨o,es,ep,ho,r⟩:=hm
  exact⟨o,es,ep,k _ o (λ z=>(hf _ z).2.1 rfl) ho,r⟩
 ·refine (I.zp b u e).vj (λ c v hc q=>k c v ?_ q) (λ _ q=>q) λ _ _ q=>q
  rcases hc with z | z
  ·rw[z];exact IH b u e
  ·exact IH c _ z
def wg (K:Ab) (H:Hp) (k:Bool) (a:Addr) (xs:List V):Prop:=match k with
 | true=>zX K H a xs
 | false=>zO K H a xs
def wg.of (I:Inv X EC Y H s) {k:Bool}{a:Addr}{xs:List V}(h:wg X.K H k a xs):∃ its:List Value,Vals xs its/\SQ s.heap k a its.toArray:=by
 cases k with
 | true=>obtain⟨its,rv,p,_⟩:=I.tuple h;exact⟨its,rv,p⟩
 | false=>obtain⟨its,rv,p,_⟩:=I.list h;exact⟨its,rv,p.isList⟩
def wg.inj (I:Inv X EC Y H s) {k:Bool}{a:Addr}{xs ys:List V}(h:wg X.K H k a xs) (h':wg X.K H k a ys):xs=ys:=by
 cases k with
 | true=>exact I.jI h h'
 | false=>exact I.gG h h'
def YM (K:Ab) (k1 k2:Bool) (a1 a2:Addr):It:=
 ⟨λ i H=>∃ xs ys x y,wg K H k1 a1 xs/\wg K H k2 a2 ys/\xs[i]?=some x/\ys[i]?=some y,
   λ i H v H'=>∃ p x y,v=.ref p/\H p=none/\H'=upd H p (.tup [x,y])/\(∀ xs,wg K H k1 a1 xs->xs[i]?=some x)/\∀ ys,wg K H k2 a2 ys->ys[i]?=some y,
   λ i H=>∃ xs ys,wg K H k1 a1 xs/\wg K H k2 a2 ys/\(xs.length<=i\/ys.length<=i)⟩
def Wi {P:Program}{w:World}{K:Ab}{es:List Expr}{kk} {pos:Pos}{k1 k2:Bool}{z TI TO i1 i2 a1 a2:Addr}(D:jr z TI TO i1 i2 a1 a2):
  Turn P w K (.Tuple es kk pos) (YM K k1 k2 a1 a2) [z,TI,TO,i1,i2] z (λ i h=>At h k1 k2 z TI TO i1 i2 a1 a2 .none i) where
 mem:=by simp
 obj:=λ i h st b hb=>by
  obtain⟨q1,q2,⟨_,_,q3⟩,⟨o1,q4,_,d1⟩,⟨o2,q5,_,d2⟩⟩:=st
  simp only[Ai,AV,or_false] at hb
  rcases hb with e | e | e | e | e <;> subst e
  ·exact⟨_,q1,λ v z=>by cases z⟩
  ·exact⟨_,q2,λ v z=>by cases z⟩
  ·exact⟨_,q3,λ v z=>by cases z⟩
  ·exact⟨_,q4,λ v z=>by rw[d1] at z;cases z⟩
  ·exact⟨_,q5,λ v z=>by rw[d2] at z;cases z⟩
 keep:=λ i h h' st k=>st.keep k
 item:=by
  intro X hP hw hK hc i EC s Y H E I hf st hg
  subst hP hw hK
  obtain⟨xs,ys,x,y,g1,g2,hx,hy⟩:=hg
  obtain⟨JZ,JN,q1⟩:=g1.of I
  obtain⟨it2,GY,q2⟩:=g2.of I
  obtain⟨u1,e1,r1⟩:=JN.get hx
  obtain⟨u2,e2,r2⟩:=GY.get hy
  refine ZP.item D st q1 q2 (x:=u1) (y:=u2) (by simpa using e1) (by simpa using e2) λ h' S' T' up=>⟨_,rfl,?_⟩
  refine wpAny_letOwnedTupleGo_zip S'.z λ h2 z2 sb=>?_
  have nT:s.heap.objs.size∉[z,TI,TO,i1,i2]:=λ hb=>by
   obtain⟨o,ho,_⟩:=(show ∃ o,s.heap.get? s.heap.objs.size=some o/\True from by
    obtain⟨w1,w2,⟨_,_,w3⟩,⟨o1,w4,_⟩,⟨o2,w5,_⟩⟩:=st
    simp only[Ai,AV,or_false] at hb
    rcases hb with e | e | e | e | e <;> rw[e]
    ·exact⟨_,w1,trivial⟩
    ·exact⟨_,w2,trivial⟩
    ·exact⟨_,w3,trivial⟩
    ·exact⟨_,w4,trivial⟩
    ·exact⟨_,w5,trivial⟩)
   exact absurd (Al ho) (B5 _)
  have nz:s.heap.objs.size≠z:=λ e=>nT (by simp[e])
  have fr:H s.heap.objs.size=none:=I.zp.fresh (Aj _)
  have I1:Inv X EC Y (upd H s.heap.objs.size (.tup [x,y])) { s with heap:=s.heap.push { cls:=.type "tuple",data:=.seq [u1,u2].toArray },toks:=s.toks }:=
   I.laid (o:=.tup [x,y]) (λ b u q=>KC _ q) (Aj _) ⟨by show 2<=sizeLine;decide,[u1,u2],.cons r1 (.cons r2 .nil),IsTup.new _ _⟩
  have GV:∀ b∈[z,TI,TO,i1,i2],upd H s.heap.objs.size (.tup [x,y]) b=none:=λ b hb=>by
   rw[zF (λ e=>nT (by rw[<- e];exact hb))]
   exact (hf b hb).1
  have kk:∀ b o,b∉[z,TI,TO,i1,i2]->(s.heap.push { cls:=.type "tuple",data:=.seq [u1,u2].toArray }).get? b=some o->h2.get? b=some o:=λ b o hb q=>by
   have hbz:b≠z:=λ e=>hb (by simp[e])
   by_cases Dq:b=s.heap.objs.size
   ·subst Dq
    rw[AF _ rfl] at q
    cases q
    exact sb.extBut _ _ nz T'
   ·have q':s.heap.get? b=some o:=by rw[Heap.get?_push_ne _ _ _ Dq] at q;exact q
    exact sb.extBut _ _ hbz (up b o hb q')
  have I2:=Inv.lC (h':=h2) (t':=s.toks) (fp:=[z,TI,TO,i1,i2]) I1 kk λ b hb=>⟨GV b hb,(hf b hb).2⟩
  refine⟨.ref s.heap.objs.size,_,I2,rfl,⟨_,x,y,rfl,fr,rfl,λ zs hz=>by rw[hz.inj I g1];exact hx,λ zs hz=>by rw[hz.inj I g2];exact hy⟩,⟨z2,?_,?_,?_,?_⟩,GV⟩
  ·have nd:=D.nd
   simp only[Bh,Ai,AV,or_false,not_or] at nd
   exact sb.extBut _ _ (Ne.symm nd.1.1) S'.ti
  ·obtain⟨a,b,e⟩:=S'.to
   have nd:=D.nd
   simp only[Bh,Ai,AV,or_false,not_or] at nd
   exact⟨a,b,sb.extBut _ _ (Ne.symm nd.1.2.1) e⟩
  ·have nd:=D.nd
   simp only[Bh,Ai,AV,or_false,not_or] at nd
   exact S'.s1.on λ o q=>sb.extBut _ _ (Ne.symm nd.1.2.2.1) q
  ·have nd:=D.nd
   simp only[Bh,Ai,AV,or_false,not_or] at nd
   exact S'.s2.on λ o q=>sb.extBut _ _ (Ne.symm nd.1.2.2.2) q
 done:=by
  intro X hP hw hK hc i EC s Y H E I hf st hg
  subst hP hw hK
  obtain⟨xs,ys,g1,g2,hx⟩:=hg
  obtain⟨JZ,JN,q1⟩:=g1.of I
  obtain⟨it2,GY,q2⟩:=g2.of I
  have l1:=JN.length
  have l2:=GY.length
  refine ZP.stop (I.ok.hd hc) D st q1 q2 ?_ λ h' up=>⟨rfl,I.lC (t':=s.toks) up hf⟩
  rcases hx with hx | hx
  ·exact .inl (by simp;lia)
  ·exact .inr (by simp;lia)
 self:=λ _ _ _ _ _ st h=>wpAny_pyIter_zip st.z h
def Pj (K:Ab) (ta:TA):TI:=fun Y H R=>ta Y H λ vs H1=>∃ a1 a2 k1 k2,vs=[.ref a1,.ref a2]/\(∃ xs,wg K H1 k1 a1 xs)/\(∃ ys,wg K H1 k2 a2 ys)/\R (YM K k1 k2 a1 a2) H1
def VZ {a b:Expr}{ta:TA}{p pos pos':Pos}{es:List Expr}{kk} (hg:Gl X "zip") (hm:X.mg "zip"=none) (ha:PA X [a,b] ta) (hs:starEach [a,b] X.env=[(false,eval a X.env),(false,eval b X.env)]:=by rfl) (HS:starEach [b] X.env=[(false,eval b X.env)]:=by rfl):
  PI X (.Tuple es kk pos') (.Call (.Name "zip" p) [a,b] [] pos) (Pj X.K ta):=by
 intro EC s Y H R I h
 refine Call_ (pA I hg hm boot_zip (PyProof.Rows.callWith_type1 (zC (ha pos EC s Y H _ I h) λ us s1 ⟨vs,H1,I1,r1,q1⟩=>?_) (by rw[hs,HS]) (by rw[HS];rfl)))
 obtain⟨a1,a2,k1,k2,rfl,⟨xs,g1⟩,⟨ys,g2⟩,q⟩:=q1
 cases r1 with
 | cons r rr=>
  cases rr with
  | cons r' rr=>
   cases rr
   cases r
   cases r'
   obtain⟨JZ,_,q1⟩:=g1.of I1
   obtain⟨it2,_,q2⟩:=g2.of I1
   refine ZP.new q1 q2 λ h' z TI TO i1 i2 nw D S up=>wpAny_pyIter_zip S.z ?_
   exact⟨z,[z,TI,TO,i1,i2],_,_,H1,rfl,I1.kept (t':=s1.toks) up,Wi D,S,λ b hb=>I1.kI (nw b hb) (I1.zp.fresh (nw b hb)),q⟩
end
end L2
namespace L5
open PySem PySem.Spec L2 L3
open PyProof.Rows hiding St
section
variable {K:Ab}{a:Expr}{p:Pos}
def aY (t:yk):wO:=fun L S R=>t L S λ ds S1=>∃ d e xs ys,ds=[d,e]/\zN d S1=some xs/\zN e S1=some ys/\R ⟨List.zipWith (λ x y=>D.tup [x,y]) xs ys,λ S=>zN d S=some xs/\zN e S=some ys⟩ S1
noncomputable def nD:D->Bool
 | .tup _=>true
 | _=>false
def zN.k {H:Hp}{S:SS}{d:D}{v:V}{ds:List D}(r:zh K H d v) (p:zE K H S) (e:zN d S=some ds):∃ a xs,v=.ref a/\wg K H (nD d) a xs/\zo K H ds xs:=by
 by_cases q:∃ ts,d=.tup ts
 ·obtain⟨ts,rfl⟩:=q
  cases e
  simp only[zh] at r
  obtain⟨a,xs,h1,h2,h3⟩:=r
  exact⟨a,xs,h1,h2,h3⟩
 ·obtain⟨a,xs,h1,h2,h3⟩:=rV r p e λ ts z=>q ⟨ts,z⟩
  refine⟨a,xs,h1,?_,h3⟩
  have:nD d=false:=by cases d <;> first | rfl | exact absurd ⟨_,rfl⟩ q
  rw[this];exact h2
end
section
variable {X:Cx}{a b:Expr}{tA:yk}{pos p pos':Pos}{es:List Expr}{kk:Nat}
def UH (hm:X.mg "zip"=none) (ha:xi X [a,b] tA) (hg:Gl X "zip":=by rfl) (hs:starEach [a,b] X.env=[(false,eval a X.env),(false,eval b X.env)]:=by rfl) (HS:starEach [b] X.env=[(false,eval b X.env)]:=by rfl):
  rB X (.Tuple es kk pos') (.Call (.Name "zip" p) [a,b] [] pos) (aY tA):=by
 refine⟨fun L S Q Q' hq z=>ha.mo L S _ _ (λ ds S1 ⟨d,e,xs,ys,h1,h2,h3,h4⟩=>⟨d,e,xs,ys,h1,h2,h3,hq _ _ h4⟩) z,PI.imp (VZ hg hm ha.pa hs HS) fun Y H R hu=>?_⟩
 obtain⟨L,S,r1,r2,z⟩:=hu
 refine wu.go ha.mo r1 r2 z λ ds S1 vs H1 h1 q1 e1 p1=>?_
 obtain⟨d,e,xs,ys,rfl,s1,s2,h⟩:=h1
 obtain⟨v,u,rfl,d1,d2⟩:=q1.two
 obtain⟨a1,us,rfl,g1,g2⟩:=zN.k d1 p1 s1
 obtain⟨a2,ws,rfl,g3,g4⟩:=zN.k d2 p1 s2
 refine⟨a1,a2,nD d,nD e,rfl,⟨us,g1⟩,⟨ws,g3⟩,h _ H1 e1 p1 λ i H2 S2 x1 x2 hk=>?_⟩
 obtain⟨b1,Iv,q1,m1,m2⟩:=zN.k (zh.ext x1 d d1) x2 hk.1
 cases q1
 obtain⟨b2,ws2,q2,m3,m4⟩:=zN.k (zh.ext x1 e d2) x2 hk.2
 cases q2
 have l1:=m2.length
 have l2:=m4.length
 refine⟨λ dd hd=>?_,λ hl=>⟨Iv,ws2,m1,m3,?_⟩⟩
 ·rw[List.getElem?_zipWith] at hd
  split at hd
  ·rename_i dx dy hx hy
   cases hd
   obtain⟨x,Hf,rx⟩:=m2.get hx
   obtain⟨y,hy',ry⟩:=m4.get hy
   refine⟨⟨Iv,ws2,x,y,m1,m3,Hf,hy'⟩,λ v H' q=>?_⟩
   obtain⟨pp,x',y',rfl,hp,rfl,f1,f2⟩:=q
   have ex:x'=x:=by have:=f1 _ m1;rw[Hf] at this;exact (A5 this).symm
   have ey:y'=y:=by have:=f2 _ m3;rw[hy'] at this;exact (A5 this).symm
   subst ex ey
   refine⟨.new hp _,x2.new hp,?_⟩
   simp only[zh]
   exact⟨pp,_,rfl,zX.of ye,zo.ext (.new hp _) _ (.cons rx (.cons ry .nil))⟩
  ·cases hd
 ·have Gm:(List.zipWith (λ x y=>D.tup [x,y]) xs ys).length<=i:=hl
  rw[List.length_zipWith] at Gm
  lia
@[simp] noncomputable def jB:List T->Option (List T)
 | [x,y]=>(xX x).bind λ xs=>(xX y).map λ ys=>List.zipWith (λ a b=>T.tup [a,b]) xs ys
 | _=>none
theorem cE {S:SS}:∀ {ts us:List T}{ds es:List D},zl S ts ds->zl S us es->zl S (List.zipWith (λ a b=>T.tup [a,b]) ts us) (List.zipWith (λ x y=>D.tup [x,y]) ds es)
 | [],us,ds,es,h,h'=>by simp only[zl] at h;subst h;simpa using zl.nil
 | t::ts,[],ds,es,h,h'=>by simp only[zl] at h';subst h';simpa using zl.nil
 | t::ts,u::us,ds,es,h,h'=>by
  simp only[zl] at h h'
  obtain⟨c,cs,rfl,h1,h2⟩:=h
  obtain⟨c',cs',rfl,h3,h4⟩:=h'
  exact zl.cons (qP (zl.cons h1 (zl.cons h3 zl.nil))) (cE h2 h4)
def zN.sx {S S':SS}{d:D}{ds:List D}(h:zN d S=some ds) (s:Sx S S'):zN d S'=some ds:=by
 unfold zN at h ⊢
 split at h
 ·exact h
 ·exact h
 ·split at h
  ·rename_i q
   cases h
   rw[s _ _ q]
  ·cases h
 ·cases h
def TY {g:Ev->Option (List T)}(h:qB g tA):rE false (wK jB g) (aY tA):=λ S Z L J ts Q hE e hq=>by
 obtain⟨ys,e1,e2⟩:=Ak.mp e
 refine h S Z L J ys _ hE e1 λ ds S1 s1 r1=>?_
 unfold jB at e2
 split at e2
 ·obtain⟨xs,e3,e4⟩:=Ak.mp e2
  obtain⟨zs,e5,rfl⟩:=AB.mp e4
  obtain⟨d,d',rfl,h1,h2⟩:=dW r1
  obtain⟨es,g1,g2⟩:=h1.seq e3
  obtain⟨FT,g3,g4⟩:=h2.seq e5
  exact⟨d,d',es,FT,rfl,g1,g3,hq _ S1 s1 (cE g2 g4) λ HJ s=>⟨zN.sx g1 s,zN.sx g3 s⟩⟩
 ·cases e2
theorem zN.zJ {S:SS}{Z:Addr->Prop}{y:T}{d:D}{ts:List T}(h:Sn (zJ S Z) y d) (e:xX y=some ts):∃ ds,zN d (zJ S Z)=some ds/\zl (zJ S Z) ts ds:=by
 cases y with
 | tup us=>cases e;simp only[Sn] at h;obtain⟨ds,rfl,h2⟩:=h;exact⟨ds,rfl,h2⟩
 | lst us=>
  cases e
  simp only[Sn] at h
  obtain⟨ds,⟨rfl,_⟩ | ⟨a,rfl,h1⟩,h2⟩:=h
  ·exact⟨ds,rfl,h2⟩
  ·exact⟨ds,by unfold zN;dsimp only;rw[h1],h2⟩
 | _=>cases e
end
end L5
namespace TM
open PySem PyProof.Rows
def noFill:fillsNumberSlot (.type "tuple") "mul"=pure false:=
 PySem.fillsNumberSlot_seq (id:="tuple.__mul__") (r:=some (.builtin "tuple.__rmul__")) F.slot_tuple_mul.lookup (AG) F.slot_tuple_rmul.lookup (AG)
def rep:seqRepeat? (.type "tuple")=pure (some (.builtin "tuple.__mul__")):=by
 have a:=PySem.seqSlot_of (T:="tuple") (name:="__mul__") (id:="tuple.__mul__") F.slot_tuple_mul.lookup (AG)
 have b:=PySem.seqSlot_of (T:="tuple") (name:="__rmul__") (id:="tuple.__rmul__") F.slot_tuple_rmul.lookup (AG)
 unfold seqRepeat?
 rw[a,b]
 rfl
def declines (i:Int) (t:Tok) (l:Addr) (items:Av) (n:Nat) (dd:Option Addr) (sl:Array (Option Value)):
  Meets (Builtin.«int.__rmul__» ⟨[.int i t,.ref l],[]⟩) (λ _ R s=>s.heap.get? l=some { cls:=.type "tuple",dict:=dd,data:=.seq items n,slots:=sl }/\R (.ok (.ret Value.notImplemented)) s):=
 .of_wp λ prog w A R s h=>by
  obtain⟨hp,g,d,tk,os⟩:=s
  obtain⟨hl,h⟩:=h
  wp_walk
  exact⟨_,rfl,h⟩
theorem fA {α:Type}(xs:List α):∀ (m:Nat) (acc:Array α),(List.replicate m xs.toArray).foldl (·++·) acc=acc++(List.replicate m xs).flatten.toArray
 | 0,acc=>by simp
 | m+1,acc=>by
  rw[BZ,Dx,fA xs m,BZ,Cg,D1]
  simp
def Qe (k:Int) (t:Tok) (l:Addr) (items:Av) (n:Nat) (dd:Option Addr) (sl:Array (Option Value)) (h1:¬ (decide (k < -(2 ^ 63))||decide (k≥2 ^ 63))=true) (h2:¬ (items.isEmpty||k == 1)=true) (h3:¬ (decide (k<=0)||items.isEmpty)=true)
  (h4:¬ (items.size*k>(2 ^ 63-1)/8)) (h5:¬ Builtin.Tuple.tupleTooMany (items.size*k)=true) (h6:((List.replicate k.toNat items).foldl (·++·) #[]).size<=sizeLine):
  Meets (Builtin.«tuple.__mul__» ⟨[.ref l,.int k t],[]⟩) (λ _ R s=>s.heap.get? l=some { cls:=.type "tuple",dict:=dd,data:=.seq items n,slots:=sl }/\
   R (.ok (.ret (.ref s.heap.objs.size))) { s with heap:=s.heap.push { cls:=.type "tuple",data:=.seq ((List.replicate k.toNat items).foldl (·++·) #[]) } }):=
 .of_wp λ prog w A R s h=>by
  obtain⟨hp,g,d,tk,os⟩:=s
  obtain⟨hl,h⟩:=h
  have e0:IsTup (Shared.heap ⟨hp,g,d,tk,os⟩) l items:=⟨_,hl,rfl,n,rfl⟩
  wp_walk
  rw[if_neg h1]
  refine JI (m:=Builtin.Tuple.tupleItemsOf (.ref l)) (tupleItemsOf_ e0 ?_)
  dsimp only
  rw[if_neg h2,if_neg h3,if_neg h4,if_neg h5]
  exact JI (m:=Builtin.Tuple.tupleExact _) (KY (Ac ⟨_,rfl,h⟩) h6)
def Qf (t:Tok) (l:Addr) (items:Av) (n:Nat) (dd:Option Addr) (sl:Array (Option Value)):
  Meets (Builtin.«tuple.__mul__» ⟨[.ref l,.int 1 t],[]⟩) (λ _ R s=>s.heap.get? l=some { cls:=.type "tuple",dict:=dd,data:=.seq items n,slots:=sl }/\R (.ok (.ret (.ref l))) s):=
 .of_wp λ prog w A R s h=>by
  obtain⟨hp,g,d,tk,os⟩:=s
  obtain⟨hl,h⟩:=h
  have c:(items.isEmpty||(1:Int) == 1)=true:=by simp
  wp_walk
  exact⟨_,rfl,h⟩
section
variable {prog:Program}{w:World}{A:Around}{E:Ae}{s:Shared}
def times {l:Addr}{its:Ad}{k:Int}{t:Tok}{Q:Ae}(ht:IsTup s.heap l its.toArray) (An:its≠[]) (h0:1<=k) (hz:its.length*k.toNat<=sizeLine)
  (one:k=1->Q (.ref l) s) (more:k≠1->Q (.ref s.heap.objs.size) { s with heap:=s.heap.push { cls:=.type "tuple",data:=.seq (List.replicate k.toNat its).flatten.toArray } }):
  wpAny (model prog w) A (binaryOp .Mult (.ref l) (.int k t)) Q E s:=by
 have hT:=ht.typeIs
 obtain⟨⟨cls,dd,data,sl⟩,ho,hc,n,hd⟩:=id ht
 simp only at hc hd
 subst hc hd
 refine wpAny_binaryOp_repeat_ref (T:="tuple") (U:="int") (by decide) hT (λ s'=>typeIs_int s' k t) noFill F.fills_int_mul F.slot_int_rmul rep F.slot_int_index.lookup
  (call_meets F.slot_int_rmul (typeIs_int s k t) F.entry_int_rmul (F.args_int_rmul_2 _ _) (declines k t l its.toArray n dd sl) ⟨ho,rfl,hT,?_⟩)
 have hlen:0<its.length:=List.length_pos_iff.mpr An
 have DN:its.toArray.isEmpty=false:=by cases its with
  | nil=>exact absurd rfl An
  | cons a r=>rfl
 by_cases h1:k=1
 ·subst h1
  exact call_meets F.slot_tuple_mul hT F.entry_tuple_mul (F.args_tuple_mul_2 _ _) (Qf t l its.toArray n dd sl) ⟨ho,one rfl⟩
 ·have hks:k.toNat<=sizeLine:=BA (Nat.le_mul_of_pos_left _ hlen) hz
  have hl:sizeLine=16777216:=rfl
  have Kb:k<=16777216:=by lia
  have HE:((its.toArray.size:Nat):Int)*k=((its.length*k.toNat:Nat):Int):=by
   rw[AA,Int.natCast_mul,Cv (by lia)]
  have hf:(List.replicate k.toNat its.toArray).foldl (·++·) #[]=(List.replicate k.toNat its).flatten.toArray:=by rw[fA];simp
  have Es:(List.replicate k.toNat its).flatten.length=k.toNat*its.length:=by simp
  refine call_meets F.slot_tuple_mul hT F.entry_tuple_mul (F.args_tuple_mul_2 _ _) (Qe k t l its.toArray n dd sl ?_ ?_ ?_ ?_ ?_ ?_) ⟨ho,?_⟩
  ·simp only[Bool.or_eq_true,decide_eq_true_eq,not_or]
   exact⟨by lia,by lia⟩
  ·rw[DN];simpa using h1
  ·rw[DN];simp;lia
  ·rw[HE];lia
  ·rw[HE]
   intro q
   unfold Builtin.Tuple.tupleTooMany at q
   have:=of_decide_eq_true q
   lia
  ·rw[hf,AA,Es,DA];exact hz
  ·rw[hf];exact more h1
end
end TM
namespace L2
open PySem PySem.Spec PyProof.Rows
def iO (K:Ab):R2:=λ x y H Q=>∃ a k xs,x=.ref a/\y=.int k/\zX K H a xs/\xs≠[]/\1<=k/\xs.length*k.toNat<=sizeLine/\(k=1->Q (.ref a) H)/\(k≠1->∀ p,H p=none->Q (.ref p) (upd H p (.tup (List.replicate k.toNat xs).flatten)))
def Ti {X:Cx}:yd X (binaryOp .Mult) (iO X.K):=by
 intro EC s Y H x y v u Q I rx ry h
 obtain⟨a,k,xs,rfl,rfl,hx,An,h1,hz,q1,q2⟩:=h
 cases rx
 obtain⟨t,rfl⟩:=ry
 obtain⟨its,r,ht,_⟩:=I.tuple hx
 have hl:=r.length
 refine TM.times ht (λ z=>An (r.nu.mp z)) h1 (by rw[<- hl];exact hz) (λ e=>⟨.ref a,H,I,rfl,q1 e⟩) λ e=>?_
 have hlen:(List.replicate k.toNat xs).flatten.length<=sizeLine:=by
  have:(List.replicate k.toNat xs).flatten.length=k.toNat*xs.length:=by simp
  rw[this,DA];exact hz
 exact⟨.ref _,_,I.laid (t':=s.toks) (o:=.tup (List.replicate k.toNat xs).flatten) (λ b ob q=>KC _ q) (Aj _) ⟨hlen,_,r.rep k.toNat,IsTup.new _ _⟩,rfl,q2 e _ (I.zp.fresh (Aj _))⟩
end L2
namespace L5
open PySem PySem.Spec L2 L3
open PyProof.Rows hiding St
section
variable {K:Ab}{a:Expr}
def t4:yG:=λ x y S Q=>match x,y with
 | .int i,.int j=>wo i j/\Q (.int (i*j)) S
 | .tup ds,.int k=>(ds≠[]/\1<=k/\ds.length*k.toNat<=sizeLine)/\Q (.tup (List.replicate k.toNat ds).flatten) S
 | _,_=>False
noncomputable def gy:T->T->Option T
 | .int i,.int j=>if wo i j then some (.int (i*j)) else none
 | .tup ts,.int k=>if ts≠[]/\1<=k/\ts.length*k.toNat<=sizeLine then some (.tup (List.replicate k.toNat ts).flatten) else none
 | _,_=>none
def t4.mo:xx t4:=λ x y S Q Q' hq h=>by
 unfold t4 at h ⊢
 split at h
 ·exact⟨h.1,hq _ _ h.2⟩
 ·exact⟨h.1,hq _ _ h.2⟩
 ·exact h.elim
theorem zo.rep {H:Hp}{ds:List D}{xs:List V}(h:zo K H ds xs):∀ n:Nat,zo K H (List.replicate n ds).flatten (List.replicate n xs).flatten
 | 0=>.nil
 | n+1=>by
  rw[BZ,BZ,Cg,Cg]
  exact h.append (zo.rep h n)
def t4.fits:xj K t4 (λ x y H Q=>rI wo (λ i j=>.int (i*j)) x y H Q\/iO K x y H Q):=λ x y d e H S Q h1 h2 h3 h=>by
 unfold t4 at h
 split at h
 ·simp only[zh] at h1 h2
  exact .inl ⟨_,_,h1,h2,h.1,h.2 _ H (by simp only[zh]) (.refl H) h3⟩
 ·rename_i ds k
  obtain⟨⟨c1,c2,c3⟩,h⟩:=h
  have GX:=h1
  simp only[zh] at h1 h2
  obtain⟨a,xs,rfl,g1,g2⟩:=h1
  have hl:=g2.length
  refine .inr ⟨a,k,xs,rfl,h2,g1,λ z=>c1 (by subst z;cases ds with | nil=>rfl | cons _ _=>simp at hl),c2,by rw[<- hl];exact c3,λ e=>?_,λ e p hp=>?_⟩
  ·subst e
   refine h _ H ?_ (.refl H) h3
   have:(List.replicate (1:Int).toNat ds).flatten=ds:=by simp
   rw[this];exact GX
  ·refine h _ _ ?_ (.new hp _) (h3.new hp)
   simp only[zh]
   exact⟨p,_,rfl,zX.of ye,zo.ext (.new hp _) _ (zo.rep g2 _)⟩
 ·exact h.elim
theorem zl.rep {S:SS}{ts:List T}{ds:List D}(h:zl S ts ds):∀ n:Nat,zl S (List.replicate n ts).flatten (List.replicate n ds).flatten
 | 0=>.nil
 | n+1=>by
  rw[BZ,BZ,Cg,Cg]
  exact h.append (zl.rep h n)
def Zv:Good2 zD gy t4:=λ S Z x y z d e Q hz hx hy ef hq=>by
 unfold gy at ef
 split at ef
 ·split at ef
  ·rename_i hc
   cases ef
   cases hx.int;cases hy.int
   exact⟨hc,hq _ S (.refl S) (Cl.of (λ _=>nofun) wV)⟩
  ·cases ef
 ·split at ef
  ·rename_i hc
   cases ef
   obtain⟨ds,rfl,h2⟩:=hx.tup
   cases hy.int
   have hl:=h2.len
   exact⟨⟨λ q=>hc.1 (by subst q;simpa using hl.symm),hc.2.1,by rw[hl];exact hc.2.2⟩,hq _ S (.refl S) (Cl.of (λ _=>nofun) (qP (zl.rep h2 _)))⟩
  ·cases ef
 ·cases ef
end
end L5
namespace L4
open PySem PyProof.Rows
section
variable {prog:Program}{w:World}{A:Around}{E:Ae}{s:Shared}
def OS {l:Addr}{vs:Ad}{Q:List Value->Shared->Prop}(hl:IsTup s.heap l vs.toArray) (hz:vs.length<=sizeLine)
  (h:Q vs { s with heap:=(s.heap.push (seqObj "list" #[] 0)).update s.heap.objs.size (Obj.mapSeq (·++vs.toArray)) }):wpAny (model prog w) A (collect (.ref l)) Q E s:=by
 obtain⟨o,ho,hc,n,hd⟩:=id hl
 have new:(s.heap.push (seqObj "list" #[] 0)).get? s.heap.objs.size=some (seqObj "list" #[] 0):=AF _ rfl
 have FE:(s.heap.push (seqObj "list" #[] 0)).get? l=some o:=KC _ ho
 unfold collect
 refine JI (wpAny_runValue (codeAny_builtin entry_proto_collect' (JI (m:=newList []) (wpAny_newList (Ac ⟨Code.quiet_builtin _ (AG),codeAny_builtin entry_list_iadd' ?_⟩)))))
 show wpAny _ _ (Builtin.List.listExtendWith (.ref s.heap.objs.size) (.ref l) (.ref s.heap.objs.size)) _ _ { s with heap:=s.heap.push (seqObj "list" #[] 0) }
 unfold Builtin.List.listExtendWith
 refine JI (wpAny_typeOf (T:="tuple") ⟨o,FE,hc⟩ ?_)
 rw[if_pos (by rw[show (Value.type "tuple" == Value.type "tuple")=true from rfl];simp)]
 refine JI (listItems_at FE hd (JI (listItems_at (xs:=#[]) (n:=0) new rfl ?_)))
 rw[if_neg (by simp)]
 refine JI (listUpdate_at (xs:=#[]) (n:=0) new rfl (Ac ?_) (AO _) (by show (#[]++vs.toArray).size<=sizeLine+1;simp only[Array.size_append,AA,B4];lia))
 refine JI (m:=load s.heap.objs.size) (wpAny_load (get?_update_seq new _) ?_)
 show wpAny _ _ (pure ((#[]:Av)++vs.toArray).toList) Q E _
 have e:((#[]:Av)++vs.toArray).toList=vs:=by simp
 rw[e]
 exact Ac h
def WO {l:Addr}{vs:Ad}{Q:Ae}{Out:Array Value->Prop}(hl:IsTup s.heap l vs.toArray) (hz:vs.length<=sizeLine)
  (core:2<=vs.length->∀ s6:Shared,(∀ b o,s.heap.get? b=some o->s6.heap.get? b=some o)->Core prog w A.in1.in1 E vs Out s6) (short:vs.length<2->Out vs.toArray)
  (fin:∀ out:Array Value,Out out->out.size=vs.length->Q (.ref (s.heap.objs.size+1)) { s with heap:=sortedAll s.heap vs out }):
  wpAny (model prog w) A (call (.builtin "sorted") [.ref l]) Q E s:=by
 let h1:=(s.heap.push (seqObj "list" #[] 0)).update s.heap.objs.size (Obj.mapSeq (·++vs.toArray))
 have sz:h1.objs.size=s.heap.objs.size+1:=by show (Heap.update _ _ _).objs.size=_;rw[Heap.size_update,size_push']
 have there:(h1.push (seqObj "list" vs.toArray 0)).get? (s.heap.objs.size+1)=some (seqObj "list" vs.toArray 0):=sz▸AF _ rfl
 have keep:∀ b o,s.heap.get? b=some o->(h1.push (seqObj "list" vs.toArray 0)).get? b=some o:=λ b o q=>by
  refine KC _ ?_
  show (Heap.update _ _ _).get? b=_
  rw[K6 _ _ _ _ (Ar (Al q))]
  exact KC _ q
 refine Calls.call_function_entry kind_sorted plain_sorted entry_sorted (args_sorted1 _) ?_
 unfold Builtin.«sorted»
 refine JI (m:=checkCount "sorted" 1 1 _) (Ac (JI (OS hl hz (JI (wpAny_newList ?_ hz)))))
 show wpAny _ _ _ _ _ { s with heap:=h1.push (seqObj "list" vs.toArray 0) }
 rw[show (Heap.update (s.heap.push (seqObj "list" #[] 0)) s.heap.objs.size (Obj.mapSeq (·++vs.toArray))).objs.size=s.heap.objs.size+1 from sz]
 refine JI (KJ (KQ slot_list_sort ⟨_,there,rfl⟩ entry_list_sort (gF there hz (λ h2 s6 k=>core h2 s6 λ b o q=>k b o (Ar (BH (Al q))) (keep b o q)) short λ out g1 g2=>⟨_,rfl,?_⟩) (args_list_sort _)))
 exact Ac ⟨_,rfl,fin out g1 g2⟩
end
section
open L2 PySem.Spec
variable {X:Cx}
def OZ:yB X (.builtin "sorted") (λ xs H Q=>∃ p ys,∃ rows:List (List Int),xs=[.ref p]/\zX X.K H p ys/\Paired (λ v r=>r≠[]/\∃ b,v=V.ref b/\zX X.K H b (r.map V.int)) ys rows/\rows.length<64/\
  ∀ (l:Addr) (idx:List Nat),H l=none->idx.Perm (List.range ys.length)->(idx.map λ i=>rows.getD i []).Pairwise (λ a b=>HT.lexLt b a=false)->Q (.ref l) (upd H l (.lst (idx.map λ i=>ys.getD i .zk)))):=by
 intro EC s Y H xs us Q I r h
 obtain⟨p,ys,rows,rfl,hq,hr,Gg,q⟩:=h
 obtain⟨u,rfl,ru⟩:=vals1 r
 cases ru
 obtain⟨its,rv,pl,hz⟩:=I.tuple hq
 have hl:=rv.length
 have Ck:ys.length=rows.length:=Paired.length hr
 have FO:∀ h6:Heap,(∀ b o,s.heap.get? b=some o->h6.get? b=some o)->sD h6 its rows:=λ h6 k=>by
  refine ST.Paired.mk (by lia) λ i a b ha hb=>?_
  have hi:i<ys.length:=by have:=(AK.mp hb).1;lia
  obtain⟨An,c,hc,Cz⟩:=L4.Paired.at' hr (i:=i) hi V.zk ([]:List Int)
  obtain⟨u,e1,e2⟩:=rv.get (i:=i) (x:=ys.getD i V.zk) (by simp[hi])
  rw[ha] at e1;cases e1
  rw[hc] at e2
  cases (show a=Value.ref c from e2)
  obtain⟨Fm,GY,⟨o,e,AN,n,hd⟩,_⟩:=I.tuple Cz
  have eb:rows.getD i []=b:=by simp[hb]
  rw[eb] at An GY
  exact⟨An,c,o,_,n,rfl,k _ _ e,AN,hd,by simpa using intsAre_of GY⟩
 refine WO (Out:=mH its rows) pl (by rw[<- hl];exact hz) (λ h2 s6 k=>fW (FO _ k) h2 (by lia)) (λ h1=>?_) λ out ho hs=>?_
 ·refine⟨List.range its.length,.refl _,?_,?_⟩
  ·refine B2 (by simp) λ i h1 h2=>?_
   simp at h1
   simp[h1]
  ·rw[Cf,Cs]
   intro i j hi hj A1
   simp at hi hj
   lia
 ·obtain⟨idx,g1,g2,g3⟩:=ho
  obtain⟨e,ho⟩:=sortedAll_at s.heap its out
  have HH:idx.Perm (List.range ys.length):=by rw[hl];exact g1
  refine⟨.ref (s.heap.objs.size+1),_,I.laid (t':=s.toks) (o:=.lst (idx.map λ i=>ys.getD i .zk)) (λ b o q=>sortedAll_old q) (Cr _) ?_,rfl,q _ idx (I.zp.fresh (Cr _)) HH g3⟩
  refine⟨by rw[AD,HH.length_eq,B7];exact hz,out.toList,e,?_,by simpa using ho⟩
  rw[g2]
  refine ST.Paired.mk (by simp) λ j a b ha hb=>?_
  rw[AE] at ha hb
  obtain⟨i,hi,rfl⟩:=AB.mp ha
  rw[hi] at hb
  cases hb
  have CV:i<ys.length:=by simpa using HH.mem_iff.mp (Bl hi)
  obtain⟨u,e1,e2⟩:=rv.get (i:=i) (x:=ys.getD i V.zk) (by simp[CV])
  have e3:its.getD i Value.none=u:=by simp[e1]
  show L2.RelV (ys.getD i V.zk) (its.getD i Value.none)
  rw[e3];exact e2
end
end L4
namespace L5
open PySem PySem.Spec L2 L3
open PyProof.Rows hiding St
section
variable {X:Cx}{K:Ab}{e:Expr}{es:List Expr}{tA:yk}{pos p:Pos}
def rg:xH:=λ ds S Q=>∃ d,∃ rows:List (List Int),ds=[d]/\zN d S=some (rows.map xY)/\rows.length<64/\(∀ r∈rows,r≠[])/\∀ l,S l=none->Q (.ref l) (ups S l (.lst ((L4.xJ rows).map xY)))
noncomputable def qN:List T->Option T
 | [y]=>(xX y).bind λ ts=>(uh ts).bind λ rs=>if rs.length<64/\∀ r∈rs,r≠[] then some (.lst ((L4.xJ rs).map yo)) else none
 | _=>none
def P0:vX zD qN rg:=λ S Z ys z ds Q hz hv e hq=>by
 unfold qN at e
 split at e
 ·obtain⟨d,rfl,h1⟩:=vu hv
  obtain⟨ts,e0,e⟩:=Ak.mp e
  obtain⟨rs,e1,e2⟩:=Ak.mp e
  split at e2
  ·rename_i hc
   cases e2
   cases iI e1
   obtain⟨es,h2,h3⟩:=h1.seq e0
   cases qO.mp h3
   exact⟨d,rs,rfl,h2,hc.1,hc.2,λ l hl=>hq _ _ (.new hl _) (sR hz hl (qO.mpr rfl))⟩
  ·cases e2
 ·cases e
def rg.mo:vW rg:=λ ds S Q Q' hq ⟨d,rows,h0,h1,h2,h3,h4⟩=>⟨d,rows,h0,h1,h2,h3,λ l hl=>hq _ _ (h4 l hl)⟩
abbrev bf (K:Ab) (sq:Hp->Addr->List V->Prop):List V->Hp->VK->Prop:=λ xs H Q=>∃ p ys,∃ rows:List (List Int),xs=[.ref p]/\sq H p ys/\Paired (λ v r=>r≠[]/\∃ b,v=V.ref b/\zX K H b (r.map V.int)) ys rows/\rows.length<64/\
  ∀ (l:Addr) (idx:List Nat),H l=none->idx.Perm (List.range ys.length)->(idx.map λ i=>rows.getD i []).Pairwise (λ a b=>HT.lexLt b a=false)->Q (.ref l) (upd H l (.lst (idx.map λ i=>ys.getD i .zk)))
def yB.or {f:Value}{r r':List V->Hp->VK->Prop}(h:yB X f r) (h':yB X f r'):yB X f (λ xs H Q=>r xs H Q\/r' xs H Q):=λ EC s Y H xs us Q I rv q=>
 q.elim (λ q=>h EC s Y H xs us Q I rv q) λ q=>h' EC s Y H xs us Q I rv q
def rg.fits:uS K rg (λ xs H Q=>bf K (zO K) xs H Q\/bf K (zX K) xs H Q):=λ xs ds H S Q h0 h2 h=>by
 obtain⟨d,rows,rfl,e,Gg,An,h⟩:=h
 obtain⟨x,hx,h1⟩:=h0.one;subst hx
 obtain⟨a,ys,rfl,g1,g2⟩:=zN.sq h1 h2 e
 have hl:=g2.length
 rw[AD] at hl
 have key:∀ (l:Addr) (idx:List Nat),H l=none->idx.Perm (List.range ys.length)->(idx.map λ i=>rows.getD i []).Pairwise (λ a b=>HT.lexLt b a=false)->Q (.ref l) (upd H l (.lst (idx.map λ i=>ys.getD i .zk))):=λ l idx hf hp hs=>by
  rw[<- hl] at hp
  have heq:=L4.cA (aF hp) hs
  have hx:Ext H (upd H l (.lst (idx.map λ i=>ys.getD i .zk))):=.new hf _
  refine h l (h2.none hf) _ _ (by simp only[zh]) hx (h2.ups hx ⟨_,ye,?_⟩)
  rw[<- heq]
  exact zo.ext hx _ (g2.perm λ i hi=>by simpa using hp.mem_iff.mp hi)
 rcases g1 with g1 | g1
 ·exact .inl ⟨_,ys,rows,rfl,g1,oQ g2 An,Gg,key⟩
 ·exact .inr ⟨_,ys,rows,rfl,g1,oQ g2 An,Gg,key⟩
def bN (hm:X.mg "sorted"=none) (ha:xi X (e::es) tA) (hg:Gl X "sorted":=by rfl) (he:starEach (e::es) X.env=(false,eval e X.env)::starEach es X.env:=by rfl) (Am:(backTo pos (starEach es X.env)).any (·.1)=false:=by rfl):PD X (.Call (.Name "sorted" p) (e::es) [] pos) (xE rg tA):=
 uZ (uG (yB.or L4.Nb L4.OZ) hg hm boot_sorted ha.pa (by decide) (by decide) he Am) rg.mo rg.fits ha.mo
end
end L5
namespace L2
open PySem PySem.Spec PyProof.Rows
section
variable {X:Cx}
def uA (r:Addr) (j:Int):Heap->Prop:=λ h=>∃ t u v,IsRange h r 0 j 1 t u v
def Nh:yB X (.type "range") (λ xs H Q=>∃ j,xs=[.int j]/\∀ r,H r=none->Q (.ref r) (upd H r (.ext (uA r j)))):=by
 intro EC s Y H xs us Q I r h
 obtain⟨j,rfl,q⟩:=h
 obtain⟨u,rfl,ru⟩:=vals1 r
 obtain⟨t,rfl⟩:=ru
 refine call_range_1 ⟨.ref s.heap.objs.size,_,I.laid (o:=.ext (uA s.heap.objs.size j)) (λ b o e=>KC _ e) (Aj _) ?_,rfl,q _ (I.zp.fresh (Aj _))⟩
 have here:uA s.heap.objs.size j (s.heap.push { cls:=.type "range",data:=.fields #[.int 0 s.toks,.int j t,.int 1 (s.toks+1)] }):=⟨_,_,_,IsRange.new ..⟩
 refine⟨here,⟨_,AF _ rfl⟩,λ h1 h2 S k=>?_⟩
 obtain⟨a,b,c,e⟩:=S
 exact⟨a,b,c,k _ e⟩
def Nl (hc:X.calm=true):yB X (.type "list") (λ xs H Q=>∃ r j,xs=[.ref r]/\H r=some (.ext (uA r j))/\0<=j/\j<=16777216/\∀ l,H l=none->Q (.ref l) (upd H l (.lst ((List.range j.toNat).map λ(k:Nat)=>V.int (k:Int))))):=by
 intro EC s Y H xs us Q I r h
 obtain⟨a,j,rfl,hr,h0,h1,q⟩:=h
 obtain⟨u,rfl,ru⟩:=vals1 r
 cases ru
 obtain⟨⟨t,u,v,hR⟩,-,-⟩:=(show y_ X.prog X.w H s.heap a (.ext (uA a j)) from I.zp a _ hr)
 have hsz:Builtin.Range.rangeSize 0 j 1=((j.toNat:Nat):Int):=by rw[rangeSize_one];split <;> lia
 refine call_list_range (n:=j.toNat) (I.ok.hd hc) hR (small_one (by decide) (by decide) (by lia) (by lia)) hsz (by lia) λ h' tk acc c k e hi=>?_
 refine⟨.ref s.heap.objs.size,_,I.laid (o:=.lst ((List.range j.toNat).map λ(k:Nat)=>V.int (k:Int))) k (Aj _) ⟨?_,acc.toList,c,?_,by simpa using e⟩,rfl,q _ (I.zp.fresh (Aj _))⟩
 ·have:sizeLine=16777216:=rfl
  simp;lia
 ·obtain⟨hn,hi⟩:=hi
  refine ST.Paired.mk (by simp[hn]) λ i a b ha hb=>?_
  rw[AE] at ha
  obtain⟨k',hk,rfl⟩:=AB.mp ha
  obtain⟨hk1,Kb⟩:=AK.mp hk
  simp at Kb
  subst Kb
  obtain⟨w,hw⟩:=hi i b (by simpa using hb)
  subst hw
  exact⟨w,by simp⟩
end
end L2
namespace L5
open PySem PySem.Spec L2 L3
open PyProof.Rows hiding St
section
variable {X:Cx}{K:Ab}{e:Expr}{tA:yk}{pos p FZ p2:Pos}
def tZ:xH:=λ ds S Q=>∃ j:Int,ds=[.int j]/\0<=j/\j<=16777216/\∀ l,S l=none->Q (.ref l) (ups S l (.lst (vy 0 j.toNat)))
noncomputable def nB:List T->Option T
 | [.int j]=>if 0<=j/\j<=16777216 then some (.lst (rangeT 0 j.toNat)) else none
 | _=>none
def PJ:vX zD nB tZ:=λ S Z ys z ds Q hz hv e hq=>by
 unfold nB at e
 split at e
 ·obtain⟨d,rfl,h1⟩:=vu hv
  split at e
  ·rename_i hc
   cases e
   cases h1.int
   exact⟨_,rfl,hc.1,hc.2,λ l hl=>hq _ _ (.new hl _) (sR hz hl (cF _ _))⟩
  ·cases e
 ·cases e
def tZ.mo:vW tZ:=λ ds S Q Q' hq ⟨j,h0,h1,h2,h3⟩=>⟨j,h0,h1,h2,λ l hl=>hq _ _ (h3 l hl)⟩
def Vy {H:Hp}(n:Nat):zo K H (vy 0 n) ((List.range n).map λ(k:Nat)=>V.int (k:Int)):=by
 unfold vy
 induction List.range n with
 | nil=>exact .nil
 | cons k l ih=>exact .cons (by simp only[zh];rw[C2]) ih
def tZ.fits:uS K tZ (λ xs H Q=>∃ j,xs=[.int j]/\∀ r,H r=none->∃ r' j',[V.ref r]=[.ref r']/\(upd H r (.ext (uA r j))) r'=some (.ext (uA r' j'))/\0<=j'/\j'<=16777216/\
  ∀ l,(upd H r (.ext (uA r j))) l=none->Q (.ref l) (upd (upd H r (.ext (uA r j))) l (.lst ((List.range j'.toNat).map λ(k:Nat)=>V.int (k:Int))))):=λ xs ds H S Q h0 h2 h=>by
 obtain⟨j,rfl,c1,c2,h⟩:=h
 obtain⟨x,hx,h1⟩:=h0.one;subst hx
 simp only[zh] at h1
 subst h1
 refine⟨j,rfl,λ r hr=>⟨r,j,rfl,ye,c1,c2,λ l hl=>?_⟩⟩
 have x1:Ext H (upd H r (.ext (uA r j))):=.new hr _
 have Ck:l≠r:=λ z=>by subst z;rw[ye] at hl;cases hl
 have hlH:H l=none:=by rw[zF Ck] at hl;exact hl
 have x2:Ext (upd H r (.ext (uA r j))) (upd (upd H r (.ext (uA r j))) l (.lst ((List.range j.toNat).map λ(k:Nat)=>V.int (k:Int)))):=.new hl _
 exact h l (h2.none hlH) _ _ (by simp only[zh]) (x1.trans x2) ((h2.new hr).ups x2 ⟨_,ye,Vy _⟩)
def UO (hm:X.mg "list"=none) (Ho:X.mg "range"=none) (ha:xi X [e] tA) (hc:X.calm=true:=by rfl) (hg:Gl X "list":=by rfl) (GD:Gl X "range":=by rfl)
  (Jb:starEach [e] X.env=(false,eval e X.env)::starEach [] X.env:=by rfl)
  (he:starEach [.Call (.Name "range" p2) [e] [] FZ] X.env=(false,eval (.Call (.Name "range" p2) [e] [] FZ) X.env)::starEach [] X.env:=by rfl) (Am:(backTo pos (starEach [] X.env)).any (·.1)=false:=by rfl) (HW:(backTo FZ (starEach [] X.env)).any (·.1)=false:=by rfl):
  PD X (.Call (.Name "list" p) [.Call (.Name "range" p2) [e] [] FZ] [] pos) (xE tZ tA):=by
 have h:=qX (p:=p) (Nl hc) hg hm PyProof.Rows.boot_list (v9 (qX Nh GD Ho boot_range ha.pa (by decide) (by decide) Jb HW) tf he) (by decide) (by decide) he Am
 exact⟨xE.mo tZ.mo ha.mo,PE.imp h λ _ _ _ hu=>cw tZ.mo tZ.fits ha.mo hu⟩
end
end L5
namespace ST
open PySem PySem.SetTable PySem.Spec PyProof.Rows L2
def Pe {us Ht:Ad}(p:Ht.Perm us):∀ {ms:List Int},IntsAre us ms->∃ Gb,IntsAre Ht Gb/\Gb.Perm ms:=by
 induction p with
 | nil=>intro ms h;exact⟨ms,h,.refl _⟩
 | cons x _ ih=>
  intro ms h
  cases h with
  | cons n t h=>
   obtain⟨Gb,h1,h2⟩:=ih h
   exact⟨n::Gb,.cons n t h1,h2.cons n⟩
 | swap x y l=>
  intro ms h
  cases h with
  | cons n t h=>
   cases h with
   | cons m u h=>exact⟨m::n::_,.cons m u (.cons n t h),.swap _ _ _⟩
 | trans _ _ J5 J4=>
  intro ms h
  obtain⟨m1,h1,h2⟩:=J4 h
  obtain⟨m2,h3,h4⟩:=J5 h1
  exact⟨m2,h3,h4.trans h2⟩
def vT.at {prog:Program}{w:World}{h:Heap}{a:Addr}{xs:List (Int×Tok)}(S:vT prog w h a xs (vC w)):yO w a (xs.map λ e=>Value.int e.1 e.2) h:=by
 obtain⟨⟨es,ep,t,ho,he,T,h1,h2,h3⟩,_⟩:=S
 have hm:7<=t.mask/\t.mask<=127:=by rcases T.mask with e | e | e <;> lia
 have hlen:es.size=xs.length:=by have:=congrArg List.length he;simpa using this
 exact⟨es,ep,t,⟨ho,fits_of (n:=xs.length) hlen T (by simp) (by lia),T.wH,h1,h2⟩,by rw[he,AZ];rfl⟩
theorem Zo:∀ xs:List (Int×Tok),IntsAre (xs.map λ e=>Value.int e.1 e.2) (xs.map (·.1))
 | []=>.nil
 | e::xs=>.cons e.1 e.2 (Zo xs)
theorem dY:∀ {us:Ad}{ns:List Int},IntsAre us ns->Vals (ns.map V.int) us
 | _,_,.nil=>.nil
 | _,_,.cons n t h=>.cons ⟨t,rfl⟩ (dY h)
section
variable {X:Cx}
def Nd (hc:X.calm=true):yB X (.type "set") (λ xs H Q=>∃ p,∃ ns:List Int,xs=[.ref p]/\zO X.K H p (ns.map V.int)/\ns.length<64/\
  ∀ (l:Addr) (us:Ad) (ms:List Int),H l=none->IntsAre us ms->ms.Nodup->(∀ n,n∈ms↔n∈ns)->Q (.ref l) (upd H l (.ext (yO X.w l us)))):=by
 intro EC s Y H xs us Q I r h
 obtain⟨p,ns,rfl,hq,Gg,q⟩:=h
 obtain⟨u,rfl,ru⟩:=vals1 r
 cases ru
 obtain⟨its,rv,pl,hz⟩:=I.list hq
 have hl:=rv.length
 rw[AD] at hl
 have iA:IntsAre its ns:=intsAre_of rv
 have nums:Nums its.toArray ns:=λ i v hv=>by
  have IL:its[i]?=some v:=by simpa using hv
  have hi:i<ns.length:=by rw[hl];exact (AK.mp IL).1
  obtain⟨u,e1,t,e2⟩:=rv.get (i:=i) (x:=V.int ns[i]) (by simp[hi])
  rw[IL] at e1;cases e1
  exact⟨ns[i],t,e2,by simp[hi]⟩
 have hh:X.A.handled=none:=I.ok.hd hc
 refine Nf (A:=X.A) hh pl.isList nums (by rw[AA];lia) λ h' tk xs S U k=>?_
 have kk:∀ b o,s.heap.get? b=some o->h'.get? b=some o:=λ b o e=>k b o (Al e) e
 have Ip:=S.at
 refine⟨.ref s.heap.objs.size,_,I.laid (t':=tk) (o:=.ext (yO X.w s.heap.objs.size (xs.map λ e=>Value.int e.1 e.2))) kk (Aj _) ?_,rfl,q _ _ (xs.map (·.1)) (I.zp.fresh (Aj _)) (Zo xs) S.nd λ n=>⟨λ hn=>?_,λ hn=>?_⟩⟩
 ·obtain⟨es,ep,t,St,e⟩:=id Ip
  exact⟨Ip,⟨_,St.get⟩,λ h1 h2 S1 k=>S1.vj k⟩
 ·obtain⟨e,he,rfl⟩:=Ay.mp hn
  obtain⟨j,_,hj⟩:=U.own e he
  exact Bl hj
 ·obtain⟨j,hj⟩:=Dw.mp hn
  exact U.all j n (by have:=(AK.mp hj).1;rw[AA];lia) hj
def O_ (hc:X.calm=true):yB X (.builtin "sorted") (λ xs H Q=>∃ l us,∃ ms:List Int,xs=[.ref l]/\H l=some (.ext (yO X.w l us))/\IntsAre us ms/\ms.length<64/\
  ∀ (p:Addr) (ns:List Int),H p=none->ns.Perm ms->ns.Pairwise (·<=·)->Q (.ref p) (upd H p (.lst (ns.map V.int)))):=by
 intro EC s Y H xs us0 Q I r h
 obtain⟨l,us,ms,rfl,hl,hm,Gg,q⟩:=h
 obtain⟨u,rfl,ru⟩:=vals1 r
 cases ru
 obtain⟨⟨es,ep,t,S,eu⟩,-,-⟩:=(show y_ X.prog X.w H s.heap l (.ext (yO X.w l us)) from I.zp l _ hl)
 have hlen:es.size=us.length:=by rw[<- eu];simp
 have hml:=hm.length
 have hh:X.A.handled=none:=I.ok.hd hc
 have hp:((comes X.w l es ep).toList.map (·.2)).Perm us:=by rw[<- eu];exact (pN X.w l es ep).map _
 obtain⟨Gb,i1,i2⟩:=Pe hp hm
 have AN:=hp.length_eq
 have hl24:sizeLine=16777216:=rfl
 refine c9 (Out:=λ out=>∃ Ga,IntsAre out.toList Ga/\Ga.Perm Gb/\Ga.Pairwise (·<=·)) hh S (by rw[hlen,hml];lia) (λ s6 h2 k=>L4.OO i1 (by rw[AN,<- hlen];exact h2) (by rw[AN,hml];exact Gg)) (λ h1=>⟨Gb,by simpa using i1,.refl _,?_⟩) λ out h' tk p ho hs G9 k Dr=>?_
 ·have:Gb.length<2:=by rw[<- i1.length,AN,<- hlen];exact h1
  match Gb,this with
  | [],_=>exact .nil
  | [_],_=>exact List.pairwise_singleton _ _
 ·obtain⟨ns,g1,g2,g3⟩:=ho
  obtain⟨e,he⟩:=Dr
  refine⟨.ref p,_,I.laid (t':=tk) (o:=.lst (ns.map V.int)) k G9 ?_,rfl,q p ns (I.zp.fresh G9) (g2.trans i2) g3⟩
  exact⟨by rw[AD,g2.length_eq,i2.length_eq];lia,out.toList,e,dY g1,by simpa using he⟩
end
end ST
namespace L5
open PySem PySem.Spec L2 L3
open PyProof.Rows hiding St
noncomputable def insI (n:Int):List Int->List Int
 | []=>[n]
 | m::l=>if n<m then n::m::l else if n=m then m::l else m::insI n l
noncomputable def wF:List Int->List Int
 | []=>[]
 | n::ns=>insI n (wF ns)
theorem g9 {n k:Int}:∀ {l:List Int},k∈insI n l↔k=n\/k∈l
 | []=>by simp[insI]
 | m::l=>by
  unfold insI
  split
  ·simp
  ·split
   ·rename_i h;subst h;simp
   ·rw[Ai,g9,Ai]
    constructor
    ·rintro (h | h | h)
     ·exact .inr (.inl h)
     ·exact .inl h
     ·exact .inr (.inr h)
    ·rintro (h | h | h)
     ·exact .inr (.inl h)
     ·exact .inl h
     ·exact .inr (.inr h)
theorem ku {k:Int}:∀ {l:List Int},k∈wF l↔k∈l
 | []=>.rfl
 | n::l=>by unfold wF;rw[g9,ku,Ai]
theorem Zr {n:Int}:∀ {l:List Int},l.Pairwise (· < ·)->(insI n l).Pairwise (· < ·)
 | [],_=>List.pairwise_singleton _ _
 | m::l,h=>by
  have h':=Bz.mp h
  unfold insI
  split
  ·rename_i c
   refine Bz.mpr ⟨λ x hx=>?_,h⟩
   rcases Ai.mp hx with e | e
   ·rw[e];exact c
   ·exact Int.lt_trans c (h'.1 x e)
  ·split
   ·exact h
   ·rename_i c1 c2
    refine Bz.mpr ⟨λ x hx=>?_,Zr h'.2⟩
    rcases g9.mp hx with e | e
    ·rw[e];lia
    ·exact h'.1 x e
theorem cp:∀ l:List Int,(wF l).Pairwise (· < ·)
 | []=>.nil
 | n::l=>Zr (cp l)
def X_ {l m:List Int}(h1:l.Nodup) (h2:l.Pairwise (·<=·)) (h3:m.Pairwise (· < ·)) (h:∀ k,k∈l↔k∈m):l=m:=by
 have nm:m.Nodup:=h3.imp λ h e=>by lia
 refine L4.iX (r:=λ a b:Int=>a<=b) (λ a b p q=>by lia) ((DP h1 nm).mpr h) h2 (h3.imp λ h=>by lia)
section
variable {X:Cx}{K:Ab}{e:Expr}{tA:yk}{pos FZ p p2:Pos}
def nM:xH:=λ ds S Q=>uN ds S Q\/∃ d,∃ ns:List Int,ds=[d]/\(∀ ts,d≠.tup ts)/\zN d S=some (ns.map D.int)/\ns.length<64/\∀ l,S l=none->Q (.ref l) (ups S l (.lst ((wF ns).map D.int)))
noncomputable def rS:List T->Option T
 | [.lst ts]=>match uq ts with
  | some ns=>if ns.length<64 then some (.lst ((wF ns).map T.int)) else none
  | none=>lK [.lst ts]
 | _=>none
def Py:vX zD rS nM:=λ S Z ys z ds Q hz hv e hq=>by
 unfold rS at e
 split at e
 ·split at e
  ·rename_i ns Bw
   split at e
   ·rename_i hc
    cases e
    cases nG Bw
    obtain⟨d,rfl,h1⟩:=vu hv
    obtain⟨es,h2,h3⟩:=h1.seq rfl
    cases tQ.mp h3
    refine .inr ⟨d,ns,rfl,?_,h2,hc,λ l hl=>hq _ _ (.new hl _) (sR hz hl (tQ.mpr rfl))⟩
    obtain⟨_,q | ⟨a,q,_⟩,_⟩:=h1.lst <;> subst q <;> exact λ _=>nofun
   ·cases e
  ·exact .inl (Pz S Z _ z ds Q hz hv e hq)
 ·cases e
theorem nM.mo:vW nM:=λ ds S Q Q' hq h=>by
 rcases h with h | ⟨d,ns,h1,h2,h3,h4,h5⟩
 ·exact .inl (uN.mo ds S Q Q' hq h)
 ·exact .inr ⟨d,ns,h1,h2,h3,h4,λ l hl=>hq _ _ (h5 l hl)⟩
def Ob {w:World}{xs:List V}{H:Hp}{S:SS}{Q:VK}{d:D}{ns:List Int}(h0:zo K H [d] xs) (h2:zE K H S) (hn:∀ ts,d≠.tup ts) (e:zN d S=some (ns.map D.int)) (Gg:ns.length<64) (h:∀ l,S l=none->wb K H Q (.ref l) (ups S l (.lst ((wF ns).map D.int)))):
  ∃ p,∃ Ga:List Int,xs=[.ref p]/\zO K H p (Ga.map V.int)/\Ga.length<64/\
   ∀ (l:Addr) (us:Ad) (ms:List Int),H l=none->IntsAre us ms->ms.Nodup->(∀ n,n∈ms↔n∈Ga)->
    ∃ l' Ht,∃ Gb:List Int,[V.ref l]=[.ref l']/\(upd H l (.ext (ST.yO w l us))) l'=some (.ext (ST.yO w l' Ht))/\IntsAre Ht Gb/\Gb.length<64/\
     ∀ (p:Addr) (ns:List Int),(upd H l (.ext (ST.yO w l us))) p=none->ns.Perm Gb->ns.Pairwise (·<=·)->Q (.ref p) (upd (upd H l (.ext (ST.yO w l us))) p (.lst (ns.map V.int))):=by
 obtain⟨x,hx,h1⟩:=h0.one;subst hx
 obtain⟨a,ys,rfl,g1,g2⟩:=rV h1 h2 e hn
 rw[g2.ints] at g1
 refine⟨a,ns,rfl,g1,Gg,λ l us ms hf hi nd A6=>⟨l,us,ms,rfl,ye,hi,?_,λ p JV hp pm srt=>?_⟩⟩
 ·have:=ST.gp ms ns nd λ x hx=>(A6 x).mp hx
  lia
 ·have x1:Ext H (upd H l (.ext (ST.yO w l us))):=.new hf _
  have Am:p≠l:=λ z=>by subst z;rw[ye] at hp;cases hp
  have J_:H p=none:=by rw[zF Am] at hp;exact hp
  have x2:Ext (upd H l (.ext (ST.yO w l us))) (upd (upd H l (.ext (ST.yO w l us))) p (.lst (JV.map V.int))):=.new hp _
  have heq:JV=wF ns:=X_ (pm.nodup_iff.mpr nd) srt (cp ns) λ k=>by rw[pm.mem_iff,A6,ku]
  refine h p (h2.none J_) _ _ (by simp only[zh]) (x1.trans x2) ((h2.new hf).ups x2 ⟨_,ye,?_⟩)
  rw[<- heq]
  exact zo.gj JV
def bM {k:Nat}(hr:ya k X.A) (hm:X.mg "sorted"=none) (Ho:X.mg "set"=none) (ha:xi X [e] tA) (hc:X.calm=true:=by rfl) (hg:Gl X "sorted":=by rfl) (GD:Gl X "set":=by rfl)
  (Jb:starEach [e] X.env=(false,eval e X.env)::starEach [] X.env:=by rfl)
  (he:starEach [.Call (.Name "set" p2) [e] [] FZ] X.env=(false,eval (.Call (.Name "set" p2) [e] [] FZ) X.env)::starEach [] X.env:=by rfl) (Am:(backTo pos (starEach [] X.env)).any (·.1)=false:=by rfl) (HW:(backTo FZ (starEach [] X.env)).any (·.1)=false:=by rfl):
  PD X (.Call (.Name "sorted" p) [.Call (.Name "set" p2) [e] [] FZ] [] pos) (xE nM tA):=by
 have h:=uG (p:=p) (yB.or (ST.Na hc) (ST.O_ hc)) hg hm boot_sorted (v9 (qX (yB.or (ST.Nc hc hr.units) (ST.Nd hc)) GD Ho PyProof.Rows.boot_set ha.pa (by decide) (by decide) Jb HW) tf he) (by decide) (by decide) he Am
 refine⟨xE.mo nM.mo ha.mo,PE.imp h fun Y H Q hu=>?_⟩
 obtain⟨L,S,r1,r2,z⟩:=hu
 refine wu.go ha.mo r1 r2 z λ ds S1 xs H1 h1 q1 e1 p1=>?_
 rcases h1 with h1 | ⟨d,ns,rfl,c1,c2,c3,h1⟩
 ·obtain⟨p,ys,rows,a1,a2,a3,a4,a5⟩:=uN.fits (w:=X.w) xs ds H1 S1 Q q1 p1 (uN.mo ds S1 _ _ (λ d S' z=>z.ext e1) h1)
  exact .inl ⟨p,ys,rows,a1,a2,a3,a4,λ l us vs rs b1 b2 b3=>.inl (a5 l us vs rs b1 b2 b3)⟩
 ·obtain⟨p,Ga,a1,a2,a3,a4⟩:=Ob (w:=X.w) q1 p1 c1 c2 c3 (λ l hl=>(h1 l hl).ext e1)
  exact .inr ⟨p,Ga,a1,a2,a3,λ l us ms b1 b2 b3 b4=>.inr (a4 l us ms b1 b2 b3 b4)⟩
end
end L5
namespace L5
open PySem L2 L3
def g_:Good2 zD tu fG:=kG (λ _ _ _=>wG) λ _ _ _=>nofun
def fh:Good2 zD kF fH:=kG (λ _ _ _=>wG) λ _ _ _=>nofun
def fj:Good2 zD kH kN:=kG (λ _ _ _=>wG) λ _ _ _=>nofun
end L5
namespace L3
open PySem PyProof.Rows L2
section
variable {X:Cx}{pos:Pos}
noncomputable def wE (E:tJ) (W:Nat->yc->SS->Prop) (m:Nat):tJ:={ E with nx:=fun L' S'=>∃ m',m'<m/\W m' L' S',ct:=fun L' S'=>∃ m',m'<m/\W m' L' S',bk:=E.nx }
def nV (c:yC) (tb:yh):yh:=λ E L S=>∃ W:Nat->yc->SS->Prop,(∃ m,W m L S)/\∀ m L S,W m L S->
 c L S λ b S1=>if b=true then tb (wE E W m) L S1 else E.nx L S1
def nV.mo {c:yC}{tb:yh}(hc:wU c) (hb:uC tb):uC (nV c tb):=λ E E' L S hE ⟨W,w0,ws⟩=>
 ⟨W,w0,λ m L S hw=>hc L S _ _ (λ b S1 z=>wA (λ z=>hb (wE E W m) (wE E' W m) L S1 ⟨λ _ _ q=>q,hE.rt,hE.nx,λ _ _ q=>q⟩ z) (λ z=>hE.nx _ _ z) z) (ws m L S hw)⟩
def bL {c:Expr}{body:List Stmt}{tc:yC}{tb:yh}(hp:PassesOwn (model X.prog X.w) X.A X.env X.xe) (hc:xu X c tc) (hb:uB X body tb):vV X (.While c body [] pos) (nV tc tb):=by
 refine⟨nV.mo hc.mo hb.mo,PS.imp (VL hp hc.pt hb.ps) λ D Y H hu=>?_⟩
 obtain⟨L,S,r1,r2,W,⟨m0,w0⟩,ws⟩:=hu
 refine⟨λ m Y' H'=>Ext H H'/\∃ L S,yx X.K H' L Y'/\zE X.K H' S/\W m L S,⟨m0,.refl _,L,S,r1,r2,w0⟩,?_⟩
 rintro m Y2 H2 ⟨x2,L2,S2,q1,q2,w2⟩
 refine xW.go hc.mo q1 q2 (ws m L2 S2 w2) λ k S3 H3 h3 e3 p3=>wA (λ z=>?_) (λ z=>?_) h3
 ·refine⟨fun Y' H'=>Ext H H'/\∃ L S m',m'<m/\yx X.K H' L Y'/\zE X.K H' S/\W m' L S,fun Y' H' ⟨a,L',S',m',b,c,d,e⟩=>⟨m',b,a,L',S',c,d,e⟩,L2,S3,q1.ext e3,p3,?_⟩
  exact hb.mo (wE (vN X.K H D) W m) _ L2 S3 ⟨fun L5 S5 ⟨m',b,w5⟩ Y5 H5 b1 b2 b3=>⟨(x2.trans e3).trans b2,L5,S5,m',b,b1,b3,w5⟩,λ _ _ q=>wb.ext (x2.trans e3) q,λ _ _ q=>xM.ext (x2.trans e3) q,fun L5 S5 ⟨m',b,w5⟩ Y5 H5 b1 b2 b3=>⟨(x2.trans e3).trans b2,L5,S5,m',b,b1,b3,w5⟩⟩ z
 ·exact z Y2 H3 (q1.ext e3) (x2.trans e3) p3
end
end L3
namespace L5
open PySem PyProof.Rows L2 L3
noncomputable def wz (is:List Nat) (c:Ev->Option Bool) (b:Sm):Nat->Ev->Option Out
 | 0,_=>none
 | n+1,J=>(c (yN is J)).bind λ k=>if k=true then (b (yN is J)).bind λ o=>match o with
   | .nx J2=>wz is c b n J2
   | .ct J2=>wz is c b n J2
   | .bk J2=>some (.nx (yN is J2))
   | .rt t=>some (.rt t)
  else some (.nx (yN is J))
def o4 (n:Nat) (is:List Nat) (c:Ev->Option Bool) (b:Sm):Sm:=wz is c b n
def T4 {R:Rk} [Lo R] {n:Nat}{is:List Nat}{c:Ev->Option Bool}{tc:yC}{b:Sm}{tb:yh}(hc:vf c tc) (hb:ym R b tb):ym R (o4 n is c b) (nV tc tb):=λ S0 Z0 S Z L J o E F e P=>by
 obtain⟨SB,b1,FB,b2⟩:=F.rebase
 have lo:∀ S' d y,R SB S' Z0 y d->R S0 S' Z0 y d:=λ S' d y r=>Lo.lo b1 (λ _ z=>z) r
 refine⟨λ m L' S'=>∃ Z' J',FR SB Z0 S' Z' L' J'/\wz is c b m J'=some o,⟨n,Z,J,FB,e⟩,λ m L' S' ⟨Z',J',F',e'⟩=>?_⟩
 cases m with
 | zero=>cases e'
 | succ m=>
  unfold wz at e'
  obtain⟨k,c1,e'⟩:=Ak.mp e'
  have G:=F'.yN is
  refine hc S' Z' L' _ k _ G.er c1 λ S3 s3=>?_
  cases k with
  | true=>
   rw[if_pos rfl] at e' ⊢
   obtain⟨o1,g2,e'⟩:=Ak.mp e'
   refine hb SB Z0 S3 Z' L' _ o1 _ (G.grow s3) g2 ?_
   cases o1 with
   | nx J2=>exact λ S3 Z3 L3 F3=>⟨m,Cj m,Z3,J2,F3,e'⟩
   | ct J2=>exact λ S3 Z3 L3 F3=>⟨m,Cj m,Z3,J2,F3,e'⟩
   | bk J2=>cases e';exact λ S3 Z3 L3 F3=>P S3 Z3 L3 ((F3.yN is).back b1 F.z0)
   | rt y=>cases e';exact λ d S3 s3 r3=>P d S3 (b1.trans s3) (lo _ _ _ r3)
  | false=>
   rw[if_neg (by decide)] at e' ⊢
   cases e'
   exact P S3 Z' L' ((G.grow s3).back b1 F.z0)
end L5
namespace ZP
open PySem PyProof.Rows
def Qm (k:Bool) (l:Addr) (xs:Av):Meets (Builtin.«enumerate.__new__» ⟨[.type "enumerate",.ref l],[]⟩) (λ _ R s=>SQ s.heap k l xs/\
   R (.ok (.ret (.ref (s.heap.push (vD k l)).objs.size))) { s with heap:=(s.heap.push (vD k l)).push { cls:=.type "enumerate",data:=.fields #[.none,.bool false,.ref s.heap.objs.size,rawInt 0,.none,.none] } }):=
 .of_wp λ prog w A R s h=>by
  obtain⟨hp,g,d,tk,os⟩:=s
  obtain⟨q,h⟩:=h
  have D_:=sub_enumerate
  have hL:SQ (Shared.heap ⟨hp,g,d,tk,os⟩) k l xs:=q
  obtain⟨⟨c,zH,dt,sl⟩,hl,hc⟩:=q.cls
  replace hc:c=.type (cond k "tuple" "list"):=hc
  subst hc
  wp_walk using AutoSeq1.wpAny_loadPart' hl
  refine wpAny_stack_any λ st=>Ac ?_
  split
  ·rename_i c _ _ _ _ _
   cases (c == Value.type "enumerate")
   ·wp_walk using AutoSeq1.wpAny_loadPart' hl,made hL
    exact⟨_,rfl,h⟩
   ·wp_walk using AutoSeq1.wpAny_loadPart' hl,made hL
    exact⟨_,rfl,h⟩
  ·wp_walk using AutoSeq1.wpAny_loadPart' hl,made hL
   exact⟨_,rfl,h⟩
section
variable {prog:Program}{w:World}{A:Around}{E:Ae}{s:Shared}
def Ow {k:Bool}{l:Addr}{xs:Av}{Q:Ae}(hL:SQ s.heap k l xs)
  (h:∀ h',IsEnum h' (s.heap.objs.size+1) s.heap.objs.size 0 .none->SI h' k s.heap.objs.size l 0->(∀ b o,s.heap.get? b=some o->h'.get? b=some o)->Q (.ref (s.heap.objs.size+1)) { s with heap:=h' }):
  wpAny (model prog w) A (call (.type "enumerate") [.ref l]) Q E s:=by
 refine callType_new F.called_enumerate (by decide) (F.typeCall_enumerate_1 _) (F.newCall_enumerate_1 _) (λ obj=>F.args_object_init_2 obj _) F.entry_enumerate_new (Qm k l xs) ⟨hL,?_⟩
 have hz:(s.heap.push (vD k l)).objs.size=s.heap.objs.size+1:=Heap.size_push ..
 show _/\_
 rw[hz]
 have he:IsEnum ((s.heap.push (vD k l)).push { cls:=.type "enumerate",data:=.fields #[.none,.bool false,.ref s.heap.objs.size,rawInt 0,.none,.none] }) (s.heap.objs.size+1) s.heap.objs.size 0 .none:=by
  have:=AF (s.heap.push (vD k l)) (o:={ cls:=.type "enumerate",data:=.fields #[.none,.bool false,.ref s.heap.objs.size,rawInt 0,.none,.none] }) rfl
  rw[hz] at this;exact this
 exact⟨⟨_,he,rfl⟩,h _ he ⟨_,KC _ (AF _ rfl),rfl,rfl⟩ λ b o x=>KC _ (KC _ x)⟩
def O5 (hh:A.handled=none) (k:Bool) (it l:Addr) (An:l≠it) (xs:Av):Draws prog w A it [it,l] xs.size (λ i v=>xs[i]?=some v) (λ i h=>SI h k it l i/\SQ h k l xs) where
 live:=λ _ _ st=>let ⟨o,ho,_⟩:=st.1;⟨o,ho⟩
 frame:=λ _ _ _ st hk=>⟨st.1.on λ o e=>hk it (by simp) o e,st.2.on λ o e=>hk l (by simp) o e⟩
 item:=λ i s Q E hi st hQ=>draw st.1 st.2 (x:=xs[i]) (by simp[hi]) λ h' Ep GZ=>hQ _ h' s.toks (by simp[hi]) ⟨Ep,st.2.on λ o e=>(GZ.2 l An).trans e⟩ GZ
 done:=λ s Q E st hE=>kU hh st.1 st.2 (by simp) hE
end
end ZP
namespace L2
open PySem PySem.Spec PyProof.Rows ZP
section
variable {X:Cx}{EC:Ag}{Y:St}{H:Hp}{s:Shared}
def YQ (K:Ab) (k:Bool) (a:Addr):It:=
 ⟨λ i H=>∃ xs x,wg K H k a xs/\xs[i]?=some x,
   λ i H v H'=>∃ p x,v=.ref p/\H p=none/\H'=upd H p (.tup [.int i,x])/\∀ xs,wg K H k a xs->xs[i]?=some x,
   λ i H=>∃ xs,wg K H k a xs/\xs.length<=i⟩
def Wm {P:Program}{w:World}{K:Ab}{es:List Expr}{kk} {pos:Pos}{k:Bool}{e it a:Addr}(Ex:e≠it) (hea:e≠a) (hai:a≠it):
  Turn P w K (.Tuple es kk pos) (YQ K k a) [e,it] e (λ i h=>(∃ old,IsEnum h e it i old)/\SI h k it a i) where
 mem:=by simp
 obj:=λ i h st b hb=>by
  obtain⟨⟨old,q1⟩,o1,q2,_,d1⟩:=st
  simp only[Ai,AV,or_false] at hb
  rcases hb with e | e <;> subst e
  ·exact⟨_,q1,λ v z=>by cases z⟩
  ·exact⟨_,q2,λ v z=>by rw[d1] at z;cases z⟩
 keep:=λ i h h' st k=>⟨let ⟨old,q⟩:=st.1;⟨old,k e (by simp) _ q⟩,st.2.on λ o q=>k it (by simp) o q⟩
 item:=by
  intro X hP hw hK hc i EC s Y H E I hf st hg
  subst hP hw hK
  obtain⟨xs,x,g1,hx⟩:=hg
  obtain⟨its,rv,q1⟩:=g1.of I
  obtain⟨u1,e1,r1⟩:=rv.get hx
  obtain⟨⟨old,he⟩,si⟩:=st
  have Ao:i<its.toArray.size:=by have:=(AK.mp e1).1;simpa using this
  have D:=O5 (prog:=X.prog) (w:=X.w) (A:=X.A.in1) (show X.A.in1.handled=none from I.ok.hd hc) k it a hai its.toArray
  refine wpAny_pyNext_enum_itemD D he ⟨si,q1⟩ Ao Ex (by simp[Ex,hea]) λ u h' tk hP ho GZ hT hsz hk=>⟨_,rfl,?_⟩
  have hu:u=u1:=by simp only[List.getElem?_toArray,e1] at hP;exact (A5 hP).symm
  subst hu
  have nT:s.heap.objs.size∉[e,it]:=λ hb=>by
   simp only[Ai,AV,or_false] at hb
   obtain⟨oi,qi,_⟩:=si
   rcases hb with z | z
   ·exact absurd (Al he) (by rw[<- z];exact B5 _)
   ·exact absurd (Al qi) (by rw[<- z];exact B5 _)
  have ne:s.heap.objs.size≠e:=λ z=>nT (by simp[z])
  refine wpAny_letOwnedTupleGo_enum ho λ h2 Jb sb=>?_
  have fr:H s.heap.objs.size=none:=I.zp.fresh (Aj _)
  have I1:Inv X EC Y (upd H s.heap.objs.size (.tup [.int i,x])) { s with heap:=s.heap.push { cls:=.type "tuple",data:=.seq [.int i tk,u].toArray },toks:=s.toks }:=
   I.laid (o:=.tup [.int i,x]) (λ b u q=>KC _ q) (Aj _) ⟨by show 2<=sizeLine;decide,[.int i tk,u],.cons ⟨tk,rfl⟩ (.cons r1 .nil),IsTup.new _ _⟩
  have GV:∀ b∈[e,it],upd H s.heap.objs.size (.tup [.int i,x]) b=none:=λ b hb=>by
   rw[zF (λ z=>nT (by rw[<- z];exact hb))]
   exact (hf b hb).1
  have kk:∀ b o,b∉[e,it]->(s.heap.push { cls:=.type "tuple",data:=.seq [.int i tk,u].toArray }).get? b=some o->h2.get? b=some o:=λ b o hb q=>by
   have Br:b≠e:=λ z=>hb (by simp[z])
   have hbi:b≠it:=λ z=>hb (by simp[z])
   by_cases Dq:b=s.heap.objs.size
   ·subst Dq
    rw[AF _ rfl] at q
    cases q
    exact sb.extBut _ _ Br hT
   ·have q':s.heap.get? b=some o:=by rw[Heap.get?_push_ne _ _ _ Dq] at q;exact q
    exact sb.extBut _ _ Br (hk b o Br hbi q')
  have I2:=Inv.lC (h':=h2) (t':=tk+1) (fp:=[e,it]) I1 kk λ b hb=>⟨GV b hb,(hf b hb).2⟩
  refine⟨.ref s.heap.objs.size,_,I2,rfl,⟨_,x,rfl,fr,rfl,λ zs hz=>by rw[hz.inj I g1];exact hx⟩,⟨⟨_,by simpa using Jb⟩,GZ.1.on λ o q=>(sb.2 it (Ne.symm Ex)).trans q⟩,GV⟩
 done:=by
  intro X hP hw hK hc i EC s Y H E I hf st hg
  subst hP hw hK
  obtain⟨xs,g1,hx⟩:=hg
  obtain⟨its,rv,q1⟩:=g1.of I
  have l1:=rv.length
  obtain⟨⟨old,he⟩,si⟩:=st
  have hT:s.TypeIs (.ref e) "enumerate":=⟨_,he,rfl⟩
  unfold pyNext
  refine JI (wpAny_attempt (K0 (name:=Str.ofString "__next__") hT F.slot_enumerate_next
   (KQ F.slot_enumerate_next hT F.entry_enumerate_next ?_ (F.args_enumerate_next_1 _))))
  show wpAny _ _ (field (.ref e) 2 >>= _) _ _ _
  refine JI (KH he rfl (x:=.ref it) rfl ?_)
  refine JI (kU (show X.A.in1.handled=none from I.ok.hd hc) si q1 (by simp;lia) λ h' x Kd Hf=>?_)
  obtain⟨o,ho,hc⟩:=Hf
  refine JI (wpAny_isInstance (T:="StopIteration") (b:=true) ⟨o,ho,hc⟩ isSubtype_stop ?_)
  exact Ac ⟨rfl,I.lC (t':=s.toks) (fp:=[e,it]) (λ b o hb q=>Kd b o (λ z=>hb (by simp[z])) q) hf⟩
 self:=λ _ _ _ _ _ st h=>let ⟨_,q⟩:=st.1;wpAny_pyIter_enum q h
def Pl (K:Ab) (ta:TA):TI:=fun Y H R=>ta Y H λ vs H1=>∃ a k,vs=[.ref a]/\(∃ xs,wg K H1 k a xs)/\R (YQ K k a) H1
def Ub {a:Expr}{ta:TA}{p pos pos':Pos}{es:List Expr}{kk} (hg:Gl X "enumerate") (hm:X.mg "enumerate"=none) (ha:PA X [a] ta) (hs:starEach [a] X.env=[(false,eval a X.env)]:=by rfl):
  PI X (.Tuple es kk pos') (.Call (.Name "enumerate" p) [a] [] pos) (Pl X.K ta):=by
 intro EC s Y H R I h
 refine Call_ (pA I hg hm boot_enumerate (PyProof.Rows.callWith_type1 (zC (ha pos EC s Y H _ I h) λ us s1 ⟨vs,H1,I1,r1,q1⟩=>?_) (by rw[hs];rfl) rfl))
 obtain⟨a1,k,rfl,⟨xs,g1⟩,q⟩:=q1
 cases r1 with
 | cons r rr=>
  cases rr
  cases r
  obtain⟨JZ,_,q1⟩:=g1.of I1
  have la:=q1.lt
  refine ZP.Ow q1 λ h' E S up=>wpAny_pyIter_enum E ?_
  have nw:∀ b∈[s1.heap.objs.size+1,s1.heap.objs.size],s1.heap.objs.size<=b:=λ b hb=>by
   simp only[Ai,AV,or_false] at hb
   rcases hb with z | z <;> rw[z]
   ·exact Cr _
   ·exact Aj _
  exact⟨_,[s1.heap.objs.size+1,s1.heap.objs.size],_,_,H1,rfl,I1.kept (t':=s1.toks) up,Wm (Nat.succ_ne_self _) (BI (BH la)) (Ar la),⟨⟨_,E⟩,S⟩,λ b hb=>I1.kI (nw b hb) (I1.zp.fresh (nw b hb)),q⟩
end
end L2
namespace L5
open PySem PySem.Spec L2 L3
open PyProof.Rows hiding St
noncomputable def t6 (k:Nat):List D->List D
 | []=>[]
 | d::ds=>.tup [.int k,d]::t6 (k+1) ds
noncomputable def sd (k:Nat):List T->List T
 | []=>[]
 | d::ds=>.tup [.int k,d]::sd (k+1) ds
theorem ZO:∀ (ds:List D) (k i:Nat),(t6 k ds)[i]?=(ds[i]?).map λ d=>D.tup [.int ((k+i:Nat):Int),d]
 | [],k,i=>by simp[t6]
 | d::ds,k,0=>by simp[t6]
 | d::ds,k,i+1=>by
  unfold t6
  rw[DR,DR,ZO ds (k+1) i,show k+1+i=k+(i+1) from by lia]
theorem ZN:∀ (ds:List D) (k:Nat),(t6 k ds).length=ds.length
 | [],k=>rfl
 | d::ds,k=>by unfold t6;rw[AW,ZN ds];rfl
theorem jR {S:SS}:∀ {ts:List T}{ds:List D}(k:Nat),zl S ts ds->zl S (sd k ts) (t6 k ds)
 | [],ds,k,h=>by simp only[zl] at h;subst h;exact zl.nil
 | t::ts,ds,k,h=>by
  simp only[zl] at h
  obtain⟨c,cs,rfl,h1,h2⟩:=h
  exact zl.cons (qP (zl.cons (by simp only[Sn]) (zl.cons h1 zl.nil))) (jR (k+1) h2)
section
variable {X:Cx}{a:Expr}{tA:yk}{pos p pos':Pos}{es:List Expr}{kk:Nat}
def gM (t:yk):wO:=fun L S R=>t L S λ ds S1=>∃ d xs,ds=[d]/\zN d S1=some xs/\R ⟨t6 0 xs,λ S=>zN d S=some xs⟩ S1
def hJ (hm:X.mg "enumerate"=none) (ha:xi X [a] tA) (hg:Gl X "enumerate":=by rfl) (hs:starEach [a] X.env=[(false,eval a X.env)]:=by rfl):
  rB X (.Tuple es kk pos') (.Call (.Name "enumerate" p) [a] [] pos) (gM tA):=by
 refine⟨fun L S Q Q' hq z=>ha.mo L S _ _ (λ ds S1 ⟨d,xs,h1,h2,h4⟩=>⟨d,xs,h1,h2,hq _ _ h4⟩) z,PI.imp (Ub hg hm ha.pa hs) fun Y H R hu=>?_⟩
 obtain⟨L,S,r1,r2,z⟩:=hu
 refine wu.go ha.mo r1 r2 z λ ds S1 vs H1 h1 q1 e1 p1=>?_
 obtain⟨d,xs,rfl,s1,h⟩:=h1
 obtain⟨v,rfl,d1⟩:=q1.one
 obtain⟨a1,us,rfl,g1,g2⟩:=zN.k d1 p1 s1
 refine⟨a1,nD d,rfl,⟨us,g1⟩,h _ H1 e1 p1 λ i H2 S2 x1 x2 hk=>?_⟩
 obtain⟨b1,Iv,q1,m1,m2⟩:=zN.k (zh.ext x1 d d1) x2 hk
 cases q1
 have l1:=m2.length
 refine⟨λ dd hd=>?_,λ hl=>⟨Iv,m1,?_⟩⟩
 ·rw[ZO,C1] at hd
  obtain⟨dx,hx,rfl⟩:=AB.mp hd
  obtain⟨x,Hf,rx⟩:=m2.get hx
  refine⟨⟨Iv,x,m1,Hf⟩,λ v H' q=>?_⟩
  obtain⟨pp,x',rfl,hp,rfl,f1⟩:=q
  have ex:x'=x:=by have:=f1 _ m1;rw[Hf] at this;exact (A5 this).symm
  subst ex
  refine⟨.new hp _,x2.new hp,?_⟩
  simp only[zh]
  exact⟨pp,_,rfl,zX.of ye,zo.ext (.new hp _) _ (.cons (by simp only[zh]) (.cons rx .nil))⟩
 ·have Gm:(t6 0 xs).length<=i:=hl
  rw[ZN] at Gm
  lia
@[simp] noncomputable def vL:List T->Option (List T)
 | [x]=>(xX x).map λ xs=>sd 0 xs
 | _=>none
def Sd {g:Ev->Option (List T)}(h:qB g tA):rE false (wK vL g) (gM tA):=λ S Z L J ts Q hE e hq=>by
 obtain⟨ys,e1,e2⟩:=Ak.mp e
 refine h S Z L J ys _ hE e1 λ ds S1 s1 r1=>?_
 unfold vL at e2
 split at e2
 ·obtain⟨xs,e3,rfl⟩:=AB.mp e2
  obtain⟨d,rfl,h1⟩:=vu r1
  obtain⟨es,g1,g2⟩:=h1.seq e3
  exact⟨d,es,rfl,g1,hq _ S1 s1 (jR 0 g2) λ HJ s=>zN.sx g1 s⟩
 ·cases e2
def Se {g:Ev->Option (List T)}(h:rF g tA):rE true (wK vL g) (gM tA):=λ S Z L J ts Q hE e hq=>by
 obtain⟨ys,e1,e2⟩:=Ak.mp e
 refine h S Z L J ys _ hE e1 λ ds S1 s1 r1=>?_
 unfold vL at e2
 split at e2
 ·obtain⟨xs,e3,rfl⟩:=AB.mp e2
  simp only[zl] at r1
  obtain⟨d,_,rfl,h1,rfl⟩:=r1
  obtain⟨es,g1,g2⟩:=zN.zJ h1 e3
  exact⟨d,es,rfl,zN.sx g1 (nI S1 Z),hq _ S1 s1 (jR 0 g2) λ HJ s=>zN.sx g1 s⟩
 ·cases e2
end
end L5
namespace TM
open PySem PyProof.Rows
def OE (i:Int) (t:Tok) (l:Addr) (items:Av) (n:Nat) (dd:Option Addr) (sl:Array (Option Value)):
  Meets (Builtin.«int.__rmul__» ⟨[.int i t,.ref l],[]⟩) (λ _ R s=>s.heap.get? l=some { cls:=.type "list",dict:=dd,data:=.seq items n,slots:=sl }/\R (.ok (.ret Value.notImplemented)) s):=
 .of_wp λ prog w A R s h=>by
  obtain⟨hp,g,d,tk,os⟩:=s
  obtain⟨hl,h⟩:=h
  wp_walk
  exact⟨_,rfl,h⟩
def mulL (l:Addr) (items:Av) (n:Nat) (x:Int) (u:Tok) (dd:Option Addr) (sl:Array (Option Value)) (hc0:¬(!Builtin.List.listFitsIndex x)=true) (Jc:¬items.size*x.toNat>(2 ^ 63-1)/8) (Gu:¬Builtin.List.listTooLong (items.size*x.toNat)=true):
  Meets (Builtin.«list.__mul__» ⟨[.ref l,.int x u],[]⟩) (λ _ R s=>s.heap.get? l=some { cls:=.type "list",dict:=dd,data:=.seq items n,slots:=sl }/\R (.ok (.ret (Value.ref s.heap.objs.size))) { s with heap:=s.heap.push { cls:=.type "list",data:=.seq (List.foldl (λ x1 x2=>x1++x2) #[] (List.replicate (if items.isEmpty=true then 0 else x.toNat) items)) } }):=
 .of_wp λ prog w A R s h=>by
  obtain⟨hp,g,d,tk,os⟩:=s;obtain⟨hl,h⟩:=h
  have hsz:=AutoListH.joined_fits Gu
  wp_walk;refine wpAny_ite_false (KI (Nat.not_lt.mpr hsz)) ?_;wp_walk;exact⟨_,rfl,h⟩
section
variable {prog:Program}{w:World}{A:Around}{E:Ae}{s:Shared}
def Ws {l:Addr}{its:Ad}{k:Int}{t:Tok}{Q:Ae}(ht:PlainL s.heap l its.toArray) (An:its≠[]) (h0:0<=k) (hz:its.length*k.toNat<=sizeLine)  (hk:k<=1000000)
  (more:Q (.ref s.heap.objs.size) { s with heap:=s.heap.push { cls:=.type "list",data:=.seq (List.replicate k.toNat its).flatten.toArray } }):
  wpAny (model prog w) A (binaryOp .Mult (.ref l) (.int k t)) Q E s:=by
 obtain⟨⟨cls,dd,data,sl⟩,n,ho,hc,he,hd⟩:=id ht
 simp only at hc hd he
 subst hc hd he
 have hl:sizeLine=16777216:=rfl
 have DN:its.toArray.isEmpty=false:=by cases its with
  | nil=>exact absurd rfl An
  | cons a r=>rfl
 have hf:List.foldl (λ x1 x2=>x1++x2) #[] (List.replicate (if its.toArray.isEmpty=true then 0 else k.toNat) its.toArray)=(List.replicate k.toNat its).flatten.toArray:=by
  rw[DN,if_neg (by decide)]
  have:=fA its k.toNat #[]
  simpa using this
 refine wpAny_binaryOp_repeat_ref (T:="list") (U:="int") (by decide) ⟨_,ho,rfl⟩ (λ s'=>typeIs_int s' k t) noFill_list_mul F.fills_int_mul F.slot_int_rmul repeat_list F.slot_int_index.lookup
  (call_meets F.slot_int_rmul (typeIs_int s k t) F.entry_int_rmul (F.args_int_rmul_2 _ _) (OE k t l its.toArray n none sl)
   ⟨ho,rfl,⟨_,ho,rfl⟩,call_meets F.slot_list_mul ⟨_,ho,rfl⟩ F.entry_list_mul (F.args_list_mul_2 _ _)
    (mulL l its.toArray n k t none sl (by simp[Builtin.List.listFitsIndex];lia) (by simp;lia) (by simp[Builtin.List.listTooLong];lia)) ⟨ho,?_⟩⟩)
 rw[hf];exact more
end
end TM
namespace L2
open PySem PySem.Spec PyProof.Rows
def iP (K:Ab):R2:=λ x y H Q=>∃ a k xs,x=.ref a/\y=.int k/\zO K H a xs/\xs≠[]/\0<=k/\k<=1000000/\xs.length*k.toNat<=sizeLine/\∀ p,H p=none->Q (.ref p) (upd H p (.lst (List.replicate k.toNat xs).flatten))
def Tj {X:Cx}:yd X (binaryOp .Mult) (iP X.K):=by
 intro EC s Y H x y v u Q I rx ry h
 obtain⟨a,k,xs,rfl,rfl,hx,An,h1,h2,hz,q⟩:=h
 cases rx
 obtain⟨t,rfl⟩:=ry
 obtain⟨its,r,ht,_⟩:=I.list hx
 have hl:=r.length
 refine TM.Ws ht (λ z=>An (r.nu.mp z)) h1 (by rw[<- hl];exact hz) h2 ?_
 have hlen:(List.replicate k.toNat xs).flatten.length<=sizeLine:=by
  have:(List.replicate k.toNat xs).flatten.length=k.toNat*xs.length:=by simp
  rw[this,DA];exact hz
 exact⟨.ref _,_,I.laid (t':=s.toks) (o:=.lst (List.replicate k.toNat xs).flatten) (λ b ob q=>KC _ q) (Aj _) ⟨hlen,_,0,r.rep k.toNat,AF _ rfl⟩,rfl,q _ (I.zp.fresh (Aj _))⟩
end L2
namespace L5
open PySem PySem.Spec L2 L3
open PyProof.Rows hiding St
section
variable {X:Cx}{K:Ab}{a b:Expr}{ta tb:zu}{pos:Pos}
noncomputable def QS:D->Bool
 | .tup _=>true
 | _=>false
def kM:yG:=λ x y S Q=>∃ k ds,y=.int k/\QS x=false/\zN x S=some ds/\(ds≠[]/\0<=k/\k<=1000000/\ds.length*k.toNat<=sizeLine)/\∀ p,S p=none->Q (.ref p) (ups S p (.lst (List.replicate k.toNat ds).flatten))
def rh:yG:=λ x y S Q=>t4 x y S Q\/kM x y S Q
noncomputable def x8:T->T->Option T
 | .lst ts,.int k=>if ts≠[]/\0<=k/\k<=1000000/\ts.length*k.toNat<=sizeLine then some (.lst (List.replicate k.toNat ts).flatten) else none
 | x,y=>gy x y
theorem rh.mo:xx rh:=λ x y S Q Q' hq h=>by
 rcases h with h | ⟨k,ds,h1,h2,h3,h4,h5⟩
 ·exact .inl (t4.mo x y S Q Q' hq h)
 ·exact .inr ⟨k,ds,h1,h2,h3,h4,λ p hp=>hq _ _ (h5 p hp)⟩
def kM.fits:xj K kM (iP K):=λ x y d e H S Q h1 h2 h3 h=>by
 obtain⟨k,ds,rfl,ht,hs,⟨c1,c2,c3,c4⟩,h⟩:=h
 simp only[zh] at h2
 obtain⟨a,xs,rfl,g1,g2⟩:=rV h1 h3 hs λ ts z=>by subst z;cases ht
 have hl:=g2.length
 refine⟨a,k,xs,rfl,h2,g1,λ z=>c1 (by subst z;cases ds with | nil=>rfl | cons _ _=>simp at hl),c2,c3,by rw[<- hl];exact c4,λ p hp=>?_⟩
 exact h p (h3.none hp) _ _ (by simp only[zh]) (.new hp _) (h3.ups (.new hp _) ⟨_,ye,zo.ext (.new hp _) _ (zo.rep g2 _)⟩)
theorem rh.fits:xj K rh (λ x y H Q=>(rI wo (λ i j=>.int (i*j)) x y H Q\/iO K x y H Q)\/iP K x y H Q):=λ x y d e H S Q h1 h2 h3 h=>by
 rcases h with h | h
 ·exact .inl (t4.fits x y d e H S Q h1 h2 h3 h)
 ·exact .inr (kM.fits x y d e H S Q h1 h2 h3 h)
def PB:Good2 zD x8 rh:=λ S Z x y z d e Q hz hx hy ef hq=>by
 unfold x8 at ef
 split at ef
 ·rename_i ts k
  split at ef
  ·rename_i hc
   cases ef
   obtain⟨ds,g1,g2⟩:=hx.seq (ts:=ts) rfl
   cases hy.int
   have hl:=g2.len
   refine .inr ⟨_,ds,rfl,?_,g1,⟨λ q=>hc.1 (by subst q;simpa using hl.symm),hc.2.1,hc.2.2.1,by rw[hl];exact hc.2.2.2⟩,λ p hp=>hq _ _ (.new hp _) (sR hz hp (zl.rep g2 _))⟩
   cases d with
   | tup es=>exact absurd hx (by
     intro q
     rcases q with q | ⟨us,p,FT,_,q,_⟩
     ·simp only[Sn] at q;obtain⟨_,⟨q,_⟩ | ⟨_,q,_⟩,_⟩:=q <;> cases q
     ·cases q)
   | _=>rfl
  ·cases ef
 ·exact .inl (Zv S Z x y z d e Q hz hx hy ef hq)
def sV (ha:PD X a ta) (hb:PD X b tb):PD X (.BinOp a .Mult b pos) (yw rh ta tb):=pj ((Tn.or Ti).or Tj) rh.fits rh.mo ha hb
end
end L5
namespace L3
open PySem PySem.Spec PyProof.Rows L2
section
variable {X:Cx}{K:Ab}{e o:Expr}{te to:zu}{apos Ah:Pos}
def rq (to te:zu):zu:=fun L S Q=>to L S λ x S1=>match x with
 | .ref p=>(∃ ds,S1 p=some (.lst ds))/\te L S1 λ y S2=>∃ q ds es,y=.ref q/\S2 p=some (.lst ds)/\S2 q=some (.lst es)/\ds.length+es.length<=sizeLine/\Q .zk (ups S2 p (.lst (ds++es)))
 | _=>False
def rq.mo (h:yn to) (h':yn te):yn (rq to te):=fun L S Q Q' hq z=>h L S _ _ (λ x S1 z=>by
 cases x with
 | ref p=>exact⟨z.1,h' L S1 _ _ (λ y S2 ⟨q,ds,es,a,b,c,d,w⟩=>⟨q,ds,es,a,b,c,d,hq _ _ w⟩) z.2⟩
 | _=>exact z) z
def UU {e0:Expr}(Ef:PE X e0 (jM X.K "list" bq (zK X.K to) (oB (zK X.K te) oA))) (h:yn to) (h':yn te):PD X e0 (rq to te):=by
 refine⟨rq.mo h h',PE.imp Ef fun Y H Q hu=>?_⟩
 obtain⟨L,S,r1,r2,z⟩:=hu
 refine zK.go h r1 r2 z λ x S1 v H1 h1 q1 e1 p1=>?_
 cases x with
 | ref p=>
  obtain⟨⟨ds,hd⟩,h1⟩:=h1
  simp only[zh] at q1
  subst q1
  obtain⟨xs,g1,g2⟩:=p1 _ _ hd
  refine⟨.inl ⟨rfl,xs,zO.of g1⟩,?_⟩
  refine zK.go h' (r1.ext e1) p1 h1 λ y S2 w H2 h2 q2 e2 p2=>?_
  obtain⟨q,Hi,es,rfl,b1,b2,b3,b4⟩:=h2
  simp only[zh] at q2
  subst q2
  obtain⟨EY,g3,g4⟩:=p2 _ _ b1
  obtain⟨Jn,g5,g6⟩:=p2 _ _ b2
  refine⟨p,q,EY,Jn,rfl,rfl,g3,g5,by rw[<- g4.length,<- g6.length];exact b3,?_⟩
  have e4:Ext H2 (upd H2 p (.lst (EY++Jn))):=.lst g3 _
  exact b4 _ _ (by simp only[zh]) ((e1.trans e2).trans e4) (p2.ups e4 ⟨_,ye,zo.ext e4 _ (g4.append g6)⟩)
 | _=>exact h1.elim
def UM (ho:PD X o to) (he:PD X e te)
  (FF:attributeBase o "extend" X.env (eval o X.env)=eval o X.env:=by rfl)
  (AL:((backTo Ah (starEach [e] X.env)).all (λ x=>!x.1)&&(backToKw Ah (keywordEach [] X.env)).all (λ x=>x.1.isSome)
   && decide ([e].length+([]:List Keyword).length+(if ([]:List Keyword).isEmpty then 0 else 1)<30))=true:=by rfl)
  (Gv:(apos.endLine == Ah.line)=true:=by rfl) (hs:starEach [e] X.env=(false,eval e X.env)::starEach [] X.env:=by rfl) (F5:(backTo Ah (starEach [] X.env)).any (·.1)=false:=by rfl):
  PD X (.Call (.Attribute o "extend" apos) [e] [] Ah) (rq to te):=
 UU (bE PySem.F.plainAttrs_list PySem.F.slot_list_extend PySem.F.type_list_extend Qi ho.pe (v9 he.pe tf hs) FF AL Gv hs F5) ho.mo he.mo
end
end L3
namespace L5
open PySem L2 L3
@[simp] noncomputable def fJ (i:Nat) (f:Ev->Option T):Sm:=fun J=>match J[i]? with
 | some (some (.own (.lst ts)))=>(f J).bind λ y=>match y with
  | .lst us=>if ts.length+us.length<=sizeLine then some (.nx (J.set i (some (.own (.lst (ts++us)))))) else none
  | _=>none
 | _=>none
section
variable {R:Rk}{f:Ev->Option T}{te:zu}
def TL (i:Nat) (hf:xO f te):ym R (fJ i f) (kZ (rq (yt i) te)):=λ S0 Z0 S Z L J o E F e P=>by
 unfold fJ at e
 split at e
 ·rename_i ts h
  obtain⟨y,e1,e2⟩:=Ak.mp e
  split at e2
  ·rename_i us
   split at e2
   ·rename_i hl
    cases e2
    obtain⟨p,ob,h1,h2,h3,h4⟩:=F.er.ow i _ h
    obtain⟨ds,rfl⟩:∃ ds,ob=.lst ds:=by
     cases ob with
     | lst ds=>exact⟨ds,rfl⟩
     | zH _=>exact h3.elim
    replace h3:zl (zJ S Z) ts ds:=h3
    show rq (yt i) te L S _
    unfold rq yt
    rw[h1]
    refine⟨⟨ds,h2⟩,hf S Z L J _ _ F.er e1 λ d S1 s1 r1=>?_⟩
    obtain⟨q,es,rfl,g1,g2,g3⟩:=r1.2 us rfl
    have F1:=F.grow s1
    have g4:zl (zJ S1 Z) us es:=zl.sx (uv λ a z=>.inl z) us g3
    refine⟨q,ds,es,rfl,s1 _ _ h2,g2,by rw[h3.len,g4.len];exact hl,P _ Z L (F1.mut (us:=.lst (ts++us)) (es:=.lst (ds++es)) i h h1 ((zl.sx (wM s1) ts h3).append g4))⟩
   ·cases e2
  ·cases e2
 ·cases e
end
end L5
namespace L5
open PySem PySem.Spec L2 L3
open PyProof.Rows hiding St
section
variable {X:Cx}{K:Ab}{e:Expr}{es:List Expr}{tA:yk}{pos p:Pos}
def t5:xH:=λ ds S Q=>match ds with
 | [.int i]=>Q (.int i) S
 | [.bl k]=>Q (.int (if k then 1 else 0)) S
 | _=>False
def t5.mo:vW t5:=λ ds S Q Q' hq h=>by
 unfold t5 at h ⊢
 split at h
 ·exact hq _ _ h
 ·exact hq _ _ h
 ·exact h.elim
def t5.fits:uS K t5 (λ xs H Q=>(∃ i,xs=[.int i]/\Q (.int i) H)\/∃ k,xs=[.bl k]/\Q (.int (if k then 1 else 0)) H):=λ xs ds H S Q h0 h2 h=>by
 unfold t5 at h
 split at h
 ·obtain⟨x,rfl,h1⟩:=h0.one
  simp only[zh] at h1;subst h1
  exact .inl ⟨_,rfl,h _ H (by simp only[zh]) (.refl H) h2⟩
 ·obtain⟨x,rfl,h1⟩:=h0.one
  simp only[zh] at h1;subst h1
  exact .inr ⟨_,rfl,h _ H (by simp only[zh]) (.refl H) h2⟩
 ·exact h.elim
def UR (hm:X.mg "int"=none) (ha:xi X (e::es) tA) (hg:Gl X "int":=by rfl) (he:starEach (e::es) X.env=(false,eval e X.env)::starEach es X.env:=by rfl) (Am:(backTo pos (starEach es X.env)).any (·.1)=false:=by rfl):PD X (.Call (.Name "int" p) (e::es) [] pos) (xE t5 tA):=
 uZ (qX Nt hg hm PyProof.Rows.boot_int ha.pa (by decide) (by decide) he Am) t5.mo t5.fits ha.mo
@[simp] noncomputable def gP:List T->Option T
 | [.int i]=>some (.int i)
 | [.bl k]=>some (.int (if k then 1 else 0))
 | _=>none
def good_int:vX zD gP t5:=λ S Z ys z ds Q hz hv e hq=>by
 unfold gP at e
 split at e
 ·cases e
  obtain⟨d,rfl,h1⟩:=vu hv
  cases h1.int
  exact hq _ S (.refl S) (Cl.of (λ _=>nofun) wV)
 ·cases e
  obtain⟨d,rfl,h1⟩:=vu hv
  cases h1.bl
  exact hq _ S (.refl S) (Cl.of (λ _=>nofun) wV)
 ·cases e
end
section
variable {α:Type}{P:List α->Prop}
def su (h:∀ a,P [a]) (us:List α) (hl:us.length=1):P us:=match us,hl with | [a],_=>h a
def xN (h:∀ a b,P [a,b]) (us:List α) (hl:us.length=2):P us:=match us,hl with | [a,b],_=>h a b
def tE (h:∀ a b c,P [a,b,c]) (us:List α) (hl:us.length=3):P us:=match us,hl with | [a,b,c],_=>h a b c
def N8 (h:∀ a b c d,P [a,b,c,d]) (us:List α) (hl:us.length=4):P us:=match us,hl with | [a,b,c,d],_=>h a b c d
def ar5 (h:∀ a b c d e,P [a,b,c,d,e]) (us:List α) (hl:us.length=5):P us:=match us,hl with | [a,b,c,d,e],_=>h a b c d e
def ar6 (h:∀ a b c d e f,P [a,b,c,d,e,f]) (us:List α) (hl:us.length=6):P us:=match us,hl with | [a,b,c,d,e,f],_=>h a b c d e f
def ar7 (h:∀ a b c d e f g,P [a,b,c,d,e,f,g]) (us:List α) (hl:us.length=7):P us:=match us,hl with | [a,b,c,d,e,f,g],_=>h a b c d e f g
def ar8 (h:∀ a b c d e f g i,P [a,b,c,d,e,f,g,i]) (us:List α) (hl:us.length=8):P us:=match us,hl with | [a,b,c,d,e,f,g,i],_=>h a b c d e f g i
end
end L5
namespace L5
open PySem PySem.Spec L2 L3
open PyProof.Rows hiding St
section
variable {P:Program}{w:World}{K:Ab}{mg:Aq}{base h:Heap}{x:Str}{st:Stmt}
def Fx (K:Ab) (x:Str) (st:Stmt):Prop:=∃ (f:Addr) (oc:Value) (od:Option Addr) (kV dc pm:Value) (an:Option Addr) (cd ct:Value) (sl:Array (Option Value)),
 PySem.W.nsIn K mainGlobals x=some (some (.ref f))/\K.lookup f=some ⟨oc,od,.func (PySem.W.fnOf x x (vO st) (xD st) (zy st) .none kV dc pm an cd ct),sl⟩/\PySem.W.codeIn K cd x=true/\PySem.W.keepIn K (.ref f)=true
def Fx.i {f:Addr}{oc:Value}{od:Option Addr}{kV dc pm:Value}{an:Option Addr}{cd ct:Value}{sl:Array (Option Value)}(a:PySem.W.nsIn K mainGlobals x=some (some (.ref f))) (l:K.lookup f=some ⟨oc,od,.func (PySem.W.fnOf x x (vO st) (xD st) (zy st) .none kV dc pm an cd ct),sl⟩) (c:PySem.W.codeIn K cd x=true) (k:PySem.W.keepIn K (.ref f)=true):Fx K x st:=⟨f,oc,od,kV,dc,pm,an,cd,ct,sl,a,l,c,k⟩
def Fy (K:Ab) (mg:Aq) (x:Str) (st:Stmt):Prop:=∃ (f:Addr) (fd:FuncData),vh K x x st f fd/\mg x=some (.ref f)
def Fx.mk (H:Fx K x st) (X:K.In h) (G:h.Ns mainGlobals mg):Fy K mg x st:=by
 obtain⟨f,oc,od,kV,dc,pm,an,cd,ct,sl,a,l,c,k⟩:=H
 exact⟨f,_,fy l c k,PySem.W.mg_of X G a⟩
theorem Fx.law {fa:Addr}{p:Str}(H:Fx K "law" st) (X:K.In h) (G:h.Ns mainGlobals mg) (Ew:mg "law"=some (.ref fa)) (hb:∀ (kV dc pm:Value) (an:Option Addr) (cd ct:Value) (s:Shared) (v:Value),BindsTo s (PySem.W.fnOf "law" "law" (vO st) (xD st) (zy st) .none kV dc pm an cd ct) ⟨[v],[]⟩ [(p,v)]):∃ fd:FuncData,vh K "law" "law" st fa fd/\∀ (s:Shared) (v:Value),BindsTo s fd ⟨[v],[]⟩ [(p,v)]:=by
 obtain⟨f,oc,od,kV,dc,pm,an,cd,ct,sl,a,l,c,k⟩:=H
 have e:=Ew.symm.trans (PySem.W.mg_of X G a)
 cases e
 exact⟨_,fy l c k,hb kV dc pm an cd ct⟩
def Cn (K:Ab) (x:Str) (t:V):Prop:=∃ u,PySem.W.nsIn K mainGlobals x=some (some u)/\L2.RelV t u
def Cn.i {t:V}{u:Value}(a:PySem.W.nsIn K mainGlobals x=some (some u)) (r:L2.RelV t u):Cn K x t:=⟨u,a,r⟩
def Cn.mk {t:V}(H:Cn K x t) (X:K.In h) (G:h.Ns mainGlobals mg):∃ u,mg x=some u/\L2.RelV t u:=by
 obtain⟨u,a,r⟩:=H
 exact⟨u,PySem.W.mg_of X G a,r⟩
def y7 {R:Rk} [Lo R] {N ps:List Str}{k n:Nat}{g:Sm}(F:Fy K mg x st) (Sc:zY N ps (zy st)) (hn:n=ps.length)
  (hb:∀ (kV doc pm:Value) (an:Option Addr) (Af ct:Value) (us:Ad),us.length=ps.length->bindArgs (PySem.W.fnOf x x (vO st) (xD st) (zy st) .none kV doc pm an Af ct) ⟨us,[]⟩=pure (ps.zip us))
  (Fb:∀ (f:Addr) (Af:Value) (A:Around) (outer:List Env) (s:Shared) (H:Hp) (E:XK),ya k (A.deeper (envOfC x (zy st) s.heap.objs.size f Af))->
   ∃ t,uB (wC xI P w K mg base N x (zy st) f Af A outer s H E).vA (xD st) t/\ym R g t):FD P w K mg base x (k+1) ps (zI R (z_ N n g)):=by
 obtain⟨f,fd,F,hm⟩:=F
 exact Oh F hm Sc hn hb (Fb f)
end
end L5
namespace PySem
section
variable {prog:Program}{w:World}{A:Around}{E:Ae}{h:Heap}{g:Array GenState}{d:Drawn}{t:Nat}{os:OsState}
variable {nm q:Str}{C N:Addr}{bs bm EZ:Ad}{hdct:Bool}{sn:List Str}{sub:Ad}{ab:Bool}{col:Option Bool}{dd:Option Addr}{k0 k1 k2 k3 k5:Option Value}{B newId G6:String}
def XA (F:ExcBaseFacts B newId G6 EZ) (T:OwnTail h EZ bm) {mN:Aq}{EI:Ad}{fI:Addr}{oI:Obj}{Q:Fin->Shared->Prop}
  (hC:h.get? C=some (excClassObj nm q C N bs bm hdct sn sub ab col dd k0 k1 k2 k3 k5 newId)) (hn:h.Ns N mN) (hi:mN "__init__"=some (.ref fI))
  (H_:h.get? fI=some oI) (Dm:oI.cls=.type "function")
  (hq:∀ h' e,h.objs.size<=e->Heap.MadeExcOf h h' e (.ref C) EI->
   wpAny (model prog w) A (call (.ref fI) (.ref e::EI)) (λ r s'=>r=.none/\Q (.done (.ret (.ref e))) s') E ⟨h',g,d,t,os⟩) (F4:EI.length<=sizeLine):
  wpAny (model prog w) A (Builtin.«type.__call__» ⟨.ref C::EI,[]⟩) Q E ⟨h,g,d,t,os⟩:=by
 repeat (first | with_reducible refine KD hC ?_ | with_reducible refine wpAny_madeBy_exc hC ?_ | wp_step)
 refine codeAny_call_builtin_code (Code.quiet_builtin _ F.quiet) (wpAny_check_new_subT F T hC ?_)
 refine codeAny_exc_new_subT F T hC ?_ F4
 show wpAny _ _ _ _ _ _
 have up:∀ b o,h.get? b=some o->((h.push { cls:=.type "tuple",data:=.seq EI.toArray }).push { cls:=.ref C,data:=.fields #[.ref h.objs.size,.none,.none,.none,.bool false,.none] }).get? b=some o:=λ b o e=>KC _ (KC _ e)
 have hC₁:=up _ _ hC
 have Kc:=up _ _ H_
 have Dk:((h.push { cls:=.type "tuple",data:=.seq EI.toArray }).push
   { cls:=.ref C,data:=.fields #[.ref h.objs.size,.none,.none,.none,.bool false,.none] }).get? (h.objs.size+1)=some
   { cls:=.ref C,data:=.fields #[.ref h.objs.size,.none,.none,.none,.bool false,.none] }:=by heap_get
 have hcC:(Value.ref C::bm).contains (.ref C)=true:=by simp
 unfold isInstance
 repeat (first | with_reducible refine KD Dk ?_ | (with_reducible refine KR hC₁ ?_;rw[hcC]) | wp_step)
 show wpAny _ _ (typeLookup (.ref C) _) _ _ _
 refine wpAny_typeLookup_tail hC₁ (hn.keeps up) (T.keeps up) F.mroIs F.init.lookup ?_
 rw[hi]
 refine KJ (JI ?_)
 unfold bindSpecial
 refine JI (wpAny_typeOf (T:="function") ⟨_,Kc,Dm⟩ ?_)
 rw[if_pos (by decide)]
 refine Ac (JI (KG (hq _ (h.objs.size+1) (Cr _) ⟨up,K8 (Cr _),h.objs.size,Dk,K8 (Aj _),?_⟩) (λ r s' hr=>?_) λ _ _ x=>x))
 ·exact KC _ (Heap.get?_push_at rfl rfl)
 ·obtain⟨rfl,hQ⟩:=hr
  wp_walk
  exact hQ
def XN (F:ExcBaseFacts B newId G6 EZ) (T:OwnTail h EZ bm) {mN:Aq}{EI:Ad}{fI:Addr}{oI:Obj}{Q:Ae}
  (hC:h.get? C=some (excClassObj nm q C N bs bm hdct sn sub ab col dd k0 k1 k2 k3 k5 newId)) (hn:h.Ns N mN) (hi:mN "__init__"=some (.ref fI))
  (H_:h.get? fI=some oI) (Dm:oI.cls=.type "function")
  (hq:∀ h' e,h.objs.size<=e->Heap.MadeExcOf h h' e (.ref C) EI->
   wpAny (model prog w) (A.under (.builtin "type.__call__" ⟨.ref C::EI,[]⟩)) (call (.ref fI) (.ref e::EI)) (λ r s'=>r=.none/\Q (.ref e) s') E ⟨h',g,d,t,os⟩) (F4:EI.length<=sizeLine):
  wpAny (model prog w) A (call (.ref C) EI) Q E ⟨h,g,d,t,os⟩:=by
 have f1:=tc_lookup
 have f2:=tc_bind (.ref C)
 have hT:(⟨h,g,d,t,os⟩:Shared).TypeIs (.ref C) "type":=⟨_,hC,rfl⟩
 refine wpAny_call (codeAny_of_tree ?_)
 show wpAny _ _ (callAny (.ref C) _) _ _ _
 repeat (any_goals (first | assumption | with_reducible refine KD hC ?_ | wp_step))
 refine⟨rfl,?_⟩
 exact codeAny_call_builtin_at (Code.quiet_builtin _ (AG)) entry_typeCall (wpAny_check_type_call_sub hC (XA F T hC hn hi H_ Dm (λ h' e hl hm=>hq h' e hl hm) F4))
def XD {M:Model}{env:Env}{s:Shared}{x:Sem Value}{Q:Flow->Shared->Prop}(FF:bm.contains (.type "BaseException")=true) (hh:A.handled=none)
  (hx:wpAny M A x (λ v s₁=>∃ e zH vs sl,v=.ref e/\s₁.heap.get? C=some (excClassObj nm q C N bs bm hdct sn sub ab col dd k0 k1 k2 k3 k5 newId)/\
   s₁.heap.get? e=some { cls:=.ref C,dict:=zH,data:=.fields #[.ref vs,.none,.none,.none,.bool false,.none],slots:=sl }/\E (.ref e) s₁) E s):
  wpAny M A (raiseStmt env (some x) none) Q E s:=by
 have Hr:(Value.ref C::bm).contains (.type "BaseException")=true:=by rw[Bf,FF,CI]
 unfold raiseStmt
 refine JI (KG hx (λ v s₁ h₁=>?_) λ _ _ x=>x)
 obtain⟨e,zH,vs,sl,rfl,hC,he,hE⟩:=h₁
 obtain⟨hp,g,d,tk,os⟩:=s₁
 repeat (first | with_reducible refine KD he ?_ | with_reducible refine KD hC ?_ | (with_reducible refine KR hC ?_;rw[Hr]) | wp_step)
 exact wpAny_raiseNew_none hh hE
end
end PySem
namespace PySem
open Builtin Builtin.ObjectAttr
section
variable {prog:Program}{w:World}{M:Model}{A:Around}{E:Ae}{h:Heap}{g:Array GenState}{d:Drawn}{t:Nat}{os:OsState}
variable {nm q:Str}{C N P x:Addr}{bs EZ:Ad}{hdct:Bool}{sn:List Str}{sub:Ad}{ab:Bool}{col:Option Bool}{dd:Option Addr}{k0 k1 k2 k3 k5:Option Value}{B newId:String}
 {mN mP:Aq}{name:Str}{v:Value}
structure sy (h:Heap) (P:Addr) (mP:Aq):Prop where
 ex:∃ (c0:Value) (dd:Option Addr) (cd:ClassData) (sl:Array (Option Value)),h.get? P=some { cls:=c0,dict:=dd,data:=.cls cd,slots:=sl }/\h.Ns cd.ns mP
def sM {n:Str}{y:Option Value}{Q:Option Value->Shared->Prop}
  (hC:h.get? C=some (excClassObj nm q C N bs (.ref P::EZ) hdct sn sub ab col dd k0 k1 k2 k3 k5 newId)) (hn:h.Ns N mN) (hP:sy h P mP) (hbm:mroOf (.type B)=pure EZ) (hB:typeLookup (.type B) n=pure y)
  (h1:mN n=none) (h2:mP n=none) (hq:Q y ⟨h,g,d,t,os⟩):wpAny M A (typeLookup (.ref C) n) Q E ⟨h,g,d,t,os⟩:=by
 obtain⟨c0,pd,cd,sl,hA,hN⟩:=hP.ex
 have F4:lookupAlong EZ n=pure y:=by rw[typeLookup_eq,hbm] at hB;exact hB
 rw[typeLookup_eq]
 refine JI (wpAny_mroOf_exc hC ?_)
 rw[lookupAlong_cons]
 refine JI (wpAny_classOwn_exc hC hn ?_)
 rw[h1]
 show wpAny M A (lookupAlong (.ref P::EZ) n) Q E _
 rw[lookupAlong_cons]
 refine JI (wpAny_classOwn_cls hA hN ?_)
 rw[h2]
 show wpAny M A (lookupAlong EZ n) Q E _
 rw[F4]
 exact Ac hq
def XM {o:Obj}{F0:Value}{Q:Unit->Shared->Prop}{sa owner:String}(SF:StoreFacts B EZ sa owner)
  (hC:h.get? C=some (excClassObj nm q C N bs (.ref P::EZ) true sn sub ab col dd k0 k1 k2 k3 k5 newId)) (hx:h.get? x=some o) (hc:o.cls=.ref C) (hq:Q () ⟨h,g,d,t,os⟩):
  wpAny M A (checkBuiltinCall sa ⟨[.ref x,F0,v],[]⟩) Q E ⟨h,g,d,t,os⟩:=by
 have Hr:(Value.ref C::.ref P::EZ).contains (.type owner)=true:=by rw[Bf,Bf,SF.hasOwner,CI,CI]
 have ha:=SF.args (.ref x) F0 v
 simp only[checkBuiltinCall,SF.kind,SF.split]
 refine JI ?_
 unfold isInstance
 repeat (first | (with_reducible refine KD hx ?_;rw[hc]) | (with_reducible refine KR hC ?_;rw[Hr]) | wp_step)
 cases Ea:Manifest.signature? sa with
 | none=>exact Ac hq
 | some sig=>
  simp only[argsOk,Ea] at ha
  have h2:Bind.checkArgs sa sig ⟨[.ref x,F0,v],[]⟩=pure ():=ha
  show wpAny M A (Bind.checkArgs sa sig ⟨[.ref x,F0,v],[]⟩) Q E _
  rw[h2];exact Ac hq
def XB {tk:Tok}{Q:Fin->Shared->Prop}{sa owner:String}{o:Obj}(SF:StoreFacts B EZ sa owner)
  (hC:h.get? C=some (excClassObj nm q C N bs (.ref P::EZ) true sn sub ab col dd k0 k1 k2 k3 k5 newId)) (hn:h.Ns N mN) (hP:sy h P mP) (BD:mN name=none) (BC:mP name=none)
  (hB:typeLookup (.type B) name=pure none) (hx:h.get? x=some o) (hc:o.cls=.ref C) (Ez:o.dict=none) (BU:∀ c,o.data≠.cls c)
  (hq:∀ h' GP,h'.get? x=some { o with dict:=some h.objs.size }->h'.Ns1 h.objs.size (λ y=>if y=name then some v else none)->
   (∀ b o,b≠x->h.get? b=some o->h'.get? b=some o)->Q (.done (.ret .none)) ⟨h',g,d,GP,os⟩):
  wpAny (model prog w) A (Builtin.«object.__setattr__» ⟨[.ref x,.str name tk,v],[]⟩) Q E ⟨h,g,d,t,os⟩:=by
 have IV:=SF.passes (.ref x)
 unfold Builtin.«object.__setattr__»
 repeat (first | rw[refuse_eq] | (rw[refuseLoop_ref,refuseLoop_ref,IV]) | (with_reducible refine KD hx ?_;rw[hc]) | with_reducible refine wpAny_mroOf_exc hC ?_ | (with_reducible refine sM hC hn hP SF.mro hB BD BC ?_) | wp_step)
 rw[Ez,if_neg (by simp[typeHasDict])]
 split
 ·rename_i A4
  cases A4
 split
 ·rename_i c A4
  exact absurd A4 (BU c)
 ·have hx₁:(h.push { cls:=.type "dict",data:=.dict #[] }).get? x=some o:=KC _ hx
  have hxs:x≠h.objs.size:=Ar (Al hx)
  refine JI (wpAny_alloc' ?_)
  refine JI (wpAny_update' hx₁ ?_)
  refine Ac ?_
  have hgd:((h.push { cls:=.type "dict",data:=.dict #[] }).update x λ o=>{ cls:=o.cls,dict:=some h.objs.size,data:=o.data,slots:=o.slots }).get? h.objs.size
    = some { cls:=.type "dict",data:=.dict #[] }:=
   (K6 _ _ _ _ hxs.symm).trans (Heap.get?_push_at rfl rfl)
  have BM:((h.push { cls:=.type "dict",data:=.dict #[] }).update x λ o=>{ cls:=o.cls,dict:=some h.objs.size,data:=o.data,slots:=o.slots }).Ns h.objs.size (λ _=>none):=
   ⟨_,#[],_,hgd,rfl,λ e he=>absurd he (by simp),λ _=>rfl⟩
  show wpAny _ _ (storeInDict h.objs.size (.str name tk) name v) _ _ _
  unfold storeInDict newKeyGuard
  refine JI (Ac (JI (wpAny_nsSet1 (Heap.Ns1.of_empty BM) λ h' Gk hs=>?_)))
  obtain⟨oD,esD,epD,hoD,hdD,hcD⟩:=Gk.count (Within.cons name v Within.nil)
  refine JI (wpAny_lookBehind hoD (by rw[hdD];exact pastItsLine_dict (BA hcD (by rw[AW,B4,sizeLine_eq];lia))) ?_)
  wp_walk
  refine hq h' _ ?_ Gk λ b ob hbx hb=>?_
  ·refine (hs.2 x hxs).trans (KN _ hx₁ ?_)
   have AH:=(Heap.get?_some_iff.mp hx).2
   obtain⟨oc,od,odt,GQ⟩:=o
   cases odt <;> first | rfl | exact AH
  ·exact (hs.2 b (Ar (Al hb))).trans ((K6 _ _ _ _ hbx).trans (KC _ hb))
def XC {Q:Unit->Shared->Prop}{sa owner:String}{o:Obj}(SF:StoreFacts B EZ sa owner)
  (hC:h.get? C=some (excClassObj nm q C N bs (.ref P::EZ) true sn sub ab col dd k0 k1 k2 k3 k5 newId)) (hn:h.Ns N mN) (hP:sy h P mP) (Bw:mN "__setattr__"=none) (hps:mP "__setattr__"=none) (BD:mN name=none) (BC:mP name=none)
  (hB:typeLookup (.type B) name=pure none) (hx:h.get? x=some o) (hc:o.cls=.ref C) (Ez:o.dict=none) (BU:∀ c,o.data≠.cls c)
  (hq:∀ h' GP,h'.get? x=some { o with dict:=some h.objs.size }->h'.Ns1 h.objs.size (λ y=>if y=name then some v else none)->
   (∀ b o,b≠x->h.get? b=some o->h'.get? b=some o)->Q () ⟨h',g,d,GP,os⟩):
  wpAny (model prog w) A (setAttr (.ref x) name v) Q E ⟨h,g,d,t,os⟩:=by
 have f3:=SF.slot.bind (.ref x)
 unfold setAttr callSpecial? specialOf
 repeat (any_goals (first | assumption | (with_reducible refine KD hx ?_;rw[hc]) | (with_reducible refine sM hC hn hP SF.mro SF.slot.lookup Bw hps ?_) | wp_step))
 refine codeAny_call_builtin SF.slot.plain SF.entry (XM SF hC hx hc (XB SF hC hn hP BD BC hB hx hc Ez BU λ h' GP h1 h2 h3=>?_))
 repeat (any_goals (first | assumption | wp_step))
 exact hq h' GP h1 h2 h3
end
section
variable {prog:Program}{w:World}{M:Model}{A:Around}{E:Ae}{h:Heap}{g:Array GenState}{d:Drawn}{t:Nat}{os:OsState}
variable {nm q:Str}{C N P x dx:Addr}{bs EZ:Ad}{sn:List Str}{sub:Ad}{ab:Bool}{col:Option Bool}{dd:Option Addr}{k0 k1 k2 k3 k5:Option Value}{B newId:String}
 {mN mP mA:Aq}{name:Str}{v:Value}{o:Obj}
def dQ {F0:Value}{Q:Unit->Shared->Prop}(hb:EZ.contains (.type "BaseException")=true) (hC:h.get? C=some (excClassObj nm q C N bs (.ref P::EZ) true sn sub ab col dd k0 k1 k2 k3 k5 newId))
  (hx:h.get? x=some o) (hc:o.cls=.ref C) (hq:Q () ⟨h,g,d,t,os⟩):wpAny M A (checkBuiltinCall "BaseException.__getattribute__" ⟨[.ref x,F0],[]⟩) Q E ⟨h,g,d,t,os⟩:=by
 have hk:builtinKind "BaseException.__getattribute__"=some .slot:=by decide +kernel
 have HR:splitId "BaseException.__getattribute__"=some ("BaseException","__getattribute__"):=by decide +kernel
 have Hr:(Value.ref C::.ref P::EZ).contains (.type "BaseException")=true:=by rw[Bf,Bf,hb];rfl
 have ha:=F.args_bexc_ga (.ref x) F0
 simp only[checkBuiltinCall,hk,HR]
 refine JI ?_
 unfold isInstance
 repeat (first | (with_reducible refine KD hx ?_;rw[hc]) | (with_reducible refine KR hC ?_;rw[Hr]) | wp_step)
 exact hq
def XE {tk:Tok}{Q:Fin->Shared->Prop}
  (hC:h.get? C=some (excClassObj nm q C N bs (.ref P::EZ) true sn sub ab col dd k0 k1 k2 k3 k5 newId)) (hn:h.Ns N mN) (hP:sy h P mP) (hm:mroOf (.type B)=pure EZ) (BD:mN name=none) (BC:mP name=none)
  (hB:typeLookup (.type B) name=pure none) (hx:h.get? x=some o) (hc:o.cls=.ref C) (BU:∀ c,o.data≠.cls c) (CG:o.dict=some dx) (Bw:h.Ns1 dx mA) (hv:mA name=some v) (hq:Q (.done (.ret v)) ⟨h,g,d,t,os⟩):
  wpAny (model prog w) A (Builtin.«object.__getattribute__» ⟨[.ref x,.str name tk],[]⟩) Q E ⟨h,g,d,t,os⟩:=by
 unfold Builtin.«object.__getattribute__»
 repeat (first | (with_reducible refine KD hx ?_;rw[hc]) | (with_reducible refine sM hC hn hP hm hB BD BC ?_) | wp_step)
 split
 ·rename_i c A4
  exact absurd A4 (BU c)
 unfold instanceDict
 repeat (first | (with_reducible refine KD hx ?_;rw[hc]) | with_reducible refine KD hC ?_ | wp_step)
 rw[CG]
 repeat (first | (with_reducible refine wpAny_nsGet Bw.ns ?_;rw[hv]) | wp_step)
 exact hq
def XG {expr:Bool}{Q:Ae}(FB:ExcAttrBase B EZ)
  (hC:h.get? C=some (excClassObj nm q C N bs (.ref P::EZ) true sn sub ab col dd k0 k1 k2 k3 k5 newId)) (hn:h.Ns N mN) (hP:sy h P mP) (Hg:mN "__getattribute__"=none) (IT:mP "__getattribute__"=none) (IQ:mN "__getattr__"=none) (IP:mP "__getattr__"=none) (BD:mN name=none) (BC:mP name=none)
  (hB:typeLookup (.type B) name=pure none) (hx:h.get? x=some o) (hc:o.cls=.ref C) (BU:∀ c,o.data≠.cls c) (CG:o.dict=some dx) (Bw:h.Ns1 dx mA) (hv:mA name=some v) (hh:handedOut v=pure v) (hq:Q v ⟨h,g,d,t+1,os⟩):
  wpAny (model prog w) A (getAttr (.ref x) name expr) Q E ⟨h,g,d,t,os⟩:=by
 have f3:=FB.ga.bind (.ref x)
 have hx0:(expr&&onTheHeap (Value.builtin "BaseException.__getattribute__"))=false:=by cases expr <;> rfl
 have J7:(Value.builtin "BaseException.__getattribute__" == Value.builtin "object.__getattribute__")=false:=by decide +kernel
 have hx1:(onTheHeap (Value.ref C)&&Value.builtin "BaseException.__getattribute__" == Value.builtin "object.__getattribute__")=false:=by rw[J7];rfl
 unfold getAttr getAttrBy
 repeat (any_goals (first | assumption | (with_reducible refine KD hx ?_;rw[hc]) | with_reducible refine sM hC hn hP FB.mro FB.ga.lookup Hg IT ?_ | with_reducible refine sM hC hn hP FB.mro FB.noGetattr IQ IP ?_ | wp_step))
 refine codeAny_call_builtin FB.ga.plain F.entry_bexc_ga (dQ FB.hasBase hC hx hc (XE hC hn hP FB.mro BD BC hB hx hc BU CG Bw hv ?_))
 repeat (any_goals (first | assumption | (rw[hh];exact Ac hq) | wp_step))
end
section
variable {prog:Program}{w:World}{A:Around}{E:Ae}{h:Heap}{g:Array GenState}{d:Drawn}{t:Nat}{os:OsState}
variable {nm q:Str}{C N P x:Addr}{bs EZ:Ad}{sn:List Str}{sub:Ad}{ab:Bool}{col:Option Bool}{dd:Option Addr}{k0 k1 k2 k3 k5:Option Value}{B newId:String}
 {mN mP:Aq}{o:Obj}
def XH {R:Result->Shared->Prop}(hb:EZ.contains (.type "object")=true) (hC:h.get? C=some (excClassObj nm q C N bs (.ref P::EZ) true sn sub ab col dd k0 k1 k2 k3 k5 newId))
  (hx:h.get? x=some o) (hc:o.cls=.ref C) (hq:R (.ok (.ret (.ref C))) ⟨h,g,d,t,os⟩):
  codeAny (model prog w) A (.call (.builtin "getset_descriptor.__get__") ⟨[.builtin "object.__class__",.ref x,.ref C],[]⟩) R ⟨h,g,d,t,os⟩:=by
 have hT5:(⟨h,g,d,t,os⟩:Shared).TypeIs (.builtin "object.__class__") "getset_descriptor":=F.typeOf_object_class
 have Hr:(Value.ref C::.ref P::EZ).contains (.type (".".intercalate ("object.__class__".cutAt '.').dropLast))=true:=by rw[F.owner_object_class,Bf,Bf,hb];rfl
 refine codeAny_call_builtin F.slot_gs_get.plain F.entry_gs_get (F.slot_gs_get.check _ _ _ _ _ _ _ _ hT5 (F.args_gs_get _ _ _) ?_)
 repeat (any_goals (first | assumption | (with_reducible refine KD hx ?_;rw[hc]) | (with_reducible refine KR hC ?_;rw[Hr]) | wp_step))
 refine⟨Code.quiet_builtin _ (AG),codeAny_builtin F.entry_object_class ?_⟩
 repeat (any_goals (first | assumption | (with_reducible refine KD hx ?_;rw[hc]) | wp_step))
def XI {tk:Tok}{Q:Fin->Shared->Prop}(hb:EZ.contains (.type "object")=true) (hC:h.get? C=some (excClassObj nm q C N bs (.ref P::EZ) true sn sub ab col dd k0 k1 k2 k3 k5 newId)) (hn:h.Ns N mN) (hP:sy h P mP) (hm:mroOf (.type B)=pure EZ)
  (hB:typeLookup (.type B) "__class__"=pure (some (.builtin "object.__class__"))) (BD:mN "__class__"=none) (BC:mP "__class__"=none)
  (hx:h.get? x=some o) (hc:o.cls=.ref C) (hq:Q (.done (.ret (.ref C))) ⟨h,g,d,t,os⟩):
  wpAny (model prog w) A (Builtin.«object.__getattribute__» ⟨[.ref x,.str "__class__" tk],[]⟩) Q E ⟨h,g,d,t,os⟩:=by
 have hT5:(⟨h,g,d,t,os⟩:Shared).TypeIs (.builtin "object.__class__") "getset_descriptor":=F.typeOf_object_class
 have f5:=F.typeOf_object_class
 have f6:=F.slot_gs_get.lookup
 have f7:=F.slot_gs_set.lookup
 repeat (any_goals (first | assumption | (with_reducible refine KD hx ?_;rw[hc]) | (with_reducible refine sM hC hn hP hm hB BD BC ?_) | wp_step))
 refine XH hb hC hx hc ?_
 repeat (any_goals (first | assumption | wp_step))
def XJ {tk:Tok}{Q:Ae}(FB:ExcAttrBase B EZ) (hb:EZ.contains (.type "object")=true) (hC:h.get? C=some (excClassObj nm q C N bs (.ref P::EZ) true sn sub ab col dd k0 k1 k2 k3 k5 newId)) (hn:h.Ns N mN) (hP:sy h P mP)
  (hB:typeLookup (.type B) "__class__"=pure (some (.builtin "object.__class__"))) (Hg:mN "__getattribute__"=none) (IT:mP "__getattribute__"=none) (IQ:mN "__getattr__"=none) (IP:mP "__getattr__"=none) (BD:mN "__class__"=none) (BC:mP "__class__"=none)
  (hx:h.get? x=some o) (hc:o.cls=.ref C) (hq:Q (.ref C) ⟨h,g,d,t,os⟩):wpAny (model prog w) A (getAttrBy (.ref x) (.str "__class__" tk) false) Q E ⟨h,g,d,t,os⟩:=by
 have f3:=FB.ga.bind (.ref x)
 have J7:(Value.builtin "BaseException.__getattribute__" == Value.builtin "object.__getattribute__")=false:=by decide +kernel
 have hx1:(onTheHeap (Value.ref C)&&Value.builtin "BaseException.__getattribute__" == Value.builtin "object.__getattribute__")=false:=by rw[J7];rfl
 repeat (any_goals (first | assumption | (with_reducible refine KD hx ?_;rw[hc]) | with_reducible refine sM hC hn hP FB.mro FB.ga.lookup Hg IT ?_ | with_reducible refine sM hC hn hP FB.mro FB.noGetattr IQ IP ?_ | wp_step))
 refine codeAny_call_builtin FB.ga.plain F.entry_bexc_ga (dQ FB.hasBase hC hx hc (XI hb hC hn hP FB.mro hB BD BC hx hc ?_))
 repeat (any_goals (first | assumption | wp_step))
def dP {Q:Option Value->Shared->Prop}(FB:ExcAttrBase B EZ) (hb:EZ.contains (.type "object")=true) (hC:h.get? C=some (excClassObj nm q C N bs (.ref P::EZ) true sn sub ab col dd k0 k1 k2 k3 k5 newId)) (hn:h.Ns N mN) (hP:sy h P mP)
  (hB:typeLookup (.type B) "__class__"=pure (some (.builtin "object.__class__"))) (Hg:mN "__getattribute__"=none) (IT:mP "__getattribute__"=none) (IQ:mN "__getattr__"=none) (IP:mP "__getattr__"=none) (BD:mN "__class__"=none) (BC:mP "__class__"=none)
  (hx:h.get? x=some o) (hc:o.cls=.ref C) (hq:Q (some (.ref C)) ⟨h,g,d,t+1,os⟩):wpAny (model prog w) A (getAttr? (.ref x) "__class__") Q E ⟨h,g,d,t,os⟩:=by
 unfold getAttr? getAttrBy?
 repeat (any_goals (first | assumption | with_reducible apply XJ FB hb hC hn hP hB Hg IT IQ IP BD BC hx hc | wp_step))
end
section
variable {prog:Program}{w:World}{A:Around}{E:Ae}{h:Heap}{g:Array GenState}{d:Drawn}{t:Nat}{os:OsState}
variable {nm q:Str}{C N P x D:Addr}{bs EZ:Ad}{sn:List Str}{sub:Ad}{ab:Bool}{col:Option Bool}{dd:Option Addr}{k0 k1 k2 k3 k5:Option Value}{B newId:String}
 {mN mP:Aq}{o:Obj}
structure eF (h:Heap) (C P:Addr) (B:String) (EZ:Ad):Prop where
 FB:ExcAttrBase B EZ
 hb:EZ.contains (.type "object")=true
 hB:typeLookup (.type B) "__class__"=pure (some (.builtin "object.__class__"))
 ex:∃ (nm q:Str) (N:Addr) (bs:Ad) (sn:List Str) (sub:Ad) (ab:Bool) (col:Option Bool) (dd:Option Addr) (k0 k1 k2 k3 k5:Option Value) (newId:String) (mN mP:Aq),
  h.get? C=some (excClassObj nm q C N bs (.ref P::EZ) true sn sub ab col dd k0 k1 k2 k3 k5 newId)/\h.Ns N mN/\sy h P mP/\
  ∀ n∈(["__getattribute__","__getattr__","__class__"]:List Str),mN n=none/\mP n=none
def dN {tk:Tok}{dep:Int}{Q:Fin->Shared->Prop}{oD:Obj}{cD:ClassData}(X:eF h C P B EZ) (hx:h.get? x=some o) (hc:o.cls=.ref C) (hD:h.get? D=some oD) (hDc:oD.cls=.type "type") (hDd:oD.data=.cls cD)
  (hq:∀ t',Q (.done (.ret (.bool ((Value.ref C::.ref P::EZ).contains (.ref D))))) ⟨h,g,d,t',os⟩):
  wpAny (model prog w) A (Builtin.«isinstance.nested» ⟨[.ref x,.ref D,.int dep tk],[]⟩) Q E ⟨h,g,d,t,os⟩:=by
 obtain⟨FB,hb,hB,nm,q,N,bs,sn,sub,ab,col,dd,k0,k1,k2,k3,k5,newId,mN,mP,hC,hn,hP,hm⟩:=X
 have m1:=hm "__getattribute__" (.head _)
 have m2:=hm "__getattr__" (.tail _ (.head _))
 have m3:=hm "__class__" (.tail _ (.tail _ (.head _)))
 by_cases he:C=D
 ·subst he
  have Bx:(Value.ref C::.ref P::EZ).contains (.ref C)=true:=by simp
  rw[Bx] at hq
  have Ey:(Value.ref C == Value.ref C)=true:=by simp
  repeat (any_goals (first | assumption | (with_reducible refine KD hx ?_;rw[hc]) | wp_step))
  exact hq _
 ·have Ey:(Value.ref C == Value.ref D)=false:=by simpa using he
  cases Bx:(Value.ref C::.ref P::EZ).contains (.ref D) with
  | true=>
   rw[Bx] at hq
   repeat (any_goals (first | assumption | (with_reducible refine KD hx ?_;rw[hc]) | (with_reducible refine KD hD ?_;rw[hDc]) | (with_reducible refine KD hD ?_;rw[hDd]) | (with_reducible refine KR hC ?_;rw[Bx]) | wp_step))
   exact hq _
  | false=>
   rw[Bx] at hq
   repeat (any_goals (first | assumption | (with_reducible refine KD hx ?_;rw[hc]) | (with_reducible refine KD hD ?_;rw[hDc]) | (with_reducible refine KD hD ?_;rw[hDd]) | (with_reducible refine KR hC ?_;rw[Bx]) | with_reducible apply dP FB hb hC hn hP hB m1.1 m1.2 m2.1 m2.2 m3.1 m3.2 hx hc | with_reducible refine KD hC ?_ | wp_step))
   exact hq _
def dM {tk:Tok}{dep:Int}{Q:Fin->Shared->Prop}{T:String}(X:eF h C P B EZ) (hx:h.get? x=some o) (hc:o.cls=.ref C) (hty:typeOf (.type T)=pure (.type "type"))
  (hq:∀ t',Q (.done (.ret (.bool (EZ.contains (.type T))))) ⟨h,g,d,t',os⟩):
  wpAny (model prog w) A (Builtin.«isinstance.nested» ⟨[.ref x,.type T,.int dep tk],[]⟩) Q E ⟨h,g,d,t,os⟩:=by
 obtain⟨FB,hb,hB,nm,q,N,bs,sn,sub,ab,col,dd,k0,k1,k2,k3,k5,newId,mN,mP,hC,hn,hP,hm⟩:=X
 have m1:=hm "__getattribute__" (.head _)
 have m2:=hm "__getattr__" (.tail _ (.head _))
 have m3:=hm "__class__" (.tail _ (.tail _ (.head _)))
 have Ey:(Value.ref C == Value.type T)=false:=rfl
 have Bx:(Value.ref C::.ref P::EZ).contains (.type T)=EZ.contains (.type T):=by rw[Bf,Bf];rfl
 cases hct:EZ.contains (.type T) with
 | true=>
  rw[hct] at hq Bx
  repeat (any_goals (first | assumption | (with_reducible refine KD hx ?_;rw[hc]) | (with_reducible refine KR hC ?_;rw[Bx]) | wp_step))
  exact hq _
 | false=>
  rw[hct] at hq Bx
  repeat (any_goals (first | assumption | (with_reducible refine KD hx ?_;rw[hc]) | (with_reducible refine KR hC ?_;rw[Bx]) | with_reducible apply dP FB hb hC hn hP hB m1.1 m1.2 m2.1 m2.2 m3.1 m3.2 hx hc | with_reducible refine KD hC ?_ | wp_step))
  exact hq _
def jC {c:Value}{b:Bool}{s:Shared}{Q:Ae}(hn:∀ (prog:Program) (w:World) (A:Around) (Q:Fin->Shared->Prop) (E:Ae),(∀ t',Q (.done (.ret (.bool b))) { s with toks:=t' })->wpAny (model prog w) A (Builtin.«isinstance.nested» ⟨[.ref x,c,rawInt 0],[]⟩) Q E s)
  (hq:∀ t',Q (.bool b) { s with toks:=t' }):wpAny (model prog w) A (call (.builtin "isinstance") [.ref x,c]) Q E s:=
 call_isinstance (S:=λ _ R s'=>s'=s/\∀ t',R (.ok (.ret (.bool b))) { s with toks:=t' }) (λ prog w A R s' hs=>by
  obtain⟨rfl,hs⟩:=hs
  refine isinstance_outer (hn prog w _ _ _ λ t'=>?_) (λ e=>by cases e)
  exact hs t') ⟨rfl,λ t'=>hq t'⟩
end
namespace Heap
def pU (h base:Heap) (e:Addr) (cls a0 fl:Value) (zH:Option Addr) (T:Addr):Prop:=
 ∃ oe vs oT ts,h.get? e=some oe/\((oe.cls=cls/\oe.dict=zH)/\vs[0]?=some a0)/\oe.data=.fields vs/\vs[1]?=some (.ref T)/\base.get? T=none/\T≠e/\h.get? T=some oT/\oT.data=.fields ts/\ts[3]?=some fl
structure jo (base:Heap) (l:List Env) (e:Addr) (cls a0:Value) (zH:Option Addr) (h h':Heap):Prop where
 stays:base.StaysIn h'
 frames:h'.FunFrames base l
 tr:∃ T,h.objs.size<=T/\h'.pU base e cls a0 .none zH T
 slots:h.UpToSlots h'
 r_:∀ b o vs,h.get? b=some o->o.data=.fields vs->∃ o' Gx,h'.get? b=some o'/\o'.data=.fields Gx
end Heap
def Obj.ZV (f:Array Value->Array Value) (o:Obj):(Obj.mapFields f o).dict=o.dict:=by
 obtain⟨c,dc,dt,sl⟩:=o
 cases dt <;> rfl
section
variable {M:Model}{A:Around}{E:Ae}{s:Shared}
def dJ {base:Heap}{env:Env}{outer:List Env}{L e:Addr}{oe:Obj}{vs:Av}{head a0:Value}{Gn:Bool}{Q:Unit->Shared->Prop}
  (AH:A.frames=some (env::outer)) (hl:s.heap.FunFrames base (env::outer)) (hf:env.frame=some L)
  (he:s.heap.get? e=some oe) (BV:base.StaysIn s.heap) (Cd:base.get? e=none) (hd:oe.data=.fields vs) (hsz:1<vs.size) (h0:vs[0]?=some a0)
  (h:∀ h',Heap.jo base (env::outer) e oe.cls a0 oe.dict s.heap h'->Q () { s with heap:=h' }):
  wpAny M A (do let a <- frameOf env;let pl <- entryPlaceOf L Gn;let b <- EntryCells.newEntry head a .none (rawInt L) .none pl;setField (.ref e) 1 b) (λ _ s'=>wpAny M A (setFlight (.ref e) none) Q E s') E s:=by
 have CF:e∉(env::outer).filterMap (·.frame):=λ hm=>by
  obtain⟨_,o,ho,Az⟩:=hl.mem hm
  rw[he] at ho;cases ho;exact Az vs hd
 refine JI (wpAny_frameOf_fun AH hl hf λ h₁ GR=>JI (wpAny_entryPlaceOf λ pl Am=>?_))
 unfold EntryCells.newEntry newFields
 refine JI (KY ?_ (Am.sizeOk5 _ _ _ _ _))
 have Ja:h₁.get? e=some oe:=(GR.2.1 e CF).trans he
 have IJ:base.StaysIn h₁:=λ b o AM=>(GR.2.1 b λ hm=>by rw[(hl.mem hm).1] at AM;cases AM).trans (BV b o AM)
 generalize C_:({ cls:=.type "traceback",dict:=none,data:=.fields ([head,.ref L,.none,rawInt L,.none]++(if pl.isEmpty then List.replicate 6 Value.none else pl)).toArray }:Obj)=tb
 have Iz:tb.data=.fields ([head,.ref L,.none,rawInt L,.none]++(if pl.isEmpty then List.replicate 6 Value.none else pl)).toArray:=by rw[<- C_]
 have JJ:tb.isFreed=false:=by rw[<- C_];rfl
 have I_:(h₁.push tb).get? e=some oe:=KC _ Ja
 refine KS I_ hd hsz ?_
 have GN:h₁.objs.size≠e:=BI (Al Ja)
 have HB:=Obj.data_mapFields hd (·.setIfInBounds 1 (Value.ref h₁.objs.size))
 have Im:=KN (Obj.mapFields (·.setIfInBounds 1 (Value.ref h₁.objs.size))) I_ (Obj.isFreed_of_fields HB)
 have JB:=(KO (h₁.push tb) (Obj.mapFields (·.setIfInBounds 1 (Value.ref h₁.objs.size))) (Ne.symm GN)).trans (AF h₁ JJ)
 unfold setFlight
 refine JI (KH Im HB (x:=.ref h₁.objs.size) (by simp[hsz]) ?_)
 rw[if_pos (show (Value.ref h₁.objs.size != Value.none)=true from by simp)]
 refine KS JB Iz (by simp only[AA,B6,AW,B4] <;> lia) (h _ ?_)
 have keep:∀ b o,b≠e->h₁.get? b=some o->(((h₁.push tb).update e (Obj.mapFields (·.setIfInBounds 1 (Value.ref h₁.objs.size)))).update h₁.objs.size (Obj.mapFields (·.setIfInBounds 3 ((none:Option Addr).elim Value.none λ f=>rawInt f)))).get? b=some o:=λ b o Br hb=>by
  rw[KO _ _ (BI (Al hb)),KO _ _ (Ne.symm Br)]
  exact KC _ hb
 have EN:∀ b o,s.heap.get? b=some o->(∀ vs,o.data≠.fields vs)->b≠e:=λ b o hb Az q=>by
  rw[q,he] at hb;cases hb;exact Az vs hd
 refine⟨λ b o AM=>keep b o (λ q=>by rw[q,Cd] at AM;cases AM) (IJ b o AM),hl.of_keeps λ b o hb Az=>?_,?_,λ b o hb Az=>?_,λ b o us hb Ba=>?_⟩
 ·obtain⟨sl,hs⟩:=GR.2.2 b o hb
  exact⟨_,keep b _ (EN b o hb Az) hs,rfl⟩
 ·refine⟨h₁.objs.size,by rw[GR.1];exact Aj _,_,_,_,_,?_,⟨⟨Obj.cls_mapFields _ _,Obj.ZV _ _⟩,by rw[zc6 (by decide)];exact h0⟩,HB,by simp[hsz],IJ.fresh,GN,KN _ JB (Obj.isFreed_of_fields (Obj.data_mapFields Iz _)),Obj.data_mapFields Iz _,by first | (simp;done) | (rcases Am with rfl | ⟨_,_,_,_,_,_,_,rfl⟩ <;> simp)⟩
  rw[KO _ _ GN];exact Im
 ·obtain⟨sl,hs⟩:=GR.2.2 b o hb
  exact⟨sl,keep b _ (EN b o hb Az) hs⟩
 ·by_cases q:b=e
  ·subst q
   exact⟨_,_,(by rw[KO _ _ GN];exact Im),HB⟩
  ·have Ke:h₁.get? b=some o:=(GR.2.1 b λ hm=>by
    obtain⟨_,o',FE,Az⟩:=hl.mem hm
    rw[hb] at FE;cases FE;exact Az us Ba).trans hb
   exact⟨o,us,keep b o q Ke,Ba⟩
def X8 {base:Heap}{env:Env}{outer:List Env}{L e:Addr}{oe:Obj}{vs:Av}{a0:Value}{Q:Unit->Shared->Prop}
  (AH:A.frames=some (env::outer)) (hl:s.heap.FunFrames base (env::outer)) (hf:env.frame=some L)
  (he:s.heap.get? e=some oe) (BV:base.StaysIn s.heap) (Cd:base.get? e=none) (hd:oe.data=.fields vs) (h1:vs[1]?=some .none) (h0:vs[0]?=some a0)
  (h:∀ h',Heap.jo base (env::outer) e oe.cls a0 oe.dict s.heap h'->Q () { s with heap:=h' }):wpAny M A (leaving env (.ref e)) Q E s:=by
 unfold leaving noteFrame
 simp only[hf]
 refine JI (JI (KH he hd h1 ?_))
 rw[if_neg (by decide)]
 exact dJ AH hl hf he BV Cd hd (Array.getElem?_eq_some_iff.mp h1).1 h0 h
def X5 {base:Heap}{env:Env}{outer:List Env}{L e:Addr}{cls a0:Value}{zH:Option Addr}{T:Addr}{Q:Unit->Shared->Prop}
  (AH:A.frames=some (env::outer)) (hl:s.heap.FunFrames base (env::outer)) (hf:env.frame=some L) (ht:s.heap.pU base e cls a0 .none zH T) (BV:base.StaysIn s.heap) (Cd:base.get? e=none)
  (h:∀ h',Heap.jo base (env::outer) e cls a0 zH s.heap h'->Q () { s with heap:=h' }):wpAny M A (leaving env (.ref e)) Q E s:=by
 obtain⟨oe,vs,oT,ts,he,⟨⟨rfl,rfl⟩,h0⟩,hd,h1,Ik,GN,hT,Gs,h3⟩:=ht
 unfold leaving noteFrame
 simp only[hf]
 refine JI (JI (KH he hd h1 ?_))
 rw[if_pos (show (Value.ref T != Value.none)=true from by simp)]
 refine JI (KH hT Gs h3 ?_)
 rw[if_neg (show ¬ ((Value.none == rawInt L)=true) from by simp[rawInt])]
 refine JI (KS hT Gs (Array.getElem?_eq_some_iff.mp h3).1 ?_)
 have other:∀ b,b≠T->(s.heap.update T (Obj.mapFields (·.setIfInBounds 3 Value.none))).get? b=s.heap.get? b:=λ b hb=>KO _ _ (Ne.symm hb)
 have EN:∀ b o,s.heap.get? b=some o->(∀ vs,o.data≠.fields vs)->b≠T:=λ b o hb Az q=>by
  rw[q,hT] at hb;cases hb;exact Az ts Gs
 refine dJ AH (hl.of_keeps λ b o hb Az=>⟨o,(other b (EN b o hb Az)).trans hb,rfl⟩) hf ((other e (Ne.symm GN)).trans he)
  (λ b o AM=>(other b λ q=>by rw[q,Ik] at AM;cases AM).trans (BV b o AM)) Cd hd (Array.getElem?_eq_some_iff.mp h1).1 h0
  λ h' x=>h h' ⟨x.stays,x.frames,(by
   obtain⟨T',n,r⟩:=x.tr
   exact⟨T',by rw[Heap.size_after_update] at n;exact n,r⟩),λ b o hb Az=>x.slots b o ((other b (EN b o hb Az)).trans hb) Az,λ b o us hb Ba=>(by
   by_cases q:b=T
   ·subst q
    exact x.r_ _ _ _ (KN _ hT (Obj.isFreed_of_fields (Obj.data_mapFields Gs _))) (Obj.data_mapFields Gs _)
   ·exact x.r_ b o us ((other b q).trans hb) Ba)⟩
end
structure Heap.YJ (base:Heap) (l:List Env) (e:Addr) (cls a0 fl:Value) (zH:Option Addr) (h h':Heap):Prop where
 stays:base.StaysIn h'
 frames:h'.FunFrames base l
 tr:∃ T,h.objs.size<=T/\h'.pU base e cls a0 fl zH T
 slots:h.UpToSlots h'
 r_:∀ b o vs,h.get? b=some o->o.data=.fields vs->∃ o' Gx,h'.get? b=some o'/\o'.data=.fields Gx
section
variable {M:Model}{A:Around}{E:Ae}{s:Shared}
def X9 {base:Heap}{env:Env}{outer:List Env}{L e:Addr}{oe:Obj}{vs:Av}{head a0:Value}{Gn:Bool}{Q:Unit->Shared->Prop}
  (AH:A.frames=some (env::outer)) (hl:s.heap.FunFrames base (env::outer)) (hf:env.frame=some L)
  (he:s.heap.get? e=some oe) (BV:base.StaysIn s.heap) (Cd:base.get? e=none) (hd:oe.data=.fields vs) (hsz:1<vs.size) (h0:vs[0]?=some a0)
  (h:∀ h',Heap.YJ base (env::outer) e oe.cls a0 (rawInt L) oe.dict s.heap h'->Q () { s with heap:=h' }):
  wpAny M A (do let a <- frameOf env;let pl <- entryPlaceOf L Gn;let b <- EntryCells.newEntry head a .none (rawInt L) .none pl;setField (.ref e) 1 b) Q E s:=by
 have CF:e∉(env::outer).filterMap (·.frame):=λ hm=>by
  obtain⟨_,o,ho,Az⟩:=hl.mem hm
  rw[he] at ho;cases ho;exact Az vs hd
 refine JI (wpAny_frameOf_fun AH hl hf λ h₁ GR=>JI (wpAny_entryPlaceOf λ pl Am=>?_))
 unfold EntryCells.newEntry newFields
 refine JI (KY ?_ (Am.sizeOk5 _ _ _ _ _))
 have Ja:h₁.get? e=some oe:=(GR.2.1 e CF).trans he
 have IJ:base.StaysIn h₁:=λ b o AM=>(GR.2.1 b λ hm=>by rw[(hl.mem hm).1] at AM;cases AM).trans (BV b o AM)
 generalize C_:({ cls:=.type "traceback",dict:=none,data:=.fields ([head,.ref L,.none,rawInt L,.none]++(if pl.isEmpty then List.replicate 6 Value.none else pl)).toArray }:Obj)=tb
 have Iz:tb.data=.fields ([head,.ref L,.none,rawInt L,.none]++(if pl.isEmpty then List.replicate 6 Value.none else pl)).toArray:=by rw[<- C_]
 have JJ:tb.isFreed=false:=by rw[<- C_];rfl
 have I_:(h₁.push tb).get? e=some oe:=KC _ Ja
 refine KS I_ hd hsz (h _ ?_)
 have GN:h₁.objs.size≠e:=BI (Al Ja)
 have HB:=Obj.data_mapFields hd (·.setIfInBounds 1 (Value.ref h₁.objs.size))
 have Im:=KN (Obj.mapFields (·.setIfInBounds 1 (Value.ref h₁.objs.size))) I_ (Obj.isFreed_of_fields HB)
 have JB:=(KO (h₁.push tb) (Obj.mapFields (·.setIfInBounds 1 (Value.ref h₁.objs.size))) (Ne.symm GN)).trans (AF h₁ JJ)
 have keep:∀ b o,b≠e->h₁.get? b=some o->((h₁.push tb).update e (Obj.mapFields (·.setIfInBounds 1 (Value.ref h₁.objs.size)))).get? b=some o:=λ b o Br hb=>by
  rw[KO _ _ (Ne.symm Br)]
  exact KC _ hb
 have EN:∀ b o,s.heap.get? b=some o->(∀ vs,o.data≠.fields vs)->b≠e:=λ b o hb Az q=>by
  rw[q,he] at hb;cases hb;exact Az vs hd
 refine⟨λ b o AM=>keep b o (λ q=>by rw[q,Cd] at AM;cases AM) (IJ b o AM),hl.of_keeps λ b o hb Az=>?_,?_,λ b o hb Az=>?_,λ b o us hb Ba=>?_⟩
 ·obtain⟨sl,hs⟩:=GR.2.2 b o hb
  exact⟨_,keep b _ (EN b o hb Az) hs,rfl⟩
 ·exact⟨h₁.objs.size,by rw[GR.1];exact Aj _,_,_,_,_,Im,⟨⟨Obj.cls_mapFields _ _,Obj.ZV _ _⟩,by rw[zc6 (by decide)];exact h0⟩,HB,by simp[hsz],IJ.fresh,GN,JB,Iz,by simp⟩
 ·obtain⟨sl,hs⟩:=GR.2.2 b o hb
  exact⟨sl,keep b _ (EN b o hb Az) hs⟩
 ·by_cases q:b=e
  ·subst q
   exact⟨_,_,Im,HB⟩
  ·have Ke:h₁.get? b=some o:=(GR.2.1 b λ hm=>by
    obtain⟨_,o',FE,Az⟩:=hl.mem hm
    rw[hb] at FE;cases FE;exact Az us Ba).trans hb
   exact⟨o,us,keep b o q Ke,Ba⟩
def X4 {base:Heap}{env:Env}{outer:List Env}{L e:Addr}{cls a0:Value}{zH:Option Addr}{T:Addr}{Q:Unit->Shared->Prop}
  (AH:A.frames=some (env::outer)) (hl:s.heap.FunFrames base (env::outer)) (hf:env.frame=some L) (ht:s.heap.pU base e cls a0 .none zH T) (BV:base.StaysIn s.heap) (Cd:base.get? e=none)
  (h:∀ h',Heap.YJ base (env::outer) e cls a0 (rawInt L) zH s.heap h'->Q () { s with heap:=h' }):wpAny M A (noteFrame (.ref e) env) Q E s:=by
 obtain⟨oe,vs,oT,ts,he,⟨⟨rfl,rfl⟩,h0⟩,hd,h1,Ik,GN,hT,Gs,h3⟩:=ht
 unfold noteFrame
 simp only[hf]
 refine JI (KH he hd h1 ?_)
 rw[if_pos (show (Value.ref T != Value.none)=true from by simp)]
 refine JI (KH hT Gs h3 ?_)
 rw[if_neg (show ¬ ((Value.none == rawInt L)=true) from by simp[rawInt])]
 refine JI (KS hT Gs (Array.getElem?_eq_some_iff.mp h3).1 ?_)
 have other:∀ b,b≠T->(s.heap.update T (Obj.mapFields (·.setIfInBounds 3 Value.none))).get? b=s.heap.get? b:=λ b hb=>KO _ _ (Ne.symm hb)
 have EN:∀ b o,s.heap.get? b=some o->(∀ vs,o.data≠.fields vs)->b≠T:=λ b o hb Az q=>by
  rw[q,hT] at hb;cases hb;exact Az ts Gs
 refine X9 AH (hl.of_keeps λ b o hb Az=>⟨o,(other b (EN b o hb Az)).trans hb,rfl⟩) hf ((other e (Ne.symm GN)).trans he)
  (λ b o AM=>(other b λ q=>by rw[q,Ik] at AM;cases AM).trans (BV b o AM)) Cd hd (Array.getElem?_eq_some_iff.mp h1).1 h0
  λ h' x=>h h' ⟨x.stays,x.frames,(by
   obtain⟨T',n,r⟩:=x.tr
   exact⟨T',by rw[Heap.size_after_update] at n;exact n,r⟩),λ b o hb Az=>x.slots b o ((other b (EN b o hb Az)).trans hb) Az,λ b o us hb Ba=>(by
   by_cases q:b=T
   ·subst q
    exact x.r_ _ _ _ (KN _ hT (Obj.isFreed_of_fields (Obj.data_mapFields Gs _))) (Obj.data_mapFields Gs _)
   ·exact x.r_ b o us ((other b q).trans hb) Ba)⟩
def dI {base:Heap}{l:List Env}{e:Addr}{cls a0 fl:Value}{zH:Option Addr}{T:Addr}{Q:Unit->Shared->Prop}
  (BV:base.StaysIn s.heap) (hl:s.heap.FunFrames base l) (ht:s.heap.pU base e cls a0 fl zH T)
  (h:∀ h',base.StaysIn h'->h'.FunFrames base l->h'.pU base e cls a0 .none zH T->s.heap.UpToSlots h'->(∀ b o vs,s.heap.get? b=some o->o.data=.fields vs->∃ o' Gx,h'.get? b=some o'/\o'.data=.fields Gx)->Q () { s with heap:=h' }):wpAny M A (setFlight (.ref e) none) Q E s:=by
 obtain⟨oe,vs,oT,ts,he,A8,hd,h1,Ik,GN,hT,Gs,h3⟩:=ht
 have IM:3<ts.size:=(Array.getElem?_eq_some_iff.mp h3).1
 have other:∀ b,b≠T->(s.heap.update T (Obj.mapFields (·.setIfInBounds 3 ((none:Option Addr).elim Value.none λ f=>rawInt f)))).get? b=s.heap.get? b:=
  λ b hb=>KO _ _ (Ne.symm hb)
 have EN:∀ b o,s.heap.get? b=some o->(∀ vs,o.data≠.fields vs)->b≠T:=λ b o hb Az q=>by
  rw[q,hT] at hb;cases hb;exact Az ts Gs
 unfold setFlight
 refine JI (KH he hd h1 ?_)
 rw[if_pos (show (Value.ref T != Value.none)=true from by simp)]
 refine KS hT Gs IM (h _ (λ b o AM=>(other b λ q=>by rw[q,Ik] at AM;cases AM).trans (BV b o AM))
  (hl.of_keeps λ b o hb Az=>⟨o,(other b (EN b o hb Az)).trans hb,rfl⟩) ?_ (λ b o hb Az=>⟨o.slots,(other b (EN b o hb Az)).trans hb⟩) λ b o us hb Ba=>?_)
 ·exact⟨oe,vs,_,_,(other e (Ne.symm GN)).trans he,A8,hd,h1,Ik,GN,KN _ hT (Obj.isFreed_of_fields (Obj.data_mapFields Gs _)),Obj.data_mapFields Gs _,by simp[IM]⟩
 ·by_cases q:b=T
  ·subst q;exact⟨_,_,KN _ hT (Obj.isFreed_of_fields (Obj.data_mapFields Gs _)),Obj.data_mapFields Gs _⟩
  ·exact⟨o,us,(other b q).trans hb,Ba⟩
end
end PySem
namespace PySem
open Calls Spec
section
variable {prog:Program}{w:World}{M:Model}{A:Around}{E:Ae}{env:Env}
variable {nm q:Str}{C N:Addr}{bs bm:Ad}{hdct:Bool}{sn:List Str}{sub:Ad}{ab:Bool}{col:Option Bool}{dd:Option Addr}{k0 k1 k2 k3 k5:Option Value}{newId:String}
variable {nm' q':Str}{P N':Addr}{Ic Hs:Ad}{HC:Bool}{HM:List Str}{Gz:Ad}{Ie:Bool}{GF:Option Bool}{G0:Option Addr}{l0 l1 l2 l3 l5:Option Value}{G5:String}
def X6 {h:Heap}{g:Array GenState}{d:Drawn}{t:Nat}{os:OsState}{e:Addr}{oe:Obj}{Q:Bool->Shared->Prop}
  (hC:h.get? C=some (excClassObj nm q C N bs bm hdct sn sub ab col dd k0 k1 k2 k3 k5 newId)) (hP:h.get? P=some (excClassObj nm' q' P N' Ic Hs HC HM Gz Ie GF G0 l0 l1 l2 l3 l5 G5))
  (he:h.get? e=some oe) (A8:oe.cls=.ref C) (FF:Hs.contains (.type "BaseException")=true) (hm:bm.contains (.ref P)=true)
  (hq:Q true ⟨h,g,d,t,os⟩):wpAny M A (excMatches (.ref e) (.ref P)) Q E ⟨h,g,d,t,os⟩:=by
 have Hr:(Value.ref P::Hs).contains (.type "BaseException")=true:=by rw[Bf,FF,CI]
 have hcP:(Value.ref C::bm).contains (.ref P)=true:=by rw[Bf,hm,CI]
 have f:=tc_notTuple
 unfold excMatches
 repeat (first | (with_reducible refine KD he ?_;rw[A8]) | with_reducible refine KD hP ?_ | (with_reducible refine KR hP ?_;rw[Hr]) | (with_reducible refine KR hC ?_;rw[hcP]) | wp_step)
 exact hq
def X7 {s:Shared}{e:Addr}{t:Expr}{n:Str}{b₀:Stmt}{Hu:List Stmt}{pos:Pos}{EI:List ExceptHandler}{Q:Flow->Shared->Prop}
  (FF:Hs.contains (.type "BaseException")=true) (hm:bm.contains (.ref P)=true)
  (h:wpAny (model prog w) (A.mark (some (.ref e))) (eval t env) (λ c s₁=>c=.ref P/\s₁.heap.get? C=some (excClassObj nm q C N bs bm hdct sn sub ab col dd k0 k1 k2 k3 k5 newId)/\s₁.heap.get? P=some (excClassObj nm' q' P N' Ic Hs HC HM Gz Ie GF G0 l0 l1 l2 l3 l5 G5)/\(∃ oe,s₁.heap.get? e=some oe/\oe.cls=.ref C)/\
   wpAny (model prog w) (A.mark (some (.ref e))) (setFlight (.ref e) none) (λ _ s₂=>
     wpAny (model prog w) (A.mark (some (.ref e))) (storeName env n (.ref e)) (λ _ s₃=>
      wpAny (model prog w) (A.mark (some (.ref e))) (execs (b₀::Hu) env)
       (λ f s₄=>wpAny (model prog w) A (do bindName env n .none;unbindBehindTheSuite env n pos) (λ _ s₅=>Q f s₅) E s₄)
       (AsSuiteRaised (model prog w) (A.mark (some (.ref e))) env n pos (notedBy (model prog w) (A.mark (some (.ref e))) env (cameBackBy (model prog w) A env E))) s₃) (notedBy (model prog w) (A.mark (some (.ref e))) env (cameBackBy (model prog w) A env E)) s₂) (notedBy (model prog w) (A.mark (some (.ref e))) env (cameBackBy (model prog w) A env E)) s₁) (notedBy (model prog w) (A.mark (some (.ref e))) env (cameBackBy (model prog w) A env E)) s):
  wpAny (model prog w) A (handleBy (.ref e) env (.ExceptHandler (some t) (some n) (b₀::Hu) pos::EI)) Q E s:=by
 refine wpAny_handleBy_cons (codeAny_handlers_test (KG h (λ c s₁ h₁=>?_) λ _ _ y=>y)) (by intro q;cases q)
 obtain⟨rfl,hC,hP,⟨oe,he,A8⟩,hk⟩:=h₁
 obtain⟨hh,g,d,tk,os⟩:=s₁
 exact X6 hC hP he A8 FF hm (codeAny_handlers_suite_as hk)
end
end PySem
namespace L3
open PySem PySem.Spec L2
open PyProof.Rows hiding St
noncomputable def we (T:Addr):HO:=.ext λ h=>∃ oT ts,h.get? T=some oT/\oT.data=.fields ts
def YS (h:Heap) (e:Addr):Prop:=∃ oe vs a0,h.get? e=some oe/\oe.data=.fields vs/\vs[1]?=some .none/\vs[0]?=some a0
def qC (h:Heap) (H:Hp) (e:Addr):Prop:=∃ oe vs a0 T oT ts,h.get? e=some oe/\oe.data=.fields vs/\vs[0]?=some a0/\vs[1]?=some (.ref T)/\T≠e/\H T=some (we T)/\h.get? T=some oT/\oT.data=.fields ts/\ts[3]?=some .none
def mK (H:Hp) (e:Addr):Prop:=∃ C dx,H e=some (wD e C dx)
section
variable {P:Program}{w:World}{H:Hp}{h h':Heap}
def fC {fs as:List Addr}(zp:yf P w H h) (hf:∀ b∈fs,H b=none/\∀ o,h.get? b=some o->∀ vs,o.data≠.fields vs) (st:(PySem.W.hideAll h as).StaysIn h') (us:h.UpToSlots h')
  (has:∀ a∈as,a∈fs\/∃ φ:Heap->Prop,H a=some (.ext φ)/\φ h'/\∃ o,h'.get? a=some o):Un fs [] H H h h'/\yf P w H h':=by
 have Gi:∀ b o,b∉as->h.get? b=some o->h'.get? b=some o:=λ b o hb e=>st b o (PySem.W.hideAll_get _ e hb)
 refine⟨⟨λ b o e n hb _=>Gi b o (λ hm=>?_) e,λ b o e n hb _=>us b o e ((hf b hb).2 o e),λ _ _ _ n _=>n,λ b o e _=>?_,λ _ _ q=>q,λ _ _ _ q=>q,λ _ ps q=>⟨#[],by rw[q];simp⟩⟩,λ a o e=>?_⟩
 ·rcases has b hm with z | ⟨φ,z,_⟩
  ·exact hb z
  ·rw[n] at z;cases z
 ·by_cases hm:b∈as
  ·rcases has b hm with z | ⟨φ,_,_,z⟩
   ·obtain⟨sl,q⟩:=us b o e ((hf b z).2 o e)
    exact⟨_,q⟩
   ·exact z
  ·exact⟨o,Gi b o hm e⟩
 ·by_cases hm:a∈as
  ·rcases has a hm with z | ⟨φ,z,z1,z2⟩
   ·rw[(hf a z).1] at e;cases e
   ·rw[e] at z;cases z
    exact⟨z1,z2,(zp a _ e).2.2⟩
  ·refine (zp a o e).vj (λ b u hb q=>?_) (λ _ q=>q) λ _ _ q=>q
   rcases hb with rfl | hb
   ·exact Gi _ u hm q
   ·refine Gi _ u (λ Il=>?_) q
    rcases has b Il with z | ⟨φ,z,_⟩
    ·rw[(hf b z).1] at hb;cases hb
    ·rw[hb] at z;cases z
def Z9 {fs:List Addr}{T:Addr}{oT:Obj}{ts:Av}(u:Un fs [] H H h h') (zp:yf P w H h') (hk:yf P w H h) (hp:h.objs.size<=T) (e:h'.get? T=some oT) (hd:oT.data=.fields ts):
  H T=none/\Un fs [] H (upd H T (we T)) h h'/\yf P w (upd H T (we T)) h':=by
 have hn:=hk.fresh hp
 refine⟨hn,⟨u.keep,u.slot,λ b o q n x=>by rw[zF (Ar (A2 (Al q) hp))];exact n,u.there,λ b xs q=>by rw[zF (xC q hn)];exact q,λ b o xs q=>by rw[zF (xC q hn)];exact q,λ b ps q=>⟨#[],by rw[zF (xC q hn),q];simp⟩⟩,λ b o q=>?_⟩
 by_cases hb:b=T
 ·subst hb
  rw[ye] at q;cases q
  exact⟨⟨oT,ts,e,hd⟩,⟨oT,e⟩,λ h1 h2 ⟨o,ts,a,b⟩ k=>⟨o,ts,k _ a,b⟩⟩
 ·rw[zF hb] at q
  exact (zp b o q).vj (λ _ _ _ z=>z) (λ c z=>by rw[zF (xC z hn)];exact z) λ c xs z=>by rw[zF (xC z hn)];exact z
end
section
variable {X:Cx}{EC:Ag}{Y:St}{H:Hp}{s:Shared}{e:Addr}
def f9 (I:Inv X EC Y H s):∀ b∈yS X.stack,H b=none/\∀ o,s.heap.get? b=some o->∀ vs,o.data≠.fields vs:=λ b hb=>
 ⟨I.jO b hb,λ o ho=>by
  obtain⟨_,o',FE,hd⟩:=I.stack.mem hb
  rw[ho] at FE;cases FE;exact hd⟩
def ZI {H:Hp}{h:Heap}{P:Program}{w:World}{C dx:Addr}{oe:Obj}(zp:yf P w H h) (he:H e=some (wD e C dx)) (q:h.get? e=some oe):oe.cls=.ref C/\oe.dict=some dx:=by
 obtain⟨⟨o',_,a,b,c,_⟩,_⟩:=zp e _ he
 rw[q] at a;cases a;exact⟨b,c⟩
def Q2 {M:Model}{E:Ae}(I:Inv X EC Y H s) (AJ:X.stack=X.env::X.outer) (AH:X.env.frame=some X.env.locals) (he:mK H e) (hf:YS s.heap e\/qC s.heap H e) {Q:Unit->Shared->Prop}
  (hq:∀ h' T,H T=none->Un (yS X.stack) [] H (upd H T (we T)) s.heap h'->yf X.prog X.w (upd H T (we T)) h'->qC h' (upd H T (we T)) e->Q () { s with heap:=h' }):wpAny M X.A (leaving X.env (.ref e)) Q E s:=by
 obtain⟨C,dx,hE⟩:=he
 have hF:=I.ok.frames
 rw[AJ] at hF
 have hS:=I.stack
 rw[AJ] at hS
 have fin:∀ (as:List Addr) (oe:Obj) (a0:Value),s.heap.get? e=some oe->(∀ a∈as,a=e\/a∈yS X.stack\/H a=some (we a))->
   ∀ h':Heap,Heap.jo (PySem.W.hideAll s.heap as) (X.env::X.outer) e oe.cls a0 oe.dict s.heap h'->Q () { s with heap:=h' }:=λ as oe a0 g0 has h' x=>by
  obtain⟨T,hp,HP,Gx,oT,ts,a1,⟨⟨a2,a3⟩,a4⟩,a5,a6,a7,a8,a9,Jm,Kz⟩:=x.tr
  obtain⟨z1,z2⟩:=ZI I.zp hE g0
  obtain⟨u,zp⟩:=fC (as:=as) I.zp (f9 I) x.stays x.slots λ a ha=>by
   rcases has a ha with z | z | z
   ·rw[z];exact .inr ⟨_,hE,⟨HP,Gx,a1,a2.trans z1,a3.trans z2,a5⟩,HP,a1⟩
   ·exact .inl z
   ·obtain⟨⟨oT,ts,q1,q2⟩,_⟩:=I.zp a _ z
    obtain⟨o',JH,q3,q4⟩:=x.r_ _ _ _ q1 q2
    exact .inr ⟨_,z,⟨o',JH,q3,q4⟩,o',q3⟩
  obtain⟨n,u',Bn⟩:=Z9 u zp I.zp hp a9 Jm
  exact hq h' T n u' Bn ⟨HP,Gx,a0,T,oT,ts,a1,a5,a4,a6,a8,ye,a9,Jm,Kz⟩
 have BF:∀ (r:List Addr),∀ env∈X.env::X.outer,∀ a,env.frame=some a->a∈r++yS X.stack:=λ r env hm a ha=>AY _ (CP.mpr ⟨env,by rw[AJ];exact hm,ha⟩)
 rcases hf with ⟨oe,vs,a0,g0,g1,g2,g3⟩ | ⟨oe,vs,a0,T,oT,ts,g0,g1,g3,g2,g4,g5,g6,g7,g8⟩
 ·refine X8 (base:=PySem.W.hideAll s.heap ([e]++yS X.stack)) hF (PySem.W.funFrames_hide hS (BF _)) AH g0 (λ b o q=>PySem.W.of_hideAll _ q) (PySem.W.hideAll_none _ (by simp)) g1 g2 g3 (fin _ oe a0 g0 λ a ha=>?_)
  rcases A0.mp ha with q | q
  ·exact .inl (AX.mp q)
  ·exact .inr (.inl q)
 ·refine X5 (base:=PySem.W.hideAll s.heap ([e,T]++yS X.stack)) hF (PySem.W.funFrames_hide hS (BF _)) AH ⟨oe,vs,oT,ts,g0,⟨⟨rfl,rfl⟩,g3⟩,g1,g2,PySem.W.hideAll_none _ (by simp),g4,g6,g7,g8⟩ (λ b o q=>PySem.W.of_hideAll _ q) (PySem.W.hideAll_none _ (by simp)) (fin _ oe a0 g0 λ a ha=>?_)
  rcases A0.mp ha with q | q
  ·rcases Ai.mp q with q | q
   ·exact .inl q
   ·exact .inr (.inr (by rw[AX.mp q];exact g5))
  ·exact .inr (.inl q)
end
section
variable {X:Cx}{EC:Ag}{Y:St}{H:Hp}{s:Shared}{e:Addr}{M:Model}{A:Around}{E:Ae}
def RT (I:Inv X EC Y H s) (AJ:X.stack=X.env::X.outer) (AH:X.env.frame=some X.env.locals) (he:mK H e) (hf:qC s.heap H e) {Q:Unit->Shared->Prop}
  (hq:∀ h' T,H T=none->Un (yS X.stack) [] H (upd H T (we T)) s.heap h'->yf X.prog X.w (upd H T (we T)) h'->qC h' (upd H T (we T)) e->Q () { s with heap:=h' }):
  wpAny M X.A (noteFrame (.ref e) X.env) (λ _ s₂=>wpAny M X.A (setFlight (.ref e) none) Q E s₂) E s:=by
 obtain⟨C,dx,hE⟩:=he
 have hF:=I.ok.frames
 rw[AJ] at hF
 have hS:=I.stack
 rw[AJ] at hS
 obtain⟨oe,vs,a0,T,oT,ts,g0,g1,g3,g2,g4,g5,g6,g7,g8⟩:=hf
 have BF:∀ env∈X.env::X.outer,∀ a,env.frame=some a->a∈[e,T]++yS X.stack:=λ env hm a ha=>AY _ (CP.mpr ⟨env,by rw[AJ];exact hm,ha⟩)
 refine X4 (base:=PySem.W.hideAll s.heap ([e,T]++yS X.stack)) hF (PySem.W.funFrames_hide hS BF) AH ⟨oe,vs,oT,ts,g0,⟨⟨rfl,rfl⟩,g3⟩,g1,g2,PySem.W.hideAll_none _ (by simp),g4,g6,g7,g8⟩ (λ b o q=>PySem.W.of_hideAll _ q) (PySem.W.hideAll_none _ (by simp)) λ h1 x=>?_
 obtain⟨T',hp,tr⟩:=x.tr
 refine dI (s:={ s with heap:=h1 }) x.stays x.frames tr λ h2 y1 y2 y3 y4 y5=>?_
 obtain⟨HP,Gx,oT',JH,a1,⟨⟨a2,a3⟩,a4⟩,a5,a6,a7,a8,a9,Jm,Kz⟩:=y3
 obtain⟨z1,z2⟩:=ZI I.zp hE g0
 obtain⟨u,zp⟩:=fC (as:=[e,T]++yS X.stack) I.zp (f9 I) y1 (x.slots.trans y4) λ a ha=>by
  rcases A0.mp ha with q | q
  ·rcases Ai.mp q with q | q
   ·rw[q];exact .inr ⟨_,hE,⟨HP,Gx,a1,a2.trans z1,a3.trans z2,a5⟩,HP,a1⟩
   ·rw[AX.mp q]
    obtain⟨o1,t1,b1,b2⟩:=x.r_ _ _ _ g6 g7
    obtain⟨o2,t2,b3,b4⟩:=y5 _ _ _ b1 b2
    exact .inr ⟨_,g5,⟨o2,t2,b3,b4⟩,o2,b3⟩
  ·exact .inl q
 obtain⟨n,u',Bn⟩:=Z9 u zp I.zp hp a9 Jm
 exact hq h2 T' n u' Bn ⟨HP,Gx,a0,T',oT',JH,a1,a5,a4,a6,a8,ye,a9,Jm,Kz⟩
def QD (I:Inv X EC Y H s) (he:mK H e) (hf:qC s.heap H e) {Q:Unit->Shared->Prop}
  (hq:∀ h',Un (yS X.stack) [] H H s.heap h'->yf X.prog X.w H h'->Q () { s with heap:=h' }):wpAny M A (setFlight (.ref e) none) Q E s:=by
 obtain⟨C,dx,hE⟩:=he
 obtain⟨oe,vs,a0,T,oT,ts,g0,g1,g3,g2,g4,g5,g6,g7,g8⟩:=hf
 have BF:∀ env∈X.stack,∀ a,env.frame=some a->a∈[T]++yS X.stack:=λ env hm a ha=>AY _ (CP.mpr ⟨env,hm,ha⟩)
 refine dI (base:=PySem.W.hideAll s.heap ([T]++yS X.stack)) (λ b o q=>PySem.W.of_hideAll _ q) (PySem.W.funFrames_hide I.stack BF) ⟨oe,vs,oT,ts,g0,⟨⟨rfl,rfl⟩,g3⟩,g1,g2,PySem.W.hideAll_none _ (by simp),g4,g6,g7,g8⟩ λ h2 y1 y2 y3 y4 y5=>?_
 obtain⟨u,zp⟩:=fC (as:=[T]++yS X.stack) I.zp (f9 I) y1 y4 λ a ha=>by
  rcases A0.mp ha with q | q
  ·rw[AX.mp q]
   obtain⟨o2,t2,b3,b4⟩:=y5 _ _ _ g6 g7
   exact .inr ⟨_,g5,⟨o2,t2,b3,b4⟩,o2,b3⟩
  ·exact .inl q
 exact hq h2 u zp
def PR {i:Nat}{x:Str}{pos:Pos}{Q:Unit->Shared->Prop}(I:Inv X EC Y H s) (hN:X.N.Nodup) (hi:X.N[i]?=some x) (hk:X.env.kindOf x=some .local)
  (h:∀ s',Inv X EC (Y.set i none) H s'->Q () s'):wpAny M A (do bindName X.env x .none;unbindBehindTheSuite X.env x pos) Q E s:=by
 obtain⟨m,hn,hl⟩:=id I.loc
 have A8:(X.env.scope.kind == .class||(X.env.scope.kind == .module&&X.env.locals != X.env.globals))=false:=by rw[I.ok.kind];rfl
 have uO:=I.uO
 obtain⟨oL,_,_,Hn,_⟩:=id hn
 refine wpAny_nameGoes_keeps hk hn A8 λ h' v Gk hs=>?_
 refine h _ ⟨I.ok,I.os,I.bare,⟨λ b o e n hb hx=>?_,λ b o e n hb hx=>?_,I.base.free,λ b o e hx=>?_,I.base.vi,I.base.vG,I.base.uf⟩,⟨_,Gk,λ j y v' e1 e2 e3=>?_⟩,λ y c e=>?_,I.free,I.vc,λ p hp=>?_,λ b ob e=>?_,by simpa using I.len⟩
 ·exact (hs.2 b (Ar (A2 (Al e) I.ok.above))).trans (I.base.keep b o e n hb hx)
 ·obtain⟨sl,e1⟩:=I.base.slot b o e n hb hx
  exact⟨sl,(hs.2 b (Ar (A2 (Al e) I.ok.above))).trans e1⟩
 ·obtain⟨o',e1⟩:=I.base.there b o e hx
  exact⟨o',(hs.2 b (Ar (A2 (Al e) I.ok.above))).trans e1⟩
 ·by_cases hj:j=i
  ·subst hj
   rw[CM] at e2
   simp at e2
  ·rw[DZ (Ne.symm hj)] at e2
   obtain⟨u',r',q⟩:=hl j y v' e1 e2 e3
   refine⟨u',r',?_⟩
   rcases q with ⟨k,e⟩ | ⟨k,c,e,z⟩
   ·refine .inl ⟨k,?_⟩
    have:y≠x:=λ e=>hj (gq hN e1 (e▸hi))
    simp[this,e]
   ·exact .inr ⟨k,c,e,z.sameBut hs (uO y c e)⟩
 ·obtain⟨w',z⟩:=I.cell y c e
  exact⟨w',z.sameBut hs (uO y c e)⟩
 ·obtain⟨e,n,ne,nf,d⟩:=I.pin p hp
  exact⟨(hs.2 p.1 ne).trans e,n,ne,nf,d⟩
 ·refine (I.zp b ob e).vj (λ c w' hc q=>(hs.2 c ?_).trans q) (λ _ q=>q) λ _ _ q=>q
  rintro rfl
  rcases hc with rfl | hc
  ·rw[I.free] at e;cases e
  ·rw[I.free] at hc;cases hc
end
abbrev rf:List Str:=["place","pair","way","times","told","name","row"]
def kJ {f:Str}(h:f∈rf):f∈sX:=by
 simp only[Ai,AV,or_false] at h ⊢
 rcases h with h | h | h | h | h | h | h <;> simp[h]
def dX {f:Str}(h:f∈rf):typeLookup (.type "ValueError") f=pure none:=by
 simp only[Ai,AV,or_false] at h
 rcases h with rfl | rfl | rfl | rfl | rfl | rfl | rfl <;> (rw[typeLookup_type,builtinLookup_eq_fast];kernel_rfl)
def XZ:typeLookup (.type "ValueError") "__class__"=pure (some (.builtin "object.__class__")):=by rw[typeLookup_type,builtinLookup_eq_fast];kernel_rfl
section
variable {K:Ab}{h:Heap}{c:Str}{C P N NP:Addr}{bm:Ad}
def rD.at (o:rD K c C bm N) (X:K.In h):(∃ (q:Str) (bs:Ad) (sn:List Str) (sub:Ad) (ab:Bool) (col:Option Bool) (dd:Option Addr) (k0 k1 k2 k3 k5:Option Value),h.get? C=some (excClassObj c q C N bs bm true sn sub ab col dd k0 k1 k2 k3 k5 "ValueError.__new__"))/\h.Ns N (h.nsMap N)/\∀ n∈sX,h.nsMap N n=none:=by
 obtain⟨⟨q,bs,sn,sub,ab,col,dd,k0,k1,k2,k3,k5,e⟩,ok,hn⟩:=o
 exact⟨⟨q,bs,sn,sub,ab,col,dd,k0,k1,k2,k3,k5,X _ _ e⟩,.of_isNs (PySem.W.isNs_of_in X ok),λ n m=>PySem.W.nsMap_none_of_in X ok (hn n m)⟩
def rM.l6 (e:rM K c C P N NP) (X:K.In h):eF h C P "ValueError" vQ:=by
 obtain⟨⟨q,bs,sn,sub,ab,col,dd,k0,k1,k2,k3,k5,hC⟩,hN,hn⟩:=e.own.at X
 obtain⟨⟨q',Ic,HM,Gz,Ie,GF,G0,l0,l1,l2,l3,l5,hP⟩,HF,Gk⟩:=e.par.at X
 refine⟨PySem.F.attrBase_ValueError,by decide,XZ,c,q,N,bs,sn,sub,ab,col,dd,k0,k1,k2,k3,k5,_,_,_,hC,hN,⟨⟨_,_,_,_,hP,HF⟩⟩,λ n m=>?_⟩
 have m':n∈sX:=by
  simp only[Ai,AV,or_false] at m ⊢
  rcases m with m | m | m <;> simp[m]
 exact⟨hn n m',Gk n m'⟩
end
noncomputable def lg (e C vs:Addr):HO:=.ext λ h=>h.get? e=some { cls:=.ref C,data:=.fields #[.ref vs,.none,.none,.none,.bool false,.none] }
noncomputable def eQ (e C dx vs:Addr):HO:=.ext λ h=>h.get? e=some { cls:=.ref C,dict:=some dx,data:=.fields #[.ref vs,.none,.none,.none,.bool false,.none] }
section
variable {P:Program}{w:World}{fs:List Addr}{H:Hp}{h h':Heap}{e dx:Addr}{φ ψ:Heap->Prop}{fv:List (Str×V)}
def Wd (zp:yf P w H h) (he:H e=some (.ext φ)) (hd:h.objs.size<=dx) (k:∀ b o,b≠e->h.get? b=some o->h'.get? b=some o) (hψ:ψ h') (Cc:∃ o,h'.get? e=some o)
  (st:∀ h1 h2:Heap,ψ h1->(∀ o,h1.get? e=some o->h2.get? e=some o)->ψ h2) (hx:∃ mA,h'.Ns1 dx mA/\∀ f,vU (fv.lookup f) (mA f)):
  Un fs [] H (upd (upd H dx (.xd fv)) e (.ext ψ)) h h'/\yf P w (upd (upd H dx (.xd fv)) e (.ext ψ)) h':=by
 have hn:H dx=none:=zp.fresh hd
 have up:∀ b,b≠e->b≠dx->upd (upd H dx (.xd fv)) e (.ext ψ) b=H b:=λ b a c=>by rw[zF a,zF c]
 have ue:∀ b,H b=none->b≠e:=λ b a z=>by rw[z,he] at a;cases a
 have ux:∀ b o,h.get? b=some o->b≠dx:=λ b o q=>Ar (A2 (Al q) hd)
 have us:∀ b u,H b=some u->(∀ φ,u≠.ext φ)->upd (upd H dx (.xd fv)) e (.ext ψ) b=some u:=λ b u q n=>by
  rw[up b (uo q he (n _)) (xC q hn)];exact q
 refine⟨⟨λ b o q n _ _=>k b o (ue b n) q,λ b o q n _ _=>⟨o.slots,k b o (ue b n) q⟩,λ b o q n _=>by rw[up b (ue b n) (ux b o q)];exact n,λ b o q _=>?_,λ b xs q=>us b _ q (λ _ z=>by cases z),λ b o u q=>us b _ q (λ _ z=>by cases z),λ b ps q=>⟨#[],by rw[us b _ q (λ _ z=>by cases z)];simp⟩⟩,λ a o q=>?_⟩
 ·by_cases z:b=e
  ·rw[z];exact Cc
  ·exact⟨o,k b o z q⟩
 ·by_cases z:a=e
  ·subst z
   rw[ye] at q;cases q
   exact⟨hψ,Cc,st⟩
  ·rw[zF z] at q
   by_cases z':a=dx
   ·subst z'
    rw[ye] at q;cases q
    exact hx
   ·rw[zF z'] at q
    refine (zp a o q).vj (λ b u hb c=>k b u ?_ c) (λ b c=>us b _ c (λ _ z=>by cases z)) λ b xs c=>us b _ c (λ _ z=>by cases z)
    rcases hb with rfl | hb
    ·exact z
    ·exact uo hb he (by intro z;cases z)
def Wb (zp:yf P w H h) (he:H e=some (.ext φ)) (hψ:ψ h) (st:∀ h1 h2:Heap,ψ h1->(∀ o,h1.get? e=some o->h2.get? e=some o)->ψ h2):
  Un fs [] H (upd H e (.ext ψ)) h h/\yf P w (upd H e (.ext ψ)) h:=by
 have ue:∀ b,H b=none->b≠e:=λ b a z=>by rw[z,he] at a;cases a
 have us:∀ b u,H b=some u->(∀ φ,u≠.ext φ)->upd H e (.ext ψ) b=some u:=λ b u q n=>by
  rw[zF (uo q he (n _))];exact q
 refine⟨⟨λ b o q n _ _=>q,λ b o q n _ _=>⟨o.slots,q⟩,λ b o q n _=>by rw[zF (ue b n)];exact n,λ b o q _=>⟨o,q⟩,λ b xs q=>us b _ q (λ _ z=>by cases z),λ b o u q=>us b _ q (λ _ z=>by cases z),λ b ps q=>⟨#[],by rw[us b _ q (λ _ z=>by cases z)];simp⟩⟩,λ a o q=>?_⟩
 by_cases z:a=e
 ·subst z
  rw[ye] at q;cases q
  exact⟨hψ,(zp a _ he).2.1,st⟩
 ·rw[zF z] at q
  exact (zp a o q).vj (λ b u hb c=>c) (λ b c=>us b _ c (λ _ z=>by cases z)) λ b xs c=>us b _ c (λ _ z=>by cases z)
end
def Wx (K:Ab) (f:Str):TS:=λ D Y H=>∃ e C vs v c,Y[0]?=some (some (.ref e))/\Y[1]?=some (some v)/\H e=some (lg e C vs)/\vZ K c C/\
 ∀ dx,H dx=none->dx≠e->D.nx Y (upd (upd H dx (.xd [(f,v)])) e (eQ e C dx vs))
def VN {X:Cx}{o value:Expr}{f:Str}{pos pos':Pos}(hf:f∈rf) (ho:PE X o (o8 0)) (hv:PE X value (o8 1)) (hs:swapsWith value (some (.Attribute o f pos')) pos.line X.env=pure false):
  PS X (.Assign [.Attribute o f pos'] value pos) (Wx X.K f):=by
 intro EC s Y H D I h
 obtain⟨e,C,vs,v,c,h0,h1,h2,⟨P,N,NP,hE⟩,hq⟩:=h
 refine plainObj_wpAny_Assign_Attribute (zC (hv EC s Y H (λ x H'=>x=v/\H'=H) I ⟨v,h1,rfl,rfl⟩) λ u s1 ⟨y,H1,I1,ry,ey,eH⟩=>?_) hs
 subst ey eH
 refine zC (ho EC s1 Y H1 (λ x H'=>x=.ref e/\H'=H1) I1 ⟨_,h0,rfl,rfl⟩) λ ov s2 ⟨x,H2,I2,rx,ex,eH2⟩=>?_
 subst ex eH2
 obtain rfl:ov=Value.ref e:=rx
 obtain⟨hh,g,d,t,os⟩:=s2
 obtain⟨⟨q,bs,sn,sub,ab,col,dd,k0,k1,k2,k3,k5,hC⟩,hN,hn⟩:=hE.own.at I2.yr
 obtain⟨⟨q',Ic,HM,Gz,Ie,GF,G0,l0,l1,l2,l3,l5,hP⟩,HF,Gk⟩:=hE.par.at I2.yr
 have hsa:("__setattr__":Str)∈sX:=by simp
 have h3:hh.get? e=some { cls:=.ref C,data:=.fields #[.ref vs,.none,.none,.none,.bool false,.none] }:=(I2.zp e _ h2).1
 refine XC PySem.F.store_ValueError hC hN ⟨⟨_,_,_,_,hP,HF⟩⟩ (hn _ hsa) (Gk _ hsa) (hn _ (kJ hf)) (Gk _ (kJ hf)) (dX hf) h3 rfl rfl (λ _=>nofun) λ h' GP z1 z2 z3=>?_
 have dn:=I2.zp.fresh (Aj hh.objs.size)
 obtain⟨u',Bn⟩:=Wd (fs:=X.fs) (fv:=[(f,y)]) (ψ:=λ h=>h.get? e=some { cls:=.ref C,dict:=some hh.objs.size,data:=.fields #[.ref vs,.none,.none,.none,.bool false,.none] }) I2.zp h2 (Aj _) z3 z1 ⟨_,z1⟩ (λ h1 h2 a b=>b _ a) ⟨_,z2,λ f'=>by
  by_cases Eu:f'=f
  ·subst Eu
   simp only[Bg,beq_self_eq_true,if_true]
   exact ry
  ·have:(f' == f)=false:=by simpa using Eu
   simp only[Bg,this,List.lookup_nil,if_neg Eu]
   trivial⟩
 exact⟨Y,_,I2.un (t':=GP) u' Bn,hq _ dn (xC h2 dn).symm⟩
noncomputable def WM (K:Ab) (f:Str):Sp:=λ vs H Q _=>∃ e C va v c,vs=[.ref e,v]/\H e=some (lg e C va)/\vZ K c C/\∀ dx,H dx=none->dx≠e->Q .zk (upd (upd H dx (.xd [(f,v)])) e (eQ e C dx va))
structure mM (K:Ab) (mg:Aq) (c f:Str) (st:Stmt):Prop where
 fl:f∈rf
 ex:∃ (C P N NP fI:Addr) (fd:FuncData),rM K c C P N NP/\mg c=some (.ref C)/\PySem.W.keepIn K (.ref C)=true/\PySem.W.nsIn K N "__init__"=some (some (.ref fI))/\PySem.W.isFn K (.ref fI)=true/\vh K "__init__" (c++".__init__") st fI fd
structure mL (f:Str) (st:Stmt):Prop where
 sc:zY ["self",f] ["self",f] (zy st)
 bd:∃ p1 p2 p3 p4,xD st=[.Assign [.Attribute (.Name "self" p1) f p2] (.Name f p3) p4]/\∀ env:Env,swapsWith (.Name f p3) (some (.Attribute (.Name "self" p1) f p2)) p4.line env=pure false
 bn:∀ (x q:Str) (kV doc pm:Value) (an:Option Addr) (Af ct:Value) (us:Ad),us.length=2->bindArgs (PySem.W.fnOf x q (vO st) (xD st) (zy st) .none kV doc pm an Af ct) ⟨us,[]⟩=pure ((["self",f]:List Str).zip us)
def ZA {f:Str}(h:f∈rf):(f == ("__debug__":Str))=false/\(f == ("__classdict__":Str))=false:=by
 simp only[Ai,AV,or_false] at h
 rcases h with rfl | rfl | rfl | rfl | rfl | rfl | rfl <;> exact⟨by decide,by decide⟩
def Pf {P:Program}{w:World}{K:Ab}{mg:Aq}{base:Heap}{c f:Str}{st:Stmt}{fI:Addr}{fd:FuncData}(hf:f∈rf) (F:vh K "__init__" (c++".__init__") st fI fd) (S:mL f st):
  xy P w K mg base xI 1 fI fd ["self",f] (WM K f):=by
 obtain⟨p1,p2,p3,p4,hb,hs⟩:=S.bd
 refine F.ok (k:=0) S.sc (λ vs H Q E ⟨e,C,va,v,c,h,_⟩=>by rw[h];rfl) λ Af A outer s H vs Q E hr h=>?_
 rw[hb]
 obtain⟨e,C,va,v,c',h1,h2,h3,h4⟩:=h
 subst h1
 have vis:∀ x∈(["self",f]:List Str),mF (zy st) x:=λ x m=>(S.sc.par x m).elim .inl (λ z=>.inr (.inl z))
 exact⟨_,iT (VN hf (pv 0 rfl (vis _ (by simp))) (pv 1 rfl (vis _ (by simp)) (ZA hf).1 (ZA hf).2) (hs _)),e,C,va,v,c',rfl,rfl,h2,h3,h4⟩
def RS {K:Ab}{h:Heap}{N:Addr}{mg:Aq}{n:Str}{v:Value}(X:K.In h) (G:h.Ns N mg) (e:PySem.W.nsIn K N n=some (some v)):mg n=some v:=by
 obtain⟨o,es,ep,ho,hd,_,hf⟩:=G
 unfold PySem.W.nsIn at e
 split at e
 ·rename_i c d FT n' sl q
  have:=X _ _ q
  rw[ho] at this
  cases this
  cases hd
  split at e
  ·rename_i en he
   cases e
   rw[<- hf]
   unfold nsFind findBy
   rw[<- Array.find?_toList,he]
   rfl
  ·split at e <;> cases e
 ·cases e
def XP (X:Cx) (EC:Ag) (fl:Bool) (Y:St) (Q:Addr->Hp->Prop) (v:Value) (s':Shared):Prop:=
 ∃ e Fu Y' H',v=.ref e/\(fl=true->Fu=EC/\Y'=Y)/\Inv X Fu Y' H' s'/\mK H' e/\((fl=false/\YS s'.heap e)\/qC s'.heap H' e)/\Q e H'
def eM (K:Ab) (c f:Str) (x:V) (e:Addr) (H':Hp):Prop:=∃ C dx,vZ K c C/\H' e=some (wD e C dx)/\H' dx=some (.xd [(f,x)])
def wp_raise {X:Cx}{c f:Str}{st:Stmt}{e:Expr}{te:TE}{p pos JP:Pos}{EC:Ag}{Y:St}{H:Hp}{s:Shared}{Q:Addr->Hp->Prop}{R:Flow->Shared->Prop}
  (G:mM X.K X.mg c f st) (S:mL f st) (hr:ya 2 X.A) (hc:X.calm=true) (hn:∀ v s,¬ X.xe v s) (hg:Gl X c) (A7:(c == ("__debug__":Str))=false) (he:PE X e te)
  (hs:starEach [e] X.env=(false,eval e X.env)::starEach [] X.env) (Am:(backTo pos (starEach [] X.env)).any (·.1)=false)
  {W:Ae}(hW:∀ v s',XP X EC false Y Q v s'->W v s') (I:Inv X EC Y H s) (h:te Y H λ x H1=>∀ a H',mG H1 H'->eM X.K c f x a H'->Q a H'):
  wpAny (model X.prog X.w) X.A (exec (.Raise (some (.Call (.Name c p) [e] [] pos)) none JP) X.env) R W s:=by
 obtain⟨C,P,N,NP,fI,fd,hE,hm,hk,hi,Cb,F⟩:=G.ex
 obtain⟨⟨q,bs,sn,sub,ab,col,dd,k0,k1,k2,k3,k5,lk⟩,_,_⟩:=id hE.own
 rw[arm_exec_Raise]
 refine JI (wpAny_standAt (XD (C:=C) (nm:=c) (q:=q) (N:=N) (bs:=bs) (bm:=.ref P::vQ) (hdct:=true) (sn:=sn) (sub:=sub) (ab:=ab) (col:=col) (dd:=dd) (k0:=k0) (k1:=k1) (k2:=k2) (k3:=k3) (k5:=k5) (newId:="ValueError.__new__")
  (by rw[Bf,show vQ.contains (.type "BaseException")=true from by decide,CI]) (I.ok.hd hc) (JI (KG ?_ (λ v s₃ h₃=>JI (wpAny_standAt (Ac h₃))) λ _ _ x=>x))))
 refine K7 (nC I hg hm ?_ A7)
 have ha:PA X [e] (oB te oA):=v9 he tf hs
 refine PySem.W.callWith_K (h₀:=X.base) I.ok.mod.pB hk (KG (ha pos EC s Y H (λ vs H1=>match vs with
  | [x]=>∀ a H',mG H1 H'->eM X.K c f x a H'->Q a H'
  | _=>False) I h) (λ us s1 ⟨vs,H1,I1,r,q⟩=>⟨I1.yr,?_⟩) λ _ _ z=>(hn _ _ z).elim) hs Am
 obtain⟨x,rfl,q⟩:∃ x,vs=[x]/\∀ a H',mG H1 H'->eM X.K c f x a H'->Q a H':=by
  match vs,q with
  | [x],q=>exact⟨x,rfl,q⟩
 obtain⟨u,rfl,r1⟩:∃ u,us=[u]/\RelV x u:=by
  cases r with
  | cons r1 r2=>
   cases r2
   exact⟨_,rfl,r1⟩
 obtain⟨hh,g,d,t,os⟩:=s1
 have hC:=I1.yr _ _ lk
 obtain⟨_,hN,hnn⟩:=hE.own.at I1.yr
 obtain⟨⟨q',Ic,HM,Gz,Ie,GF,G0,l0,l1,l2,l3,l5,hP⟩,HF,Gk⟩:=hE.par.at I1.yr
 have H_:∃ oI,hh.get? fI=some oI/\oI.cls=.type "function":=by
  obtain⟨oc,od,_,_,_,_,_,_,GQ,_,lf,_⟩:=F.ex
  have z:=beq_iff_eq.mp Cb
  simp only[PySem.W.typeIn,lf,Option.map_some] at z
  exact⟨_,I1.yr _ _ lf,A5 z⟩
 obtain⟨oI,H_,Dm⟩:=H_
 have T:OwnTail hh vQ (.ref P::vQ):=.own hP HF (PySem.W.ns_none_of I1.yr HF hE.VW) .base
 refine XN PySem.F.excBase_ValueError T hC hN (RS I1.yr hN hi) H_ Dm (λ h' e hle M=>?_) (by show 1<=sizeLine;decide)
 obtain⟨va,m1,m2,m3⟩:=M.there
 have I2:Inv X EC Y (upd H1 e (lg e C va)) ⟨h',g,d,t,os⟩:=I1.laid (t':=t) M.keeps hle ⟨m1,⟨_,m1⟩,λ h1 h2 a b=>b _ a⟩
 have en:H1 e=none:=I1.zp.fresh hle
 have r2:Vals [V.ref e,x] [Value.ref e,u]:=.cons rfl (.cons r1 .nil)
 have F2:=Pf (P:=X.prog) (w:=X.w) (mg:=X.mg) (base:=X.base) G.fl F S
 refine wpAny_call (codeAny_mono (F2.run _ X.stack _ _ ⟨[.ref e,u],[]⟩ [.ref e,u] [.ref e,x] (λ v H2=>v=.zk/\∃ dx,upd H1 e (lg e C va) dx=none/\dx≠e/\H2=upd (upd (upd H1 e (lg e C va)) dx (.xd [(f,x)])) e (eQ e C dx va)) E0 ((hr.make C [u] []).mono (by decide)) (I2.fM.make C [u] [])
  (F.binds (ps:=["self",f]) (S.bn _ _) _ _ I2.yr rfl) r2 ⟨e,C,va,x,c,rfl,ye,⟨P,N,NP,hE⟩,λ dx n ne=>⟨rfl,dx,n,ne,rfl⟩⟩) λ r s' HV=>?_)
 cases r with
 | error e=>exact HV.elim
 | ok fl=>
  cases fl with
  | ret u'=>
   obtain⟨v,H',I3,rv,ev,dx,n,ne,eH⟩:=I2.after HV
   subst ev eH
   have g3:=(I3.zp e _ ye).1
   obtain⟨u3,ok3⟩:=Wb (fs:=X.fs) (ψ:=λ h=>∃ oe vs,h.get? e=some oe/\oe.cls=.ref C/\oe.dict=some dx/\oe.data=.fields vs) I3.zp ye ⟨_,_,g3,rfl,rfl,rfl⟩ (λ h1 h2 ⟨oe,vs,a,b⟩ k=>⟨oe,vs,k _ a,b⟩)
   have I4:=I3.un (t':=s'.toks) u3 ok3
   refine⟨rv,e,some dx,va,_,rfl,I3.yr _ _ lk,g3,hW _ _ ⟨e,EC,Y,_,rfl,nofun,I4,⟨C,dx,ye⟩,.inl ⟨rfl,_,_,_,g3,rfl,rfl,rfl⟩,q e _ (λ b o z=>?_) ⟨C,dx,⟨P,N,NP,hE⟩,ye,by rw[zF ne,zF ne,ye]⟩⟩⟩
   have b1:b≠e:=λ y=>by rw[y,en] at z;cases z
   have b2:b≠dx:=λ y=>by rw[<- y,zF b1,z] at n;cases n
   rw[zF b1,zF b1,zF b2,zF b1];exact z
  | _=>exact False.elim HV
def Un.out {fs:List Addr}{L:Addr}{H H1 H2:Hp}{h h1 h2:Heap}(a:Un fs [] H H1 h h1) (b:Un (L::fs) [] H1 H2 h1 h2) (hL:h.get? L=none):Un fs [] H H2 h h2 where
 keep:=λ c o q n hc hx=>b.keep c o (a.keep c o q n hc hx) (a.free c o q n hx) (λ z=>(Ai.mp z).elim (λ y=>by rw[y,hL] at q;cases q) hc) hx
 slot:=λ c o q n hc hx=>by
  obtain⟨sl,e⟩:=a.slot c o q n hc hx
  obtain⟨JL,e'⟩:=b.slot c _ e (a.free c o q n hx) (Ax _ hc) hx
  exact⟨JL,e'⟩
 free:=λ c o q n hx=>by
  obtain⟨o',e⟩:=a.there c o q hx
  exact b.free c o' e (a.free c o q n hx) hx
 there:=λ c o q hx=>by
  obtain⟨o',e⟩:=a.there c o q hx
  exact b.there c o' e hx
 vi:=λ c xs q=>b.vi c xs (a.vi c xs q)
 vG:=λ c o xs q=>b.vG c o xs (a.vG c o xs q)
 uf:=λ c ps q=>by
  obtain⟨m1,e1⟩:=a.uf c ps q
  obtain⟨m2,e2⟩:=b.uf c _ e1
  exact⟨m1++m2,by rw[e2,D1]⟩
def o3 (P:Program) (w:World):uc:=λ outer H s E v s'=>∃ e H',v=.ref e/\s'.os=s.os/\AllBare s'.gens/\Un (yS outer) [] H H' s.heap s'.heap/\yf P w H' s'.heap/\mK H' e/\qC s'.heap H' e/\E v none H'
def xy.never {P:Program}{w:World}{K:Ab}{mg:Aq}{base:Heap}{k:Nat}{f:Addr}{fd:FuncData}{ps:List Str}{sp:Sp}(F:xy P w K mg base (o3 P w) k f fd ps sp):
  xy P w K mg base xI k f fd ps (λ vs H Q _=>sp vs H Q λ _ _ _=>False):=
 ⟨λ vs H Q E h=>F.len _ _ _ _ h,λ A outer s H args us vs Q E hr he hb hv hs=>codeAny_mono (F.run A outer s H args us vs Q _ hr he hb hv hs) λ r s' hq=>by
  cases r with
  | error e=>
   obtain⟨_,_,_,_,_,_,_,_,_,z⟩:=hq
   exact z.elim
  | ok fl=>cases fl <;> exact hq⟩
section
variable {X:Cx}{k:Nat}{f:Addr}{fd:FuncData}{ps:List Str}{sp:Sp}{x:Str}{p pos:Pos}{e:Expr}{es:List Expr}{t:TA}{EC:Ag}{Y:St}{H:Hp}{s:Shared}{Q:VK}{Qx:Addr->Hp->Prop}{fl:Bool}
def XQ (F:xy X.prog X.w X.K X.mg X.base (o3 X.prog X.w) k f fd ps sp) (hr:ya k X.A) (hg:Gl X x) (hm:X.mg x=some (.ref f)) (hk:PySem.W.keepIn X.K (.ref f)=true) (hb:Binds X.K fd ps []) (hn:∀ v s,¬ X.xe v s)
  (ha:PA X (e::es) t) (A7:(x == ("__debug__":Str))=false) (he:starEach (e::es) X.env=(false,eval e X.env)::starEach es X.env) (Am:(backTo pos (starEach es X.env)).any (·.1)=false)
  {W:Ae}(hW:∀ v s',XP X EC fl Y Qx v s'->W v s') (I:Inv X EC Y H s) (h:t Y H λ vs H1=>sp vs H1 Q λ v _ H'=>∃ a,v=.ref a/\Qx a H'):
  wpAny (model X.prog X.w) X.A (eval (.Call (.Name x p) (e::es) [] pos) X.env) (EP X EC Y Q) W s:=by
 refine K7 (nC I hg hm ?_ A7)
 refine PySem.W.callWith_K (h₀:=X.base) I.ok.mod.pB hk (KG (ha pos EC s Y H _ I h) (λ us s1 ⟨vs,H1,I1,r,q⟩=>⟨I1.yr,?_⟩) λ _ _ z=>(hn _ _ z).elim) he Am
 have hl:us.length=ps.length:=by rw[<- r.length];exact F.len _ _ _ _ q
 have Ba:=hb s1 us I1.yr (by rw[Ci];exact hl)
 rw[Ci] at Ba
 refine wpAny_call (codeAny_mono (F.run X.A X.stack s1 H1 ⟨us,[]⟩ us vs Q _ hr I1.fM Ba r q) λ r s' hq=>?_)
 cases r with
 | error v=>
  obtain⟨a,H',rfl,os,bare,un,zp,ie,f1,a',ea,z⟩:=hq
  cases ea
  exact hW _ _ ⟨a,EC,Y,H',rfl,λ _=>⟨rfl,rfl⟩,I1.Yt (ch:=[]) os un zp bare (λ b z=>absurd z (by simp)),ie,.inr f1,z⟩
 | ok fl=>
  cases fl with
  | ret u=>exact I1.after hq
  | _=>exact False.elim hq
end
abbrev nv (X:Cx) (e:Addr):Cx:={ X with A:=X.A.mark (some (.ref e)),calm:=false }
section
variable {X:Cx}{EC:Ag}{Y Y':St}{H H':Hp}{s s':Shared}{e:Addr}
def Zi (I:Inv X EC Y H s) (e:Addr):Inv (nv X e) EC Y H s:=
 ⟨⟨I.ok.mod,I.ok.kind,I.ok.glob,I.ok.blt,I.ok.above,I.ok.inj,I.ok.has,I.ok.qu,nofun,I.ok.frames,I.ok.qL,I.ok.nN,I.ok.bs,I.ok.t9,I.ok.qe,I.ok.qo,I.ok.vl,I.ok.tY⟩,I.os,I.bare,I.base,I.loc,I.cell,I.free,I.vc,I.pin,I.zp,I.len⟩
def QY (I:Inv X EC Y H s) (J:Inv (nv X e) EC Y' H' s'):Inv X EC Y' H' s':=⟨I.ok,J.os,J.bare,J.base,J.loc,J.cell,J.free,J.vc,J.pin,J.zp,J.len⟩
def XO {i j:Nat}{n c:Str}{body:List Stmt}{p1 p2 p3 p4 CC pos:Pos}{D:Ends}{Qx:Addr->Hp->Prop}(hn:∀ v s,¬ X.xe v s) (AJ:X.stack=X.env::X.outer) (AH:X.env.frame=some X.env.locals)
  (hg:Gl X "PurseError") (hN:X.N.Nodup) (hi:X.N[i]?=some n) (BF:X.env.kindOf n=some .local) (hj:X.N[j]?=some c) (D3:Loc X.env.scope c) (Et:X.fn c=true\/X.env.scope.names.lookup c=some .local) (A1:i≠j)
  (BM:(n == ("__debug__":Str))=false) (BU:(n == ("__classdict__":Str))=false) (BS:swapsWith (.Name n p3) (some (.Name c p2)) p4.line X.env=pure false)
  (I:Inv X EC Y H s) (hb:wpAny (model X.prog X.w) X.A (execs body X.env) (SP X EC D) (XP X EC true Y Qx) s)
  (hx:∀ a H',Qx a H'->(∃ cn C dx,vZ X.K cn C/\H' a=some (wD a C dx))/\∀ T,H' T=none->D.nx (((Y.set i (some (.ref a))).set j (some (.ref a))).set i none) (upd H' T (we T))):
  wpAny (model X.prog X.w) X.A (exec (.Try body [.ExceptHandler (some (.Name "PurseError" p1)) (some n) [.Assign [.Name c p2] (.Name n p3) p4] CC] [] [] pos) X.env) (SP X EC D) X.xe s:=by
 refine wpAny_Try_except (KG hb (λ f s₁ q=>?_) λ v s₁ ⟨a,Fu,Y',H1,ev,es,I1,ie,fly,q⟩=>?_)
 ·cases f with
  | next=>exact K2 q
  | _=>exact q
 subst ev
 obtain⟨rfl,rfl⟩:=es rfl
 obtain⟨⟨cn,C,dx,⟨P,N,NP,hE⟩,hEo⟩,q⟩:=hx a H1 q
 have f1:=fly.resolve_left (λ z=>by cases z.1)
 refine RT I1 AJ AH ie f1 λ h' T hT un zp f2=>?_
 have I2:Inv X Fu Y' (upd H1 T (we T)) { s₁ with heap:=h' }:=I1.call (g':=s₁.gens) (d':=s₁.drawn) (t':=s₁.toks) (ch:=[]) un zp I1.bare (λ b z=>absurd z (by simp))
 have Jh:upd H1 T (we T) a=some (wD a C dx):=by rw[zF (xC hEo hT)];exact hEo
 obtain⟨⟨qn,bs,sn,sub,ab,col,dd,k0,k1,k2,k3,k5,lk⟩,_,_⟩:=id hE.own
 obtain⟨⟨q',Ic,HM,Gz,Ie,GF,G0,l0,l1,l2,l3,l5,lp⟩,_,_⟩:=id hE.par
 have mP:X.mg "PurseError"=some (.ref P):=PySem.W.mg_of I.ok.mod.pB I.ok.mod.glob hE.b6
 have aoe:∃ oe,h'.get? a=some oe/\oe.cls=.ref C:=by
  obtain⟨⟨oe,vs,z1,z2,_⟩,_⟩:=I2.zp a _ Jh
  exact⟨oe,z1,z2⟩
 refine X7 (bm:=.ref P::vQ) (Hs:=vQ) (by decide) (by rw[Bf];simp) (nC (X:=nv X a) (Zi I2 a) hg mP ⟨rfl,I2.yr _ _ lk,I2.yr _ _ lp,aoe,?_⟩)
 refine QD I2 ⟨C,dx,Jh⟩ f2 λ h2 un2 Ka=>?_
 have I3:Inv X Fu Y' (upd H1 T (we T)) { s₁ with heap:=h2 }:=Inv.call (s:={ s₁ with heap:=h' }) (g':=s₁.gens) (d':=s₁.drawn) (t':=s₁.toks) (ch:=[]) I2 un2 Ka I1.bare (λ b z=>absurd z (by simp))
 refine lG I3 hN hi (.inl BF) (v:=.ref a) rfl (λ s4 I4=>?_) (.inr BF)
 have st:=iT (b7 (X:=nv X a) (i:=j) (pos:=p4) (pos':=p2) hN hj D3 (pv (X:=nv X a) i (pos:=p3) hi (.inl BF) BM BU) BS Et)
 have hl:i < Y'.length:=by rw[I1.len];exact (AK.mp hi).1
 refine KG (st Fu s4 _ _ { nx:=fun Y2 H2=>Y2=(Y'.set i (some (.ref a))).set j (some (.ref a))/\H2=upd H1 T (we T),rt:=λ _ _=>False } (Zi I4 a) ⟨.ref a,by rw[D0 hl],rfl,rfl⟩) (λ fl s5 q5=>?_) λ _ _ z=>(hn _ _ z).elim
 cases fl with
 | next=>
  obtain⟨Y5,H5,I5,rfl,rfl⟩:=q5
  exact PR (QY I I5) hN hi BF λ s6 I6=>⟨_,_,I6,q T hT⟩
 | ret _=>obtain⟨_,_,_,_,_,z⟩:=q5;exact z.elim
 | _=>obtain⟨_,_,_,z⟩:=q5;exact z.elim
end
noncomputable def vE:D->Bool
 | .err _ _ _=>true
 | _=>false
def t7 (K:Ab) (H:Hp) (R:VK) (Q:Addr->Hp->Prop):DK:=λ d S'=>(vE d=false->wb K H R d S')/\(vE d=true->∀ a H',zh K H' d (.ref a)->Ext H H'->zE K H' S'->Q a H')
theorem t7.ext {K:Ab}{H H':Hp}{R:VK}{Q:Addr->Hp->Prop}(e:Ext H H') {d:D}{S:SS}(h:t7 K H R Q d S):t7 K H' R Q d S:=⟨λ z=>wb.ext e (h.1 z),λ z a H2 r x q=>h.2 z a H2 r (e.trans x) q⟩
def sf (K:Ab) (H:Hp) (D:Ends) (Q:Addr->Hp->Prop):tJ:=⟨xM K H D.nx,t7 K H D.rt Q,xM K H D.bk,xM K H D.ct⟩
theorem sf.ext {K:Ab}{H H':Hp}{D:Ends}{Q:Addr->Hp->Prop}(e:Ext H H'):(sf K H D Q).Le (sf K H' D Q):=⟨λ _ _ h=>xM.ext e h,λ _ _ h=>t7.ext e h,λ _ _ h=>xM.ext e h,λ _ _ h=>xM.ext e h⟩
def o6 (K:Ab) (t:yh) (Q:Addr->Hp->Prop):TS:=λ D Y H=>∃ L S,yx K H L Y/\zE K H S/\t (sf K H D Q) L S
structure pT (X:Cx) (EC:Ag) (Y:St) (fl:Bool) (Q:Addr->Hp->Prop) (W:Ae):Prop where
 xp:∀ v s',XP X EC fl Y Q v s'->W v s'
 own:fl=false->PassesOwn (model X.prog X.w) X.A X.env W
def pT.any {X:Cx}{EC Fu:Ag}{Y Y':St}{Q:Addr->Hp->Prop}{W:Ae}(h:pT X EC Y false Q W):pT X Fu Y' false Q W:=
 ⟨λ v s' ⟨e,p,q,H',h1,_,h3⟩=>h.xp v s' ⟨e,p,q,H',h1,nofun,h3⟩,h.own⟩
structure pW (X:Cx) (fl:Bool) (st:Stmt) (t:yh):Prop where
 mo:uC t
 px:∀ EC s Y H D Q W,pT X EC Y fl Q W->Inv X EC Y H s->o6 X.K t Q D Y H->wpAny (model X.prog X.w) X.A (exec st X.env) (SP X EC D) W s
structure sE (X:Cx) (fl:Bool) (sts:List Stmt) (t:yh):Prop where
 mo:uC t
 px:∀ EC s Y H D Q W,pT X EC Y fl Q W->Inv X EC Y H s->o6 X.K t Q D Y H->wpAny (model X.prog X.w) X.A (execs sts X.env) (SP X EC D) W s
section
variable {X:Cx}{fl:Bool}{st:Stmt}{EI:List Stmt}{t u:yh}{pos:Pos}{e:Expr}{te:zu}
def bH:sE X fl [] fU:=⟨λ _ _ _ _ hE h=>hE.nx _ _ h,λ EC s Y H D Q W hW I ⟨L,S,r1,r2,z⟩=>K2 ⟨Y,H,I,z Y H r1 (.refl H) r2⟩⟩
def qY (h:pW X fl st t):sE X fl [st] t:=⟨h.mo,λ EC s Y H D Q W hW I hu=>by
 refine wpAny_execs_cons (zC (h.px EC s Y H D Q W hW I hu) λ f s1 q=>?_)
 cases f with
 | next=>exact K2 q
 | ret v=>exact q
 | brk=>exact q
 | cont=>exact q⟩
def bJ (h:pW X false st t) (h':sE X false EI u):sE X false (st::EI) (qp t u):=⟨qp.mo h.mo h'.mo,λ EC s Y H D Q W hW I ⟨L,S,r1,r2,z⟩=>by
 refine wpAny_execs_cons (zC (h.px EC s Y H { D with nx:=o6 X.K u Q D } Q W hW I ⟨L,S,r1,r2,h.mo { sf X.K H D Q with nx:=u (sf X.K H D Q) } _ L S ⟨fun L' S' q Y' H' q1 q2 q3=>⟨L',S',q1,q3,h'.mo _ _ L' S' (sf.ext q2) q⟩,λ _ _ q=>q,λ _ _ q=>q,λ _ _ q=>q⟩ z⟩) λ f s1 q=>?_)
 cases f with
 | next=>
  obtain⟨Y',H',I',q⟩:=q
  exact h'.px EC s1 Y' H' D Q W hW.any I' q
 | ret v=>exact q
 | brk=>exact q
 | cont=>exact q⟩
def bI {c:Expr}{p q:List Stmt}{tc:yC}(hc:xu X c tc) (h:sE X fl p t) (h':sE X fl q u) (hn:∀ v s,¬ X.xe v s:=by exact λ _ _ z=>z):pW X fl (.If c p q pos) (fV tc t u):=by
 refine⟨λ E E' L S hE z=>hc.mo L S _ _ (λ k S1 z=>wA (h.mo _ _ L S1 hE) (h'.mo _ _ L S1 hE) z) z,λ EC s Y H D Q W hW I ⟨L,S,r1,r2,z⟩=>?_⟩
 refine wpAny_If (KG (hc.pt EC s Y H (λ k H1=>if k=true then o6 X.K t Q D Y H1 else o6 X.K u Q D Y H1) I (xW.go hc.mo r1 r2 z λ k S1 H1 h1 e1 p1=>wA (λ z=>?_) (λ z=>?_) h1)) (λ k s1 ⟨H1,I1,q1⟩=>?_) λ _ _ z=>(hn _ _ z).elim)
 ·exact⟨L,S1,r1.ext e1,p1,h.mo _ _ L S1 (sf.ext e1) z⟩
 ·exact⟨L,S1,r1.ext e1,p1,h'.mo _ _ L S1 (sf.ext e1) z⟩
 ·cases k with
  | true=>exact h.px EC s1 Y H1 D Q W hW I1 q1
  | false=>exact h'.px EC s1 Y H1 D Q W hW I1 q1
def fS (te:zu):yh:=λ E L S=>te L S λ d S1=>vE d=false/\E.rt d S1
def U8 (he:PD X e te) (hn:∀ v s,¬ X.xe v s:=by exact λ _ _ z=>z):pW X fl (.Return (some e) pos) (fS te):=by
 refine⟨λ E E' L S hE z=>he.mo L S _ _ (λ _ _ q=>⟨q.1,hE.rt _ _ q.2⟩) z,λ EC s Y H D Q W hW I ⟨L,S,r1,r2,z⟩=>?_⟩
 exact wpAny_Return_some (KG (he.pe EC s Y H D.rt I (zK.go he.mo r1 r2 z λ x S1 v H1 h1 q1 e1 p1=>h1.2.1 h1.1 v H1 q1 e1 p1)) (λ v s1 ⟨x,H1,I1,r1,q1⟩=>⟨x,Y,H1,I1,r1,q1⟩) λ _ _ z=>(hn _ _ z).elim)
def Ext.same {H H':Hp}(e:mG H H'):Ext H H':=⟨λ b xs q=>e _ _ q,λ b o u q=>e _ _ q,λ b u q=>e _ _ q,λ b u q=>e _ _ q⟩
def Yc (c f:Str) (te:zu):yh:=λ E L S=>te L S λ d S1=>E.rt (.err c f d) S1
def bG {c f:Str}{si:Stmt}{p Ah:Pos}{k:Nat}(G:mM X.K X.mg c f si) (Sh:mL f si) (hr:ya k X.A) (he:PD X e te) (hk:2<=k:=by decide) (hg:Gl X c:=by rfl) (hc:X.calm=true:=by rfl) (A7:(c == ("__debug__":Str))=false:=by decide)
  (hs:starEach [e] X.env=(false,eval e X.env)::starEach [] X.env:=by rfl) (Am:(backTo Ah (starEach [] X.env)).any (·.1)=false:=by rfl) (hn:∀ v s,¬ X.xe v s:=by exact λ _ _ z=>z):
  pW X false (.Raise (some (.Call (.Name c p) [e] [] Ah)) none pos) (Yc c f te):=by
 refine⟨λ E E' L S hE z=>he.mo L S _ _ (λ _ _ q=>hE.rt _ _ q) z,λ EC s Y H D Q W hW I ⟨L,S,r1,r2,z⟩=>?_⟩
 refine wp_raise G Sh (hr.mono hk) hc hn hg A7 he.pe hs Am hW.xp I (zK.go he.mo r1 r2 z λ x S1 v H1 h1 q1 e1 p1 a H' sm ⟨C,dx,hE,h2,h3⟩=>?_)
 refine h1.2 rfl a H' ?_ (e1.trans (.same sm)) (p1.same sm)
 simp only[zh]
 exact⟨a,C,dx,v,rfl,⟨hE,h2,h3⟩,zh.ext (.same sm) x q1⟩
end
def ck (K:Ab) (sp:wj):Sp:=λ vs H Q E=>∃ ds S,zo K H ds vs/\zE K H S/\sp ds S (t7 K H Q λ a H'=>E (.ref a) none H')
structure uD (P:Program) (w:World) (K:Ab) (mg:Aq) (base:Heap) (x:Str) (k:Nat) (ps:List Str) (sp:wj):Prop where
 ex:∃ (f:Addr) (fd:FuncData),xy P w K mg base (o3 P w) k f fd ps (ck K sp)/\mg x=some (.ref f)/\PySem.W.keepIn K (.ref f)=true/\Binds K fd ps []
 mo:pX sp
def ko (sp:wj):wj:=λ ds S Q=>sp ds S λ d S'=>vE d=false/\Q d S'
def ko.mo {sp:wj}(h:pX sp):pX (ko sp):=λ ds S Q Q' hq z=>h ds S _ _ (λ d S' q=>⟨q.1,hq _ _ q.2⟩) z
theorem uD.fd {P:Program}{w:World}{K:Ab}{mg:Aq}{base:Heap}{x:Str}{k:Nat}{ps:List Str}{sp:wj}(F:uD P w K mg base x k ps sp):FD P w K mg base x k ps (ko sp):=by
 obtain⟨⟨f,fd,h1,h2⟩,hm⟩:=F
 refine⟨⟨f,fd,(xy.never h1).imp λ vs H Q E ⟨ds,S,r1,r2,z⟩=>⟨ds,S,r1,r2,hm ds S _ _ (λ d S' q=>⟨λ _=>q.2,λ z=>?_⟩) z⟩,h2⟩,ko.mo hm⟩
 rw[q.1] at z;cases z
section
variable {X:Cx}{fl:Bool}{pos Ah p:Pos}{e:Expr}{es:List Expr}{tA:yk}{x:Str}{k:Nat}{ps:List Str}{sp:wj}
def XR {EC:Ag}{s:Shared}{Y:St}{H:Hp}{Q:Addr->Hp->Prop}{W:Ae}{R:DK}{RV:VK}{L:yc}{S:SS}(F:uD X.prog X.w X.K X.mg X.base x k ps sp) (hr:ya k X.A) (ha:xi X (e::es) tA) (hg:Gl X x) (A7:(x == ("__debug__":Str))=false)
  (he:starEach (e::es) X.env=(false,eval e X.env)::starEach es X.env) (Am:(backTo Ah (starEach es X.env)).any (·.1)=false) (hn:∀ v s,¬ X.xe v s) (hW:pT X EC Y fl Q W) (I:Inv X EC Y H s) (r1:yx X.K H L Y) (r2:zE X.K H S)
  (z:tA L S λ ds S1=>sp ds S1 R) (hR:∀ d S',R d S'->t7 X.K H RV Q d S'):
  wpAny (model X.prog X.w) X.A (eval (.Call (.Name x p) (e::es) [] Ah) X.env) (EP X EC Y RV) W s:=by
 obtain⟨⟨f,fd,h1,h2,h3,h4⟩,hm⟩:=F
 refine XQ (Qx:=Q) h1 hr hg h2 h3 h4 hn ha.pa A7 he Am hW.xp I (wu.go ha.mo r1 r2 z λ ds S1 xs H1 z1 q1 e1 p1=>⟨ds,S1,q1,p1,hm ds S1 _ _ (λ d S' q=>?_) z1⟩)
 have q':=t7.ext e1 (hR d S' q)
 exact⟨q'.1,λ y a H' c1 c2 c3=>⟨a,rfl,q'.2 y a H' c1 c2 c3⟩⟩
def Z_ (sp:wj) (tA:yk):yh:=λ E L S=>tA L S λ ds S1=>sp ds S1 λ d S2=>(vE d=true->E.rt d S2)/\(vE d=false->E.nx L S2)
variable (F:uD X.prog X.w X.K X.mg X.base x k ps sp)
include F
theorem iZ {k':Nat}(hr:ya k' X.A) (ha:xi X (e::es) tA) (hk:k<=k':=by decide) (hg:Gl X x:=by rfl) (A7:(x == ("__debug__":Str))=false:=by decide)
  (he:starEach (e::es) X.env=(false,eval e X.env)::starEach es X.env:=by rfl) (Am:(backTo Ah (starEach es X.env)).any (·.1)=false:=by rfl) (hn:∀ v s,¬ X.xe v s:=by exact λ _ _ z=>z) (hs:swapsWith (.Call (.Name x p) (e::es) [] Ah) none pos.line X.env=pure false:=by rfl):
  pW X fl (.Expr (.Call (.Name x p) (e::es) [] Ah) pos) (Z_ sp tA):=by
 refine⟨λ E E' L S hE z=>ha.mo L S _ _ (λ ds S1 z=>F.mo ds S1 _ _ (λ d S2 q=>⟨λ y=>hE.rt _ _ (q.1 y),λ y=>hE.nx _ _ (q.2 y)⟩) z) z,λ EC s Y H D Q W hW I ⟨L,S,r1,r2,z⟩=>?_⟩
 refine wpAny_Expr_any (zC (XR (RV:=λ _ H'=>D.nx Y H') F (hr.mono hk) ha hg A7 he Am hn hW I r1 r2 z λ d S' q=>⟨λ y v H' a1 a2 a3=>q.2 y Y H' (r1.ext a2) a2 a3,λ y=>(q.1 y).2 y⟩) λ v s1 ⟨x,H1,I1,_,q1⟩=>⟨Y,H1,I1,q1⟩) I.quiet hs
end
section
variable {P:Program}{w:World}{K:Ab}{mg:Aq}{base:Heap}
def fnX {x qual:Str}{st:Stmt}{f:Addr}{fd:FuncData}{N ps:List Str}{k:Nat}{sp:wj}(F:vh K x qual st f fd) (Sc:zY N ps (zy st)) (len:∀ ds S Q,sp ds S Q->ds.length=ps.length)
  (Fb:∀ (Af:Value) (A:Around) (outer:List Env) (s:Shared) (H:Hp) (E:XK),ya k (A.deeper (envOfC qual (zy st) s.heap.objs.size f Af))->
   ∃ t,sE (wC xI P w K mg base N qual (zy st) f Af A outer s H E).vA false (xD st) t/\∀ ds S Q,sp ds S Q->t { nx:=λ _ S'=>Q .zk S',rt:=Q } (uF N ds) S):
  xy P w K mg base (o3 P w) (k+1) f fd ps (ck K sp):=by
 obtain⟨oc,od,kV,doc,pm,an,Af,ct,GQ,rfl,lk,A4⟩:=F.ex
 refine Z7 lk A4 Sc (λ vs H Q E ⟨ds,S,r1,_,z⟩=>by rw[<- r1.length];exact len _ _ _ z) λ A outer s H vs Q E hr B0=>⟨λ D Y H'=>D={ nx:=λ _ H'=>Q .zk H',rt:=Q }/\Y=start N vs/\H'=H,λ EC s1 Y H' D I ⟨e1,e2,e3⟩=>?_,rfl,rfl,rfl⟩
 subst e1 e2 e3
 obtain⟨t,hp,ht⟩:=Fb Af A outer s H' E hr
 obtain⟨ds,S,r1,r2,z⟩:=B0
 have cv:∀ {EC:Ag}{Y':St}{H'':Hp}{s':Shared},Inv (wC xI P w K mg base N qual (zy st) f Af A outer s H' E).vA EC Y' H'' s'->Inv (wC (o3 P w) P w K mg base N qual (zy st) f Af A outer s H' E) EC Y' H'' s':=λ J=>
  ⟨I.ok,J.os,J.bare,J.base,J.loc,J.cell,J.free,J.vc,J.pin,J.zp,J.len⟩
 have ok0:(wC xI P w K mg base N qual (zy st) f Af A outer s H' E).vA.Ok:=⟨I.ok.mod,I.ok.kind,I.ok.glob,I.ok.blt,I.ok.above,I.ok.inj,I.ok.has,I.ok.qu,I.ok.hd,I.ok.frames,I.ok.qL,I.ok.nN,I.ok.bs,I.ok.t9,I.ok.qe,I.ok.qo,I.ok.vl,I.ok.tY⟩
 have I0:Inv (wC xI P w K mg base N qual (zy st) f Af A outer s H' E).vA EC (start N vs) H' s1:=⟨ok0,I.os,I.bare,I.base,I.loc,I.cell,I.free,I.vc,I.pin,I.zp,I.len⟩
 refine KG (hp.px EC s1 (start N vs) H' { nx:=λ _ H'=>Q .zk H',rt:=Q } (λ e H2=>∀ T,H2 T=none->E (.ref e) none (upd H2 T (we T))) (wC (o3 P w) P w K mg base N qual (zy st) f Af A outer s H' E).xe ⟨λ v s' ⟨e,Fu,Y',H2,ev,_,J,ie,hf,q⟩=>?_,λ _=>PassesOwn.leaving⟩ I0
  ⟨uF N ds,S,yx.init r1,r2,hp.mo { nx:=λ _ S'=>t7 K H' Q (λ a H2=>E (.ref a) none H2) .zk S',rt:=t7 K H' Q λ a H2=>E (.ref a) none H2 } _ _ S ⟨fun L S' q Y2 H2 a1 a2 a3=>q.1 rfl .zk H2 (by simp only[zh]) a2 a3,λ d S' q=>⟨q.1,λ y a H2 a1 a2 a3 T hT=>?_⟩,λ _ _ q=>q.elim,λ _ _ q=>q.elim⟩ (ht ds S _ z)⟩) (λ fl s' q=>?_) λ _ _ z=>z
 ·subst ev
  have J':=cv J
  refine Q2 J' rfl rfl ie (hf.imp And.right id) λ h' T hT un zp f1=>?_
  obtain⟨C,dx,hE⟩:=ie
  exact⟨e,_,rfl,J'.os,J'.bare,Un.out J'.base un (K8 (Aj _)),zp,⟨C,dx,by rw[zF (xC hE hT)];exact hE⟩,f1,q T hT⟩
 ·have xT:Ext H2 (upd H2 T (we T)):=.new hT _
  exact q.2 y a _ (zh.ext xT d a1) (a2.trans xT) (a3.keep xT λ b u o _ c=>by rw[zF (xC c hT)];exact c)
 ·cases fl with
  | ret u=>obtain⟨v,Y',H',J,r,q⟩:=q;exact⟨v,Y',H',cv J,r,q⟩
  | _=>obtain⟨Y',H',J,q⟩:=q;exact⟨Y',H',cv J,q⟩
end
def yx.hole {K:Ab}{H:Hp}{L:yc}{Y:St}(i:Nat) (r:yx K H L Y):yx K H (L.set i none) (Y.set i none):=by
 refine⟨by rw[CO,CO];exact r.1,λ j c hc=>?_⟩
 rw[CM] at hc ⊢
 by_cases hj:i=j
 ·subst hj
  rw[if_pos rfl] at hc
  split at hc <;> cases hc
 ·rw[if_neg hj] at hc ⊢
  exact r.2 j c hc
def Yb (i j:Nat) (t:yh):yh:=λ E L S=>t ⟨E.nx,λ d S'=>vE d=true/\E.nx (((L.set i (some d)).set j (some d)).set i none) S',λ _ _=>False,λ _ _=>False⟩ L S
def UC {X:Cx}{t:yh}(i j:Nat) {n c:Str}{body:List Stmt}{p1 p2 p3 p4 CC pos:Pos}(hN:X.N.Nodup) (hb:sE X true body t) (A1:i≠j:=by decide) (hi:X.N[i]?=some n:=by rfl) (hj:X.N[j]?=some c:=by rfl)
  (hg:Gl X "PurseError":=by rfl) (BF:X.env.kindOf n=some .local:=by rfl) (D3:Loc X.env.scope c:=by first | exact Or.inl rfl | exact Or.inr rfl) (Et:X.fn c=true\/X.env.scope.names.lookup c=some .local:=by first | exact .inl rfl | exact .inr rfl)
  (BM:(n == ("__debug__":Str))=false:=by decide) (BU:(n == ("__classdict__":Str))=false:=by decide) (BS:swapsWith (.Name n p3) (some (.Name c p2)) p4.line X.env=pure false:=by rfl)
  (AJ:X.stack=X.env::X.outer:=by rfl) (AH:X.env.frame=some X.env.locals:=by rfl) (hn:∀ v s,¬ X.xe v s:=by exact λ _ _ z=>z):
  vV X (.Try body [.ExceptHandler (some (.Name "PurseError" p1)) (some n) [.Assign [.Name c p2] (.Name n p3) p4] CC] [] [] pos) (Yb i j t):=by
 refine⟨λ E E' L S hE z=>hb.mo ⟨E.nx,λ d S'=>vE d=true/\E.nx (((L.set i (some d)).set j (some d)).set i none) S',λ _ _=>False,λ _ _=>False⟩ ⟨E'.nx,λ d S'=>vE d=true/\E'.nx (((L.set i (some d)).set j (some d)).set i none) S',λ _ _=>False,λ _ _=>False⟩ L S ⟨hE.nx,λ d S' q=>⟨q.1,hE.nx _ _ q.2⟩,λ _ _ q=>q,λ _ _ q=>q⟩ z,λ EC s Y H D I ⟨L,S,r1,r2,z⟩=>?_⟩
 refine XO (Qx:=λ a H'=>∃ d S',vE d=true/\zh X.K H' d (.ref a)/\Ext H H'/\zE X.K H' S'/\(vN X.K H D).nx (((L.set i (some d)).set j (some d)).set i none) S') hn AJ AH hg hN hi BF hj D3 Et A1 BM BU BS I
  (hb.px EC s Y H D _ _ ⟨λ _ _ q=>q,nofun⟩ I ⟨L,S,r1,r2,hb.mo ⟨(vN X.K H D).nx,λ d S'=>vE d=true/\(vN X.K H D).nx (((L.set i (some d)).set j (some d)).set i none) S',λ _ _=>False,λ _ _=>False⟩ _ L S ⟨λ _ _ q=>q,λ d S' q=>⟨λ y=>?_,λ y a H' a1 a2 a3=>⟨d,S',y,a1,a2,a3,q.2⟩⟩,λ _ _ q=>q.elim,λ _ _ q=>q.elim⟩ z⟩) λ a H' ⟨d,S',hd,a1,a2,a3,q⟩=>⟨?_,λ T hT=>?_⟩
 ·rw[q.1] at y;cases y
 ·cases d with
  | err cn f x=>
   simp only[zh] at a1
   obtain⟨e,C,dx,w,e1,⟨h1,h2,h3⟩,_⟩:=a1
   cases e1
   exact⟨cn,C,dx,h1,h2⟩
  | _=>cases hd
 ·have xT:Ext H' (upd H' T (we T)):=.new hT _
  have rd:=zh.ext xT d a1
  exact q _ _ ((((r1.ext (a2.trans xT)).set i rd).set j rd).hole i) (a2.trans xT) (a3.keep xT λ b u o _ c=>by rw[zF (xC c hT)];exact c)
end L3
namespace L5
open PySem PySem.Spec L2 L3
open PyProof.Rows hiding St
noncomputable def yF:T->Bool
 | .err _ _ _=>true
 | _=>false
@[simp] theorem zai (c f:Str) (t:T):yF (.err c f t)=true:=rfl
@[simp] theorem zaf:yF .zk=false:=rfl
@[simp] theorem zak (b:Bool):yF (.bl b)=false:=rfl
@[simp] theorem zah (b:Int):yF (.int b)=false:=rfl
@[simp] theorem zae (b:Str):yF (.str b)=false:=rfl
@[simp] theorem zad (b:List T):yF (.tup b)=false:=rfl
@[simp] theorem zag (b:List T):yF (.lst b)=false:=rfl
@[simp] theorem zaj:yF .yT=false:=rfl
def oE {S:SS}{y:T}{d:D}(h:Sn S y d):vE d=yF y:=by
 cases y with
 | tup _=>simp only[Sn] at h;obtain⟨_,h,_⟩:=h;subst h;rfl
 | lst _=>
  simp only[Sn] at h
  obtain⟨_,h | ⟨_,h,_⟩,_⟩:=h
  ·rw[h.1];rfl
  ·subst h;rfl
 | yT=>simp only[Sn] at h;obtain⟨_,_,⟨h,_⟩,_⟩:=h;subst h;rfl
 | err _ _ _=>simp only[Sn] at h;obtain⟨_,h,_⟩:=h;subst h;rfl
 | _=>simp only[Sn] at h;subst h;rfl
def Ou {y:T}(h:yF y=true):∀ ts,y≠.lst ts:=λ ts e=>by subst e;cases h
@[simp] noncomputable def iG (c f:Str) (g:Ev->Option T):Sm:=fun J=>(g J).map λ y=>.rt (.err c f y)
@[simp] def c_ (g:Ev->Option T):Sm:=fun J=>(g J).bind λ y=>if yF y=true then none else some (.rt y)
@[simp] def l4 (F:List T->Option T) (g:Ev->Option (List T)):Sm:=fun J=>(g J).bind λ ys=>(F ys).map λ y=>if yF y=true then .rt y else .nx J
@[simp] def cy (i j:Nat) (g:Sm):Sm:=fun J=>(g J).bind λ o=>match o with
 | .nx J'=>some (.nx J')
 | .rt y=>if yF y=true then some (.nx (((J.set i none).set j (some (.im y))).set i none)) else none
 | _=>none
@[simp] def gr (F:List T->Option T):List T->Option T:=λ ys=>(F ys).bind λ y=>if yF y=true then none else some y
section
variable {R:Rk}{g h:Sm}{t:yh}{f:Ev->Option T}{te:zu}{S0 S:SS}{Z0 Z:Addr->Prop}{L:yc}{J:Ev}
def T9 [Cl R] {c x:Str}(hf:vg f te):ym R (iG c x f) (Yc c x te):=λ S0 Z0 S Z L J o E F e P=>by
 obtain⟨y,e1,rfl⟩:=AB.mp e
 refine hf S Z L J y _ F.er e1 λ d S1 s1 r1=>P _ S1 (F.sx.trans s1) (Cl.of (λ _=>nofun) ?_)
 simp only[Sn]
 exact⟨d,rfl,Sn.sx (uv F.zz) y r1⟩
def TB [Sr R] (hf:xv R f te):ym R (c_ f) (fS te):=λ S0 Z0 S Z L J o E F e P=>by
 obtain⟨y,e1,e2⟩:=Ak.mp e
 split at e2
 ·cases e2
 ·rename_i hy
  cases e2
  exact hf S Z L J y _ F.er e1 λ d S1 s1 r1=>⟨by rw[oE (Sr.sn r1)];simpa using hy,P d S1 (F.sx.trans s1) (Lo.lo F.sx F.zz r1)⟩
def ak (i:Nat):ym zD (rZ i) (fS (yt i)):=λ S0 Z0 S Z L J o E F e P=>by
 have q:=gh i S0 Z0 S Z L J o E F e P
 unfold rZ at e
 split at e
 ·rename_i ts h
  obtain⟨p,ob,h1,_⟩:=F.er.ow i _ h
  have q':yt i L S E.rt:=q
  show yt i L S λ d S1=>vE d=false/\E.rt d S1
  unfold yt at q' ⊢
  rw[h1] at q' ⊢
  exact⟨rfl,q'⟩
 ·cases e
def NH (S0:SS) (Z0:Addr->Prop) (S:SS) (Z:Addr->Prop) (o:Out) (E:tJ):Prop:=match o with
 | .nx J'=>∀ S' Z' L',FR S0 Z0 S' Z' L' J'->E.nx L' S'
 | .rt y=>yF y=true->∀ d S',Sx S S'->Sn (zJ S' Z) y d->E.rt d S'
 | _=>True
def mI (g:Sm) (t:yh):Prop:=∀ S0 Z0 S Z L J o E,FR S0 Z0 S Z L J->g J=some o->NH S0 Z0 S Z o E->t E L S
theorem mI.s [Cl R] (h:mI g t):ym R g t:=λ S0 Z0 S Z L J o E F e P=>by
 refine h S0 Z0 S Z L J o E F e ?_
 cases o with
 | nx J'=>exact P
 | rt y=>exact λ hy d S' s r=>P d S' (F.sx.trans s) (Cl.of (Ou hy) (Sn.sx (uv F.zz) y r))
 | _=>trivial
def ao [Sr R] {F:List T->Option T}{ga:Ev->Option (List T)}{ua:yk}(h:rF ga ua):mI (l4 F ga) (Z_ (zI R F) ua):=λ S0 Z0 S Z L J o E Fr e P=>by
 obtain⟨ys,e1,e2⟩:=Ak.mp e
 obtain⟨y,e3,rfl⟩:=AB.mp e2
 refine h S Z L J ys _ Fr.er e1 λ ds S1 s1 r1=>⟨Z,ys,y,(Fr.er.grow s1).zd,r1,e3,λ d S2 s2 r2=>⟨λ he=>?_,λ he=>?_⟩⟩
 ·rw[oE (Sr.sn r2)] at he
  rw[if_pos he] at P
  exact P he d S2 (s1.trans s2) (Sr.sn r2)
 ·rw[oE (Sr.sn r2)] at he
  rw[if_neg (by rw[he];decide)] at P
  exact P S2 Z L (Fr.grow (s1.trans s2))
def FR.hole (h:FR S0 Z0 S Z L J) (i:Nat) (v:Option D):FR S0 Z0 S Z (L.set i v) (J.set i none):=by
 refine⟨⟨h.er.zd,λ j t e=>?_,λ j ts e=>?_⟩,by simp[h.len],h.sx,h.z0,h.zz,h.zn,λ j ts p e e'=>?_,λ j k ts us p n e1 e2 e3 e4=>?_⟩
 ·rcases yz e with ⟨rfl,hl,e⟩ | ⟨n,e⟩
  ·cases e
  ·rw[xK n];exact h.er.im j t e
 ·rcases yz e with ⟨rfl,hl,e⟩ | ⟨n,e⟩
  ·cases e
  ·rw[xK n];exact h.er.ow j ts e
 ·rcases yz e with ⟨rfl,hl,e⟩ | ⟨n,e⟩
  ·cases e
  ·rw[xK n] at e';exact h.fr j ts p e e'
 ·rcases yz e1 with ⟨rfl,hl,e⟩ | ⟨n1,e1⟩
  ·cases e
  rcases yz e2 with ⟨rfl,hl,e⟩ | ⟨n2,e2⟩
  ·cases e
  rw[xK n1] at e3;rw[xK n2] at e4
  exact h.dj j k ts us p n e1 e2 e3 e4
def T5 (i j:Nat) (hg:mI g t):ym R (cy i j g) (Yb i j t):=λ S0 Z0 S Z L J o E F e P=>by
 obtain⟨o1,e1,e2⟩:=Ak.mp e
 refine hg S0 Z0 S Z L J o1 _ F e1 ?_
 cases o1 with
 | nx J'=>cases e2;exact P
 | rt y=>
  dsimp only at e2 ⊢
  split at e2
  ·rename_i hy
   cases e2
   exact λ _ d S' s r=>⟨by rw[oE r];exact hy,P S' Z _ ((((F.grow s).hole i (some d)).qR j r).hole i none)⟩
  ·cases e2
 | _=>trivial
end
section
variable {P:Program}{w:World}{K:Ab}{mg:Aq}{base:Heap}{x:Str}{st:Stmt}
def fF {R:Rk} [Lo R] {N ps:List Str}{k n:Nat}{g:Sm}(F:Fy K mg x st) (Sc:zY N ps (zy st)) (hn:n=ps.length)
  (hb:∀ (kV doc pm:Value) (an:Option Addr) (Af ct:Value) (us:Ad),us.length=ps.length->bindArgs (PySem.W.fnOf x x (vO st) (xD st) (zy st) .none kV doc pm an Af ct) ⟨us,[]⟩=pure (ps.zip us))
  (Fb:∀ (f:Addr) (Af:Value) (A:Around) (outer:List Env) (s:Shared) (H:Hp) (E:XK),ya k (A.deeper (envOfC x (zy st) s.heap.objs.size f Af))->
   ∃ t,sE (wC xI P w K mg base N x (zy st) f Af A outer s H E).vA false (xD st) t/\ym R g t):uD P w K mg base x (k+1) ps (zI R (z_ N n g)):=by
 obtain⟨f,fd,F,hm⟩:=F
 refine⟨⟨f,fd,fnX F Sc (λ ds S Q h=>by rw[h.len,hn]) λ Af A outer s H E hr=>?_,hm,F.kp,F.binds hb⟩,zI.mo⟩
 obtain⟨t,h1,h2⟩:=Fb f Af A outer s H E hr
 exact⟨t,h1,λ ds S Q h=>Yx h2 h⟩
def uD.no {R:Rk} [Sr R] {k:Nat}{ps:List Str}{F:List T->Option T}(G:uD P w K mg base x k ps (zI R F)):FD P w K mg base x k ps (zI R (gr F)):=by
 obtain⟨⟨f,fd,h1,h2⟩,hm⟩:=G.fd
 refine⟨⟨f,fd,h1.imp λ vs H Q E ⟨ds,S,r1,r2,Z,ys,y,a1,a2,a3,a4⟩=>⟨ds,S,r1,r2,?_⟩,h2⟩,zI.mo⟩
 obtain⟨z,b1,b2⟩:=Ak.mp a3
 split at b2
 ·cases b2
 ·rename_i hy
  cases b2
  exact⟨Z,ys,y,a1,a2,b1,λ d S' s r=>⟨by rw[oE (Sr.sn r)];simpa using hy,a4 d S' s r⟩⟩
end
end L5
namespace L3
open PySem PySem.Spec L2
open PyProof.Rows hiding St
structure eK (K:Ab) (cn:Str) (D:Addr):Prop where
 top:PySem.W.nsIn K mainGlobals cn=some (some (.ref D))
 own:∃ bm N,rD K cn D bm N
noncomputable def Qc (o:Obj):Option Str:=match o.data with
 | .cls cd=>some cd.name
 | _=>none
def rD.nm {K:Ab}{c:Str}{C N:Addr}{bm:Ad}(h:rD K c C bm N):(K.lookup C).bind Qc=some c:=by
 obtain⟨⟨q,bs,sn,sub,ab,col,dd,k0,k1,k2,k3,k5,e⟩,_⟩:=h
 rw[e];rfl
def Zc {K:Ab}{c cn:Str}{C P N NP D:Addr}(E:rM K c C P N NP) (G:eK K cn D):(Value.ref C::.ref P::vQ).contains (.ref D)=(decide (cn=c)||decide (cn="PurseError")):=by
 obtain⟨bm,N',g⟩:=G.own
 by_cases h1:cn=c
 ·subst h1
  have:=G.top.symm.trans E.top
  cases this
  simp
 ·by_cases h2:cn="PurseError"
  ·subst h2
   have:=G.top.symm.trans E.b6
   cases this
   simp
  ·have d1:D≠C:=λ z=>by
    subst z
    have:=g.nm.symm.trans E.own.nm
    cases this;exact h1 rfl
   have d2:D≠P:=λ z=>by
    subst z
    have:=g.nm.symm.trans E.par.nm
    cases this;exact h2 rfl
   have b1:(Value.ref D == Value.ref C)=false:=by simpa using d1
   have b2:(Value.ref D == Value.ref P)=false:=by simpa using d2
   rw[Bf,Bf,b1,b2,KI h1,KI h2]
   rfl
inductive rH (K:Ab) (c:Str):V->Bool->Prop where
 | own {cn:Str}{D:Addr}(g:eK K cn D):rH K c (.ref D) (decide (cn=c)||decide (cn="PurseError"))
 | val:rH K c (.ty "ValueError") true
def Nr {X:Cx}:yB X (.builtin "isinstance") (λ xs H Q=>∃ e C dx c k b,xs=[.ref e,k]/\H e=some (wD e C dx)/\vZ X.K c C/\rH X.K c k b/\Q (.bl b) H):=by
 intro EC s Y H xs us Q I r h
 obtain⟨e,C,dx,c,k,b,rfl,h1,⟨P,N,NP,h2⟩,h3,q⟩:=h
 cases r with
 | cons ra rb=>
 cases rb with
 | cons rb rc=>
 cases rc
 rename_i u1 u2
 obtain rfl:u1=Value.ref e:=ra
 obtain⟨hh,g,d,t,os⟩:=s
 obtain⟨⟨oe,vs,he,hc,CG,CH⟩,_⟩:=I.zp e _ h1
 cases h3 with
 | @own cn D G=>
  obtain rfl:u2=Value.ref D:=rb
  obtain⟨bm,N',o⟩:=id G.own
  obtain⟨⟨q1,bs,sn,sub,ab,col,dd,k0,k1,k2,k3,k5,hD⟩,_⟩:=o.at I.yr
  refine jC (b:=(Value.ref C::.ref P::vQ).contains (.ref D)) (λ prog w A Q' E hq=>dN (h2.l6 I.yr) he hc hD rfl rfl hq) λ t'=>⟨.bl _,H,I.tok t',rfl,?_⟩
  rw[Zc h2 G];exact q
 | val=>
  obtain rfl:u2=Value.type "ValueError":=rb
  exact jC (b:=true) (λ prog w A Q' E hq=>dM (T:="ValueError") (h2.l6 I.yr) he hc (by kernel_rfl) hq) λ t'=>⟨.bl _,H,I.tok t',rfl,q⟩
def pM (k:Str->Bool) (te:zu):zu:=fun L S Q=>te L S λ x S1=>match x with
 | .err c _ _=>Q (.bl (k c)) S1
 | _=>False
def Yg (f:Str) (te:zu):zu:=fun L S Q=>te L S λ x S1=>match x with
 | .err _ f' d=>f'=f/\Q d S1
 | _=>False
section
variable {X:Cx}{e:Expr}{te:zu}{p q pos:Pos}
def bR {cn:Str}{V0:V}{k:Str->Bool}(hk:∀ c,rH X.K c V0 (k c)) (hp:PE X (.Name cn q) (tC V0)) (T:Bt X.mg) (he:PD X e te) (hg:Gl X "isinstance":=by rfl) (h1:starEach (e::[.Name cn q]) X.env=(false,eval e X.env)::starEach [.Name cn q] X.env:=by rfl) (h2:(backTo pos (starEach [.Name cn q] X.env)).any (·.1)=false:=by rfl) (h3:starEach [.Name cn q] X.env=(false,eval (.Name cn q) X.env)::starEach [] X.env:=by rfl):
  PD X (.Call (.Name "isinstance" p) [e,.Name cn q] [] pos) (pM k te):=by
 refine⟨fun L S Q Q' hq z=>he.mo L S _ _ (λ y S1 z=>?_) z,PE.imp (uG Nr hg T.isinstance boot_isinstance (v9 he.pe (v9 hp tf h3) h1) (by decide) (by decide) h1 h2) fun Y H Q hu=>?_⟩
 ·split at z
  ·exact hq _ _ z
  ·exact z.elim
 ·obtain⟨L,S,r1,r2,z⟩:=hu
  refine zK.go he.mo r1 r2 z λ x S1 v H1 h1 q1 e1 p1=>?_
  cases x with
  | err c f d=>
   simp only[zh] at q1
   obtain⟨a,C,dx,w,rfl,⟨hE,h2,h3⟩,_⟩:=q1
   exact⟨a,C,dx,c,V0,k c,rfl,h2,hE,hk c,h1 _ H1 (by simp only[zh]) e1 p1⟩
  | _=>exact h1.elim
def bU {f:Str}(he:PD X e te) (hf:f∈rf:=by simp) (hb:attributeBase e f X.env (eval e X.env)=eval e X.env:=by rfl):PD X (.Attribute e f pos) (Yg f te):=by
 refine⟨fun L S Q Q' hq z=>he.mo L S _ _ (λ y S1 z=>?_) z,λ EC s Y H Q I hu=>?_⟩
 ·split at z
  ·exact⟨z.1,hq _ _ z.2⟩
  ·exact z.elim
 obtain⟨L,S,r1,r2,z⟩:=hu
 refine N5 hb (zC (he.pe EC s Y H (λ x H1=>∃ a C dx c w,x=.ref a/\vZ X.K c C/\H1 a=some (wD a C dx)/\H1 dx=some (.xd [(f,w)])/\Q w H1) I (zK.go he.mo r1 r2 z λ x S1 v H1 h1 q1 e1 p1=>?_)) λ u s1 ⟨x,H1,I1,rx,a,C,dx,c,w,ex,⟨P,N,NP,hE⟩,h1,h2,q⟩=>?_)
 ·cases x with
  | err c f' d=>
   simp only[zh] at q1
   obtain⟨a,C,dx,w,rfl,⟨hE,h2,h3⟩,h4⟩:=q1
   obtain⟨rfl,h1⟩:=h1
   exact⟨a,C,dx,c,w,rfl,hE,h2,h3,h1 w H1 h4 e1 p1⟩
  | _=>exact h1.elim
 ·subst ex
  obtain rfl:u=Value.ref a:=rx
  obtain⟨hh,g,d,t,os⟩:=s1
  obtain⟨⟨oe,vs,he,hc,CG,CH⟩,_⟩:=I1.zp a _ h1
  obtain⟨mA,Bw,hr⟩:=I1.zp dx _ h2
  have hv:=hr f
  simp only[Bg,beq_self_eq_true,if_true] at hv
  obtain⟨u',Hy,ru⟩:∃ u',mA f=some u'/\RelV w u':=by
   cases z:mA f with
   | none=>rw[z] at hv;exact hv.elim
   | some u'=>rw[z] at hv;exact⟨u',rfl,hv⟩
  obtain⟨⟨q1,bs,sn,sub,ab,col,dd,k0,k1,k2,k3,k5,hC⟩,hN,hn⟩:=hE.own.at I1.yr
  obtain⟨⟨q',Ic,HM,Gz,Ie,GF,G0,l0,l1,l2,l3,l5,hP⟩,HF,Gk⟩:=hE.par.at I1.yr
  have m1:("__getattribute__":Str)∈sX:=by simp
  have m2:("__getattr__":Str)∈sX:=by simp
  exact XG PySem.F.attrBase_ValueError hC hN ⟨⟨_,_,_,_,hP,HF⟩⟩ (hn _ m1) (Gk _ m1) (hn _ m2) (Gk _ m2) (hn _ (kJ hf)) (Gk _ (kJ hf)) (dX hf) he hc (λ c z=>by rw[CH] at z;cases z) CG Bw Hy (PySem.W.handedOut_of (Pt ru)) ⟨w,H1,I1.tok _,ru,q⟩
end
end L3
namespace L5
open PySem PySem.Spec L2 L3
open PyProof.Rows hiding St
@[simp] noncomputable def nF (k:Str->Bool) (g:Ev->Option T):Ev->Option T:=fun J=>(g J).bind λ x=>match x with
 | .err c _ _=>some (.bl (k c))
 | _=>none
@[simp] noncomputable def fE (f:Str) (g:Ev->Option T):Ev->Option T:=fun J=>(g J).bind λ x=>match x with
 | .err _ f' t=>if f'=f then some t else none
 | _=>none
def Ry {k:Str->Bool}{g:Ev->Option T}{te:zu}(hf:yH g te):xO (nF k g) (pM k te):=λ S Z L J y Q hE e hq=>by
 obtain⟨x,e1,e2⟩:=Ak.mp e
 refine hf S Z L J x _ hE e1 λ d S1 s1 r1=>?_
 split at e2
 ·cases e2
  obtain⟨d',rfl,_⟩:=Vw.err r1
  exact hq _ S1 s1 (Cl.of (λ _=>nofun) wG)
 ·cases e2
def ar {f:Str}{g:Ev->Option T}{te:zu}(hf:yH g te):vg (fE f g) (Yg f te):=λ S Z L J y Q hE e hq=>by
 obtain⟨x,e1,e2⟩:=Ak.mp e
 refine hf S Z L J x _ hE e1 λ d S1 s1 r1=>?_
 split at e2
 ·split at e2
  ·rename_i h
   cases e2
   obtain⟨d',rfl,h2⟩:=Vw.err r1
   exact⟨h,hq _ S1 s1 h2⟩
  ·cases e2
 ·cases e2
end L5
namespace L3
open PySem PySem.Spec L2
open PyProof.Rows hiding St
def Ec (K:Ab) (c:Str):Prop:=∃ C P N NP,rM K c C P N NP
def Ec.i {K:Ab}{c:Str}{C P:Addr}{o1 o2:Value}{d1 d2:Option Addr}{c1 c2:ClassData}{s1 s2:Array (Option Value)}(_:PySem.W.nsIn K mainGlobals c=some (some (.ref C))) (_:PySem.W.nsIn K mainGlobals "PurseError"=some (some (.ref P))) (_:K.lookup C=some ⟨o1,d1,.cls c1,s1⟩) (_:K.lookup P=some ⟨o2,d2,.cls c2,s2⟩)
  (h:kO K c=some (C,P,c1.ns,c2.ns)):Ec K c:=⟨C,P,_,_,ZH h⟩
def Ei (K:Ab) (c f:Str) (st:Stmt):Prop:=∃ (C P N NP fI:Addr) (fd:FuncData),rM K c C P N NP/\PySem.W.keepIn K (.ref C)=true/\PySem.W.nsIn K N "__init__"=some (some (.ref fI))/\PySem.W.isFn K (.ref fI)=true/\vh K "__init__" (c++".__init__") st fI fd
def Ei.i {K:Ab}{c f:Str}{st:Stmt}{C P fI:Addr}{o1 o2:Value}{d1 d2:Option Addr}{c1 c2:ClassData}{s1 s2:Array (Option Value)}(_:PySem.W.nsIn K mainGlobals c=some (some (.ref C))) (_:PySem.W.nsIn K mainGlobals "PurseError"=some (some (.ref P))) (_:K.lookup C=some ⟨o1,d1,.cls c1,s1⟩) (_:K.lookup P=some ⟨o2,d2,.cls c2,s2⟩)
  (h:kO K c=some (C,P,c1.ns,c2.ns)) (k:PySem.W.keepIn K (.ref C)=true) (n:PySem.W.nsIn K c1.ns "__init__"=some (some (.ref fI))) (g:PySem.W.isFn K (.ref fI)=true)
  {oc:Value}{od an:Option Addr}{GQ:Array (Option Value)}{kV doc pm Af ct:Value}(l:K.lookup fI=some ⟨oc,od,.func (PySem.W.fnOf "__init__" (c++".__init__") (vO st) (xD st) (zy st) .none kV doc pm an Af ct),GQ⟩)
  (cd:PySem.W.codeIn K Af (c++".__init__")=true) (k2:PySem.W.keepIn K (.ref fI)=true):Ei K c f st:=⟨C,P,_,_,fI,_,ZH h,k,n,g,fy l cd k2⟩
def Og (K:Ab) (mg:Aq) (cn:Str):Prop:=∃ D,eK K cn D/\mg cn=some (.ref D)
section
variable {K:Ab}{mg:Aq}{h:Heap}{c f:Str}{st:Stmt}
def Ei.mk (H:Ei K c f st) (X:K.In h) (G:h.Ns mainGlobals mg) (hf:f∈rf:=by simp):mM K mg c f st:=by
 obtain⟨C,P,N,NP,fI,fd,e,k,n,g,F⟩:=H
 exact⟨hf,C,P,N,NP,fI,fd,e,PySem.W.mg_of X G e.top,k,n,g,F⟩
def Ec.mk (H:Ec K c) (X:K.In h) (G:h.Ns mainGlobals mg):Og K mg c:=by
 obtain⟨C,P,N,NP,e⟩:=H
 exact⟨C,⟨e.top,_,_,e.own⟩,PySem.W.mg_of X G e.top⟩
end
noncomputable def vb (cn:Str) (c:Str):Bool:=decide (cn=c)||decide (cn="PurseError")
section
variable {X:Cx}{e:Expr}{te:zu}{p q pos:Pos}
def bQ {cn:Str}(O:Og X.K X.mg cn) (T:Bt X.mg) (he:PD X e te) (hd:(cn == ("__debug__":Str))=false:=by decide) (GD:Gl X cn:=by rfl) (hg:Gl X "isinstance":=by rfl) (h1:starEach (e::[.Name cn q]) X.env=(false,eval e X.env)::starEach [.Name cn q] X.env:=by rfl) (h2:(backTo pos (starEach [.Name cn q] X.env)).any (·.1)=false:=by rfl) (h3:starEach [.Name cn q] X.env=(false,eval (.Name cn q) X.env)::starEach [] X.env:=by rfl):
  PD X (.Call (.Name "isinstance" p) [e,.Name cn q] [] pos) (pM (vb cn) te):=by
 obtain⟨D,o,hm⟩:=O
 exact bR (V0:=.ref D) (λ c=>.own o) (iY GD hm rfl hd) T he hg h1 h2 h3
def N0:bootBuiltins "ValueError"=some (.type "ValueError"):=by decide +kernel
def nj (hm:X.mg "ValueError"=none) (T:Bt X.mg) (he:PD X e te) (GD:Gl X "ValueError":=by rfl) (hg:Gl X "isinstance":=by rfl) (h1:starEach (e::[.Name "ValueError" q]) X.env=(false,eval e X.env)::starEach [.Name "ValueError" q] X.env:=by rfl) (h2:(backTo pos (starEach [.Name "ValueError" q] X.env)).any (·.1)=false:=by rfl) (h3:starEach [.Name "ValueError" q] X.env=(false,eval (.Name "ValueError" q) X.env)::starEach [] X.env:=by rfl):
  PD X (.Call (.Name "isinstance" p) [e,.Name "ValueError" q] [] pos) (pM (λ _=>true) te):=
 bR (V0:=.ty "ValueError") (λ c=>.val) (bF GD hm N0 rfl (by decide) (by decide)) T he hg h1 h2 h3
end
end L3
namespace L5
open PySem PySem.Spec L2 L3
open PyProof.Rows hiding St
noncomputable def Yn:Stmt->List Stmt
 | .ClassDef _ _ _ b _ _ _ _ _ _ _=>b
 | _=>[]
def Oi {P:Program}{w:World}{K:Ab}{mg:Aq}{base:Heap}{x:Str}{st:Stmt}{R:Rk}{ps:List Str}{k:Nat}(F:Fy K mg x st)
  (hb:∀ (kV doc pm:Value) (an:Option Addr) (Af ct:Value) (us:Ad),us.length=ps.length->bindArgs (PySem.W.fnOf x x (vO st) (xD st) (zy st) .none kV doc pm an Af ct) ⟨us,[]⟩=pure (ps.zip us)):FD P w K mg base x k ps (zI R λ _=>none):=by
 obtain⟨f,fd,F,hm⟩:=F
 exact⟨⟨f,fd,⟨λ vs H Q E ⟨ds,S,r1,r2,Z,ys,y,_,_,e,_⟩=>(nomatch e),λ A outer s H args us vs Q E _ _ _ _ ⟨ds,S,_,_,Z,ys,y,_,_,e,_⟩=>(nomatch e)⟩,hm,F.kp,F.binds hb⟩,zI.mo⟩
end L5
namespace PySem
section
variable {prog:Program}{w:World}{A:Around}{E:Ae}{h:Heap}{g:Array GenState}{d:Drawn}{t:Nat}{os:OsState}{x C tp:Addr}{o:Obj}{c:Value}{b:Bool}
def dR (hn:∀ (prog:Program) (w:World) (A:Around) (Q:Fin->Shared->Prop) (E:Ae) (g:Array GenState) (d:Drawn) (t:Nat) (os:OsState) (dep:Int) (tk:Tok),(∀ t',Q (.done (.ret (.bool b))) ⟨h,g,d,t',os⟩)->wpAny (model prog w) A (Builtin.«isinstance.nested» ⟨[.ref x,c,.int dep tk],[]⟩) Q E ⟨h,g,d,t,os⟩):Answers (λ s=>s.heap=h) (.ref x) c b:=λ dep tk prog w A R s ⟨e,q⟩=>by
 obtain⟨hh,g,d,t,os⟩:=s
 subst e
 exact hn _ _ _ _ _ _ _ _ _ _ _ λ t'=>q t'
def XF {tk:Tok}{Q:Fin->Shared->Prop}{cs:Ad}{bs:List Bool}(hx:h.get? x=some o) (hc:o.cls=.ref C) (An:C≠tp) {ot:Obj}{n:Nat}(ht:h.get? tp=some ot) (CU:ot.cls=.type "tuple") (htd:ot.data=.seq cs.toArray n)
  (Aw:AnswersAll (λ s=>s.heap=h) (.ref x) cs bs) (hq:∀ t',Q (.done (.ret (.bool (bs.any id)))) ⟨h,g,d,t',os⟩):
  wpAny (model prog w) A (Builtin.«isinstance.nested» ⟨[.ref x,.ref tp,.int 0 tk],[]⟩) Q E ⟨h,g,d,t,os⟩:=by
 have Ey:(Value.ref C == Value.ref tp)=false:=by simpa using An
 have hs:=F.isi_sub_tuple
 have hl:¬ (0:Int)≥Builtin.Builtins.nestingLimit:=by decide
 repeat (any_goals (first | assumption | (with_reducible refine KD hx ?_;rw[hc]) | (with_reducible refine KD ht ?_;rw[CU]) | (with_reducible refine KD ht ?_;rw[htd]) | (with_reducible refine wpAny_load' ht ?_;rw[htd]) | wp_step))
 refine wpAny_arrayLoop (isinstance_items (P:=λ s=>s.heap=h) (λ _ _ e=>e) cs bs _ _ Aw rfl λ t'=>?_)
 have:=hq t'
 generalize bs.any id=z at *
 cases z <;> exact Ac this
end
end PySem
namespace L3
open PySem PySem.Spec L2
open PyProof.Rows hiding St
def Pp {X:Cx}{EC:Ag}{Y:St}{H:Hp}{s:Shared}(I:Inv X EC Y H s) {e C:Addr}{c:Str}{k:V}{b:Bool}{u:Value}{oe:Obj}(he:s.heap.get? e=some oe) (hc:oe.cls=.ref C) (hE:vZ X.K c C) (hk:rH X.K c k b) (ru:RelV k u):Answers (λ z=>z.heap=s.heap) (.ref e) u b:=by
 obtain⟨P,N,NP,h2⟩:=hE
 cases hk with
 | @own cn D G=>
  obtain rfl:u=Value.ref D:=ru
  obtain⟨bm,N',o⟩:=id G.own
  obtain⟨⟨q1,bs,sn,sub,ab,col,dd,k0,k1,k2,k3,k5,hD⟩,_⟩:=o.at I.yr
  refine dR λ prog w A Q E g d t os dep tk hq=>?_
  rw[<- Zc h2 G] at hq
  exact dN (h2.l6 I.yr) he hc hD rfl rfl hq
 | val=>
  obtain rfl:u=Value.type "ValueError":=ru
  exact dR λ prog w A Q E g d t os dep tk hq=>dM (T:="ValueError") (h2.l6 I.yr) he hc (by kernel_rfl) hq
def Nq {X:Cx}:yB X (.builtin "isinstance") (λ xs H Q=>∃ e C dx c tp ks bs,xs=[.ref e,.ref tp]/\H e=some (wD e C dx)/\vZ X.K c C/\H tp=some (.tup ks)/\Paired (rH X.K c) ks bs/\Q (.bl (bs.any id)) H):=by
 intro EC s Y H xs us Q I r h
 obtain⟨e,C,dx,c,tp,ks,bs,rfl,h1,hE,h3,hp,q⟩:=h
 cases r with
 | cons ra rb=>
 cases rb with
 | cons rb rc=>
 cases rc
 rename_i u1 u2
 obtain rfl:u1=Value.ref e:=ra
 obtain rfl:u2=Value.ref tp:=rb
 obtain⟨⟨oe,vs,he,hc,CG,CH⟩,_⟩:=I.zp e _ h1
 obtain⟨hz,us,rv,ot,ht,CU,n,hts⟩:=I.zp tp _ h3
 obtain⟨hh,g,d,t,os⟩:=s
 have An:C≠tp:=λ z=>by
  subst z
  obtain⟨P,N,NP,h2⟩:=hE
  obtain⟨⟨q1,bs,sn,sub,ab,col,dd,k0,k1,k2,k3,k5,hD⟩,_⟩:=h2.own.at I.yr
  have:=hD.symm.trans ht
  cases this
  have CU:Value.type "type"=.type "tuple":=CU
  revert CU;decide
 have Aw:AnswersAll (λ z=>z.heap=hh) (.ref e) us bs:=by
  clear h3 ht hts q hz
  induction hp generalizing us with
  | nil=>cases rv;trivial
  | cons a _ ih=>cases rv with | cons m n=>exact⟨Pp I he hc hE a m,ih _ n⟩
 exact jC (b:=bs.any id) (λ prog w A Q' E hq=>XF he hc An ht CU hts Aw hq) λ t'=>⟨.bl _,H,I.tok t',rfl,q⟩
noncomputable def rR:List V->TA
 | []=>oA
 | v::vs=>oB (tC v) (rR vs)
theorem rR.go {Y:St}{H:Hp}{Q:List V->Hp->Prop}:∀ {vs:List V},Q vs H->rR vs Y H Q
 | [],h=>h
 | _::vs,h=>rR.go (vs:=vs) (Q:=λ xs H=>Q (_::xs) H) h
def UP {X:Cx}{e:Expr}{te:zu}{p q pos:Pos}{es:List Expr}{x1} {vs:List V}{ks:List (Str->Bool)}(hk:∀ c,Paired (rH X.K c) vs (ks.map λ k=>k c)) (hp:PA X es (rR vs)) (T:Bt X.mg) (he:PD X e te) (hl:vs.length<=sizeLine:=by decide) (hg:Gl X "isinstance":=by rfl) (h1:starEach (e::[.Tuple es x1 q]) X.env=(false,eval e X.env)::starEach [.Tuple es x1 q] X.env:=by rfl) (h2:(backTo pos (starEach [.Tuple es x1 q] X.env)).any (·.1)=false:=by rfl) (h3:starEach [.Tuple es x1 q] X.env=(false,eval (.Tuple es x1 q) X.env)::starEach [] X.env:=by rfl):
  PD X (.Call (.Name "isinstance" p) [e,.Tuple es x1 q] [] pos) (pM (λ c=>ks.any λ k=>k c) te):=by
 refine⟨fun L S Q Q' hq z=>he.mo L S _ _ (λ y S1 z=>?_) z,PE.imp (uG Nq hg T.isinstance boot_isinstance (v9 he.pe (v9 (bD hp) tf h3) h1) (by decide) (by decide) h1 h2) fun Y H Q hu=>?_⟩
 ·split at z
  ·exact hq _ _ z
  ·exact z.elim
 ·obtain⟨L,S,r1,r2,z⟩:=hu
  refine zK.go he.mo r1 r2 z λ x S1 v H1 h1 q1 e1 p1=>?_
  cases x with
  | err c f d=>
   simp only[zh] at q1
   obtain⟨a,C,dx,w,rfl,⟨hE,h2,h3⟩,_⟩:=q1
   refine rR.go ⟨hl,λ tp ht=>⟨a,C,dx,c,tp,vs,_,rfl,?_,hE,ye,hk c,?_⟩⟩
   ·rw[zF λ z=>by rw[z,ht] at h2;cases h2];exact h2
   ·rw[List.any_map]
    exact h1 _ _ (by simp only[zh];rfl) (e1.trans (.new ht _)) (p1.new ht)
  | _=>exact h1.elim
structure v_ (X:Cx) (es:List Expr) (vs:List V) (ks:List (Str->Bool)):Prop where
 h:∀ c,Paired (rH X.K c) vs (ks.map λ k=>k c)
 p:PA X es (rR vs)
theorem v_.nil {X:Cx}:v_ X [] [] []:=⟨λ _=>.nil,tf⟩
theorem v_.cons {X:Cx}{cn:Str}{q:Pos}{es:List Expr}{ks:List (Str->Bool)}(O:Og X.K X.mg cn) (H:∃ vs,v_ X es vs ks) (hd:(cn == ("__debug__":Str))=false:=by decide) (hg:Gl X cn:=by rfl) (hs:starEach (.Name cn q::es) X.env=(false,eval (.Name cn q) X.env)::starEach es X.env:=by rfl):∃ vs,v_ X (.Name cn q::es) vs (vb cn::ks):=by
 obtain⟨D,o,hm⟩:=O
 obtain⟨vs,H⟩:=H
 exact⟨.ref D::vs,λ c=>.cons (.own o) (H.h c),v9 (iY hg hm rfl hd) H.p hs⟩
def UQ {X:Cx}{e:Expr}{te:zu}{p q pos:Pos}{es:List Expr}{x1} {ks:List (Str->Bool)}(H:∃ vs,v_ X es vs ks) (T:Bt X.mg) (he:PD X e te) (hl:ks.length<=sizeLine:=by decide) (hg:Gl X "isinstance":=by rfl) (h1:starEach (e::[.Tuple es x1 q]) X.env=(false,eval e X.env)::starEach [.Tuple es x1 q] X.env:=by rfl) (h2:(backTo pos (starEach [.Tuple es x1 q] X.env)).any (·.1)=false:=by rfl) (h3:starEach [.Tuple es x1 q] X.env=(false,eval (.Tuple es x1 q) X.env)::starEach [] X.env:=by rfl):
  PD X (.Call (.Name "isinstance" p) [e,.Tuple es x1 q] [] pos) (pM (λ c=>ks.any λ k=>k c) te):=by
 obtain⟨vs,H⟩:=H
 refine UP H.h H.p T he ?_ hg h1 h2 h3
 rw[(H.h "").length,AD];exact hl
section
variable {X:Cx}{e:Expr}{es:List Expr}{tA:yk}{pos p:Pos}
def za (i:Nat) {x:Str}(hN:X.N[i]?=some x:=by rfl) (hv:mF X.env.scope x:=by first | exact Or.inl rfl | exact Or.inr (Or.inl rfl) | exact Or.inr (Or.inr rfl)) (hd:(x == ("__debug__":Str))=false:=by decide) (A4:(x == ("__classdict__":Str))=false:=by decide):PD X (.Name x pos) (yt i):=UL i (pv i hN hv hd A4)
def zQ {x:Str}{k k':Nat}{ps:List Str}{sp:wj}(F:FD X.prog X.w X.K X.mg X.base x k ps sp) (hr:ya k' X.A) (ha:xi X (e::es) tA) (hk:k<=k':=by decide) (hg:Gl X x:=by rfl) (A7:(x == ("__debug__":Str))=false:=by decide)
  (he:starEach (e::es) X.env=(false,eval e X.env)::starEach es X.env:=by rfl) (Am:(backTo pos (starEach es X.env)).any (·.1)=false:=by rfl):PD X (.Call (.Name x p) (e::es) [] pos) (k_ sp tA):=bW F (hr.mono hk) ha hg A7 he Am
end
def yj {N P:List Str}{sc:Scope}(h1:sc.kind=.function:=by rfl) (h2:sc.isCoroutine=false:=by rfl) (h3:sc.isGenerator=false:=by rfl) (h4:N.Nodup:=by decide +kernel) (h5:N.take P.length=P:=by rfl) (h6:∀ x∈P,sc.names.lookup x=some .local\/sc.names.lookup x=some .cell:=by decide +kernel) (h7:∀ y∈sc.names,y.2≠.free:=by decide +kernel):zY N P sc:=⟨h1,h2,h3,h4,h5,h6,h7⟩
def wY (l:List Str) (h:l.Nodup:=by decide +kernel):l.Nodup:=h
end L3
namespace L5
open L2 L3
def yq {R:Rk}{g:Sm}{t:yh}(h:ym R g t:=by
 repeat' first
  | (with_reducible first | exact S8 _ | apply RM | apply SR | apply R1)
  | (with_reducible first | exact aq _ | refine qd (R:=xG) Zw ?_ ?_ | refine gi (R:=xG) ?_ | apply ar | apply au | apply av)
  | ((try first | refine xv.fr ?_ | refine xv.fe ?_);with_reducible first | exact Rz _ | refine qd (R:=zD) (by with_reducible first | exact good_add | exact gZ | exact PO | exact PN | exact PM | exact g_ | exact fh | exact fj | exact PB | exact Zv) ?_ ?_ | refine gi (R:=zD) ?_ | refine RE (R:=zD) (by with_reducible first | exact PL | exact Px | exact PK | exact PH | exact PC | exact PQ | exact P0 | exact Py | exact PJ | exact good_int) ?_ | apply S9 | apply SG | apply SY | apply R5 | apply S_ | exact RK _ | exact SH _ | exact SU | apply Rb | apply R0 | apply SX | refine RD (by with_reducible first | exact gZ | exact g_ | exact fh | exact fj) (by with_reducible first | exact gZ | exact g_ | exact fh | exact fj) ?_ ?_ ?_ | apply SM | exact RA _ | apply Ry)
  | (refine xv.er ?_;with_reducible first | exact aq _ | refine qd (R:=xG) Zw ?_ ?_ | refine gi (R:=xG) ?_ | apply ar | apply au | apply av)
  | (with_reducible first | apply T7 | apply TV | apply TH | exact T6 | apply TC | apply TX | apply TU | apply TK | apply T4 | exact gh _ | apply TN | apply TJ | apply TL | exact TR _ | apply TQ | apply TF | apply T9 | apply TB | apply T5 | apply ao)
  | (refine mI.s ?_;with_reducible first | apply ao)
  | exact ak _
  | (with_reducible first | exact Sy | apply Sz | exact Su | apply Sv | apply SA | apply SE | apply R7 | apply R6 | apply R9 | exact SD | exact Sj _ | exact Sf | apply Sg | exact Sk | apply So | apply Sb | apply TZ | apply T_ | apply Sd | apply Se | apply TY)
  | (first | exact Ss _ | apply Si | apply Sq)
  | exact ym.fv (gh _)
  | exact ym.fv (ak _)
  | exact Bool.false):ym R g t:=h
end L5
namespace RN
open L5
abbrev Bd:=List (Int×Int)
def xa (b c:Bd):Prop:=∀ q,yb b q=true->yb c q=true
def xa.refl (b:Bd):xa b b:=λ _ h=>h
def xa.of {b c:Bd}(h:∀ p∈b,∃ r∈c,r.1<=p.1/\r.2<=p.2):xa b c:=λ q x=>by
 obtain⟨p,hp,h1,h2⟩:=x9.mp x
 obtain⟨r,hr,h3,h4⟩:=h p hp
 exact x9.mpr ⟨r,hr,by lia,by lia⟩
def xa.at {b c:Bd}(h:xa b c) {p:Int×Int}(hp:p∈b):∃ r∈c,r.1<=p.1/\r.2<=p.2:=x9.mp (h p (x9.mpr ⟨p,hp,AQ _,AQ _⟩))
structure Gd (A B:Int) (b:Bd):Prop where
 kA:vt b
 ur:∀ p∈b,(0<=p.1/\p.1<=A)/\0<=p.2/\p.2<=B
noncomputable def xU:Bd:=[(0,0)]
theorem Gd.xU {A B:Int}(hA:0<=A) (hB:0<=B):Gd A B xU:=⟨by unfold RN.xU vt;simp,λ p hp=>by
 unfold RN.xU at hp;cases AX.mp hp;exact⟨⟨AQ _,hA⟩,AQ _,hB⟩⟩
def Gd.Q5 {A B:Int}{b:Bd}(h:Gd A B b):xa b RN.xU:=xa.of λ p hp=>⟨(0,0),by unfold RN.xU;simp,(h.ur p hp).1.1,(h.ur p hp).2.1⟩
theorem Gd.eq {A B:Int}{b c:Bd}(h:Gd A B b) (h':Gd A B c) (x:xa b c) (y:xa c b):b=c:=vt.eq h.kA h'.kA λ q=>by
 rw[BL];exact⟨x q,y q⟩
def Gd.least {A B:Int}{ps:Bd}(h:∀ p∈ps,(0<=p.1/\p.1<=A)/\0<=p.2/\p.2<=B):Gd A B (wZ ps):=⟨gJ ps,λ p hp=>h p (Q3 hp)⟩
def aP {ps qs:Bd}(h:∀ p∈ps,∃ r∈qs,r.1<=p.1/\r.2<=p.2):xa (wZ ps) (wZ qs):=λ q x=>by
 rw[k6] at x ⊢;exact xa.of h q x
theorem Ze:∀ {b:Bd}{lo hi:Int},vt b->(∀ p∈b,lo<=p.1/\p.1<=hi)->(b.length:Int)<=hi+1-lo\/b=[]
 | [],_,_,_,_=>.inr rfl
 | p::b,lo,hi,h,hb=>by
  have h1:=Bz.mp h
  have hp:=hb p Ap
  refine .inl ?_
  rcases Ze (lo:=p.1+1) (hi:=hi) h1.2 (λ q hq=>⟨by have:=(h1.1 q hq).1;lia,(hb q (Ax _ hq)).2⟩) with x | x
  ·rw[AW];lia
  ·subst x;simp;lia
theorem Zd:∀ {b:Bd}{lo hi:Int},vt b->(∀ p∈b,lo<=p.2/\p.2<=hi)->(b.length:Int)<=hi+1-lo\/b=[]
 | [],_,_,_,_=>.inr rfl
 | p::b,lo,hi,h,hb=>by
  have h1:=Bz.mp h
  have hp:=hb p Ap
  refine .inl ?_
  rcases Zd (lo:=lo) (hi:=p.2-1) h1.2 (λ q hq=>⟨(hb q (Ax _ hq)).1,by have:=(h1.1 q hq).2;lia⟩) with x | x
  ·rw[AW];lia
  ·subst x;simp;lia
def Gd.qj {A B:Int}{b:Bd}(h:Gd A B b) (hA:0<=A):(b.length:Int)<=A+1:=by
 rcases Ze (lo:=0) (hi:=A) h.kA (λ p hp=>(h.ur p hp).1) with x | x
 ·lia
 ·subst x;simp;lia
def Gd.Q1 {A B:Int}{b:Bd}(h:Gd A B b) (hB:0<=B):(b.length:Int)<=B+1:=by
 rcases Zd (lo:=0) (hi:=B) h.kA (λ p hp=>(h.ur p hp).2) with x | x
 ·lia
 ·subst x;simp;lia
noncomputable def x_ (x:Int):Int:=if x>0 then x else 0
def gw (x:Int):0<=x_ x:=by unfold x_;split <;> lia
def gu {x y:Int}(h:x<=y):x_ x<=x_ y:=by unfold x_;split <;> split <;> lia
def Qd {x g:Int}(h:0<=x) (hg:0<=g):x_ (x-g)<=x:=by unfold x_;split <;> lia
def xS (a b:Int) (p:Int×Int):Int×Int:=(x_ (p.1-a),x_ (p.2-b))
noncomputable def vH (A B:Int) (p:Int×Int):Bool:=decide (p.1<=A)&&decide (p.2<=B)
def mD (A B a b:Int) (bd:Bd):Bd:=wZ ((bd.map (xS a b)).filter (vH A B))
def NB (A B a b:Int) (bd:Bd):Gd A B (mD A B a b bd):=Gd.least λ p hp=>by
 obtain⟨h1,h2⟩:=Bu.mp hp
 obtain⟨q,_,rfl⟩:=Ay.mp h1
 have h3:(xS a b q).1<=A/\(xS a b q).2<=B:=by simpa [vH] using h2
 exact⟨⟨gw _,h3.1⟩,gw _,h3.2⟩
def YD (A B a b:Int) {bd bd':Bd}(h:xa bd bd'):xa (mD A B a b bd) (mD A B a b bd'):=aP λ p hp=>by
 obtain⟨h1,h2⟩:=Bu.mp hp
 obtain⟨q,hq,rfl⟩:=Ay.mp h1
 obtain⟨r,hr,r1,r2⟩:=h.at hq
 have h3:(xS a b q).1<=A/\(xS a b q).2<=B:=by simpa [vH] using h2
 have m1:(xS a b r).1<=(xS a b q).1:=gu (by lia)
 have m2:(xS a b r).2<=(xS a b q).2:=gu (by lia)
 exact⟨xS a b r,Bu.mpr ⟨Ay.mpr ⟨r,hr,rfl⟩,by simp[vH];lia⟩,m1,m2⟩
def u5 (b c:Bd):Bd:=wZ (b++c)
def O2 (b c:Bd) (q:Int×Int):yb (u5 b c) q=(yb b q||yb c q):=by unfold u5;rw[k6,OL]
def O1 {A B:Int}{b c:Bd}(h:Gd A B b) (h':Gd A B c):Gd A B (u5 b c):=Gd.least λ p hp=>by
 rcases A0.mp hp with x | x
 ·exact h.ur p x
 ·exact h'.ur p x
noncomputable def ky (p q:Int×Int):Int×Int:=(if q.1>p.1 then q.1 else p.1,if q.2>p.2 then q.2 else p.2)
def vP (b c:Bd):Bd:=wZ (b.flatMap λ p=>c.map (ky p))
def Yu (b c:Bd) (q:Int×Int):yb (vP b c) q=(yb b q&&yb c q):=by
 unfold vP
 rw[k6,BL,Bi,x9,x9,x9]
 constructor
 ·rintro⟨p,hp,h1,h2⟩
  obtain⟨x,hx,hp⟩:=Co.mp hp
  obtain⟨y,hy,rfl⟩:=Ay.mp hp
  unfold ky at h1 h2
  dsimp only at h1 h2
  refine⟨⟨x,hx,?_,?_⟩,⟨y,hy,?_,?_⟩⟩ <;> (first | (split at h1 <;> lia) | (split at h2 <;> lia))
 ·rintro⟨⟨x,hx,h1,h2⟩,⟨y,hy,h3,h4⟩⟩
  refine⟨ky x y,Co.mpr ⟨x,hx,Ay.mpr ⟨y,hy,rfl⟩⟩,?_,?_⟩
  ·show (if y.1>x.1 then y.1 else x.1)<=q.1
   split <;> lia
  ·show (if y.2>x.2 then y.2 else x.2)<=q.2
   split <;> lia
def Nz {A B:Int}{b c:Bd}(h:Gd A B b) (h':Gd A B c):Gd A B (vP b c):=Gd.least λ p hp=>by
 obtain⟨x,hx,hp⟩:=Co.mp hp
 obtain⟨y,hy,rfl⟩:=Ay.mp hp
 have a1:=h.ur x hx
 have a2:=h'.ur y hy
 unfold ky
 dsimp only
 refine⟨⟨?_,?_⟩,?_,?_⟩ <;> split <;> lia
def se (bs:List Bd):Bd:=bs.foldl u5 []
def jc (bs:List Bd):Bd:=bs.foldl vP xU
theorem ZQ:∀ (bs:List Bd) (b:Bd) (q:Int×Int),yb (bs.foldl u5 b) q=true↔yb b q=true\/∃ c∈bs,yb c q=true
 | [],b,q=>by simp
 | c::bs,b,q=>by
  rw[Dx,ZQ bs,O2,Bool.or_eq_true]
  constructor
  ·rintro ((h | h) | ⟨d,hd,h⟩)
   ·exact .inl h
   ·exact .inr ⟨c,Ap,h⟩
   ·exact .inr ⟨d,Ax _ hd,h⟩
  ·rintro (h | ⟨d,hd,h⟩)
   ·exact .inl (.inl h)
   ·rcases Ai.mp hd with e | e
    ·subst e;exact .inl (.inr h)
    ·exact .inr ⟨d,e,h⟩
theorem kR {A B:Int}:∀ (bs:List Bd) (b:Bd),Gd A B b->(∀ c∈bs,Gd A B c)->Gd A B (bs.foldl u5 b)
 | [],b,h,_=>h
 | c::bs,b,h,hb=>kR bs _ (O1 h (hb c Ap)) λ d hd=>hb d (Ax _ hd)
def Gd.nil {A B:Int}:Gd A B []:=⟨by unfold vt;simp,λ p hp=>by cases hp⟩
theorem Yv:∀ (bs:List Bd) (b:Bd) (q:Int×Int),yb (bs.foldl vP b) q=true↔yb b q=true/\∀ c∈bs,yb c q=true
 | [],b,q=>by simp
 | c::bs,b,q=>by
  rw[Dx,Yv bs,Yu,Bi]
  constructor
  ·rintro⟨⟨h1,h2⟩,h3⟩
   exact⟨h1,λ d hd=>by
    rcases Ai.mp hd with e | e
    ·subst e;exact h2
    ·exact h3 d e⟩
  ·rintro⟨h1,h2⟩
   exact⟨⟨h1,h2 c Ap⟩,λ d hd=>h2 d (Ax _ hd)⟩
theorem eh {A B:Int}:∀ (bs:List Bd) (b:Bd),Gd A B b->(∀ c∈bs,Gd A B c)->Gd A B (bs.foldl vP b)
 | [],b,h,_=>h
 | c::bs,b,h,hb=>eh bs _ (Nz h (hb c Ap)) λ d hd=>hb d (Ax _ hd)
noncomputable def tS (pu:Bool) (g t:Int):Int×Int:=if pu=true then (t,g) else (g,t)
noncomputable def vF (pu:Bool) (p:Int×Int):Int:=if pu=true then p.2 else p.1
noncomputable def tX (pu:Bool) (p:Int×Int):Int:=if pu=true then p.1 else p.2
noncomputable def wc (pu:Bool) (yY give get:Int):Nat->Int->Int->Bd
 | 0,_,_=>[]
 | n+1,g,t=>if g<=yY then tS pu g t::wc pu yY give get n (g+give) (x_ (t-get)) else []
def VU {pu:Bool}{g t g' t':Int}(h:g'<=g) (h':t'<=t):(tS pu g' t').1<=(tS pu g t).1/\(tS pu g' t').2<=(tS pu g t).2:=by
 cases pu
 ·exact⟨h,h'⟩
 ·exact⟨h',h⟩
theorem Yq (pu:Bool) (yY give get:Int):∀ (n:Nat) (g t g' t':Int),g'<=g->t'<=t->∀ e∈wc pu yY give get n g t,∃ r∈wc pu yY give get n g' t',r.1<=e.1/\r.2<=e.2
 | 0,_,_,_,_,_,_,e,he=>by cases he
 | n+1,g,t,g',t',h1,h2,e,he=>by
  unfold wc at he ⊢
  split at he
  ·rw[if_pos (by lia)]
   rcases Ai.mp he with x | x
   ·subst x;exact⟨_,Ap,VU h1 h2⟩
   ·obtain⟨r,hr,r1⟩:=Yq pu yY give get n _ _ (g' + give) (x_ (t'-get)) (by lia) (gu (by lia)) e x
    exact⟨r,Ax _ hr,r1⟩
  ·cases he
theorem fZ (pu:Bool) (yY give get most:Int) (hg:1<=give) (hgt:0<=get):∀ (n:Nat) (g t:Int),0<=g->0<=t->t<=most->∀ e∈wc pu yY give get n g t,(0<=vF pu e/\vF pu e<=yY)/\0<=tX pu e/\tX pu e<=most
 | 0,_,_,_,_,_,e,he=>by cases he
 | n+1,g,t,h1,h2,h3,e,he=>by
  unfold wc at he
  split at he
  ·rcases Ai.mp he with x | x
   ·subst x
    cases pu <;> exact⟨⟨h1,by assumption⟩,h2,h3⟩
   ·exact fZ pu yY give get most hg hgt n _ _ (by lia) (gw _) (Int.le_trans (Qd h2 hgt) h3) e x
  ·cases he
theorem Yr (pu:Bool) (yY give get:Int) (hg:1<=give):∀ (n:Nat) (g t:Int),g<=yY+1->((wc pu yY give get n g t).length:Int)<=yY+1-g
 | 0,g,t,h=>by simp[wc];lia
 | n+1,g,t,h=>by
  unfold wc
  split
  ·rw[AW]
   by_cases hh:g+give<=yY+1
   ·have:=Yr pu yY give get hg n (g+give) (x_ (t-get)) hh
    lia
   ·have e:wc pu yY give get n (g+give) (x_ (t-get))=[]:=by
     cases n with
     | zero=>rfl
     | succ n=>unfold wc;rw[if_neg (by lia)]
    rw[e];simp;lia
  ·simp;lia
structure Wy where
 f:Nat
 t:Nat
 a:Int
 b:Int
structure Sl where
 p:Nat
 pu:Bool
 gv:Int
 gt:Int
structure zT where
 A:Int
 B:Int
 os:List Bool
 ws:List Wy
 ss:List Sl
structure zT.Ok (F:zT):Prop where
 a0:0<=F.A
 a1:F.A<=12
 b0:0<=F.B
 b1:F.B<=12
 n1:1<=F.os.length
 n8:F.os.length<=8
 ws:∀ w∈F.ws,w.f<F.os.length/\w.t<F.os.length
 o5:F.ws.length<=60
 ss:∀ s∈F.ss,1<=s.gv/\0<=s.gt
 sl:F.ss=[]\/(F.A+1)*(F.B+1)<64
 s8:F.ss.length<=60
noncomputable def zT.yY (F:zT) (pu:Bool):Int:=if pu=true then F.B else F.A
def yX (F:zT) (s:Sl) (p:Int×Int):Bd:=wc s.pu (F.yY s.pu) s.gv s.gt 100 (vF s.pu p) (tX s.pu p)
def ma (F:zT) (s:Sl) (bd:Bd):Bd:=wZ (bd.flatMap (yX F s))
def OV (F:zT) (s:Sl) {b c:Bd}(h:xa b c):xa (ma F s b) (ma F s c):=aP λ p hp=>by
 obtain⟨x,hx,hp⟩:=Co.mp hp
 obtain⟨r,hr,r1,r2⟩:=h.at hx
 obtain⟨e,he,e1⟩:=Yq s.pu (F.yY s.pu) s.gv s.gt 100 (vF s.pu x) (tX s.pu x) (vF s.pu r) (tX s.pu r) (by unfold vF;split <;> assumption) (by unfold tX;split <;> assumption) p hp
 exact⟨e,Co.mpr ⟨r,hr,he⟩,e1⟩
def OU {F:zT}{s:Sl}(hs:1<=s.gv/\0<=s.gt) {p:Int×Int}(hp:(0<=p.1/\p.1<=F.A)/\0<=p.2/\p.2<=F.B):∀ e∈yX F s p,(0<=e.1/\e.1<=F.A)/\0<=e.2/\e.2<=F.B:=λ e he=>by
 obtain⟨p,pu,gv,gt⟩:=s
 unfold yX zT.yY at he
 cases pu with
 | true=>exact (fZ true F.B gv gt F.A hs.1 hs.2 100 _ _ hp.2.1 hp.1.1 hp.1.2 e he).symm
 | false=>exact fZ false F.A gv gt F.B hs.1 hs.2 100 _ _ hp.1.1 hp.2.1 hp.2.2 e he
def OW {F:zT}{s:Sl}(hs:1<=s.gv/\0<=s.gt) {b:Bd}(h:Gd F.A F.B b):Gd F.A F.B (ma F s b):=Gd.least λ p hp=>by
 obtain⟨x,hx,hp⟩:=Co.mp hp
 exact OU hs (h.ur x hx) p hp
def ve (F:zT) (ED:List Bd) (p:Nat):List Bd:=(F.ws.filter λ w=>decide (w.f=p)).map λ w=>mD F.A F.B w.a w.b (ED.getD w.t [])
noncomputable def zT.F_ (F:zT) (p:Nat):Option Sl:=F.ss.find? λ s=>decide (s.p=p)
def xn (F:zT) (ED:List Bd) (p:Nat):Bd:=
 if F.os.getD p false=true then match F.F_ p with
  | none=>se (ve F ED p)
  | some s=>ma F s (se (ve F ED p))
 else jc (ve F ED p)
def eD (F:zT) (ED:List Bd) (p:Nat):∀ c∈ve F ED p,Gd F.A F.B c:=λ c hc=>by
 obtain⟨w,_,rfl⟩:=Ay.mp hc
 exact NB ..
def aB {F:zT}(ok:F.Ok) (ED:List Bd) (p:Nat):Gd F.A F.B (xn F ED p):=by
 unfold xn
 have h1:Gd F.A F.B (se (ve F ED p)):=kR _ _ Gd.nil (eD F ED p)
 split
 ·split
  ·exact h1
  ·rename_i s e
   exact OW (ok.ss s (List.mem_of_find?_eq_some e)) h1
 ·exact eh _ _ (Gd.xU ok.a0 ok.b0) (eD F ED p)
def Qa (F:zT) {l m:List Bd}(p:Nat) (h:∀ w∈F.ws,w.f=p->xa (l.getD w.t []) (m.getD w.t [])):xa (xn F l p) (xn F m p):=by
 have h1:xa (se (ve F l p)) (se (ve F m p)):=λ q hq=>by
  unfold se at hq ⊢
  rw[ZQ] at hq ⊢
  rcases hq with x | ⟨c,hc,x⟩
  ·exact .inl x
  ·obtain⟨w,hw,rfl⟩:=Ay.mp hc
   obtain⟨w1,w2⟩:=Bu.mp hw
   exact .inr ⟨_,Ay.mpr ⟨w,hw,rfl⟩,YD _ _ _ _ (h w w1 (by simpa using w2)) q x⟩
 unfold xn
 split
 ·split
  ·exact h1
  ·exact OV F _ h1
 ·intro q hq
  unfold jc at hq ⊢
  rw[Yv] at hq ⊢
  refine⟨hq.1,λ c hc=>?_⟩
  obtain⟨w,hw,rfl⟩:=Ay.mp hc
  obtain⟨w1,w2⟩:=Bu.mp hw
  exact YD _ _ _ _ (h w w1 (by simpa using w2)) q (hq.2 _ (Ay.mpr ⟨w,hw,rfl⟩))
def R_ (F:zT) {l m:List Bd}(p:Nat) (h:∀ w∈F.ws,w.f=p->l.getD w.t []=m.getD w.t []):xn F l p=xn F m p:=by
 have:ve F l p=ve F m p:=by
  unfold ve
  refine CL λ w hw=>?_
  obtain⟨w1,w2⟩:=Bu.mp hw
  rw[h w w1 (by simpa using w2)]
 unfold xn;rw[this]
noncomputable def box:List (Int×Int):=(List.range 13).flatMap λ(i:Nat)=>(List.range 13).map λ(j:Nat)=>((i:Int),(j:Int))
def mu (b:Bd):Nat:=box.countP (yb b)
def Ny {p:Int×Int}(h:(0<=p.1/\p.1<=12)/\0<=p.2/\p.2<=12):p∈box:=by
 obtain⟨x,y⟩:=p
 dsimp only at h
 refine Co.mpr ⟨x.toNat,AR.mpr (by lia),Ay.mpr ⟨y.toNat,AR.mpr (by lia),?_⟩⟩
 rw[Cv h.1.1,Cv h.2.1]
theorem Yl {α:Type}{p q:α->Bool}:∀ {l:List α},(∀ x,q x=true->p x=true)->(∃ x∈l,p x=true/\q x=false)->l.countP q<l.countP p
 | [],_,⟨x,hx,_⟩=>by cases hx
 | a::l,h,⟨x,hx,h1,h2⟩=>by
  have hle:l.countP q<=l.countP p:=List.countP_mono_left λ y _=>h y
  rw[List.countP_cons,List.countP_cons]
  rcases Ai.mp hx with e | e
  ·subst e;rw[if_neg (by rw[h2];decide),if_pos h1];lia
  ·have:=Yl h ⟨x,e,h1,h2⟩
   by_cases c:q a=true
   ·rw[if_pos c,if_pos (h a c)];lia
   ·rw[if_neg c];split <;> lia
def Qg {A B:Int}(hA:A<=12) (hB:B<=12) {b c:Bd}(hb:Gd A B b) (hc:Gd A B c) (h:xa b c) (An:b≠c):mu b<mu c:=by
 refine Yl h ?_
 by_cases x:∃ p∈c,yb b p=false
 ·obtain⟨p,hp,e⟩:=x
  have q:=hc.ur p hp
  exact⟨p,Ny ⟨⟨q.1.1,by lia⟩,q.2.1,by lia⟩,x9.mpr ⟨p,hp,AQ _,AQ _⟩,e⟩
 ·exact absurd (hb.eq hc h (xa.of λ p hp=>by
   cases e:yb b p with
   | true=>exact x9.mp e
   | false=>exact absurd ⟨p,hp,e⟩ x)) An
def Qh (b:Bd):mu b<=169:=by
 have:box.length=169:=by decide
 rw[<- this];exact List.countP_le_length
def vB (l:List Bd):Nat:=(l.map mu).sum
theorem aD:∀ (l:List Bd),vB l<=169*l.length
 | []=>by simp[vB]
 | b::l=>by
  have h1:=aD l
  have h2:=Qh b
  unfold vB at h1 ⊢
  rw[Au,List.sum_cons,AW];lia
theorem gz {A B:Int}(hA:A<=12) (hB:B<=12):∀ {l m:List Bd},l.length=m.length->(∀ b∈l,Gd A B b)->(∀ b∈m,Gd A B b)->(∀ i,xa (l.getD i []) (m.getD i []))->l≠m->vB l<vB m
 | [],[],_,_,_,_,h=>absurd rfl h
 | [],_::_,h,_,_,_,_=>by simp at h
 | _::_,[],h,_,_,_,_=>by simp at h
 | b::l,c::m,hl,gb,gc,h,An=>by
  have Gm:l.length=m.length:=by simpa using hl
  have h0:xa b c:=h 0
  have hs:∀ i,xa (l.getD i []) (m.getD i []):=λ i=>by simpa using h (i+1)
  have key:vB l<=vB m:=by
   by_cases e:l=m
   ·rw[e];exact Aj _
   ·exact BO (gz hA hB Gm (λ x hx=>gb x (Ax _ hx)) (λ x hx=>gc x (Ax _ hx)) hs e)
  show (List.map mu (b::l)).sum<(List.map mu (c::m)).sum
  rw[Au,List.sum_cons,Au,List.sum_cons]
  by_cases e:b=c
  ·subst e
   have:l≠m:=λ q=>An (by rw[q])
   have:=gz hA hB Gm (λ x hx=>gb x (Ax _ hx)) (λ x hx=>gc x (Ax _ hx)) hs this
   unfold vB at this;lia
  ·have:=Qg hA hB (gb b Ap) (gc c Ap) h0 e
   unfold vB at key;lia
noncomputable def uM (F:zT) (fresh:List Nat) (p:Nat):Bool:=F.ws.any λ w=>decide (w.f=p)&&fresh.contains w.t
def yg (F:zT) (ED:List Bd) (fresh:List Nat):List Bd:=(List.range ED.length).map λ p=>if uM F fresh p=true then xn F ED p else ED.getD p []
noncomputable def xR (ED Gh:List Bd):List Nat:=(List.range Gh.length).filter λ p=>decide (Gh.getD p []≠ED.getD p [])
def oU (F:zT):Nat->List (List Bd)->List Bd->List Nat->Option (List (List Bd))
 | 0,_,_,_=>none
 | n+1,EJ,ED,fresh=>if fresh=[] then some (EJ++[ED]) else
   let fo:=yg F ED fresh
   let fr:=xR ED fo
   if fr=[] then some (EJ++[ED]) else oU F n (EJ++[ED]) fo fr
structure St (F:zT) (ED:List Bd) (fresh:List Nat):Prop where
 len:ED.length=F.os.length
 gd:∀ b∈ED,Gd F.A F.B b
 fr:∀ p<F.os.length,uM F fresh p=false->(∃ w∈F.ws,w.f=p)->xn F ED p=ED.getD p []
 le:∀ p<F.os.length,(∃ w∈F.ws,w.f=p)->xa (xn F ED p) (ED.getD p [])
def Z4 {α:Type}(f:Nat->α) (n p:Nat) (d:α) (h:p<n):((List.range n).map f).getD p d=f p:=by
 rw[Bv,AE,List.getElem?_range h];rfl
def qf (F:zT) (ED:List Bd) (fresh:List Nat):(yg F ED fresh).length=ED.length:=by unfold yg;simp
def St.at {F:zT}{ED:List Bd}{fresh:List Nat}(s:St F ED fresh) {p:Nat}(hp:p<F.os.length) (hw:∃ w∈F.ws,w.f=p):(yg F ED fresh).getD p []=xn F ED p:=by
 unfold yg
 rw[Z4 _ _ _ _ (by rw[s.len];exact hp)]
 split
 ·rfl
 ·rename_i h;exact (s.fr p hp (by simpa using h) hw).symm
def Pr {F:zT}{fresh:List Nat}{p:Nat}(h:uM F fresh p=true):∃ w∈F.ws,w.f=p:=by
 unfold uM at h
 obtain⟨w,h1,h2⟩:=Bb.mp h
 exact⟨w,h1,by simp at h2;exact h2.1⟩
def St.no {F:zT}{ED:List Bd}{fresh:List Nat}(s:St F ED fresh) {p:Nat}(hp:p<F.os.length) (hw:¬ ∃ w∈F.ws,w.f=p):(yg F ED fresh).getD p []=ED.getD p []:=by
 unfold yg
 rw[Z4 _ _ _ _ (by rw[s.len];exact hp),if_neg (λ h=>hw (Pr h))]
def St.Yp {F:zT}{ED:List Bd}{fresh:List Nat}(s:St F ED fresh) (p:Nat):xa ((yg F ED fresh).getD p []) (ED.getD p []):=by
 by_cases hp:p<F.os.length
 ·by_cases hw:∃ w∈F.ws,w.f=p
  ·rw[s.at hp hw];exact s.le p hp hw
  ·rw[s.no hp hw];exact xa.refl _
 ·have h1:(yg F ED fresh).getD p []=[]:=by
   rw[Bv,List.getElem?_eq_none (by rw[qf,s.len];lia)];rfl
  rw[h1];intro q x;cases x
def St.next {F:zT}(ok:F.Ok) {ED:List Bd}{fresh:List Nat}(s:St F ED fresh):St F (yg F ED fresh) (xR ED (yg F ED fresh)) where
 len:=by rw[qf,s.len]
 gd:=λ b hb=>by
  unfold yg at hb
  obtain⟨p,hp,rfl⟩:=Ay.mp hb
  split
  ·exact aB ok ED p
  ·have Ao:=AR.mp hp
   rw[Bv,A3 Ao]
   exact s.gd _ (BJ Ao)
 fr:=λ p hp hn hw=>by
  rw[s.at hp hw]
  refine R_ F p λ w w1 w2=>?_
  have hwt:=(ok.ws w w1).2
  by_cases e:(yg F ED fresh).getD w.t []=ED.getD w.t []
  ·exact e
  ·have:uM F (xR ED (yg F ED fresh)) p=true:=by
    unfold uM
    refine Bb.mpr ⟨w,w1,?_⟩
    have:w.t∈xR ED (yg F ED fresh):=by
     unfold xR
     exact Bu.mpr ⟨AR.mpr (by rw[qf,s.len];exact hwt),by simpa using e⟩
    simp[w2,this]
   rw[this] at hn;cases hn
 le:=λ p hp hw=>by
  rw[s.at hp hw]
  exact Qa F p λ w w1 w2=>s.Yp w.t
def PZ {ED fo:List Bd}(hl:fo.length=ED.length) (h:xR ED fo≠[]):fo≠ED:=λ e=>h (by
 subst e;unfold xR;simp)
def start (F:zT):List Bd:=List.replicate F.os.length xU
theorem St.start {F:zT}(ok:F.Ok):St F (start F) (List.range F.os.length) where
 len:=by unfold RN.start;simp
 gd:=λ b hb=>by rw[List.eq_of_mem_replicate hb];exact Gd.xU ok.a0 ok.b0
 fr:=λ p hp hn ⟨w,w1,w2⟩=>by
  have:uM F (List.range F.os.length) p=true:=by
   unfold uM
   refine Bb.mpr ⟨w,w1,?_⟩
   have:=(ok.ws w w1).2
   simp[w2,this]
  rw[this] at hn;cases hn
 le:=λ p hp hw=>by
  have e:(RN.start F).getD p []=xU:=by
   unfold RN.start
   rw[Bv,DF,if_pos hp];rfl
  rw[e]
  exact (aB ok _ p).Q5
theorem cZ {F:zT}(ok:F.Ok):∀ (n:Nat) (EJ:List (List Bd)) (ED:List Bd) (fresh:List Nat),St F ED fresh->vB ED<n->
  ∃ more GJ,oU F n EJ ED fresh=some (EJ++ED::more)/\(∀ r∈ED::more,r.length=F.os.length/\∀ b∈r,Gd F.A F.B b)/\(ED::more).getLast?=some GJ/\more.length<=vB ED
 | 0,_,_,_,_,h=>by lia
 | n+1,EJ,ED,fresh,s,h=>by
  unfold oU
  split
  ·exact⟨[],ED,rfl,λ r hr=>by cases AX.mp hr;exact⟨s.len,s.gd⟩,rfl,AO _⟩
  ·dsimp only
   split
   ·exact⟨[],ED,rfl,λ r hr=>by cases AX.mp hr;exact⟨s.len,s.gd⟩,rfl,AO _⟩
   ·rename_i hf
    have s':=s.next ok
    have Ao:vB (yg F ED fresh)<vB ED:=gz ok.a1 ok.b1 (qf ..) s'.gd s.gd s.Yp (PZ (qf ..) hf)
    obtain⟨more,GJ,e1,e2,e3,e4⟩:=cZ ok n (EJ++[ED]) _ _ s' (by lia)
    refine⟨yg F ED fresh::more,GJ,by rw[e1];simp,λ r hr=>?_,by rw[List.getLast?_cons_cons];exact e3,by rw[AW];lia⟩
    rcases Ai.mp hr with e | e
    ·subst e;exact⟨s.len,s.gd⟩
    ·exact e2 r e
end RN
namespace yu
open PySem L2 L3 L5
def j6:Sm:=
 (retS (qw (E_ "int" (zf 0)) (gm (E_ "bool" (zf 0)))))
def ox:List T->Option T:=z_ ["thing"] 1 j6
def eY:Sm:=
 (retS (zv wJ (zb (ze zq (zf 0) (cI 1)) zi)))
def qE:List T->Option T:=z_ ["floor"] 1 eY
def dG:Sm:=
 (retS (qw (ze kH (ze zq (zf 0) (cI 0)) (ze zq (zf 1) (cI 0))) (ze kH (ze zq (zf 0) (cI 1)) (ze zq (zf 1) (cI 1)))))
def oz:List T->Option T:=z_ ["pair","other"] 2 dG
def pQ:Sm:=
 (y6 (u6 (vM (xb (zf 1))) (zZ (ze yR (ze zq (zf 2) (cI 1)) (ze zq (ze zq (zf 1) (gs (cI 1))) (cI 1))))) (uQ 1 (zm 2)) yy)
def de:Sm:=
 (zr (tD 1 (yV zi))
 (zr (vm [2] (xQ (zv qN (zb (zf 0) zi))) (zG 2) pQ)
 (retS (zv rP (zb (zf 1) zi)))))
def sH:List T->Option T:=z_ ["pairs","least","pair"] 1 de
def rA:Sm:=
 (zr (uQ 4 (Zt (zZ (ze (zR false) (zf 3) (cI 0))) (tupS (zb (zm 5) (zb (zm 6) zi))) (tupS (zb (zm 6) (zb (zm 5) zi)))))
 (zr (zM 5 (ze y8 (zf 5) (ze zq (zf 1) (cI 2))))
 (zM 6 (zv nA (zb (cI 0) (zb (ze uE (zf 6) (ze zq (zf 1) (cI 3))) zi))))))
def eZ:Sm:=
 (zr (zM 3 (ze zq (zf 1) (cI 1)))
 (zr (tD 4 (yV zi))
 (zr (zM 5 (ze zq (zf 2) (zf 3)))
 (zr (zM 6 (ze zq (zf 2) (ze uE (cI 1) (zf 3))))
 (zr (o4 1000000 [] (zZ (ze tu (zf 5) (ze zq (zf 0) (zf 3)))) rA)
 (rZ 4))))))
def mR:List T->Option T:=z_ ["brims","stall","pair","purse","pairs","given","got"] 3 eZ
def dm:Sm:=
 (zr (y6 (zZ (ze yR (zf 1) (zv wJ (zb (zf 0) zi)))) (retS (ze zS (ze zq (zf 0) (zf 1)) (ze lZ (cI 10) (cI 40)))) yy)
 (retS (cI 0)))
def yQ:List T->Option T:=z_ ["_law_script","_law_k"] 2 dm
def j5:Sm:=
 (zr (y6 (zZ (ze (zR false) (ze zS (zf 0) (cI 5)) (cI 1))) (retS (ze uE (ze zS (ze yv (zf 0) (cI 5)) (cI 25)) (cI 12))) yy)
 (retS (ze uE (ze zS (ze zS (ze yv (zf 0) (cI 5)) (cI 25)) (cI 7)) (cI 3))))
def sI:List T->Option T:=z_ ["_law_number"] 1 j5
def jz:Sm:=
 (zr (y6 (zZ (ze (zR true) (ze zS (zf 0) (cI 3)) (cI 1))) (retS (ze zS (ze yv (zf 0) (cI 3)) (zf 1))) yy)
 (retS (ze zq (yV (zb (zm 1) (zb (ze uE (cI 0) (cI 1)) (zb (ze y8 (zf 1) (ze zS (ze yv (zf 0) (cI 30)) (ze lZ (cI 10) (cI 20)))) (zb (cS (.bl true)) (zb (cS (.bl false)) (zb (cS .zk) (zb (cS (.str "0")) (zb (tupS (zb (cI 0) zi)) (zb (yV (zb (cI 0) zi)) (zb (cI 8) zi))))))))))) (ze zS (ze yv (zf 0) (cI 3)) (cI 10)))))
def oh:List T->Option T:=z_ ["_law_cell_here","_law_many"] 2 jz
def j0:Sm:=
 (zr (zM 2 (ze zS (ze yv (zf 0) (cI 3)) (ze y8 (ze zq (zf 1) (cI 0)) (cI 1))))
 (zr (zM 3 (ze zS (ze yv (zf 0) (cI 39)) (ze y8 (ze zq (zf 1) (cI 1)) (cI 1))))
 (zr (y6 (zZ (ze (zR true) (ze zS (zf 0) (cI 3)) (cI 1))) (retS (tupS (zb (zm 2) (zb (zm 3) zi)))) yy)
 (zr (zM 4 (yV (zb (tupS (zb (ze y8 (ze zq (zf 1) (cI 0)) (cI 1)) (zb (zm 3) zi))) (zb (tupS (zb (zm 2) (zb (ze y8 (ze zq (zf 1) (cI 1)) (cI 1)) zi))) (zb (tupS (zb (ze uE (cI 0) (cI 1)) (zb (zm 3) zi))) (zb (tupS (zb (zm 2) (zb (ze uE (cI 0) (cI 1)) zi))) (zb (yV (zb (zm 2) (zb (zm 3) zi))) (zb (tupS (zb (zm 2) zi)) (zb (tupS (zb (zm 2) (zb (zm 3) (zb (cI 0) zi)))) (zb (tupS (zb (cS (.bl true)) (zb (zm 3) zi))) zi))))))))))
 (zr (zM 4 (ze y8 (zf 4) (yV (zb (tupS (zb (zm 2) (zb (cS (.bl false)) zi))) (zb (tupS (zb (cS .zk) (zb (zm 3) zi))) (zb (tupS (zb (zm 2) (zb (cS (.str "0")) zi))) (zb (cS .zk) (zb (cI 7) (zb (cS (.str "00")) (zb (tupS zi) (zb (tupS (zb (zm 2) (zb (tupS (zb (zm 3) zi)) zi))) (zb (tupS (zb (cI 13) (zb (cI 13) zi))) (zb (tupS (zb (ze y8 (ze zq (zf 1) (cI 0)) (ze lZ (cI 10) (cI 20))) (zb (zm 3) zi))) zi)))))))))))))
 (retS (ze zq (zf 4) (ze zS (ze yv (zf 0) (cI 507)) (cI 18)))))))))
def oj:List T->Option T:=z_ ["_law_cell_here","_law_brims_here","_law_x","_law_y","_law_some"] 2 j0
def df:Sm:=
 (retS (qw (E_ "int" (zf 0)) (gm (E_ "bool" (zf 0)))))
def pZ:List T->Option T:=z_ ["_law_thing"] 1 df
def ly:Sm:=
 (retS (qw (zv ox (zb (zm 0) zi)) (ja tu tu (zf 1) (zf 0) (zf 2))))
def rJ:List T->Option T:=z_ ["thing","least","most"] 3 ly
def mq:Ev->Option T:=
 w9 [none,some 1] (xQ (zf 0)) (zG 0) sk (zv oz (zb (zm 1) (zb (zm 0) zi)))
def dw:Sm:=
 (retS (zv (mx λ bs=>bs.any id) (zb mq zi)))
def mW:List T->Option T:=z_ ["border","pair"] 2 dw
def ee:Ev->Option T:=
 w9 [none] (xQ (zf 0)) (zG 0) sk (tupS (zb (ze zq (zf 0) (cI 0)) (zb (cI 0) (zb (ze zq (zf 0) (cI 1)) zi))))
def f_:Ev->Option T:=
 w9 [none] (xQ (zf 1)) (zG 0) sk (tupS (zb (ze zq (zf 0) (cI 0)) (zb (cI 1) (zb (ze zq (zf 0) (cI 1)) zi))))
def m7:Sm:=
 (zr (ZT 3 (zf 6) (zv kr (zb (zf 7) (zb (ZW 3 (zf 6) (zm 7)) zi))))
 (y6 (zZ (ze (zR false) (fP 3) (cI 2))) (uQ 4 (tupS (zb (zm 5) (zb (zv nA (zb (fQ 3 (cI 0)) (zb (fQ 3 (cI 1)) zi))) zi)))) yy))
def dB:Sm:=
 (zr (zM 2 (ze y8 ee f_))
 (zr (ZU 3)
 (zr (tD 4 (yV zi))
 (zr (vm [5,6,7] (xQ (zv qN (zb (zf 2) zi))) (vw 3 (xA (zG 5) (xA (zG 6) (xA (zG 7) uL)))) m7)
 (fw 4 (retS (zv sH (zb (zm 4) zi))))))))
def mY:List T->Option T:=z_ ["border","other","steps","lows","shared","first","side","second"] 2 dB
def d9:Sm:=
 (retS (zv sH (zb (ze y8 (zv listS (zb (zf 0) zi)) (zv listS (zb (zf 1) zi))) zi)))
def mX:List T->Option T:=z_ ["border","other"] 2 d9
def mr:Ev->Option T:=
 w9 [none,some 1] (xQ (zf 2)) (zG 0) sk (tupS (zb (zv nA (zb (cI 0) (zb (ze uE (ze zq (zf 0) (cI 0)) (ze zq (zf 1) (cI 2))) zi))) (zb (zv nA (zb (cI 0) (zb (ze uE (ze zq (zf 0) (cI 1)) (ze zq (zf 1) (cI 3))) zi))) zi)))
def mf:Ev->Option T:=
 w9 [none,some 0] (xQ (zf 3)) (zG 0) (xb (zv oz (zb (zm 1) (zb (zm 0) zi)))) (zm 0)
def dF:Sm:=
 (zr (zM 3 mr)
 (retS (zv sH (zb mf zi))))
def lb:List T->Option T:=z_ ["brims","way","border","pairs"] 3 dF
def du:Sm:=
 (zr (zM 2 (zv yQ (zb (zm 0) (zb (cI 1) zi))))
 (zr (zM 3 (yV (zb (ze zq (yV (zb (cI 3) (zb (cI 2) (zb (cI 4) (zb (cI 1) (zb (cI 5) (zb (cI 2) (zb (cI 3) (zb (cI 0) zi))))))))) (ze zS (zf 2) (cI 8))) (zb (ze zq (yV (zb (cI 2) (zb (cI 3) (zb (cI 1) (zb (cI 4) (zb (cI 2) (zb (cI 5) (zb (cI 3) (zb (cI 0) zi))))))))) (ze zS (ze yv (zf 2) (cI 8)) (cI 8))) zi))))
 (zr (y6 (zZ (ze kF (zf 1) (cI 4))) (retS (tupS (zb (zv kr (zb (ze zq (zf 3) (cI 0)) (zb (cI 2) zi))) (zb (zv kr (zb (ze zq (zf 3) (cI 1)) (zb (cI 2) zi))) zi)))) yy)
 (zr (y6 (zZ (ze (zR false) (ze zS (ze yv (zf 2) (cI 64)) (cI 10)) (cI 1))) (retS (tupS (zb (cI 12) (zb (ze zS (ze zq (zf 3) (cI 1)) (cI 3)) zi)))) yy)
 (zr (y6 (zZ (ze (zR false) (ze zS (ze yv (zf 2) (cI 64)) (cI 10)) (cI 2))) (retS (tupS (zb (ze zS (ze zq (zf 3) (cI 0)) (cI 3)) (zb (cI 12) zi)))) yy)
 (zr (y6 (rm (zZ (ze (zR false) (ze zS (ze yv (zf 2) (cI 64)) (cI 10)) (cI 3))) (zZ (ze yR (zf 1) (cI 3)))) (retS (tupS (zb (cI 12) (zb (cI 12) zi)))) yy)
 (retS (zv rP (zb (zf 3) zi)))))))))
def oo:List T->Option T:=z_ ["_law_script","_law_many","_law_number","_law_found"] 2 du
def m5:Sm:=
 (zr (uQ 3 (ze zq (yV (zb (cS (.str "keeper")) (zb (cS (.str "taker")) zi))) (ze zS (zf 2) (cI 2))))
 (zM 2 (ze yv (zf 2) (cI 2))))
def di:Sm:=
 (zr (zM 2 (zv yQ (zb (zm 0) (zb (cI 2) zi))))
 (zr (tD 3 (yV zi))
 (zr (vm [4] (wK tR (zb (zf 1) zi)) (zG 4) m5)
 (retS (zv rP (zb (zf 3) zi))))))
def og:List T->Option T:=z_ ["_law_script","_law_many","_law_number","_law_found","_law_place"] 2 di
def qv:Sm:=
 (zr (zM 8 (ze y8 (ze x8 (zf 3) (zf 5)) (zf 7)))
 (zr (zM 9 (ze zS (ze y8 (ze y8 (ze x8 (zv yQ (zb (zm 0) (zb (ze y8 (cI 4) (zf 8)) zi))) (cI 2957)) (ze x8 (cI 61) (zf 8))) (cI 17)) (cI 999983)))
 (zr (zM 10 (ze yv (zf 9) (cI 8)))
 (uQ 4 (tupS (zb (zm 5) (zb (ze zS (ze zS (zf 9) (cI 8)) (zf 1)) (zb (zv sI (zb (zm 10) zi)) (zb (zv sI (zb (ze yv (zf 10) (cI 125)) zi)) zi)))))))))
def my:Sm:=
 (zr (zM 6 (ze y8 (cI 1) (ze zS (zf 2) (cI 3))))
 (zr (y6 (rm (zZ (ze yR (zf 1) (cI 3))) (zZ (ze (zR false) (ze zS (ze yv (zf 2) (cI 3)) (cI 8)) (cI 1)))) (zM 6 (ze y8 (cI 9) (zf 6))) yy)
 (zr (vm [7,8,9,10] (wK tR (zb (zf 6) zi)) (zG 7) qv)
 (zM 2 (ze yv (zf 2) (cI 24))))))
def dg:Sm:=
 (zr (zM 2 (zv yQ (zb (zm 0) (zb (cI 3) zi))))
 (zr (zM 3 (ze zq (yV (zb (cI 3) (zb (cI 12) zi))) (zv gP (zb (ze yR (zf 1) (cI 3)) zi))))
 (zr (tD 4 (yV zi))
 (zr (vm [5,6,7,8,9,10] (wK tR (zb (zf 1) zi)) (zG 5) my)
 (retS (zv rP (zb (zv rS (zb (zf 4) zi)) zi)))))))
def p_:List T->Option T:=z_ ["_law_script","_law_many","_law_number","_law_wide","_law_found","_law_place","_law_size","_law_k","_law_at","_law_drawn","_law_rest"] 2 dg
def pR:Sm:=
 (zr (zM 4 (ze zS (ze y8 (ze y8 (ze x8 (zv yQ (zb (zm 0) (zb (ze y8 (cI 28) (zf 3)) zi))) (cI 3571)) (ze x8 (cI 29) (zf 3))) (cI 5)) (cI 999979)))
 (y6 (rm (zZ (ze (zR false) (ze zq (zf 1) (zf 3)) (cS (.str "keeper")))) (zZ (ze (zR false) (ze zS (zf 4) (cI 3)) (cI 1)))) (zr (zM 5 (ze yv (zf 4) (cI 6)))
 (zr (zM 6 (ze y8 (cI 1) (ze zq (yV (zb (ze zS (zf 5) (cI 3)) (zb (ze zS (zf 5) (cI 3)) (zb (ze zS (zf 5) (cI 12)) zi)))) (ze zS (ze yv (zf 5) (cI 12)) (cI 3)))))
 (zr (zM 7 (ze zq (yV (zb (ze zS (ze yv (zf 5) (cI 36)) (cI 4)) (zb (ze zS (ze yv (zf 5) (cI 36)) (cI 4)) (zb (ze zS (ze yv (zf 5) (cI 36)) (cI 13)) zi)))) (ze zS (ze yv (zf 5) (cI 468)) (cI 3))))
 (uQ 2 (tupS (zb (zm 3) (zb (ze zS (ze yv (zf 4) (cI 3)) (cI 2)) (zb (zm 6) (zb (zm 7) zi))))))))) yy))
def dh:Sm:=
 (zr (tD 2 (yV zi))
 (zr (vm [3,4,5,6,7] (wK tR (zb (zv wJ (zb (zf 1) zi)) zi)) (zG 3) pR)
 (retS (zv rP (zb (zf 2) zi)))))
def oa:List T->Option T:=z_ ["_law_script","_law_owners_here","_law_found","_law_place","_law_drawn","_law_rest","_law_give","_law_get"] 2 dh
def dk:Sm:=
 (zr (y6 (u6 (vM (xb (zv pZ (zb (zm 1) zi)))) (u6 (zZ (ze yR (zf 1) (cI 0))) (zZ (ze kH (zf 1) (zv wJ (zb (ze zq (zf 0) (cI 1)) zi)))))) (retS (cI 0)) yy)
 (zr (y6 (u6 (vM (xb (E_ "tuple" (zf 2)))) (u6 (zZ (ze (zR true) (zv wJ (zb (zf 2) zi)) (cI 2))) (u6 (vM (xb (zv pZ (zb (ze zq (zf 2) (cI 0)) zi)))) (vM (xb (zv pZ (zb (ze zq (zf 2) (cI 1)) zi))))))) (retS (cI 1)) yy)
 (zr (y6 (rm (zZ (ja tu tu (cI 0) (ze zq (zf 2) (cI 0)) (ze zq (ze zq (zf 0) (cI 0)) (cI 0)))) (zZ (ja tu tu (cI 0) (ze zq (zf 2) (cI 1)) (ze zq (ze zq (zf 0) (cI 0)) (cI 1))))) (retS (cS .zk)) yy)
 (retS (cI 1)))))
def mU:List T->Option T:=z_ ["_law_floor_here","_law_place","_law_pair"] 3 dk
def jb:Ev->Option T:=
 w9 [none,none] (wK jB (zb (zf 0) (zb (zf 1) zi))) (vw 2 (xA (zG 0) (xA (zG 1) uL))) sk (zv rJ (zb (zm 0) (zb (ze zq (zf 1) (cI 0)) (zb (ze zq (zf 1) (cI 1)) zi))))
def j7:Sm:=
 (zr (y6 (u6 (vM (xb (E_ "tuple" (zf 0)))) (zZ (ze (zR true) (zv wJ (zb (zf 0) zi)) (zv wJ (zb (zf 1) zi))))) (retS (cS (.bl false))) yy)
 (retS (zv (mx λ bs=>bs.all id) (zb jb zi))))
def mV:List T->Option T:=z_ ["thing","bounds"] 2 j7
def j8:Sm:=
 (y6 (vM (xb (zv rJ (zb (zm 1) (zb (cI 0) (zb (ze uE (zv qE (zb (zm 0) zi)) (cI 1)) zi)))))) (iG "NoPlace" "place" (zm 1)) yy)
def rK:List T->Option T:=z_ ["floor","place"] 2 j8
def m9:Sm:=
 (zM 1 (zv mX (zb (zm 1) (zb (zm 2) zi))))
def dD:Sm:=
 (zr (zM 1 (tupS zi))
 (zr (vm [2] (xQ (zm 0)) (zG 2) m9)
 (retS (zm 1))))
def mZ:List T->Option T:=z_ ["borders","joined","border"] 1 dD
def mB:Sm:=
 (zM 1 (zv mY (zb (zm 1) (zb (zm 2) zi))))
def dE:Sm:=
 (zr (zM 1 (tupS (zb (tupS (zb (cI 0) (zb (cI 0) zi))) zi)))
 (zr (vm [2] (xQ (zm 0)) (zG 2) mB)
 (retS (zm 1))))
def m_:List T->Option T:=z_ ["borders","joined","border"] 1 dE
def m6:Sm:=
 (y6 (vM (xb (zv mW (zb (ze zq (zf 4) (zf 1)) (zb (zm 2) zi))))) (retS (zm 3)) yy)
def d7:Sm:=
 (zr (vm [3,4] (wK vL (zb (zm 0) zi)) (vw 2 (xA (zG 3) (xA (zG 4) uL))) m6)
 (retS (cS .zk)))
def jt:List T->Option T:=z_ ["told","place","pair","number","held"] 3 d7
def j4:Sm:=
 (zr (zM 1 (zv yQ (zb (zm 0) (zb (cI 0) zi))))
 (zr (zM 2 (ze zq (yV (zb (cI 2) (zb (cI 3) (zb (cI 1) (zb (cI 4) (zb (cI 3) (zb (cI 2) (zb (cI 4) (zb (ze y8 (cI 5) (ze zS (ze yv (zf 1) (cI 8)) (cI 4))) zi))))))))) (ze zS (zf 1) (cI 8))))
 (zr (zM 3 (zv og (zb (zm 0) (zb (zm 2) zi))))
 (zr (zM 4 (zv oo (zb (zm 0) (zb (zm 2) zi))))
 (zr (zM 5 (zv p_ (zb (zm 0) (zb (zm 2) zi))))
 (zr (zM 6 (zv oa (zb (zm 0) (zb (zm 3) zi))))
 (zr (y6 (rm (zZ (ze (zR false) (zf 4) (tupS (zb (cI 12) (zb (cI 12) zi))))) (u6 (zZ (ze kF (zv wJ (zb (zf 5) zi)) (cI 6))) (zZ (ze kF (zv wJ (zb (zf 6) zi)) (cI 0))))) (zM 4 (tupS (zb (cI 12) (zb (cI 3) zi)))) yy)
 (retS (tupS (zb (zm 4) (zb (zm 3) (zb (zm 5) (zb (zm 6) zi)))))))))))))
def mT:List T->Option T:=z_ ["_law_script","_law_number","_law_many","_law_owners_here","_law_brims_here","_law_ways_here","_law_stalls_here"] 1 j4
def dA:Sm:=
 (y6 (vM (xb (zv mV (zb (zm 1) (zb (tupS (zb (tupS (zb (cI 0) (zb (ze zq (ze zq (zf 0) (cI 0)) (cI 0)) zi))) (zb (tupS (zb (cI 0) (zb (ze zq (ze zq (zf 0) (cI 0)) (cI 1)) zi))) zi))) zi))))) (iG "NoPair" "pair" (zm 1)) yy)
def ju:List T->Option T:=z_ ["floor","pair"] 2 dA
def mh:Ev->Option T:=
 w9 [none,none,some 1] (wK vL (zb (ze zq (zf 0) (cI 2)) zi)) (vw 2 (xA (zG 0) (xA (zG 1) uL))) (zZ (ze (zR false) (ze zq (zf 1) (cI 0)) (zf 2))) (zm 0)
def eV:Sm:=
 (zr (fO (zv (gr rK) (zb (zm 0) (zb (zm 1) zi))))
 (retS mh))
def mO:List T->Option T:=z_ ["floor","place"] 2 eV
def pP:Sm:=
 (y6 (zZ (ze (zR false) (ze zq (zf 2) (cI 0)) (zf 1))) (retS (zm 2)) yy)
def eW:Sm:=
 (zr (fO (zv (gr rK) (zb (zm 0) (zb (zm 1) zi))))
 (zr (vm [2] (xQ (ze zq (zf 0) (cI 3))) (zG 2) pP)
 (retS (cS .zk))))
def qD:List T->Option T:=z_ ["floor","place","stall"] 2 eW
def mC:Sm:=
 (fJ 4 (zv mR (zb (ze zq (zf 0) (cI 0)) (zb (zm 3) (zb (zm 5) zi)))))
def j9:Sm:=
 (zr (zM 3 (zv qD (zb (zm 0) (zb (zm 1) zi))))
 (zr (y6 (zZ (ze (wL false) (zf 3) (cS .zk))) (retS (zm 2)) yy)
 (zr (tD 4 (yV zi))
 (zr (vm [5] (xQ (zm 2)) (zG 5) mC)
 (fw 4 (retS (zv sH (zb (zm 4) zi))))))))
def oy:List T->Option T:=z_ ["floor","place","border","stall","pairs","pair"] 3 j9
def ml:Ev->Option T:=
 w9 [none,some 0] (xQ (zv mO (zb (zm 0) (zb (zm 1) zi)))) (zG 0) sk (ze zq (ze zq (zf 1) (cI 2)) (zf 0))
def me:Ev->Option T:=
 w9 [none,some 0,some 2] (xQ (zf 3)) (zG 0) sk (zv lb (zb (ze zq (zf 1) (cI 0)) (zb (zm 0) (zb (ze zq (zf 2) (ze zq (zf 0) (cI 1))) zi))))
def da:Sm:=
 (zr (zM 3 ml)
 (zr (zM 4 me)
 (zr (y6 (zZ (ze (zR false) (ze zq (ze zq (zf 0) (cI 1)) (zf 1)) (cS (.str "keeper")))) (retS (zv oy (zb (zm 0) (zb (zm 1) (zb (zv mZ (zb (zm 4) zi)) zi))))) yy)
 (retS (zv m_ (zb (zm 4) zi))))))
def mS:List T->Option T:=z_ ["floor","place","last","ways","ahead"] 3 da
def mj:Ev->Option T:=
 w9 [none,some 2] (xQ (ze zq (zf 0) (cI 2))) (zG 0) (zZ (ze (pE false) (ze zq (zf 0) (cI 1)) (zf 1))) (ze zq (zf 0) (cI 0))
def mz:Sm:=
 (aH 3 (zf 4) (zv mS (zb (zm 0) (zb (zm 4) (zb (zm 1) zi)))))
def e_:Sm:=
 (zr (tD 3 (zv listS (zb (zf 1) zi)))
 (zr (vm [4] (xQ (zv rS (zb mj zi))) (zG 4) mz)
 (rZ 3)))
def pY:List T->Option T:=z_ ["floor","last","fresh","following","place"] 3 e_
def mm (xk:List T->Option T):Ev->Option T:=
 w9 [none,some 0,some 1] (wK tR (zb (zv wJ (zb (zf 0) zi)) zi)) (zG 0) sk (zv xk (zb (ze zq (zf 1) (zf 0)) (zb (ze zq (zf 2) (zf 0)) zi)))
def jy (xk:List T->Option T):Sm:=
 (zr (y6 (rm (xb (E_ "tuple" (zf 0))) (xb (E_ "tuple" (zf 1)))) (zr (y6 (zZ (ze (zR true) (zv wJ (zb (zf 0) zi)) (zv wJ (zb (zf 1) zi)))) (retS (cS (.bl false))) yy)
 (retS (zv (mx λ bs=>bs.all id) (zb (mm xk) zi)))) yy)
 (zr (y6 (u6 (zZ (ze (zR true) (E_ "bool" (zf 0)) (E_ "bool" (zf 1)))) (zZ (ze (zR true) (E_ "int" (zf 0)) (E_ "int" (zf 1))))) (retS (cS (.bl false))) yy)
 (retS (qw (ze (zR false) (E_ "tuple" (zf 0)) (E_ "tuple" (zf 1))) (ze (zR false) (zf 0) (zf 1))))))
def xk:Nat->List T->Option T
 | 0=>λ _=>none
 | n+1=>z_ ["_law_thing","_law_other"] 2 (jy (xk n))
def pO:Ev->Option T:=
 w9 [none,none,some 3] (wK vL (zb (zf 4) zi)) (vw 2 (xA (zG 0) (xA (zG 1) uL))) (zZ (ze (zR true) (zf 1) (ze zq (zf 2) (zf 0)))) (zm 0)
def uP:Sm:=
 (zr (zM 3 (ze zq (zf 1) (gs (cI 1))))
 (zr (zM 4 (zv pY (zb (zm 0) (zb (zm 3) (zb (zm 2) zi)))))
 (zr (zM 2 pO)
 (y6 (xb (zf 2)) (uQ 1 (zm 4)) yy))))
def eX:Sm:=
 (zr (tD 1 (yV (zb (ze x8 (yV (zb (tupS (zb (tupS (zb (cI 0) (zb (cI 0) zi))) zi)) zi)) (zv qE (zb (zm 0) zi))) zi)))
 (zr (zM 2 (zv nB (zb (zv qE (zb (zm 0) zi)) zi)))
 (zr (o4 1000000 [3,4] (xb (zf 2)) uP)
 (rZ 1))))
def mQ:List T->Option T:=z_ ["floor","told","fresh","last","following"] 1 eX
def lu:Sm:=
 (zr (y6 (u6 (zZ (ze (wL false) (zf 1) (cS .zk))) (zZ (ze (wL false) (zf 0) (cS .zk)))) (retS (qw (ze (wL false) (zf 1) (cS .zk)) (ze (wL false) (zf 0) (cS .zk)))) yy)
 (zr (zM 4 (yV (zb (nF (vb "NoPlace") (zf 0)) (zb (nF (vb "NoPair") (zf 0)) zi))))
 (zr (y6 (u6 (zZ (ze (zR true) (zf 4) (yV (zb (ze (zR false) (zf 1) (cI 0)) (zb (ze (zR false) (zf 1) (cI 1)) zi))))) (vM (xb (nF (λ _=>true) (zf 0))))) (retS (cS (.bl false))) yy)
 (zr (y6 (xb (nF (λ c=>[vb "NoFloor",vb "NoMore",vb "NoWay",vb "NoChange",vb "NoCount",vb "NoName",vb "NoRow"].any λ k=>k c) (zf 0))) (retS (cS (.bl false))) yy)
 (zr (y6 (zZ (ze (zR false) (zf 1) (cI 0))) (retS (zv (xk 6) (zb (fE "place" (zf 0)) (zb (zm 2) zi)))) yy)
 (retS (zv (xk 6) (zb (fE "pair" (zf 0)) (zb (zm 3) zi)))))))))
def tI:List T->Option T:=z_ ["_law_caught_here","_law_due_here","_law_place","_law_pair","_law_some"] 4 lu
def lx:Sm:=
 (zr (l4 rK (zb (zm 0) (zb (zm 1) zi)))
 (zr (l4 ju (zb (zm 0) (zb (zm 2) zi)))
 (c_ (zv jt (zb (zv mQ (zb (zm 0) zi)) (zb (zm 1) (zb (zm 2) zi)))))))
def ou:List T->Option T:=z_ ["floor","place","pair"] 3 lx
def dq:Sm:=
 (zr (zM 3 (cS .zk))
 (zr (cy 4 3 (l4 ou (zb (zm 0) (zb (zm 1) (zb (zm 2) zi)))))
 (retS (zm 3))))
def om:List T->Option T:=z_ ["_law_floor_here","_law_place","_law_pair","_law_caught_here","e"] 3 dq
def pS:Sm:=
 (zr (zM 3 (zv oh (zb (zv yQ (zb (zm 0) (zb (ze y8 (cI 36) (ze x8 (cI 2) (zf 2))) zi))) (zb (zv wJ (zb (ze zq (zf 1) (cI 1)) zi)) zi))))
 (zr (zM 4 (zv oj (zb (zv yQ (zb (zm 0) (zb (ze y8 (cI 37) (ze x8 (cI 2) (zf 2))) zi))) (zb (ze zq (zf 1) (cI 0)) zi))))
 (y6 (vM (xb (zv tI (zb (zv om (zb (zm 1) (zb (zm 3) (zb (zm 4) zi)))) (zb (zv mU (zb (zm 1) (zb (zm 3) (zb (zm 4) zi)))) (zb (zm 3) (zb (zm 4) zi))))))) (retS (cS (.bl false))) yy)))
def dv:Sm:=
 (zr (zM 1 (zv mT (zb (zm 0) zi)))
 (zr (vm [2,3,4] (wK tR (zb (cI 4) zi)) (zG 2) pS)
 (retS (ze (wL false) (zv om (zb (zm 1) (zb (cI 0) (zb (ze zq (zf 1) (cI 0)) zi)))) (cS .zk)))))
def oq:List T->Option T:=z_ ["_law_script","_law_floor_here","_law_k","_law_place","_law_pair"] 1 dv
def WS (ps:List (Int×Int)) (h:ps.length<64):qN [.lst (ps.map zt)]=some (.lst ((tP ps).map zt)):=by
 show (uh (ps.map zt)).bind _=_
 rw[Vt,BP,if_pos ⟨by simpa using h,λ r hr=>by obtain⟨p,_,rfl⟩:=Ay.mp hr;simp[vx]⟩,<- cC,AZ]
 rfl
noncomputable def cell (ns:List Int) (k:Nat):Int:=if k<ns.length then ns.getD k 0%10 ^ 40 else 0
def rL (ns:List Int) (k:Nat):yQ [zU ns,.int (k:Int)]=some (.int (cell ns k)):=by
 unfold yQ dm cell zU
 by_cases h:k<ns.length
 ·have e:L2.zW (ns.map T.int) (k:Int)=some (.int (ns.getD k 0)):=vR (by simp[h])
  simp[h,e,sL,yR]
 ·simp[h,yR]
def Pu {qs p:List (Int×Int)}{x:Int×Int}(hr:∀ r,qs++yM r (qs.getLast?.map (·.2))=yM (p++r) none) (hb:tB (qs.getLast?.map (·.2)) x.2=true) (r:List (Int×Int)):
  (qs++[x])++yM r ((qs++[x]).getLast?.map (·.2))=yM (p++[x]++r) none:=by
 have:=hr (x::r)
 rw[show yM (x::r) (qs.getLast?.map (·.2))=x::yM r (some x.2) by rw[yM,if_pos hb]] at this
 simpa using this
def Pw {qs p:List (Int×Int)}{x:Int×Int}(hr:∀ r,qs++yM r (qs.getLast?.map (·.2))=yM (p++r) none) (hb:tB (qs.getLast?.map (·.2)) x.2=false) (r:List (Int×Int)):
  qs++yM r (qs.getLast?.map (·.2))=yM (p++[x]++r) none:=by
 have:=hr (x::r)
 rw[show yM (x::r) (qs.getLast?.map (·.2))=yM r (qs.getLast?.map (·.2)) by rw[yM,if_neg (by rw[hb];nofun)]] at this
 simpa using this
def js (ps:List (Int×Int)) (hl:ps.length<64):sH [.lst (ps.map zt)]=some (.tup ((wZ ps).map zt)):=by
 obtain⟨J',h1,qs,h2,h3,h4⟩:=tq (is:=[2]) (g:=zG 2) (b:=pQ) zt (λ p J=>∃ qs:List (Int×Int),J=[some (.im (.lst (ps.map zt))),some (.own (.lst (qs.map zt))),none]/\qs.length<=p.length/\
   ∀ r,qs++yM r (qs.getLast?.map (·.2))=yM (p++r) none) (tP ps) [some (.im (.lst (ps.map zt))),some (.own (.lst [])),none] ⟨[],by simp,by simp,λ r=>by simp⟩ (by
  rintro p x q e J ⟨qs,rfl,hq,hr⟩
  have hlen:p.length<64:=by
   have:=congrArg List.length e
   rw[(jQ ps).length_eq] at this
   simp at this;lia
  have app:tB (qs.getLast?.map (·.2)) x.2=true->∃ Jr:List (Int×Int),yN [2] [some (.im (.lst (ps.map zt))),some (.own (.lst (qs.map zt++[zt x]))),some (.im (zt x))]=[some (.im (.lst (ps.map zt))),some (.own (.lst (Jr.map zt))),none]/\Jr.length<=(p++[x]).length/\∀ r,Jr++yM r (Jr.getLast?.map (·.2))=yM (p++[x]++r) none:=λ hb=>
   ⟨qs++[x],by simp,by simp;lia,Pu hr hb⟩
  rcases List.eq_nil_or_concat qs with rfl | ⟨init,l,rfl⟩
  ·refine⟨_,?_,app (by simp[tB])⟩
   simp[turn,pQ]
  ·simp only[List.concat_eq_append] at *
   by_cases hb:x.2<l.2
   ·refine⟨_,?_,app (by simp[tB,hb])⟩
    simp at hq
    simp[turn,pQ,zt,hb,yR]
    lia
   ·refine⟨[some (.im (.lst (ps.map zt))),some (.own (.lst ((init++[l]).map zt))),some (.im (zt x))],?_,init++[l],by simp,by simp at hq ⊢;lia,Pw hr (by simp[tB];lia)⟩
    simp[turn,pQ,zt,hb,yR])
 have h5:=h4 []
 simp[yM] at h5
 unfold sH de
 simp[WS ps hl,h1,h2,h5,wZ]
def Mh (b o:List (Int×Int)) (hl:b.length+o.length<64):mX [.tup (b.map zt),.tup (o.map zt)]=some (.tup ((wZ (b++o)).map zt)):=by
 have h:=js (b++o) (by simpa using hl)
 rw[Cw] at h
 have:b.length+o.length<=16777216:=by lia
 unfold mX d9
 simp[h,this]
noncomputable def r0 (p:Int×Int):List Int:=[p.1,0,p.2]
noncomputable def r1 (p:Int×Int):List Int:=[p.1,1,p.2]
noncomputable def xc (l:Option Int) (v:Int):Int:=match l with
 | none=>v
 | some m=>if m<v then m else v
noncomputable def uj (l:Option Int) (sh:List (Int×Int)) (f:Int->Int×Int):List (Int×Int):=match l with
 | some m=>sh++[f m]
 | none=>sh
structure Sw (b o:List (Int×Int)) (p:List (List Int)) (l0 l1:Option Int) (sh:List (Int×Int)):Prop where
 gC:∀ x,r0 x∈p->∃ m,l0=some m/\m<=x.2
 gB:∀ x,r1 x∈p->∃ m,l1=some m/\m<=x.2
 e9:∀ m,l0=some m->∃ x,r0 x∈p/\x.2=m
 ez:∀ m,l1=some m->∃ x,r1 x∈p/\x.2=m
 len:sh.length<=p.length
 snd:∀ s∈sh,(∃ x,r0 x∈p/\x.1<=s.1/\x.2<=s.2)/\∃ x,r1 x∈p/\x.1<=s.1/\x.2<=s.2
 all:∀ x y,r0 x∈p->r1 y∈p->∃ s∈sh,(s.1<=x.1\/s.1<=y.1)/\(s.2<=x.2\/s.2<=y.2)
def lX {x y:Int×Int}(h:r0 x=r0 y):x=y:=by
 unfold r0 at h;injection h with h1 h2;injection h2 with _ h2;injection h2 with h2 _;exact Prod.ext h1 h2
def lW {x y:Int×Int}(h:r1 x=r1 y):x=y:=by
 unfold r1 at h;injection h with h1 h2;injection h2 with _ h2;injection h2 with h2 _;exact Prod.ext h1 h2
def qV {x y:Int×Int}(h:r0 x=r1 y):False:=by
 unfold r0 r1 at h;injection h with h1 h2;injection h2 with h2 _;lia
def tj {p:List (List Int)}{a x:List Int}(h:a∈p++[x]):a∈p\/a=x:=by simpa using h
def Sw.WI {b o:List (Int×Int)}{p:List (List Int)}{l0 l1:Option Int}{sh:List (Int×Int)}(h:Sw b o p l0 l1 sh) (x:Int×Int) (hx:∀ y,r0 y∈p->y.1<=x.1) (hy:∀ y,r1 y∈p->y.1<=x.1):
  Sw b o (p++[r0 x]) (some (xc l0 x.2)) l1 (uj l1 sh λ m=>(x.1,if m>xc l0 x.2 then m else xc l0 x.2)):=by
 have lo:xc l0 x.2<=x.2/\∀ m,l0=some m->xc l0 x.2<=m:=by
  unfold xc
  cases l0 with
  | none=>exact⟨AQ _,nofun⟩
  | some m=>dsimp only;split <;> refine⟨by lia,λ m' e=>?_⟩ <;> cases e <;> lia
 have la:∃ y,r0 y∈p++[r0 x]/\y.2=xc l0 x.2:=by
  unfold xc
  cases l0 with
  | none=>exact⟨x,by simp,rfl⟩
  | some m=>
   dsimp only
   split
   ·obtain⟨y,h1,h2⟩:=h.e9 m rfl
    exact⟨y,by simp[h1],h2⟩
   ·exact⟨x,by simp,rfl⟩
 have G1:∀ s∈sh,(∃ x',r0 x'∈p++[r0 x]/\x'.1<=s.1/\x'.2<=s.2)/\∃ x',r1 x'∈p++[r0 x]/\x'.1<=s.1/\x'.2<=s.2:=λ s hs=>by
  obtain⟨⟨a,a1,a2⟩,c,c1,c2⟩:=h.snd s hs
  exact⟨⟨a,by simp[a1],a2⟩,c,by simp[c1],c2⟩
 refine⟨λ y hm=>?_,λ y hm=>?_,λ m e=>?_,λ m e=>?_,?_,λ s hs=>?_,λ y z hm hz=>?_⟩
 ·rcases tj hm with q | q
  ·obtain⟨m,e,q2⟩:=h.gC y q
   exact⟨_,rfl,by have:=lo.2 m e;lia⟩
  ·cases lX q;exact⟨_,rfl,lo.1⟩
 ·rcases tj hm with q | q
  ·exact h.gB y q
  ·exact (qV q.symm).elim
 ·cases e;exact la
 ·obtain⟨y,q1,q2⟩:=h.ez m e
  exact⟨y,by simp[q1],q2⟩
 ·have:=h.len
  cases l1 <;> simp[uj] <;> lia
 ·cases l1 with
  | none=>exact G1 s hs
  | some m=>
   rcases A0.mp hs with q | q
   ·exact G1 s q
   ·obtain rfl:s=_:=by simpa using q
    obtain⟨y,y1,y2⟩:=la
    obtain⟨z,z1,z2⟩:=h.ez m rfl
    have D2:=hy z z1
    refine⟨⟨y,y1,?_,by dsimp only;split <;> lia⟩,z,by simp[z1],D2,by dsimp only;split <;> lia⟩
    rcases tj y1 with w | w
    ·exact hx y w
    ·cases lX w;exact AQ _
 ·have Jy:r1 z∈p:=by
   rcases tj hz with q | q
   ·exact q
   ·exact (qV q.symm).elim
  rcases tj hm with q | q
  ·obtain⟨s,s1,s2⟩:=h.all y z q Jy
   refine⟨s,?_,s2⟩
   cases l1 <;> simp[uj,s1]
  ·cases lX q
   obtain⟨m,e,hm⟩:=h.gB z Jy
   subst e
   refine⟨_,AY _ Ap,.inl (AQ _),?_⟩
   have:=lo.1
   dsimp only
   split <;> lia
def Sw.swap {b o:List (Int×Int)}{p:List (List Int)}{l0 l1:Option Int}{sh:List (Int×Int)}(x:Int×Int) (h:Sw b o p l0 l1 sh) (hx:∀ y,r0 y∈p->y.1<=x.1) (hy:∀ y,r1 y∈p->y.1<=x.1):
  Sw b o (p++[r1 x]) l0 (some (xc l1 x.2)) (uj l0 sh λ m=>(x.1,if xc l1 x.2>m then xc l1 x.2 else m)):=by
 have lo:xc l1 x.2<=x.2/\∀ m,l1=some m->xc l1 x.2<=m:=by
  unfold xc
  cases l1 with
  | none=>exact⟨AQ _,nofun⟩
  | some m=>dsimp only;split <;> refine⟨by lia,λ m' e=>?_⟩ <;> cases e <;> lia
 have la:∃ y,r1 y∈p++[r1 x]/\y.2=xc l1 x.2:=by
  unfold xc
  cases l1 with
  | none=>exact⟨x,by simp,rfl⟩
  | some m=>
   dsimp only
   split
   ·obtain⟨y,h1,h2⟩:=h.ez m rfl
    exact⟨y,by simp[h1],h2⟩
   ·exact⟨x,by simp,rfl⟩
 have G1:∀ s∈sh,(∃ x',r0 x'∈p++[r1 x]/\x'.1<=s.1/\x'.2<=s.2)/\∃ x',r1 x'∈p++[r1 x]/\x'.1<=s.1/\x'.2<=s.2:=λ s hs=>by
  obtain⟨⟨a,a1,a2⟩,c,c1,c2⟩:=h.snd s hs
  exact⟨⟨a,by simp[a1],a2⟩,c,by simp[c1],c2⟩
 refine⟨λ y hm=>?_,λ y hm=>?_,λ m e=>?_,λ m e=>?_,?_,λ s hs=>?_,λ y z hm hz=>?_⟩
 ·rcases tj hm with q | q
  ·exact h.gC y q
  ·exact (qV q).elim
 ·rcases tj hm with q | q
  ·obtain⟨m,e,q2⟩:=h.gB y q
   exact⟨_,rfl,by have:=lo.2 m e;lia⟩
  ·cases lW q;exact⟨_,rfl,lo.1⟩
 ·obtain⟨y,q1,q2⟩:=h.e9 m e
  exact⟨y,by simp[q1],q2⟩
 ·cases e;exact la
 ·have:=h.len
  cases l0 <;> simp[uj] <;> lia
 ·cases l0 with
  | none=>exact G1 s hs
  | some m=>
   rcases A0.mp hs with q | q
   ·exact G1 s q
   ·obtain rfl:s=_:=by simpa using q
    obtain⟨y,y1,y2⟩:=la
    obtain⟨z,z1,z2⟩:=h.e9 m rfl
    have D2:=hx z z1
    refine⟨⟨z,by simp[z1],D2,by dsimp only;split <;> lia⟩,y,y1,?_,by dsimp only;split <;> lia⟩
    rcases tj y1 with w | w
    ·exact hy y w
    ·cases lW w;exact AQ _
 ·have Il:r0 y∈p:=by
   rcases tj hm with q | q
   ·exact q
   ·exact (qV q).elim
  rcases tj hz with q | q
  ·obtain⟨s,s1,s2⟩:=h.all y z Il q
   refine⟨s,?_,s2⟩
   cases l0 <;> simp[uj,s1]
  ·cases lW q
   obtain⟨m,e,hm⟩:=h.gC y Il
   subst e
   refine⟨_,AY _ Ap,.inr (AQ _),?_⟩
   have:=lo.1
   dsimp only
   split <;> lia
structure Lw (d:List (Key×T)) (l0 l1:Option Int):Prop where
 v0:xl d (.inl 0)=l0.map T.int
 v1:xl d (.inl 1)=l1.map T.int
 len:d.length=(if l0.isSome then 1 else 0)+if l1.isSome then 1 else 0
def Lw.VD {d:List (Key×T)}{l0 l1:Option Int}(h:Lw d l0 l1) (v:Int):Lw (ui d (.inl 0) (.int v)) (some v) l1:=by
 refine⟨by rw[l7];simp,by rw[l7];simpa using h.v1,?_⟩
 rw[aO,h.v0,h.len]
 cases l0 <;> cases l1 <;> simp
def Lw.VC {d:List (Key×T)}{l0 l1:Option Int}(h:Lw d l0 l1) (v:Int):Lw (ui d (.inl 1) (.int v)) l0 (some v):=by
 refine⟨by rw[l7];simpa using h.v0,by rw[l7];simp,?_⟩
 rw[aO,h.v1,h.len]
 cases l0 <;> cases l1 <;> simp
def kK {rows p q:List (List Int)}{x:List Int}(e:L4.xJ rows=p++x::q) {a:List Int}(ha:a∈p) {i j:Int}{as xs:List Int}(h1:a=i::as) (h2:x=j::xs):i<=j:=by
 have h:=L4.jP rows
 rw[e,List.pairwise_append] at h
 have:=h.2.2 a ha x Ap
 subst h1 h2
 rw[HT.sY] at this
 by_cases c:j=i
 ·lia
 ·rw[if_neg c] at this
  have:=of_decide_eq_false this
  lia
def Mq (b o:List (Int×Int)) (hl:b.length+o.length<64):∃ sh:List (Int×Int),mY [.tup (b.map zt),.tup (o.map zt)]=some (.tup ((wZ sh).map zt))/\sh.length<64/\∀ q,yb sh q=(yb b q&&yb o q):=by
 let a0:W:=.im (.tup (b.map zt))
 let a1:W:=.im (.tup (o.map zt))
 let rows:=b.map r0++o.map r1
 let a2:W:=.im (.lst (rows.map yo))
 have hlen:rows.length<64:=by simp[rows];exact hl
 have hs:qN [.lst (rows.map yo)]=some (.lst ((L4.xJ rows).map yo)):=by
  show ((uh (rows.map yo)).bind λ rs=>_)=_
  rw[iJ,BP,if_pos ⟨hlen,λ r hr=>by
   rcases A0.mp hr with h | h <;> obtain⟨_,_,rfl⟩:=Ay.mp h <;> simp[r0,r1]⟩]
 have JQ:(L4.xJ rows).length=rows.length:=(L4.uV rows).length_eq
 obtain⟨J1,h1,d,l0,l1,sh,e1,w1,s1⟩:=tq (is:=[5,6,7]) (g:=vw 3 (xA (zG 5) (xA (zG 6) (xA (zG 7) uL)))) (b:=m7) yo (λ p J=>∃ d l0 l1 sh,J=[some a0,some a1,some a2,some (.own (.zH d)),some (.own (.lst (sh.map zt))),none,none,none]/\Lw d l0 l1/\Sw b o p l0 l1 sh) (L4.xJ rows) [some a0,some a1,some a2,some (.own (.zH [])),some (.own (.lst [])),none,none,none]
  ⟨[],none,none,[],by simp,⟨rfl,rfl,rfl⟩,⟨nofun,nofun,nofun,nofun,by simp,nofun,nofun⟩⟩ (by
  rintro p x q e J ⟨d,l0,l1,sh,rfl,hw,BS⟩
  have hx:x∈rows:=(L4.uV rows).mem_iff.mp (by rw[e];simp)
  have Am:p.length<64:=by
   have:=congrArg List.length e
   rw[JQ] at this;simp at this;lia
  have Be:sh.length<16777216:=by have:=BS.len;lia
  have Cm:d.length<16777216:=by rw[hw.len];split <;> split <;> lia
  rcases A0.mp hx with hm | hm
  ·obtain⟨y,_,rfl⟩:=Ay.mp hm
   have st:=BS.WI y (λ z hz=>kK e hz rfl rfl) (λ z hz=>kK e hz rfl rfl)
   have Hl:=hw.VD (xc l0 y.2)
   refine⟨[some a0,some a1,some a2,some (.own (.zH (ui d (.inl 0) (.int (xc l0 y.2))))),some (.own (.lst ((uj l1 sh λ m=>(y.1,if m>xc l0 y.2 then m else xc l0 y.2)).map zt))),some (.im (.int y.1)),some (.im (.int 0)),some (.im (.int y.2))],?_,_,_,_,_,(by simp),Hl,st⟩
   have hr:yo (r0 y)=.tup [.int y.1,.int 0,.int y.2]:=rfl
   have v0:=Hl.v0
   have v1:=Hl.v1
   have ln:=Hl.len
   cases l0 <;> cases l1 <;> simp[turn,m7,hr,hw.v0,Cm,Be,xc,uj,zR,dep,eqT] at v0 v1 ln ⊢ <;> simp[v0,v1,ln,zt,uj]
  ·obtain⟨y,_,rfl⟩:=Ay.mp hm
   have st:=BS.swap y (λ z hz=>kK e hz rfl rfl) (λ z hz=>kK e hz rfl rfl)
   have Hl:=hw.VC (xc l1 y.2)
   refine⟨[some a0,some a1,some a2,some (.own (.zH (ui d (.inl 1) (.int (xc l1 y.2))))),some (.own (.lst ((uj l0 sh λ m=>(y.1,if xc l1 y.2>m then xc l1 y.2 else m)).map zt))),some (.im (.int y.1)),some (.im (.int 1)),some (.im (.int y.2))],?_,_,_,_,_,(by simp),Hl,st⟩
   have hr:yo (r1 y)=.tup [.int y.1,.int 1,.int y.2]:=rfl
   have v0:=Hl.v0
   have v1:=Hl.v1
   have ln:=Hl.len
   cases l0 <;> cases l1 <;> simp[turn,m7,hr,hw.v1,Cm,Be,xc,uj,zR,dep,eqT] at v0 v1 ln ⊢ <;> simp[v0,v1,ln,zt,uj])
 have DJ:sh.length<64:=by have:=s1.len;lia
 refine⟨sh,?_,DJ,λ q=>?_⟩
 ·subst e1
  have Jc:ee [some a0,some a1,none,none,none,none,none,none]=some (.lst ((b.map r0).map yo)):=by
   rw[AZ]
   exact sZ zt (yo ∘ r0) b (by simp[a0]) (by lia) λ y _=>by simp[zt,yo,r0]
  have Gu:f_ [some a0,some a1,none,none,none,none,none,none]=some (.lst ((o.map r1).map yo)):=by
   rw[AZ]
   exact sZ zt (yo ∘ r1) o (by simp[a1]) (by lia) λ y _=>by simp[zt,yo,r1]
  have hF:=js sh DJ
  have z:b.length+o.length<=16777216:=by lia
  simp only[a0,a1,a2,rows,Cw] at Jc Gu hs h1
  unfold mY dB
  simp[Jc,Gu,z,hs,h1,hF] at Jc Gu hs h1 ⊢
  simp[Jc,Gu,z,hs,h1,hF]
 ·have m0:∀ x,r0 x∈L4.xJ rows↔x∈b:=λ x=>by
   rw[(L4.uV rows).mem_iff]
   constructor
   ·intro h
    rcases A0.mp h with h | h <;> obtain⟨y,hy,e⟩:=Ay.mp h
    ·cases lX e;exact hy
    ·exact (qV e.symm).elim
   ·exact λ h=>CQ _ (List.mem_map_of_mem h)
  have m1:∀ x,r1 x∈L4.xJ rows↔x∈o:=λ x=>by
   rw[(L4.uV rows).mem_iff]
   constructor
   ·intro h
    rcases A0.mp h with h | h <;> obtain⟨y,hy,e⟩:=Ay.mp h
    ·exact (qV e).elim
    ·cases lW e;exact hy
   ·exact λ h=>AY _ (List.mem_map_of_mem h)
  rw[BL,Bi,x9,x9,x9]
  constructor
  ·rintro⟨s,hs,g1,g2⟩
   obtain⟨⟨x,x1,x2,x3⟩,y,y1,y2,y3⟩:=s1.snd s hs
   exact⟨⟨x,(m0 x).mp x1,by lia,by lia⟩,y,(m1 y).mp y1,by lia,by lia⟩
  ·rintro⟨⟨x,x1,x2,x3⟩,y,y1,y2,y3⟩
   obtain⟨s,s1,g1,g2⟩:=s1.all x y ((m0 x).mpr x1) ((m1 y).mpr y1)
   exact⟨s,s1,by lia,by lia⟩
theorem fR {α:Type}(enc:α->T) (n:Nat) (h:∀ x,dep (enc x)<=n):∀ xs:List α,xt (xs.map enc)<=n
 | []=>by simp[xt]
 | x::xs=>by
  have:=h x
  have:=fR enc n h xs
  simp only[Au,xt]
  lia
def OD (p:Int×Int):dep (zt p)<=1:=by simp[zt,dep,xt]
def ZY (ps:List (Int×Int)):dep (.tup (ps.map zt))<=60:=by
 have:=fR zt 1 OD ps
 simp only[dep]
 lia
end yu
namespace yu
open PySem L2 L3 L5 RN
def bT (b:Bd):T:=.tup (b.map zt)
def rT (r:List Bd):T:=.lst (r.map bT)
noncomputable def kt (b:Bool):T:=if b=true then .str "keeper" else .str "taker"
noncomputable def yD (w:Wy):T:=.tup [.int w.f,.int w.t,.int w.a,.int w.b]
noncomputable def vz (b:Bool):Int:=if b=true then 1 else 0
def yI (s:Sl):T:=.tup [.int s.p,.int (vz s.pu),.int s.gv,.int s.gt]
def zx (F:zT):T:=.tup [.tup [.int F.A,.int F.B],.tup (F.os.map kt),.tup (F.ws.map yD),.tup (F.ss.map yI)]
def eq_int (i j:Int) (neg:Bool):zR neg (.int i) (.int j)=some (.bl (cond neg (!decide (i=j)) (decide (i=j)))):=by
 simp[zR,dep,eqT];cases neg <;> simp[Bool.beq_eq_decide_eq]
def eP (F:zT):qE [zx F]=some (.int F.os.length):=by
 simp[qE,eY,zx]
def YY (q p:Int×Int):oz [zt q,zt p]=some (.bl (wN q p)):=by
 by_cases h1:p.1<=q.1 <;> by_cases h2:p.2<=q.2 <;> simp[oz,dG,zt,wN,h1,h2]
def Yy {α:Type}(g:α->Bool) (xs:List α):sr (xs.map λ x=>T.bl (g x))=some (xs.map g):=by
 have:=Y0 (xs.map g)
 rwa [AZ] at this
def Mc (ps:List (Int×Int)) (q:Int×Int) (hl:ps.length<=10000):mW [bT ps,zt q]=some (.bl (yb ps q)):=by
 have hc:mq [some (.im (bT ps)),some (.im (zt q))]=some (.lst (ps.map λ p=>T.bl (wN q p))):=by
  unfold mq
  refine sZ zt _ ps (by simp[bT]) (by lia) λ p _=>?_
  simp[YY]
 unfold mW dw
 generalize mq=cc at hc ⊢
 simp[hc,Yy]
 rfl
def Mr (A B:Int) (w:Wy) (bd:Bd) (hl:bd.length<64):lb [.tup [.int A,.int B],yD w,bT bd]=some (bT (mD A B w.a w.b bd)):=by
 have h1:mr [some (.im (.tup [.int A,.int B])),some (.im (yD w)),some (.im (bT bd)),none]=some (.lst ((bd.map (xS w.a w.b)).map zt)):=by
  rw[AZ]
  unfold mr
  refine sZ zt _ bd (by simp[bT]) (by lia) λ p _=>?_
  simp[zt,yD,xS,x_,qm]
 have h2:mf [some (.im (.tup [.int A,.int B])),some (.im (yD w)),some (.im (bT bd)),some (.im (.lst ((bd.map (xS w.a w.b)).map zt)))]=some (.lst (((bd.map (xS w.a w.b)).filter (vH A B)).map zt)):=by
  have:=k7 zt (λ p=>if vH A B p=true then some (zt p) else none) (pick:=[none,some 0]) (it:=xQ (zf 3)) (g:=zG 0) (c:=xb (zv oz (zb (zm 1) (zb (zm 0) zi)))) (f:=zm 0) (J:=[some (.im (.tup [.int A,.int B])),some (.im (yD w)),some (.im (bT bd)),some (.im (.lst ((bd.map (xS w.a w.b)).map zt)))]) (bd.map (xS w.a w.b)) (by simp) (by simp;lia) (λ p _=>by
   have e:T.tup [.int A,.int B]=zt (A,B):=rfl
   have ga:wN (A,B) p=vH A B p:=rfl
   simp only[qk,e]
   simp[YY,ga]
   cases vH A B p <;> simp)
  unfold mf
  rw[this,show ∀ l:List (Int×Int),l.filterMap (λ p=>if vH A B p=true then some (zt p) else none)=(l.filter (vH A B)).map zt from λ l=>by
   induction l with
   | nil=>rfl
   | cons a l ih=>by_cases h:vH A B a=true <;> simp[Cu,h,ih]]
 have h3:=js ((bd.map (xS w.a w.b)).filter (vH A B)) (Nat.lt_of_le_of_lt (Ds _ _) (by simpa using hl))
 unfold lb dF
 generalize mr=d1 at h1 ⊢
 generalize mf=d2 at h2 ⊢
 generalize sH=ff at h3 ⊢
 generalize (bd.map (xS w.a w.b)).map zt=L1 at h1 h2
 generalize (((bd.map (xS w.a w.b)).filter (vH A B)).map zt)=L2 at h2 h3
 simp[h1,h2,h3]
 rfl
def Mg (b c:Bd) (hl:b.length+c.length<64):mX [bT b,bT c]=some (bT (u5 b c)):=Mh b c hl
def Mp (b c:Bd) (hl:b.length+c.length<64):mY [bT b,bT c]=some (bT (vP b c)):=by
 obtain⟨sh,h1,_,h2⟩:=Mq b c hl
 have:wZ sh=vP b c:=vt.eq (gJ _) (gJ _) λ q=>by
  rw[k6,h2,<- Yu]
 rw[<- this];exact h1
def Mf {A B:Int}(hA:0<=A/\A<=12) (bs:List Bd) (h:∀ b∈bs,Gd A B b):mZ [.lst (bs.map bT)]=some (bT (se bs)):=by
 obtain⟨J',h1,h2⟩:=tq (is:=[2]) (g:=zG 2) (b:=m9) bT (λ p J=>J=[some (.im (.lst (bs.map bT))),some (.im (bT (p.foldl u5 []))),none]) bs [some (.im (.lst (bs.map bT))),some (.im (bT [])),none] rfl (by
  rintro p x q e J rfl
  have g1:Gd A B (p.foldl u5 []):=kR p [] Gd.nil λ c hc=>h c (by rw[e];simp[hc])
  have g2:Gd A B x:=h x (by rw[e];simp)
  have l1:=g1.qj hA.1
  have l2:=g2.qj hA.1
  refine⟨[some (.im (.lst (bs.map bT))),some (.im (bT (u5 (p.foldl u5 []) x))),some (.im (bT x))],?_,by simp⟩
  simp[turn,m9,Mg (p.foldl u5 []) x (by lia)])
 subst h2
 unfold mZ dD
 generalize m9=bb at h1 ⊢
 have e:bT []=.tup []:=rfl
 rw[e] at h1
 simp[h1,se]
def Mo {A B:Int}(hA:0<=A/\A<=12) (hB:0<=B) (bs:List Bd) (h:∀ b∈bs,Gd A B b):m_ [.lst (bs.map bT)]=some (bT (jc bs)):=by
 obtain⟨J',h1,h2⟩:=tq (is:=[2]) (g:=zG 2) (b:=mB) bT (λ p J=>J=[some (.im (.lst (bs.map bT))),some (.im (bT (p.foldl vP xU))),none]) bs [some (.im (.lst (bs.map bT))),some (.im (bT xU)),none] rfl (by
  rintro p x q e J rfl
  have g1:Gd A B (p.foldl vP xU):=eh p xU (Gd.xU hA.1 hB) λ c hc=>h c (by rw[e];simp[hc])
  have g2:Gd A B x:=h x (by rw[e];simp)
  have l1:=g1.qj hA.1
  have l2:=g2.qj hA.1
  refine⟨[some (.im (.lst (bs.map bT))),some (.im (bT (vP (p.foldl vP xU) x))),some (.im (bT x))],?_,by simp⟩
  simp[turn,mB,Mp (p.foldl vP xU) x (by lia)])
 subst h2
 unfold m_ dE
 generalize mB=bb at h1 ⊢
 have e:bT xU=.tup [.tup [.int 0,.int 0]]:=rfl
 rw[e] at h1
 simp[h1,jc]
theorem gD {α:Type}{is:List Nat}{g:T->Ev->Option Ev}{b:Sm}(enc ret:α->T) (test:α->Bool) (J0:Ev):∀ (xs:List α) (J:Ev),yN is J=J0->
  (∀ x∈xs,∃ J',yN is J'=J0/\turn g b (enc x) J0=some (if test x=true then .rt (ret x) else .nx J'))->
  w6 is g b (xs.map enc) J=some (match xs.find? test with | some x=>.rt (ret x) | none=>.nx J0)
 | [],J,h,_=>by rw[A9,List.find?_nil,w6,h]
 | x::xs,J,h,ht=>by
  rw[Au,gE,h]
  obtain⟨J',h1,h2⟩:=ht x Ap
  rw[h2,Cq]
  by_cases c:test x=true
  ·rw[if_pos c,c];rfl
  ·rw[if_neg c]
   rw[Bool.not_eq_true] at c
   rw[c]
   exact gD enc ret test J0 xs J' h1 λ y hy=>ht y (Ax _ hy)
def NL (i a b:Int):rJ [.int i,.int a,.int b]=some (.bl (decide (a<=i)&&decide (i<=b))):=by
 have h:ox [.int i]=some (.bl true):=by simp[ox,j6,xo]
 by_cases h1:a<=i <;> by_cases h2:i<=b <;> simp[rJ,ly,h,h1,h2]
def YW (F:zT) (p:Nat) (h:p<F.os.length):rK [zx F,.int p]=some .zk:=by
 have h1:=NL p 0 ((F.os.length:Int)-1)
 rw[show decide ((0:Int)<=p)=true from KU (by lia),show decide ((p:Int)<=(F.os.length:Int)-1)=true from KU (by lia)] at h1
 have h2:=eP F
 unfold rK j8
 generalize zx F=fl at *
 simp[h1,h2]
def OT (pu:Bool) (A B:Int) (sp gv gt:Int) (x y:Int) (hg:1<=gv) (b0 b1:T) (hb:zq b0 (.int (vz pu))=some (.int (if pu=true then B else A))) (HS:zq b1 (.int 2)=some (.int gv)) (hs3:zq b1 (.int 3)=some (.int gt)) (pr:T):
  ∀ (n m:Nat) (g t:Int) (acc:Bd),(if pu=true then B else A)+1-g<=n->n<m->acc.length+n<=1000->
  ∃ g' t',wz [] (zZ (ze tu (zf 5) (ze zq (zf 0) (zf 3)))) rA m [some (.im b0),some (.im b1),some (.im pr),some (.im (.int (vz pu))),some (.own (.lst (acc.map zt))),some (.im (.int g)),some (.im (.int t))]
   = some (.nx [some (.im b0),some (.im b1),some (.im pr),some (.im (.int (vz pu))),some (.own (.lst ((acc++wc pu (if pu=true then B else A) gv gt n g t).map zt))),some (.im (.int g')),some (.im (.int t'))]):=by
 have Bp:∀ (m:Nat) (g t:Int) (acc:Bd),¬ g<=(if pu=true then B else A)->wz [] (zZ (ze tu (zf 5) (ze zq (zf 0) (zf 3)))) rA (m+1) [some (.im b0),some (.im b1),some (.im pr),some (.im (.int (vz pu))),some (.own (.lst (acc.map zt))),some (.im (.int g)),some (.im (.int t))]
   = some (.nx [some (.im b0),some (.im b1),some (.im pr),some (.im (.int (vz pu))),some (.own (.lst (acc.map zt))),some (.im (.int g)),some (.im (.int t))]):=λ m g t acc hn=>by
  unfold wz
  simp only[zq] at hb
  simp[hb,hn]
 intro n
 induction n with
 | zero=>
  intro m g t acc h1 h2 h3
  obtain⟨m,rfl⟩:∃ k,m=k+1:=⟨m-1,by lia⟩
  refine⟨g,t,?_⟩
  rw[Bp m g t acc (by lia)]
  simp[wc]
 | succ n ih=>
  intro m g t acc h1 h2 h3
  obtain⟨m,rfl⟩:∃ k,m=k+1:=⟨m-1,by lia⟩
  by_cases hc:g<=(if pu=true then B else A)
  ·obtain⟨g',t',e⟩:=ih m (g+gv) (x_ (t-gt)) (acc++[tS pu g t]) (by lia) (by lia) (by simp;lia)
   refine⟨g',t',?_⟩
   have Kf:rA [some (.im b0),some (.im b1),some (.im pr),some (.im (.int (vz pu))),some (.own (.lst (acc.map zt))),some (.im (.int g)),some (.im (.int t))]=some (.nx [some (.im b0),some (.im b1),some (.im pr),some (.im (.int (vz pu))),some (.own (.lst ((acc++[tS pu g t]).map zt))),some (.im (.int (g+gv))),some (.im (.int (x_ (t-gt))))]):=by
    simp only[zq] at HS hs3
    have hl:acc.length<16777216:=by lia
    unfold rA
    cases pu <;> simp[vz,eq_int,HS,hs3,hl,qm,x_,tS,zt]
   unfold wz
   simp only[zq] at hb
   generalize rA=bb at *
   have e2:wc pu (if pu=true then B else A) gv gt (n+1) g t=tS pu g t::wc pu (if pu=true then B else A) gv gt n (g+gv) (x_ (t-gt)):=by
    rw[wc,if_pos hc]
   rw[e2]
   simp only[List.append_assoc,List.singleton_append] at e
   simp[hb,hc,Kf]
   simpa using e
  ·refine⟨g,t,?_⟩
   rw[Bp m g t acc hc,wc,if_neg hc,Ci]
def Mm {F:zT}(ok:F.Ok) (s:Sl) (hs:1<=s.gv/\0<=s.gt) (p:Int×Int) (h0:0<=p.1/\0<=p.2):mR [.tup [.int F.A,.int F.B],yI s,zt p]=some (.lst ((yX F s p).map zt)):=by
 obtain⟨sp,pu,gv,gt⟩:=s
 have a1:=ok.a1
 have b1:=ok.b1
 obtain⟨g',t',h⟩:=OT pu F.A F.B sp gv gt p.1 p.2 hs.1 (.tup [.int F.A,.int F.B]) (yI ⟨sp,pu,gv,gt⟩) (by cases pu <;> simp[vz]) (by simp[yI]) (by simp[yI]) (zt p) 100 1000000 (vF pu p) (tX pu p) [] (by cases pu <;> simp[vF] <;> lia) (by decide) (by simp)
 unfold mR eZ o4
 generalize hb:rA=bb at h ⊢
 unfold yX zT.yY
 simp only[A9,List.nil_append] at h
 cases pu <;> simp[yI,vz,zt,vF,tX] at h ⊢ <;> simp[h]
def NR (F:zT) (p:Nat) (h:p<F.os.length) (hl:F.ss.length<=60):qD [zx F,.int p]=some (match F.F_ p with | some s=>yI s | none=>.zk):=by
 have Gm:=gD (is:=[2]) (g:=zG 2) (b:=pP) yI yI (λ s=>decide (s.p=p)) [some (.im (zx F)),some (.im (.int p)),none] F.ss [some (.im (zx F)),some (.im (.int p)),none] (by simp) λ s _=>⟨[some (.im (zx F)),some (.im (.int p)),some (.im (yI s))],by simp,by
  by_cases c:s.p=p
  ·simp[turn,pP,yI,eq_int,c]
  ·have c':¬ ((s.p:Int)=(p:Int)):=by lia
   simp[turn,pP,yI,eq_int,c,c']⟩
 have h1:=YW F p h
 have h2:zq (zx F) (.int 3)=some (.tup (F.ss.map yI)):=by simp[zx]
 unfold qD eW
 generalize pP=bb at *
 generalize zx F=fl at *
 simp only[zq] at h2
 unfold zT.F_
 generalize F.ss.find? _=o at *
 simp[h1,h2,Gm]
 cases o <;> simp
theorem ZM:∀ (ws:List Wy) (k:Nat),sd k (ws.map yD)=(ws.zipIdx k).map λ wi=>T.tup [.int (wi.2:Int),yD wi.1]
 | [],k=>rfl
 | w::ws,k=>by
  rw[Au,sd,ZM ws (k+1),Dt,Au]
theorem jA (f:Wy->Bool):∀ (ws:List Wy) (k:Nat),((ws.zipIdx k).filter λ wi=>f wi.1).map (λ wi=>wi.1)=ws.filter f
 | [],k=>rfl
 | w::ws,k=>by
  rw[Dt,List.filter_cons,List.filter_cons]
  by_cases c:f w=true
  ·rw[if_pos (by exact c),if_pos c,Au,jA f ws]
  ·rw[if_neg (by exact c),if_neg c,jA f ws]
def NN (F:zT) (p:Nat) (h:p<F.os.length) (hl:F.ws.length<=60):mO [zx F,.int p]=some (.lst (((F.ws.zipIdx).filter λ wi=>decide (wi.1.f=p)).map λ wi=>T.int (wi.2:Int))):=by
 have hc:mh [some (.im (zx F)),some (.im (.int p))]=some (.lst (((F.ws.zipIdx).filter λ wi=>decide (wi.1.f=p)).map λ wi=>T.int (wi.2:Int))):=by
  have:=k7 (λ wi:Wy×Nat=>T.tup [.int (wi.2:Int),yD wi.1]) (λ wi=>if wi.1.f=p then some (T.int (wi.2:Int)) else none) (pick:=[none,none,some 1]) (it:=wK vL (zb (ze zq (zf 0) (cI 2)) zi)) (g:=vw 2 (xA (zG 0) (xA (zG 1) uL))) (c:=zZ (ze (zR false) (ze zq (zf 1) (cI 0)) (zf 2))) (f:=zm 0) (J:=[some (.im (zx F)),some (.im (.int p))]) (F.ws.zipIdx) (by
   rw[<- ZM]
   simp[zx]) (by simp;lia) (λ wi _=>by
   by_cases c:wi.1.f=p
   ·simp[yD,eq_int,c]
   ·have c':¬ ((wi.1.f:Int)=(p:Int)):=by lia
    simp[yD,eq_int,c,c'])
  unfold mh
  rw[this]
  congr 2
  induction F.ws.zipIdx with
  | nil=>rfl
  | cons a l ih=>by_cases c:a.1.f=p <;> simp[Cu,c,ih]
 have h1:=YW F p h
 unfold mO eV
 generalize mh=cc at *
 generalize zx F=fl at *
 generalize List.map (λ wi:Wy×Nat=>T.int (wi.2:Int)) _=LL at *
 simp[h1,hc]
theorem ZK:∀ (b c:Bd),xr (b.map zt) (c.map zt)=decide (b=c)
 | [],[]=>by simp[xr]
 | [],_::_=>by simp[xr]
 | _::_,[]=>by simp[xr]
 | p::b,q::c=>by
  have h:=ZK b c
  have e:eqT (zt p) (zt q)=decide (p=q):=by
   obtain⟨p1,p2⟩:=p
   obtain⟨q1,q2⟩:=q
   by_cases h1:p1=q1 <;> by_cases h2:p2=q2 <;> simp[zt,eqT,xr,h1,h2]
  rw[Au,Au,xr,e,h]
  by_cases h1:p=q <;> by_cases h2:b=c <;> simp[h1,h2]
def Qb (b c:Bd):zR true (bT b) (bT c)=some (.bl (decide (b≠c))):=by
 have h1:dep (bT b)<=60:=ZY b
 have h2:dep (bT c)<=60:=ZY c
 unfold zR
 rw[if_pos ⟨h1,h2⟩]
 show some (T.bl (!(xr (b.map zt) (c.map zt))))=_
 rw[ZK]
 by_cases h:b=c <;> simp[h]
def gN (l:List Bd) (p:Nat) (h:p<l.length):zq (rT l) (.int p)=some (bT (l.getD p [])):=by
 show L2.zW (l.map bT) (p:Int)=_
 refine vR ?_
 rw[AE,A3 h,Bv,A3 h];rfl
def Ml {F:zT}(ok:F.Ok) (p:Nat) (hp:p<F.os.length) (b:Bd) (hb:Gd F.A F.B b):oy [zx F,.int p,bT b]=some (bT (match F.F_ p with | none=>b | some s=>ma F s b)):=by
 have h1:=NR F p hp ok.s8
 cases hs:F.F_ p with
 | none=>
  rw[hs] at h1
  unfold oy j9
  generalize qD=f1 at h1 ⊢
  generalize zx F=fl at *
  generalize bT b=bb at *
  have is1:wL false .zk .zk=some (.bl true):=rfl
  simp[h1,is1]
 | some s=>
  rw[hs] at h1
  replace h1:qD [zx F,.int p]=some (yI s):=h1
  have A6:s∈F.ss:=List.mem_of_find?_eq_some hs
  have hsz:=ok.ss s A6
  have Gg:(F.A+1)*(F.B+1)<64:=by
   rcases ok.sl with x | x
   ·rw[x] at A6;cases A6
   ·exact x
  have a0:=ok.a0
  have b0:=ok.b0
  have Eh:∀ x∈b,((yX F s x).length:Int)<=F.yY s.pu+1:=λ x hx=>by
   have q:=hb.ur x hx
   have:=Yr s.pu (F.yY s.pu) s.gv s.gt hsz.1 100 (vF s.pu x) (tX s.pu x) (by unfold zT.yY vF;split <;> lia)
   have g0:0<=vF s.pu x:=by unfold vF;split <;> lia
   unfold yX;lia
  have Aw:∀ q:Bd,(∀ x∈q,x∈b)->((q.flatMap (yX F s)).length:Int)<=q.length*(F.yY s.pu+1):=λ q=>by
   induction q with
   | nil=>intro _;simp
   | cons x q ih=>
    intro hq
    have i1:=ih λ y hy=>hq y (Ax _ hy)
    have i2:=Eh x (hq x Ap)
    rw[List.flatMap_cons,B6,AW,C0,C0,Int.add_mul]
    lia
  have hlen:(b.flatMap (yX F s)).length<64:=by
   have h2:=Aw b λ _ h=>h
   have l1:=hb.qj a0
   have l2:=hb.Q1 b0
   have:((b.flatMap (yX F s)).length:Int)<64:=by
    refine Int.lt_of_le_of_lt h2 (Int.lt_of_le_of_lt ?_ Gg)
    unfold zT.yY
    split
    ·exact zc7 l1 (by lia)
    ·rw[Int.mul_comm (F.A+1)]
     exact zc7 l2 (by lia)
   lia
  have hbr:zq (zx F) (.int 0)=some (.tup [.int F.A,.int F.B]):=by simp[zx]
  obtain⟨J',h2,h3⟩:=tq (is:=[5]) (g:=zG 5) (b:=mC) zt (λ q J=>J=[some (.im (zx F)),some (.im (.int p)),some (.im (bT b)),some (.im (yI s)),some (.own (.lst ((q.flatMap (yX F s)).map zt))),none]) b [some (.im (zx F)),some (.im (.int p)),some (.im (bT b)),some (.im (yI s)),some (.own (.lst [])),none] rfl (by
   rintro q x r e J rfl
   have hx:x∈b:=by rw[e];simp
   have q1:=hb.ur x hx
   have hF:=Mm ok s hsz x ⟨q1.1.1,q1.2.1⟩
   have Hh:(q.flatMap (yX F s)).length+(yX F s x).length<=16777216:=by
    have e2:(b.flatMap (yX F s)).length=(q.flatMap (yX F s)).length+((yX F s x).length+(r.flatMap (yX F s)).length):=by rw[e];simp
    lia
   refine⟨[some (.im (zx F)),some (.im (.int p)),some (.im (bT b)),some (.im (yI s)),some (.own (.lst (((q++[x]).flatMap (yX F s)).map zt))),some (.im (zt x))],?_,by simp⟩
   have e3:((q++[x]).flatMap (yX F s)).map zt=(q.flatMap (yX F s)).map zt++(yX F s x).map zt:=by simp
   rw[e3]
   unfold turn mC
   have l3:((q.flatMap (yX F s)).map zt).length+((yX F s x).map zt).length<=16777216:=by simpa using Hh
   generalize mR=ff at *
   generalize (q.flatMap (yX F s)).map zt=L1 at *
   generalize (yX F s x).map zt=L2 at *
   generalize zx F=fl at *
   simp only[zq] at hbr
   simp[hbr,hF,l3])
  subst h3
  have hF:=js (b.flatMap (yX F s)) hlen
  have nn:wL false (yI s) .zk=some (.bl false):=rfl
  unfold oy j9
  generalize mC=bb at *
  generalize sH=ff at *
  generalize qD=f1 at *
  generalize (b.flatMap (yX F s)).map zt=L1 at *
  have hbT:xX (bT b)=some (b.map zt):=rfl
  generalize bT b=bt at *
  generalize zx F=fl at *
  generalize yI s=st at *
  simp[h1,nn,hbT,h2,hF]
  rfl
def Ma {F:zT}(ok:F.Ok) (p:Nat) (hp:p<F.os.length) (l:List Bd) (hl:l.length=F.os.length) (hg:∀ b∈l,Gd F.A F.B b):mS [zx F,.int p,rT l]=some (bT (xn F l p)):=by
 have h1:=NN F p hp ok.o5
 have IK:zq (zx F) (.int 2)=some (.tup (F.ws.map yD)):=by simp[zx]
 have hw0:zq (zx F) (.int 0)=some (.tup [.int F.A,.int F.B]):=by simp[zx]
 have J9:zq (zx F) (.int 1)=some (.tup (F.os.map kt)):=by simp[zx]
 have c1:ml [some (.im (zx F)),some (.im (.int p)),some (.im (rT l)),none,none]=some (.lst ((F.ws.filter λ w=>decide (w.f=p)).map yD)):=by
  rw[<- jA (λ w=>decide (w.f=p)) F.ws 0,AZ]
  unfold ml
  refine sZ (λ wi:Wy×Nat=>T.int (wi.2:Int)) _ ((F.ws.zipIdx).filter λ wi=>decide (wi.1.f=p)) ?_ (BA (Ds _ _) (by rw[List.length_zipIdx];have:=ok.o5;lia)) λ wi CT=>?_
  ·generalize mO=ff at *
   simp[h1]
  ·have hm:=(Bu.mp CT).1
   have hg:=List.mem_zipIdx_iff_getElem?.mp hm
   have:L2.zW (F.ws.map yD) (wi.2:Int)=some (yD wi.1):=by
    exact vR (by rw[AE,hg];rfl)
   generalize zx F=fl at *
   simp only[zq] at IK
   simp[IK,this]
 have c2:me [some (.im (zx F)),some (.im (.int p)),some (.im (rT l)),some (.im (.lst ((F.ws.filter λ w=>decide (w.f=p)).map yD))),none]=some (.lst ((ve F l p).map bT)):=by
  unfold ve
  rw[AZ]
  unfold me
  refine sZ yD _ (F.ws.filter λ w=>decide (w.f=p)) (by simp) (BA (Ds _ _) (by have:=ok.o5;lia)) λ w hw=>?_
  have hm:=(Bu.mp hw).1
  have ht:w.t<l.length:=by rw[hl];exact (ok.ws w hm).2
  have e1:=gN l w.t ht
  have gb:Gd F.A F.B (l.getD w.t []):=by
   rw[Bv,A3 ht]
   exact hg _ (BJ ht)
  have l13:=gb.qj ok.a0
  have a12:=ok.a1
  have hF:=Mr F.A F.B w (l.getD w.t []) (by lia)
  have e2:zq (yD w) (.int 1)=some (.int (w.t:Int)):=by simp[yD]
  obtain⟨bd,Ba⟩:∃ bd,l.getD w.t []=bd:=⟨_,rfl⟩
  rw[Ba] at e1 gb hF
  have EA:(l[w.t]?).getD []=bd:=by rw[<- Ba,Bv]
  generalize lb=ff at *
  generalize zx F=fl at *
  generalize rT l=rt at *
  generalize yD w=wt at *
  simp only[zq] at hw0 e1 e2
  simp[hw0,e1,e2,hF,EA]
 have Kp:=eD F l p
 have c3:=Mf ⟨ok.a0,ok.a1⟩ (ve F l p) Kp
 have c4:=Mo ⟨ok.a0,ok.a1⟩ ok.b0 (ve F l p) Kp
 have c5:=Ml ok p hp (se (ve F l p)) (kR _ _ Gd.nil Kp)
 have ho:L2.zW (F.os.map kt) (p:Int)=some (kt (F.os.getD p false)):=by
  refine vR ?_
  rw[AE,A3 hp,Bv,A3 hp];rfl
 have hk:∀ b:Bool,zR false (kt b) (.str "keeper")=some (.bl b):=λ b=>by cases b <;> rfl
 unfold mS da
 generalize ml=d1 at *
 generalize me=d2 at *
 generalize mZ=f1 at *
 generalize m_=f2 at *
 generalize oy=f3 at *
 generalize ((F.ws.filter λ w=>decide (w.f=p)).map yD)=L1 at *
 generalize zx F=fl at *
 generalize rT l=rt at *
 unfold xn
 have Gr:=hk (F.os.getD p false)
 generalize F.os.getD p false=kb at *
 generalize kt kb=ktb at *
 generalize (T.str "keeper")=ks at *
 simp only[zq] at J9
 cases kb with
 | true=>
  simp[c1,c2,J9,ho,Gr,c3,c5]
  all_goals (cases F.F_ p <;> rfl)
 | false=>simp[c1,c2,J9,ho,Gr,c4]
theorem fB {α β:Type}(c:α->Bool) (g:α->β):∀ l:List α,l.filterMap (λ x=>if c x=true then some (g x) else none)=(l.filter c).map g
 | []=>rfl
 | a::l=>by by_cases h:c a=true <;> simp[Cu,h,fB c g l]
def Pg (t:Nat) (fr:List Nat):pE false (.int t) (.lst (fr.map λ(k:Nat)=>T.int (k:Int)))=some (.bl (fr.contains t)):=by
 have d1:xt (fr.map λ(k:Nat)=>T.int (k:Int))<=60:=by
  refine fR _ 60 (λ x=>?_) fr
  simp[dep]
 have d0:dep (.int (t:Int))<=60:=by simp[dep]
 unfold pE
 show (if dep (.int (t:Int))<=60/\xt (fr.map λ(k:Nat)=>T.int (k:Int))<=60 then _ else _)=_
 rw[if_pos ⟨d0,d1⟩]
 show some (T.bl ((fr.map λ(k:Nat)=>T.int (k:Int)).any λ x=>eqT x (.int t)))=_
 congr 2
 rw[BL,Bb,List.contains_iff_mem]
 constructor
 ·rintro⟨x,hx,h⟩
  obtain⟨k,hk,rfl⟩:=Ay.mp hx
  have:(k:Int)=(t:Int):=by simpa [eqT] using h
  have:k=t:=by lia
  subst this;exact hk
 ·intro h
  exact⟨_,Ay.mpr ⟨t,h,rfl⟩,by simp[eqT]⟩
def N_ {F:zT}(ok:F.Ok) (ED:List Bd) (fr:List Nat) (hl:ED.length=F.os.length) (hg:∀ b∈ED,Gd F.A F.B b):
  pY [zx F,rT ED,.lst (fr.map λ(k:Nat)=>T.int (k:Int))]=some (rT (yg F ED fr)):=by
 have IK:zq (zx F) (.int 2)=some (.tup (F.ws.map yD)):=by simp[zx]
 have c1:mj [some (.im (zx F)),some (.im (rT ED)),some (.im (.lst (fr.map λ(k:Nat)=>T.int (k:Int)))),some (.own (.lst (ED.map bT))),none]=some (.lst (((F.ws.filter λ w=>fr.contains w.t).map λ w=>(w.f:Int)).map T.int)):=by
  have:=k7 yD (λ w=>if fr.contains w.t=true then some (T.int (w.f:Int)) else none) (pick:=[none,some 2]) (it:=xQ (ze zq (zf 0) (cI 2))) (g:=zG 0) (c:=zZ (ze (pE false) (ze zq (zf 0) (cI 1)) (zf 1))) (f:=ze zq (zf 0) (cI 0)) (J:=[some (.im (zx F)),some (.im (rT ED)),some (.im (.lst (fr.map λ(k:Nat)=>T.int (k:Int)))),some (.own (.lst (ED.map bT))),none]) F.ws (by
    generalize zx F=fl at *
    simp only[zq] at IK
    simp[IK]) (by have:=ok.o5;lia) (λ w _=>by
   have hi:=Pg w.t fr
   generalize (T.lst (fr.map λ(k:Nat)=>T.int (k:Int)))=ft at *
   generalize fr.contains w.t=cb at *
   cases cb <;> simp[yD,hi])
  unfold mj
  rw[this]
  rw[fB (λ w:Wy=>fr.contains w.t) (λ w:Wy=>T.int (w.f:Int)),AZ];rfl
 have Dc:rS [.lst (((F.ws.filter λ w=>fr.contains w.t).map λ w=>(w.f:Int)).map T.int)]=some (.lst ((wF ((F.ws.filter λ w=>fr.contains w.t).map λ w=>(w.f:Int))).map T.int)):=by
  show (match uq (((F.ws.filter λ w=>fr.contains w.t).map λ w=>(w.f:Int)).map T.int) with | some ns=>_ | none=>_)=_
  rw[Zp]
  refine if_pos ?_
  have:=Ds (λ w:Wy=>fr.contains w.t) F.ws
  have:=ok.o5
  simp only[AD];lia
 have A6:∀ k∈wF ((F.ws.filter λ w=>fr.contains w.t).map λ w=>(w.f:Int)),∃ p:Nat,k=(p:Int)/\p<F.os.length/\uM F fr p=true:=λ k hk=>by
  obtain⟨w,hw,rfl⟩:=Ay.mp (ku.mp hk)
  obtain⟨w1,w2⟩:=Bu.mp hw
  exact⟨w.f,rfl,(ok.ws w w1).1,Bb.mpr ⟨w,w1,by simpa using w2⟩⟩
 have D6:∀ p:Nat,uM F fr p=true->(p:Int)∈wF ((F.ws.filter λ w=>fr.contains w.t).map λ w=>(w.f:Int)):=λ p h=>by
  obtain⟨w,w1,w2⟩:=Bb.mp h
  have w3:w.f=p/\fr.contains w.t=true:=by simpa using w2
  exact ku.mpr (Ay.mpr ⟨w,Bu.mpr ⟨w1,w3.2⟩,by rw[w3.1]⟩)
 generalize wF ((F.ws.filter λ w=>fr.contains w.t).map λ w=>(w.f:Int))=up at *
 have ft:∃ t,(T.lst (fr.map λ(k:Nat)=>T.int (k:Int)))=t:=⟨_,rfl⟩
 obtain⟨J',h1,h2⟩:=tq (is:=[4]) (g:=zG 4) (b:=mz) T.int (λ pre J=>J=[some (.im (zx F)),some (.im (rT ED)),some (.im (.lst (fr.map λ(k:Nat)=>T.int (k:Int)))),some (.own (.lst (((List.range ED.length).map λ(p:Nat)=>if (p:Int)∈pre then xn F ED p else ED.getD p []).map bT))),none]) up
   [some (.im (zx F)),some (.im (rT ED)),some (.im (.lst (fr.map λ(k:Nat)=>T.int (k:Int)))),some (.own (.lst (ED.map bT))),none] (by
  have e:(List.range ED.length).map (λ(p:Nat)=>if (p:Int)∈([]:List Int) then xn F ED p else ED.getD p [])=ED:=by
   refine B2 (by simp) λ i h1 h2=>?_
   simp[h2]
  rw[e];rfl) (by
  rintro pre k q e J rfl
  obtain⟨p,rfl,hp,hw⟩:=A6 k (by rw[e];simp)
  have hF:=Ma ok p hp ED hl hg
  refine⟨[some (.im (zx F)),some (.im (rT ED)),some (.im (.lst (fr.map λ(k:Nat)=>T.int (k:Int)))),some (.own (.lst (((List.range ED.length).map λ(i:Nat)=>if (i:Int)∈pre++[(p:Int)] then xn F ED i else ED.getD i []).map bT))),some (.im (.int p))],?_,by simp⟩
  have Eb:(((List.range ED.length).map λ(i:Nat)=>if (i:Int)∈pre then xn F ED i else ED.getD i []).map bT).set p (bT (xn F ED p))=((List.range ED.length).map λ(i:Nat)=>if (i:Int)∈pre++[(p:Int)] then xn F ED i else ED.getD i []).map bT:=by
   refine B2 (by simp) λ i h1 h2=>?_
   rw[List.getElem_set]
   simp only[List.getElem_map,DW,A0,AX]
   by_cases c:p=i
   ·subst c;simp
   ·have c':¬ ((i:Int)=(p:Int)):=by lia
    simp[c,c']
  have DL:w_ (((List.range ED.length).map λ(i:Nat)=>if (i:Int)∈pre then xn F ED i else ED.getD i []).map bT).length (p:Int)=some p:=by
   unfold w_
   simp only[AD,B7]
   rw[if_pos (by lia),if_pos (by lia),CJ]
  rw[<- Eb]
  unfold turn mz
  generalize mS=ff at *
  generalize (((List.range ED.length).map λ(i:Nat)=>if (i:Int)∈pre then xn F ED i else ED.getD i []).map bT)=LL at *
  generalize zx F=fl at *
  generalize rT ED=rl at *
  generalize (T.lst (fr.map λ(k:Nat)=>T.int (k:Int)))=ftt at *
  simp[hF,DL])
 subst h2
 have fin:((List.range ED.length).map λ(p:Nat)=>if (p:Int)∈up then xn F ED p else ED.getD p [])=yg F ED fr:=by
  unfold yg
  refine CL λ p hp=>?_
  by_cases c:uM F fr p=true
  ·rw[if_pos c,if_pos (D6 p c)]
  ·rw[if_neg c,if_neg λ h=>c (by obtain⟨p',e,_,h'⟩:=A6 _ h;exact (show p'=p by lia)▸h')]
 rw[fin] at h1
 have IX:listS [rT ED]=some (.lst (ED.map bT)):=rfl
 unfold pY e_
 generalize mj=cc at *
 generalize mz=bb at *
 generalize (((F.ws.filter λ w=>fr.contains w.t).map λ w=>(w.f:Int)).map T.int)=L1 at *
 generalize hup:up.map T.int=L2 at *
 generalize ED.map bT=L3 at *
 generalize zx F=fl at *
 have Cz:xX (rT ED)=some L3:=by simpa using IX
 generalize rT ED=rl at *
 generalize (T.lst (fr.map λ(k:Nat)=>T.int (k:Int)))=ftt at *
 simp[Cz,c1,Dc,h1,rT]
theorem fN {α:Type}(enc:α->T) (d:α) (fo:List α):∀ (l:List α) (k:Nat),(∀ i,l.getD i d=fo.getD (k+i) d)->sd k (l.map enc)=(List.range l.length).map λ(p:Nat)=>T.tup [.int ((k+p:Nat):Int),enc (fo.getD (k+p) d)]
 | [],k,_=>rfl
 | b::l,k,h=>by
  have h0:=h 0
  rw[Au,sd,fN enc d fo l (k+1) λ i=>by have:=h (i+1);rw[show k+1+i=k+(i+1) from by lia];simpa using this]
  rw[AW,C5,Au,AZ]
  have e:b=fo.getD k d:=by simpa using h0
  congr 1
  ·rw[e];rfl
  ·refine CL λ p _=>?_
   simp only[Function.comp]
   rw[show k+1+p=k+Nat.succ p from by lia]
noncomputable def xq (fr:List Nat):T:=.lst (fr.map λ(k:Nat)=>T.int (k:Int))
def Nx (a:T) (b c:Option L5.W) (ED fo:List Bd) (hl:fo.length=ED.length) (h16:fo.length<=10000):pO [some (.im a),b,c,some (.im (rT ED)),some (.im (rT fo))]=some (xq (xR ED fo)):=by
 have:=k7 (λ p:Nat=>T.tup [.int (p:Int),bT (fo.getD p [])]) (λ p=>if decide (fo.getD p []≠ED.getD p [])=true then some (T.int (p:Int)) else none) (pick:=[none,none,some 3]) (it:=wK vL (zb (zf 4) zi)) (g:=vw 2 (xA (zG 0) (xA (zG 1) uL))) (c:=zZ (ze (zR true) (zf 1) (ze zq (zf 2) (zf 0)))) (f:=zm 0) (J:=[some (.im a),b,c,some (.im (rT ED)),some (.im (rT fo))]) (List.range fo.length) (by
   have:=fN bT [] fo fo 0 λ i=>by rw[C1]
   simp only[C1] at this
   have e:vL [rT fo]=some (sd 0 (fo.map bT)):=rfl
   rw[<- this]
   generalize vL=en at *
   simp[e]) (by simp;lia) (λ p hp=>by
  have G9:p<ED.length:=by rw[<- hl];exact AR.mp hp
  have h1:=gN ED p G9
  have h2:=Qb (fo.getD p []) (ED.getD p [])
  generalize fo.getD p []=x at *
  generalize ED.getD p []=y at *
  generalize rT ED=rl at *
  generalize decide (x≠y)=d at *
  simp only[zq] at h1
  cases d <;> simp[h1,h2])
 unfold pO
 rw[this,fB (λ p:Nat=>decide (fo.getD p []≠ED.getD p [])) (λ p:Nat=>T.int (p:Int))]
 rfl
theorem cY {F:zT}(ok:F.Ok):∀ (n:Nat) (pre:List (List Bd)) (ED:List Bd) (fr:List Nat) (res:List (List Bd)),St F ED fr->oU F n pre ED fr=some res->pre.length+n<=10000->∀ (m:Nat),n<m->∀ x3 x4:Option L5.W,
  ∃ JE,wz [3,4] (xb (zf 2)) uP m [some (.im (zx F)),some (.own (.lst ((pre++[ED]).map rT))),some (.im (xq fr)),x3,x4]=some (.nx [some (.im (zx F)),some (.own (.lst (res.map rT))),some (.im JE),none,none])
 | 0,_,_,_,_,_,h,_,_,_,_,_=>by cases h
 | n+1,pre,ED,fr,res,s,h,hn,m,hm,x3,x4=>by
  have Bp:∀ (m:Nat) (EJ:List (List Bd)) (x3 x4:Option L5.W),wz [3,4] (xb (zf 2)) uP (m+1) [some (.im (zx F)),some (.own (.lst (EJ.map rT))),some (.im (xq [])),x3,x4]=some (.nx [some (.im (zx F)),some (.own (.lst (EJ.map rT))),some (.im (xq [])),none,none]):=λ m EJ x3 x4=>by
   unfold wz
   simp[xq]
  obtain⟨m,rfl⟩:∃ k,m=k+1:=⟨m-1,by lia⟩
  unfold oU at h
  by_cases AH:fr=[]
  ·rw[if_pos AH] at h
   cases h
   subst AH
   exact⟨_,Bp m _ x3 x4⟩
  ·rw[if_neg AH] at h
   dsimp only at h
   have hlen:=s.len
   have n8:=ok.n8
   have hF:=N_ ok ED fr s.len s.gd
   have Ge:zq (.lst ((pre++[ED]).map rT)) (.int (-1))=some (rT ED):=by
    show L2.zW ((pre++[ED]).map rT) (-1)=_
    rw[Cw]
    exact Y7 _ _
   have hc:=λ b c=>Nx (zx F) b c ED (yg F ED fr) (qf ..) (by rw[qf,s.len];lia)
   have An:sP (xq fr)=some true:=by
    cases fr with
    | nil=>exact absurd rfl AH
    | cons a l=>rfl
   have hb:∃ GH,uP [some (.im (zx F)),some (.own (.lst ((pre++[ED]).map rT))),some (.im (xq fr)),none,none]=some (.nx [some (.im (zx F)),some (.own (.lst (GH.map rT))),some (.im (xq (xR ED (yg F ED fr)))),some (.im (rT ED)),some (.im (rT (yg F ED fr)))])/\GH=if xR ED (yg F ED fr)=[] then pre++[ED] else pre++[ED]++[yg F ED fr]:=by
    have Hh:((pre++[ED]).map rT).length<16777216:=by simp;lia
    by_cases hf:xR ED (yg F ED fr)=[]
    ·refine⟨pre++[ED],?_,by rw[if_pos hf]⟩
     have ht:sP (xq (xR ED (yg F ED fr)))=some false:=by rw[hf];rfl
     unfold uP
     generalize pO=cc at *
     generalize pY=ff at *
     generalize (pre++[ED]).map rT=L1 at *
     generalize xq (xR ED (yg F ED fr))=f2 at *
     unfold xq at *
     simp only[zq] at Ge
     generalize (T.lst (fr.map λ(k:Nat)=>T.int (k:Int)))=f1 at *
     generalize rT (yg F ED fr)=r2 at *
     generalize rT ED=r1 at *
     simp only[xX] at Ge
     simp[-sP,Ge,hF,hc,ht]
    ·refine⟨pre++[ED]++[yg F ED fr],?_,by rw[if_neg hf]⟩
     have ht:sP (xq (xR ED (yg F ED fr)))=some true:=by
      cases e:xR ED (yg F ED fr) with
      | nil=>exact absurd e hf
      | cons a l=>rfl
     have e2:(pre++[ED]++[yg F ED fr]).map rT=(pre++[ED]).map rT++[rT (yg F ED fr)]:=by simp
     rw[e2]
     unfold uP
     generalize pO=cc at *
     generalize pY=ff at *
     generalize (pre++[ED]).map rT=L1 at *
     generalize xq (xR ED (yg F ED fr))=f2 at *
     unfold xq at *
     simp only[zq] at Ge
     generalize (T.lst (fr.map λ(k:Nat)=>T.int (k:Int)))=f1 at *
     generalize rT (yg F ED fr)=r2 at *
     generalize rT ED=r1 at *
     simp only[xX] at Ge
     simp[-sP,Ge,hF,hc,ht,Hh]
   obtain⟨GH,Kf,Io⟩:=hb
   have key:∀ R,wz [3,4] (xb (zf 2)) uP m [some (.im (zx F)),some (.own (.lst (GH.map rT))),some (.im (xq (xR ED (yg F ED fr)))),some (.im (rT ED)),some (.im (rT (yg F ED fr)))]=R->wz [3,4] (xb (zf 2)) uP (m+1) [some (.im (zx F)),some (.own (.lst ((pre++[ED]).map rT))),some (.im (xq fr)),x3,x4]=R:=λ R e=>by
    rw[wz]
    generalize CW:uP=bb at *
    generalize hlw:wz [3,4] (xb (zf 2)) bb m=lw at *
    have hf:yN [3,4] [some (.im (zx F)),some (.own (.lst ((pre++[ED]).map rT))),some (.im (xq fr)),x3,x4]=[some (.im (zx F)),some (.own (.lst ((pre++[ED]).map rT))),some (.im (xq fr)),none,none]:=rfl
    rw[hf]
    have ht:xb (zf 2) [some (.im (zx F)),some (.own (.lst ((pre++[ED]).map rT))),some (.im (xq fr)),none,none]=some true:=by
     generalize xq fr=f1 at *
     simp[-sP,An]
    rw[ht,BP,if_pos rfl,Kf,BP]
    exact e
   by_cases hf:xR ED (yg F ED fr)=[]
   ·rw[if_pos hf] at h Io
    cases h
    subst Io
    rw[hf] at key
    obtain⟨m,rfl⟩:∃ k,m=k+1:=⟨m-1,by lia⟩
    exact⟨_,key _ (Bp m _ _ _)⟩
   ·rw[if_neg hf] at h Io
    subst Io
    obtain⟨JE,e⟩:=cY ok n (pre++[ED]) (yg F ED fr) (xR ED (yg F ED fr)) res (s.next ok) h (by simp;lia) m (by lia) (some (.im (rT ED))) (some (.im (rT (yg F ED fr))))
    exact⟨JE,key _ e⟩
def NT {F:zT}(ok:F.Ok):∃ more,mQ [zx F]=some (.lst ((RN.start F::more).map rT))/\(∀ r∈RN.start F::more,r.length=F.os.length/\∀ b∈r,Gd F.A F.B b)/\more.length<=2000:=by
 have hmu:=aD (RN.start F)
 have Be:(RN.start F).length=F.os.length:=by unfold RN.start;simp
 have n8:=ok.n8
 have n1:=ok.n1
 obtain⟨more,GJ,e1,e2,_,e4⟩:=cZ ok 2000 [] (RN.start F) (List.range F.os.length) (St.start ok) (by lia)
 obtain⟨JE,e⟩:=cY ok 2000 [] (RN.start F) (List.range F.os.length) _ (St.start ok) e1 (by simp) 1000000 (by decide) none none
 refine⟨more,?_,e2,by lia⟩
 have hp:=eP F
 have AJ:rT (RN.start F)=.lst (List.replicate F.os.length (.tup [.tup [.int 0,.int 0]])):=by
  unfold rT RN.start
  rw[List.map_replicate];rfl
 have hmul:x8 (.lst [.tup [.tup [.int 0,.int 0]]]) (.int F.os.length)=some (rT (RN.start F)):=by
  rw[AJ]
  unfold x8
  dsimp only
  rw[if_pos ⟨by simp,by lia,by lia,Qw (by simp;lia)⟩]
  have:∀ n:Nat,(List.replicate n [T.tup [.tup [.int 0,.int 0]]]).flatten=List.replicate n (.tup [.tup [.int 0,.int 0]]):=λ n=>by
   induction n with
   | zero=>rfl
   | succ n ih=>rw[BZ,BZ,Cg,ih];rfl
  rw[CJ,this]
 have B8:nB [.int F.os.length]=some (xq (List.range F.os.length)):=by
  show (if 0<=(F.os.length:Int)/\(F.os.length:Int)<=16777216 then some (T.lst (rangeT 0 (F.os.length:Int).toNat)) else none)=_
  rw[if_pos ⟨by lia,by lia⟩]
  show some (T.lst ((List.range (F.os.length:Int).toNat).map λ(k:Nat)=>T.int (0+(k:Int))))=_
  rw[CJ]
  unfold xq
  simp
 unfold mQ eX o4
 generalize uP=bb at *
 generalize qE=ff at *
 generalize nB=lr at *
 simp only[List.nil_append,Au,A9] at e
 generalize xq (List.range F.os.length)=f1 at *
 rw[Au]
 generalize rT (RN.start F)=r0 at *
 generalize zx F=fl at *
 generalize hlw:wz [3,4] (xb (zf 2)) bb 1000000=lw at *
 generalize x8=mw at *
 simp[hp,hmul,B8,e]
def aC (i j:Int):x8 (.int i) (.int j)=if wo i j then some (.int (i*j)) else none:=rfl
def Pd {r:List Int}{rs:List (List Int)}:uq ((r::rs).map yo)=none:=rfl
def WN (rs:List (List Int)) (h0:rs≠[]) (hl:rs.length<64) (hn:∀ r∈rs,r≠[]):rS [.lst (rs.map yo)]=some (.lst ((L4.xJ (wy rs)).map yo)):=by
 cases rs with
 | nil=>exact absurd rfl h0
 | cons r rs=>
  show (match uq ((r::rs).map yo) with
   | some ns=>if ns.length<64 then some (T.lst ((wF ns).map T.int)) else none
   | none=>lK [T.lst ((r::rs).map yo)])=_
  rw[Pd]
  show (uh ((r::rs).map yo)).bind _=_
  rw[iJ,BP,if_pos ⟨hl,hn⟩]
def md (ns:List Int) (k:Nat):0<=cell ns k:=by
 unfold cell
 split
 ·exact DB _ (by decide)
 ·exact AQ _
def oZ {L:List T}{P:Int->Prop}(hP:∀ y∈L,∃ v,y=.int v/\P v) {i:Int}(h0:0<=i) (h1:i<L.length):∃ v,L2.zW L i=some (.int v)/\P v:=by
 have hl:i.toNat<L.length:=by lia
 have e:L2.zW L i=some L[i.toNat]:=by
  have:=vR (k:=i.toNat) (A3 hl)
  rw[Cv h0] at this
  exact this
 obtain⟨v,e2,hv⟩:=hP _ (BJ hl)
 exact⟨v,by rw[e,e2],hv⟩
def YV (x:Int):∃ y,sI [.int x]=some (.int y):=by
 have d5:xg x 5:=⟨by decide,by decide⟩
 by_cases h:x%5=1
 ·exact⟨_,by simp[sI,j5,eq_int,h,d5];rfl⟩
 ·exact⟨_,by simp[sI,j5,eq_int,h,d5];rfl⟩
def NX (ns:List Int) (EE:Nat) (hm:EE<=8):∃ os:List Bool,og [zU ns,.int EE]=some (.tup (os.map kt))/\os.length=EE:=by
 have hc:=rL ns 2
 generalize cell ns 2=num at *
 obtain⟨J',h1,c,os,h2,h3⟩:=tq (is:=[4]) (g:=zG 4) (b:=m5) (λ k:Nat=>T.int (0+(k:Int))) (λ p J=>∃ (c:Int) (os:List Bool),J=[some (.im (zU ns)),some (.im (.int EE)),some (.im (.int c)),some (.own (.lst (os.map kt))),none]/\os.length=p.length)
   (List.range EE) [some (.im (zU ns)),some (.im (.int EE)),some (.im (.int num)),some (.own (.lst [])),none] ⟨num,[],rfl,rfl⟩ (by
  rintro p k q e J ⟨c,os,rfl,r1⟩
  have hp:p.length<EE:=by have:=congrArg List.length e;simp at this;lia
  have hl:(os.map kt).length<16777216:=by simp;lia
  have d2:xg c 2:=⟨by decide,by decide⟩
  have pk:∃ b:Bool,L2.zW [T.str "keeper",T.str "taker"] (c%2)=some (kt b):=by
   rcases Int.emod_two_eq c with h | h <;> rw[h]
   ·exact⟨true,rfl⟩
   ·exact⟨false,rfl⟩
  obtain⟨b,hb⟩:=pk
  refine⟨[some (.im (zU ns)),some (.im (.int EE)),some (.im (.int (c/2))),some (.own (.lst ((os++[b]).map kt))),some (.im (.int (0+(k:Int))))],?_,c/2,os++[b],by simp,by simp[r1]⟩
  have e2:(os++[b]).map kt=os.map kt++[kt b]:=by simp
  rw[e2]
  unfold turn m5
  generalize (T.str "keeper")=s1 at *
  generalize (T.str "taker")=s2 at *
  generalize kt b=kb at *
  generalize os.map kt=L at *
  generalize (0+(k:Int))=kk at *
  simp[hb,hl,d2])
 subst h2
 have hr:=qU EE (by lia)
 refine⟨os,?_,by simpa using h3⟩
 unfold og di
 generalize m5=bb at *
 generalize os.map kt=L at *
 generalize (List.range EE).map (λ(k:Nat)=>T.int (0+(k:Int)))=R at *
 have FV:yQ [zU ns,.int 2]=some (.int num):=hc
 generalize yQ=fc at *
 generalize zU ns=sc at *
 simp[FV,hr,h1]
def lq (A B:Int):Prop:=(0<=A/\A<=12)/\(0<=B/\B<=12)/\((A=12/\B=12)\/(A+1)*(B+1)<64)
def lq.small {A B:Int}(h:0<=A/\A<=5) (h':0<=B/\B<=5):lq A B:=by
 refine⟨⟨h.1,by lia⟩,⟨h'.1,by lia⟩,.inr ?_⟩
 have:(A+1)*(B+1)<=6*6:=Int.mul_le_mul (by lia) (by lia) (by lia) (by decide)
 lia
def Mn (ns:List Int) (EE:Nat):∃ A B:Int,oo [zU ns,.int EE]=some (.tup [.int A,.int B])/\lq A B:=by
 have hc:=rL ns 1
 have c0:=md ns 1
 generalize cell ns 1=num at *
 have FV:yQ [zU ns,.int 1]=some (.int num):=hc
 have d8:xg num 8:=⟨by decide,by decide⟩
 have Jk:xg num 64:=⟨by decide,by decide⟩
 obtain⟨x,hx,x0,x5⟩:=oZ (L:=[T.int 3,.int 2,.int 4,.int 1,.int 5,.int 2,.int 3,.int 0]) (P:=λ v=>0<=v/\v<=5) (by intro y hy;simp only[Ai,CZ,or_false] at hy;rcases hy with rfl | rfl | rfl | rfl | rfl | rfl | rfl | rfl <;> exact⟨_,rfl,by decide,by decide⟩) (i:=num%8) (by lia) (by simp;lia)
 obtain⟨y,hy,y0,y5⟩:=oZ (L:=[T.int 2,.int 3,.int 1,.int 4,.int 2,.int 5,.int 3,.int 0]) (P:=λ v=>0<=v/\v<=5) (by intro y hy;simp only[Ai,CZ,or_false] at hy;rcases hy with rfl | rfl | rfl | rfl | rfl | rfl | rfl | rfl <;> exact⟨_,rfl,by decide,by decide⟩) (i:=num/8%8) (by lia) (by simp;lia)
 have mn:∀ v:Int,0<=v->0<=(if 2<v then 2 else v)/\(if 2<v then 2 else v)<=5:=λ v hv=>by split <;> lia
 unfold oo du
 generalize yQ=fc at *
 generalize zU ns=sc at *
 by_cases h1:EE>4
 ·refine⟨_,_,?_,lq.small (mn x x0) (mn y y0)⟩
  have GX:(4:Int)<EE:=by lia
  simp[FV,hx,hy,d8,GX,qm]
 ·have GX:¬ (4:Int)<EE:=by lia
  by_cases h2:num/64%10=1
  ·refine⟨12,y%3,?_,⟨⟨by decide,by decide⟩,⟨by lia,by lia⟩,.inr (by lia)⟩⟩
   simp[FV,hx,hy,d8,GX,Jk,eq_int,h2]
  ·by_cases h3:num/64%10=2
   ·refine⟨x%3,12,?_,⟨⟨by lia,by lia⟩,⟨by decide,by decide⟩,.inr (by lia)⟩⟩
    simp[FV,hx,hy,d8,GX,Jk,eq_int,h3]
   ·by_cases h4:num/64%10=3/\EE<3
    ·refine⟨12,12,?_,⟨⟨by decide,by decide⟩,⟨by decide,by decide⟩,.inl ⟨rfl,rfl⟩⟩⟩
     have h5:(EE:Int)<3:=by lia
     simp[FV,hx,hy,d8,GX,Jk,eq_int,h4.1,h5,yR]
    ·refine⟨x,y,?_,lq.small ⟨x0,x5⟩ ⟨y0,y5⟩⟩
     by_cases h6:num/64%10=3
     ·have h5:¬ (EE:Int)<3:=by lia
      simp[FV,hx,hy,d8,GX,Jk,eq_int,h6,h5,yR]
     ·simp[FV,hx,hy,d8,GX,Jk,eq_int,h2,h3,h6]
def seq_eq {a b:Sm}{J J':Ev}(h:a J=some (.nx J')):zr a b J=b J':=by
 show (a J).bind _=_;rw[h];rfl
def qc {f:T->T->Option T}{fa fb:Ev->Option T}{J:Ev}{x y:T}{r:Option T}(h1:fa J=some x) (h2:fb J=some y) (h:f x y=r):ze f fa fb J=r:=by
 show (fa J).bind _=r;rw[h1];show (fb J).bind _=r;rw[h2];exact h
def Y8 {i:Nat}{f:Ev->Option T}{J:Ev}{y:T}(h:f J=some y):zM i f J=some (.nx (J.set i (some (.im y)))):=by
 show (f J).map _=_;rw[h];rfl
def kq {i j:Int}(h:wo i j):x8 (.int i) (.int j)=some (.int (i*j)):=by rw[aC,if_pos h]
def qJ (EE:Nat) (r:List Int):Prop:=∃ (f t:Nat) (a b:Int),r=[(f:Int),(t:Int),a,b]/\f<EE/\t<EE
def XT (M C:Int) (hM:0<M) (hC:∀ i,wo i C) (bb:Sm) (CW:bb=(zr (zM 8 (ze y8 (ze x8 (zf 3) (zf 5)) (zf 7)))
 (zr (zM 9 (ze zS (ze y8 (ze y8 (ze x8 (zv yQ (zb (zm 0) (zb (ze y8 (cI 4) (zf 8)) zi))) (cS (.int C))) (ze x8 (cI 61) (zf 8))) (cI 17)) (cS (.int M))))
 (zr (zM 10 (ze yv (zf 9) (cI 8)))
 (uQ 4 (tupS (zb (zm 5) (zb (ze zS (ze zS (zf 9) (cI 8)) (zf 1)) (zb (zv sI (zb (zm 10) zi)) (zb (zv sI (zb (ze yv (zf 10) (cI 125)) zi)) zi))))))))))
  (ns:List Int) (EE wide place k:Nat) (num sz:Int) (rows:List T) (hm:1<=EE) (hp:place<EE) (hw:wide<=12) (JA:EE<=8) (hl:rows.length<=1000):
  ∃ r x y z,qJ EE r/\turn (zG 7) bb (.int (0+(k:Int))) [some (.im (zU ns)),some (.im (.int EE)),some (.im (.int num)),some (.im (.int wide)),some (.own (.lst rows)),some (.im (.int place)),some (.im (.int sz)),none,none,none,none]
   = some (.nx [some (.im (zU ns)),some (.im (.int EE)),some (.im (.int num)),some (.im (.int wide)),some (.own (.lst (rows++[yo r]))),some (.im (.int place)),some (.im (.int sz)),some (.im (.int (0+(k:Int)))),x,y,z]):=by
 obtain⟨at',Dr⟩:∃ at':Nat,(wide:Int)*(place:Int)+(0+(k:Int))=(at':Int):=⟨wide*place+k,by simp[C0,Int.natCast_mul]⟩
 have hc:=rL ns (4+at')
 rw[C0] at hc
 have FV:yQ [zU ns,.int (4+(at':Int))]=some (.int (cell ns (4+at'))):=hc
 generalize cell ns (4+at')=ce at *
 have m1:wo (wide:Int) (place:Int):=.inl ⟨by lia,by lia⟩
 have m2:wo ce C:=hC ce
 have m3:wo 61 (at':Int):=.inl ⟨by decide,by decide⟩
 generalize hd:(ce*C+61*(at':Int)+17)%M=dr
 have d8:xg dr 8:=⟨by decide,by decide⟩
 have Ky:xg (dr/8) 125:=⟨by decide,by decide⟩
 obtain⟨a,ha⟩:=YV (dr/8)
 obtain⟨b,hb⟩:=YV (dr/8/125)
 have hmp:(0:Int)<EE:=by lia
 have t0:0<=dr%8%EE:=DB _ (by lia)
 have t1:dr%8%EE<EE:=Int.emod_lt_of_pos _ hmp
 have Il:0<EE:=hm
 have Gm:rows.length<16777216:=by lia
 refine⟨[(place:Int),((dr%8%EE).toNat:Int),a,b],some (.im (.int (at':Int))),some (.im (.int dr)),some (.im (.int (dr/8))),⟨place,(dr%8%EE).toNat,a,b,rfl,hp,by lia⟩,?_⟩
 rw[Cv t0]
 have hr:yo [(place:Int),dr%8%EE,a,b]=.tup [.int place,.int (dr%8%EE),.int a,.int b]:=rfl
 rw[hr]
 rw[show turn (zG 7) bb (.int (0+(k:Int))) [some (.im (zU ns)),some (.im (.int EE)),some (.im (.int num)),some (.im (.int wide)),some (.own (.lst rows)),some (.im (.int place)),some (.im (.int sz)),none,none,none,none]=bb [some (.im (zU ns)),some (.im (.int EE)),some (.im (.int num)),some (.im (.int wide)),some (.own (.lst rows)),some (.im (.int place)),some (.im (.int sz)),some (.im (.int (0+(k:Int)))),none,none,none] from rfl]
 subst CW
 generalize (0+(k:Int))=kk at *
 generalize yQ=fc at *
 generalize sI=fco at *
 generalize zU ns=sc at *
 rw[seq_eq (J':=[some (.im sc),some (.im (.int EE)),some (.im (.int num)),some (.im (.int wide)),some (.own (.lst rows)),some (.im (.int place)),some (.im (.int sz)),some (.im (.int kk)),some (.im (.int at')),none,none]) (Y8 (qc (qc (x:=.int wide) (y:=.int place) rfl rfl (kq m1)) (y:=.int kk) rfl (by show some (T.int ((wide:Int)*(place:Int)+kk))=_;rw[Dr])))]
 rw[seq_eq (J':=[some (.im sc),some (.im (.int EE)),some (.im (.int num)),some (.im (.int wide)),some (.own (.lst rows)),some (.im (.int place)),some (.im (.int sz)),some (.im (.int kk)),some (.im (.int at')),some (.im (.int dr)),none]) (by simp[aC,FV,m2,m3,hd,hM])]
 rw[seq_eq (J':=[some (.im sc),some (.im (.int EE)),some (.im (.int num)),some (.im (.int wide)),some (.own (.lst rows)),some (.im (.int place)),some (.im (.int sz)),some (.im (.int kk)),some (.im (.int at')),some (.im (.int dr)),some (.im (.int (dr/8)))]) (by simp[d8])]
 simp[Ky,ha,hb,Il,Gm]
def XU (ns:List Int) (EE wide place k:Nat) (num sz:Int) (rows:List T) (hm:1<=EE) (hp:place<EE) (hw:wide<=12) (JA:EE<=8) (hl:rows.length<=1000):
  ∃ r x y z,qJ EE r/\turn (zG 7) qv (.int (0+(k:Int))) [some (.im (zU ns)),some (.im (.int EE)),some (.im (.int num)),some (.im (.int wide)),some (.own (.lst rows)),some (.im (.int place)),some (.im (.int sz)),none,none,none,none]
   = some (.nx [some (.im (zU ns)),some (.im (.int EE)),some (.im (.int num)),some (.im (.int wide)),some (.own (.lst (rows++[yo r]))),some (.im (.int place)),some (.im (.int sz)),some (.im (.int (0+(k:Int)))),x,y,z]):=
 by
  refine XT 999983 2957 ?_ ?_ qv ?_ ns EE wide place k num sz rows hm hp hw JA hl
  ·lia
  ·exact λ _=>.inr ⟨by lia,by lia⟩
  ·unfold qv
   rfl
def NM (ns:List Int) (EE:Nat) (hm:1<=EE) (JA:EE<=8):∃ ws:List Wy,p_ [zU ns,.int EE]=some (.tup (ws.map yD))/\ws.length<=60/\∀ w∈ws,w.f<EE/\w.t<EE:=by
 have hc:=rL ns 3
 have c0:=md ns 3
 generalize cell ns 3=num at *
 have FV:yQ [zU ns,.int 3]=some (.int num):=hc
 obtain⟨wide,hw,J8⟩:∃ wide:Nat,L2.zW [T.int 3,.int 12] (if EE<3 then 1 else 0)=some (.int (wide:Int))/\wide<=12:=by
  by_cases h:EE<3
  ·rw[if_pos h];exact⟨12,rfl,by decide⟩
  ·rw[if_neg h];exact⟨3,rfl,by decide⟩
 obtain⟨J',h1,c,rows,h2,h3,h4,h5⟩:=tq (is:=[5,6,7,8,9,10]) (g:=zG 5) (b:=my) (λ k:Nat=>T.int (0+(k:Int))) (λ p J=>∃ (c:Int) (rows:List (List Int)),J=[some (.im (zU ns)),some (.im (.int EE)),some (.im (.int c)),some (.im (.int wide)),some (.own (.lst (rows.map yo))),none,none,none,none,none,none]/\0<=c/\rows.length<=(if EE<3 then 12 else 3)*p.length/\((∀ r∈rows,qJ EE r)/\(p≠[]->rows≠[])))
   (List.range EE) [some (.im (zU ns)),some (.im (.int EE)),some (.im (.int num)),some (.im (.int wide)),some (.own (.lst [])),none,none,none,none,none,none] ⟨num,[],rfl,c0,by simp,nofun,λ h=>absurd rfl h⟩ (by
  rintro p k q e J ⟨c,rows,rfl,r0,r1,r2,_⟩
  have hp:p.length<EE:=by have:=congrArg List.length e;simp at this;lia
  have hk:k<EE:=AR.mp (by rw[e];simp)
  obtain⟨size,hs,s1,s2⟩:∃ size:Nat,(if (EE<3/\c/3%8=1) then 9+(1+c%3) else 1+c%3)=(size:Int)/\1<=size/\size<=(if EE<3 then 12 else 3):=by
   by_cases h:EE<3/\c/3%8=1
   ·rw[if_pos h,if_pos h.1];exact⟨(9+(1+c%3)).toNat,by lia,by lia,by lia⟩
   ·rw[if_neg h]
    exact⟨(1+c%3).toNat,by lia,by lia,by split <;> lia⟩
  have BX:(if EE<3 then 12 else 3)*p.length<=96:=by split <;> lia
  obtain⟨J2,g1,Ft,g2,g3,g4⟩:=tq (is:=[7,8,9,10]) (g:=zG 7) (b:=qv) (λ k:Nat=>T.int (0+(k:Int))) (λ p' J=>∃ Ft:List (List Int),J=[some (.im (zU ns)),some (.im (.int EE)),some (.im (.int c)),some (.im (.int wide)),some (.own (.lst (Ft.map yo))),some (.im (.int k)),some (.im (.int size)),none,none,none,none]/\Ft.length=rows.length+p'.length/\∀ r∈Ft,qJ EE r)
    (List.range size) [some (.im (zU ns)),some (.im (.int EE)),some (.im (.int c)),some (.im (.int wide)),some (.own (.lst (rows.map yo))),some (.im (.int k)),some (.im (.int size)),none,none,none,none] ⟨rows,rfl,rfl,r2⟩ (by
   rintro p' k' q' e' J ⟨Ft,rfl,u1,u2⟩
   have G9:p'.length<size:=by have:=congrArg List.length e';simp at this;lia
   have hs12:size<=12:=by split at s2 <;> lia
   obtain⟨r,x,y,z,v1,v2⟩:=XU ns EE wide k k' c size (Ft.map yo) hm hk J8 JA (by simp;lia)
   refine⟨_,v2,Ft++[r],by simp,by simp[u1];lia,λ r' GS=>?_⟩
   rcases A0.mp GS with h | h
   ·exact u2 r' h
   ·cases AX.mp h;exact v1)
  subst g2
  have B8:=qU size (by split at s2 <;> lia)
  have d3:xg c 3:=⟨by decide,by decide⟩
  have Kx:xg c 24:=⟨by decide,by decide⟩
  refine⟨[some (.im (zU ns)),some (.im (.int EE)),some (.im (.int (c/24))),some (.im (.int wide)),some (.own (.lst (Ft.map yo))),some (.im (.int (0+(k:Int)))),some (.im (.int size)),none,none,none,none],?_,c/24,Ft,by simp,by lia,?_,g4,λ _=>?_⟩
  ·unfold turn my
   generalize qv=bb at *
   simp only[C2] at g1 B8 ⊢
   generalize (List.range size).map (λ(k:Nat)=>T.int (k:Int))=RR at *
   generalize Ft.map yo=JF at *
   generalize rows.map yo=L1' at *
   generalize zU ns=sc at *
   by_cases hA:EE<3
   ·have HG:(EE:Int)<3:=by lia
    by_cases hB:c/3%8=1
    ·rw[if_pos ⟨hA,hB⟩] at hs
     simp[HG,hB,d3,Kx,yR,eq_int,hs,B8,g1]
    ·rw[if_neg (λ h=>hB h.2)] at hs
     simp[HG,hB,d3,Kx,yR,eq_int,hs,B8,g1]
   ·have HG:¬ (EE:Int)<3:=by lia
    rw[if_neg (λ h=>hA h.1)] at hs
    simp[HG,d3,Kx,yR,eq_int,hs,B8,g1]
  ·have:Ft.length=rows.length+size:=by simpa using g3
   rw[B6,List.length_singleton,Nat.mul_add,Nat.mul_one];lia
  ·have:Ft.length=rows.length+size:=by simpa using g3
   intro h;rw[h] at this;simp at this;lia)
 subst h2
 have B8:=qU EE (by lia)
 have hlen:rows.length<64:=by
  rw[B7] at h4
  split at h4 <;> lia
 have An:rows≠[]:=h5.2 (λ h=>by
  have:=congrArg List.length h
  simp at this;lia)
 have Ed:∀ r∈rows,r≠[]:=λ r hr=>by obtain⟨f,t,a,b,rfl,_⟩:=h5.1 r hr;simp
 have Dc:=WN rows An hlen Ed
 have Aw:∀ r∈L4.xJ (wy rows),qJ EE r:=λ r hr=>h5.1 r (ny.mp ((L4.uV _).mem_iff.mp hr))
 have hl60:(L4.xJ (wy rows)).length<64:=by rw[(L4.uV _).length_eq];have:=km rows;lia
 have conv:∀ l:List (List Int),(∀ r∈l,qJ EE r)->∃ ws:List Wy,l.map yo=ws.map yD/\ws.length=l.length/\∀ w∈ws,w.f<EE/\w.t<EE:=λ l=>by
  induction l with
  | nil=>exact λ _=>⟨[],rfl,rfl,nofun⟩
  | cons r l ih=>
   intro h
   obtain⟨ws,e1,e2,e3⟩:=ih λ x hx=>h x (Ax _ hx)
   obtain⟨f,t,a,b,rfl,hf,ht⟩:=h r Ap
   refine⟨⟨f,t,a,b⟩::ws,by rw[Au,Au,e1];rfl,by simp[e2],λ w hw=>?_⟩
   rcases Ai.mp hw with x | x
   ·subst x;exact⟨hf,ht⟩
   ·exact e3 w x
 obtain⟨ws,e1,e2,e3⟩:=conv _ Aw
 refine⟨ws,?_,by
  have hn:(wy rows).length<=rows.length:=km rows
  rw[e2,(L4.uV _).length_eq]
  rw[B7] at h4
  split at h4 <;> lia,e3⟩
 rw[e1] at Dc
 unfold p_ dg
 generalize my=bb at *
 generalize ws.map yD=L1 at *
 generalize rows.map yo=JF at *
 generalize rS=sv at *
 generalize (List.range EE).map (λ(k:Nat)=>T.int (0+(k:Int)))=RR at *
 generalize yQ=fc at *
 generalize zU ns=sc at *
 by_cases hA:EE<3
 ·have HG:(EE:Int)<3:=by lia
  rw[if_pos hA] at hw
  simp[FV,yR,HG,hw,B8,h1,Dc]
 ·have HG:¬ (EE:Int)<3:=by lia
  rw[if_neg hA] at hw
  simp[FV,yR,HG,hw,B8,h1,Dc]
def fK (x y:Str):zR false (.str x) (.str y)=some (.bl (x == y)):=by simp[zR,dep,eqT]
def WK (M C:Int) (hM:0<M) (hC:∀ i,wo i C) (kk:Str) (bb:Sm) (CW:bb=(zr (zM 4 (ze zS (ze y8 (ze y8 (ze x8 (zv yQ (zb (zm 0) (zb (ze y8 (cI 28) (zf 3)) zi))) (cS (.int C))) (ze x8 (cI 29) (zf 3))) (cI 5)) (cS (.int M))))
 (y6 (rm (zZ (ze (zR false) (ze zq (zf 1) (zf 3)) (cS (.str kk)))) (zZ (ze (zR false) (ze zS (zf 4) (cI 3)) (cI 1)))) (zr (zM 5 (ze yv (zf 4) (cI 6)))
 (zr (zM 6 (ze y8 (cI 1) (ze zq (yV (zb (ze zS (zf 5) (cI 3)) (zb (ze zS (zf 5) (cI 3)) (zb (ze zS (zf 5) (cI 12)) zi)))) (ze zS (ze yv (zf 5) (cI 12)) (cI 3)))))
 (zr (zM 7 (ze zq (yV (zb (ze zS (ze yv (zf 5) (cI 36)) (cI 4)) (zb (ze zS (ze yv (zf 5) (cI 36)) (cI 4)) (zb (ze zS (ze yv (zf 5) (cI 36)) (cI 13)) zi)))) (ze zS (ze yv (zf 5) (cI 468)) (cI 3))))
 (uQ 2 (tupS (zb (zm 3) (zb (ze zS (ze yv (zf 4) (cI 3)) (cI 2)) (zb (zm 6) (zb (zm 7) zi))))))))) yy)))
  (ns:List Int) (Ih:List T) (place:Nat) (s:Str) (hs:L2.zW Ih (place:Int)=some (.str s)) (rows:List T) (hl:rows.length<=1000):
  ∃ more:List Sl,more.length<=1/\(∀ x∈more,1<=x.gv/\0<=x.gt)/\∃ a b c d,turn (zG 3) bb (.int (place:Int)) [some (.im (zU ns)),some (.im (.tup Ih)),some (.own (.lst rows)),none,none,none,none,none]
   = some (.nx [some (.im (zU ns)),some (.im (.tup Ih)),some (.own (.lst (rows++more.map yI))),some (.im (.int (place:Int))),a,b,c,d]):=by
 have hc:=rL ns (28+place)
 rw[C0] at hc
 have FV:yQ [zU ns,.int (28+(place:Int))]=some (.int (cell ns (28+place))):=hc
 generalize cell ns (28+place)=ce at *
 have m2:wo ce C:=hC ce
 have m3:wo 29 (place:Int):=.inl ⟨by decide,by decide⟩
 generalize hd:(ce*C+29*(place:Int)+5)%M=dr
 have hdr:0<=dr:=by rw[<- hd];exact DB _ (by lia)
 have d6:xg dr 6:=⟨by decide,by decide⟩
 have d3:xg dr 3:=⟨by decide,by decide⟩
 have r0:0<=dr/6:=by lia
 generalize hrs:dr/6=rs at *
 have d12:xg rs 12:=⟨by decide,by decide⟩
 have d36:xg rs 36:=⟨by decide,by decide⟩
 have Kw:xg rs 468:=⟨by decide,by decide⟩
 obtain⟨gv,hg,g0⟩:=oZ (L:=[T.int (rs%3),.int (rs%3),.int (rs%12)]) (P:=λ v=>0<=v) (by intro y hy;simp only[Ai,CZ,or_false] at hy;rcases hy with rfl | rfl | rfl <;> exact⟨_,rfl,by lia⟩) (i:=rs/12%3) (by lia) (by simp;lia)
 obtain⟨gt,ht,t0⟩:=oZ (L:=[T.int (rs/36%4),.int (rs/36%4),.int (rs/36%13)]) (P:=λ v=>0<=v) (by intro y hy;simp only[Ai,CZ,or_false] at hy;rcases hy with rfl | rfl | rfl <;> exact⟨_,rfl,by lia⟩) (i:=rs/468%3) (by lia) (by simp;lia)
 have Gm:rows.length<16777216:=by lia
 rw[show turn (zG 3) bb (.int (place:Int)) [some (.im (zU ns)),some (.im (.tup Ih)),some (.own (.lst rows)),none,none,none,none,none]=bb [some (.im (zU ns)),some (.im (.tup Ih)),some (.own (.lst rows)),some (.im (.int (place:Int))),none,none,none,none] from rfl]
 subst CW
 generalize yQ=fc at *
 generalize zU ns=sc at *
 rw[seq_eq (J':=[some (.im sc),some (.im (.tup Ih)),some (.own (.lst rows)),some (.im (.int (place:Int))),some (.im (.int dr)),none,none,none]) (Y8 (qc (x:=.int (ce*C+29*(place:Int)+5)) (y:=.int M) (qc (qc (qc (x:=.int ce) (y:=.int C) (by
   show ((zb (zm 0) (zb (ze y8 (cI 28) (zf 3)) zi)) _).bind fc=_
   exact FV) rfl (kq m2)) (qc (x:=.int 29) (y:=.int place) rfl rfl (kq m3)) rfl) rfl rfl) rfl (by
   show (if 0<M then some (T.int ((ce*C+29*(place:Int)+5)%M)) else none)=_
   rw[if_pos hM,hd])))]
 by_cases hk:(s == kk)=true/\dr%3=1
 ·refine⟨[⟨place,decide (dr/3%2=1),1+gv,gt⟩],by simp,λ x hx=>by cases AX.mp hx;exact⟨by show 1<=1+gv;lia,t0⟩,some (.im (.int dr)),some (.im (.int rs)),some (.im (.int (1+gv))),some (.im (.int gt)),?_⟩
  have hpu:vz (decide (dr/3%2=1))=dr/3%2:=by
   unfold vz
   rcases Int.emod_two_eq (dr/3) with h | h <;> simp[h]
  have Be:yI ⟨place,decide (dr/3%2=1),1+gv,gt⟩=.tup [.int place,.int (dr/3%2),.int (1+gv),.int gt]:=by
   unfold yI;rw[hpu]
  rw[Au,A9,Be]
  simp[hs,fK,hk.1,eq_int,hk.2,d6,d3,hrs,d12,d36,Kw,hg,ht,Gm]
 ·refine⟨[],by simp,nofun,some (.im (.int dr)),none,none,none,?_⟩
  rw[A9,Ci]
  by_cases h1:(s == kk)=true
  ·have h2:¬ dr%3=1:=λ h=>hk ⟨h1,h⟩
   simp[hs,fK,h1,eq_int,h2]
  ·rw[Bool.not_eq_true] at h1
   simp[hs,fK,h1]
def NQ (ns:List Int) (os:List Bool) (h8:os.length<=8):∃ ss:List Sl,oa [zU ns,.tup (os.map kt)]=some (.tup (ss.map yI))/\ss.length<=60/\∀ s∈ss,1<=s.gv/\0<=s.gt:=by
 obtain⟨J',h1,ss,h2,h3,h4⟩:=tq (is:=[3,4,5,6,7]) (g:=zG 3) (b:=pR) (λ k:Nat=>T.int (k:Int)) (λ p J=>∃ ss:List Sl,J=[some (.im (zU ns)),some (.im (.tup (os.map kt))),some (.own (.lst (ss.map yI))),none,none,none,none,none]/\ss.length<=p.length/\∀ s∈ss,1<=s.gv/\0<=s.gt)
   (List.range os.length) [some (.im (zU ns)),some (.im (.tup (os.map kt))),some (.own (.lst [])),none,none,none,none,none] ⟨[],rfl,Aj _,nofun⟩ (by
  rintro p k q e J ⟨ss,rfl,r1,r2⟩
  have hp:p.length<os.length:=by have:=congrArg List.length e;simp at this;lia
  have hk:k<os.length:=AR.mp (by rw[e];simp)
  obtain⟨s,hs⟩:∃ s:Str,L2.zW (os.map kt) (k:Int)=some (.str s):=by
   cases hb:os[k] with
   | true=>exact⟨"keeper",vR (by rw[AE,A3 hk,hb];rfl)⟩
   | false=>exact⟨"taker",vR (by rw[AE,A3 hk,hb];rfl)⟩
  obtain⟨more,m1,m2,a,b,c,d,m3⟩:=WK 999979 3571 (by lia) (λ _=>.inr ⟨by lia,by lia⟩) "keeper" pR (by unfold pR;rfl) ns (os.map kt) k s hs (ss.map yI) (by simp;lia)
  refine⟨_,m3,ss++more,by simp,by simp;lia,λ x hx=>?_⟩
  rcases A0.mp hx with h | h
  ·exact r2 x h
  ·exact m2 x h)
 subst h2
 rw[B7] at h3
 refine⟨ss,?_,by lia,h4⟩
 have hr:=qU os.length (by lia)
 simp only[C2] at hr
 unfold oa dh
 generalize pR=bb at *
 generalize (List.range os.length).map (λ(k:Nat)=>T.int (k:Int))=R at *
 have hlen:(os.map kt).length=os.length:=by simp
 generalize os.map kt=L1 at *
 generalize ss.map yI=JF at *
 generalize zU ns=sc at *
 simp[hlen,hr,h1]
def Md (ns:List Int):∃ F:zT,mT [zU ns]=some (zx F)/\F.Ok:=by
 have hc:=rL ns 0
 have c0:=md ns 0
 generalize cell ns 0=num at *
 have FV:yQ [zU ns,.int 0]=some (.int num):=hc
 have d8:xg num 8:=⟨by decide,by decide⟩
 obtain⟨mi,hm,m1,m8⟩:=oZ (L:=[T.int 2,.int 3,.int 1,.int 4,.int 3,.int 2,.int 4,.int (5+num/8%4)]) (P:=λ v=>1<=v/\v<=8) (by intro y hy;simp only[Ai,CZ,or_false] at hy;rcases hy with rfl | rfl | rfl | rfl | rfl | rfl | rfl | rfl <;> exact⟨_,rfl,by lia,by lia⟩) (i:=num%8) (by lia) (by simp;lia)
 obtain⟨EE,rfl⟩:∃ k:Nat,mi=(k:Int):=⟨mi.toNat,by lia⟩
 obtain⟨os,h1,o1⟩:=NX ns EE (by lia)
 obtain⟨A,B,h2,a1,b1,ab⟩:=Mn ns EE
 obtain⟨ws,h3,w1,w2⟩:=NM ns EE (by lia) (by lia)
 obtain⟨ss,h4,s1,s2⟩:=NQ ns os (by lia)
 by_cases BX:(A=12/\B=12)/\(6<ws.length\/0<ss.length)
 ·refine⟨⟨12,3,os,ws,ss⟩,?_,⟨by show (0:Int)<=12;decide,by show (12:Int)<=12;decide,by show (0:Int)<=3;decide,by show (3:Int)<=12;decide,by show 1<=os.length;lia,by show os.length<=8;lia,λ w hw=>by show w.f<os.length/\w.t<os.length;rw[o1];exact w2 w hw,w1,s2,.inr (by show ((12:Int)+1)*(3+1)<64;decide),s1⟩⟩
  obtain⟨⟨rfl,rfl⟩,hb⟩:=BX
  have he:zR false (.tup [.int 12,.int 12]) (.tup [.int 12,.int 12])=some (.bl true):=by simp[zR,dep,xt,eqT,xr]
  unfold mT j4 zx
  have l1:(ws.map yD).length=ws.length:=by simp
  have l2:(ss.map yI).length=ss.length:=by simp
  generalize ws.map yD=L1 at *
  generalize ss.map yI=JF at *
  generalize os.map kt=L3' at *
  generalize yQ=f1 at *
  generalize og=f2 at *
  generalize oo=f3 at *
  generalize p_=f4 at *
  generalize oa=f5 at *
  generalize zU ns=sc at *
  rcases hb with hb | hb
  ·have Hc:(6:Int)<(ws.length:Int):=by lia
   simp[FV,d8,hm,h1,h2,h3,h4,he,l1,l2,Hc,hb]
  ·have Hc:(0:Int)<(ss.length:Int):=by lia
   by_cases h6:6<ws.length
   ·have Kn:(6:Int)<(ws.length:Int):=by lia
    simp[FV,d8,hm,h1,h2,h3,h4,he,l1,l2,h6,Kn]
   ·have Kn:¬ (6:Int)<(ws.length:Int):=by lia
    simp[FV,d8,hm,h1,h2,h3,h4,he,l1,l2,h6,Kn,hb,Hc]
 ·refine⟨⟨A,B,os,ws,ss⟩,?_,⟨a1.1,a1.2,b1.1,b1.2,by show 1<=os.length;lia,by show os.length<=8;lia,λ w hw=>by show w.f<os.length/\w.t<os.length;rw[o1];exact w2 w hw,w1,s2,?_,s1⟩⟩
  ·have he:zR false (.tup [.int A,.int B]) (.tup [.int 12,.int 12])=some (.bl (decide (A=12/\B=12))):=by
    by_cases x:A=12 <;> by_cases y:B=12 <;> simp[zR,dep,xt,eqT,xr,x,y]
   unfold mT j4 zx
   have l1:(ws.map yD).length=ws.length:=by simp
   have l2:(ss.map yI).length=ss.length:=by simp
   generalize ws.map yD=L1 at *
   generalize ss.map yI=JF at *
   generalize os.map kt=L3' at *
   generalize yQ=f1 at *
   generalize og=f2 at *
   generalize oo=f3 at *
   generalize p_=f4 at *
   generalize oa=f5 at *
   generalize zU ns=sc at *
   by_cases JD:A=12/\B=12
   ·have n1:¬ 6<ws.length:=λ h=>BX ⟨JD,.inl h⟩
    have n2:¬ 0<ss.length:=λ h=>BX ⟨JD,.inr h⟩
    have n1':¬ (6:Int)<(ws.length:Int):=by lia
    have JW:¬ (0:Int)<(ss.length:Int):=by lia
    rw[KU JD] at he
    simp[FV,d8,hm,h1,h2,h3,h4,he,l1,l2,n1,n2,n1',JW]
   ·rw[KI JD] at he
    simp[FV,d8,hm,h1,h2,h3,h4,he]
  ·show ss=[]\/(A+1)*(B+1)<64
   rcases ab with x | x
   ·refine .inl ?_
    cases ss with
    | nil=>rfl
    | cons a l=>exact absurd ⟨x,.inr (by simp)⟩ BX
   ·exact .inr x
def tN (EJ:List (List Bd)):T:=.lst (EJ.map rT)
def kT (EJ:List (List Bd)) (p:Nat) (q:Int×Int):Option Nat:=(List.range EJ.length).find? λ k=>!yb ((EJ.getD k []).getD p []) q
noncomputable def kS (o:Option Nat):T:=match o with
 | some k=>.int (k:Int)
 | none=>.zk
def Wr {EJ:List (List Bd)}{n:Nat}(h:∀ r∈EJ,r.length=n) {k:Nat}(hk:k<EJ.length):(EJ.getD k []).length=n:=by
 rw[Bv,A3 hk]
 exact h _ (BJ hk)
def Me (EJ:List (List Bd)) (n p:Nat) (q:Int×Int) (hn:∀ r∈EJ,r.length=n) (hb:∀ r∈EJ,∀ b∈r,b.length<=100) (hp:p<n):jt [tN EJ,.int p,zt q]=some (kS (kT EJ p q)):=by
 have hl:=gD (is:=[3,4]) (g:=vw 2 (xA (zG 3) (xA (zG 4) uL))) (b:=m6) (λ k:Nat=>T.tup [.int (k:Int),rT (EJ.getD k [])]) (λ k:Nat=>T.int (k:Int)) (λ k=>!yb ((EJ.getD k []).getD p []) q) [some (.im (tN EJ)),some (.im (.int p)),some (.im (zt q)),none,none] (List.range EJ.length) [some (.im (tN EJ)),some (.im (.int p)),some (.im (zt q)),none,none] (by simp) λ k hk=>⟨[some (.im (tN EJ)),some (.im (.int p)),some (.im (zt q)),some (.im (.int (k:Int))),some (.im (rT (EJ.getD k [])))],by simp,by
  have Gr:=AR.mp hk
  have hlen:=Wr hn Gr
  have e1:=gN (EJ.getD k []) p (by lia)
  have e2:=Mc ((EJ.getD k []).getD p []) q (by
   have hm:EJ.getD k []∈EJ:=by rw[Bv,A3 Gr];exact BJ Gr
   have Io:(EJ.getD k []).getD p []∈EJ.getD k []:=by
    have:p<(EJ.getD k []).length:=by lia
    rw[Bv (l:=EJ.getD k []),A3 this];exact BJ this
   have:=hb _ hm _ Io
   lia)
  unfold turn m6
  generalize (EJ.getD k []).getD p []=bd at *
  generalize rT (EJ.getD k [])=rk at *
  generalize mW=ff at *
  generalize tN EJ=tt at *
  generalize zt q=pq at *
  simp only[zq] at e1
  cases hc:yb bd q <;> rw[hc] at e2 <;> simp[e1,e2]⟩
 have he:vL [tN EJ]=some ((List.range EJ.length).map λ k:Nat=>T.tup [.int (k:Int),rT (EJ.getD k [])]):=by
  have:=fN rT [] EJ EJ 0 λ i=>by rw[C1]
  simp only[C1] at this
  show some (sd 0 (EJ.map rT))=_
  rw[this]
 unfold jt d7 kT kS
 generalize m6=bb at *
 generalize vL=en at *
 generalize tN EJ=tt at *
 generalize zt q=pq at *
 generalize (List.range EJ.length).map (λ k:Nat=>T.tup [.int (k:Int),rT (EJ.getD k [])])=LL at *
 generalize (List.range EJ.length).find? _=o at *
 simp[he,hl]
 cases o <;> simp
def xZ (t:T):Bool:=!yF t&&(match t with | .tup ts=>ts.all (λ u=>!yF u) | _=>true)
def xZ.top {t:T}(h:xZ t=true):yF t=false:=by
 unfold xZ at h
 simp only[Bi,DX] at h
 exact h.1
def xZ.mem {ts:List T}(h:xZ (.tup ts)=true) {u:T}(hu:u∈ts):yF u=false:=by
 simp only[xZ,Bi,Bj,DX] at h
 exact h.2 u hu
noncomputable def wh (t:T) (a b:Int):Bool:=match t with
 | .int i=>decide (a<=i)&&decide (i<=b)
 | _=>false
def YU (t:T) (he:yF t=false):ox [t]=some (.bl (match t with | .int _=>true | _=>false)):=by
 cases t with
 | err _ _ _=>cases he
 | _=>simp[ox,j6,xo]
def YT (t:T) (a b:Int) (he:yF t=false):rJ [t,.int a,.int b]=some (.bl (wh t a b)):=by
 cases t with
 | int i=>
  unfold rJ ly wh
  by_cases h1:a<=i <;> by_cases h2:i<=b <;> simp[YU _ he,h1,h2]
 | err _ _ _=>cases he
 | _=>simp[rJ,ly,wh,YU _ he]
theorem dH {α:Type}(enc:α->T):∀ (ts:List T) (bs:List α),List.zipWith (λ a b=>T.tup [a,b]) ts (bs.map enc)=(ts.zip bs).map λ p=>T.tup [p.1,enc p.2]
 | [],bs=>by simp
 | t::ts,[]=>by simp
 | t::ts,b::bs=>by simp[dH enc ts bs]
def N1 {α:Type}(g:α->Bool) (xs:List α):sr (xs.map λ x=>T.bl (g x))=some (xs.map g):=by
 have:=Y0 (xs.map g)
 rw[AZ] at this
 exact this
def N9 {α:Type}(g:α->Bool) (xs:List α):(xs.map g).all id=xs.all g:=by
 rw[List.all_map];rfl
def yJ (t:T) (bs:List (Int×Int)):Bool:=match t with
 | .tup ts=>decide (ts.length=bs.length)&&(ts.zip bs).all λ p=>wh p.1 p.2.1 p.2.2
 | _=>false
def NS (t:T) (bs:List (Int×Int)) (hl:bs.length<=100) (he:xZ t=true):mV [t,.tup (bs.map zt)]=some (.bl (yJ t bs)):=by
 cases t with
 | tup ts=>
  unfold mV j7 yJ
  by_cases h:ts.length=bs.length
  ·have hc:jb [some (.im (.tup ts)),some (.im (.tup (bs.map zt)))]=some (.lst ((ts.zip bs).map λ p=>T.bl (wh p.1 p.2.1 p.2.2))):=by
    unfold jb
    refine sZ (λ p:T×(Int×Int)=>T.tup [p.1,zt p.2]) _ (ts.zip bs) ?_ ?_ λ p hp=>?_
    ·simp[dH]
    ·simp;lia
    ·simp[qk,zt,YT _ _ _ (xZ.mem he (DH hp).1)]
   simp[xo,eq_int,h,hc,N1,N9]
  ·have h':¬ (ts.length:Int)=bs.length:=by lia
   simp[xo,eq_int,h,h']
 | err _ _ _=>cases xZ.top he
 | _=>simp[mV,j7,yJ,xo]
def Mj (F:zT) (y:T) (he:yF y=false):rK [zx F,y]=some (if wh y 0 ((F.os.length:Int)-1)=true then .zk else .err "NoPlace" "place" y):=by
 have h:=YT y 0 ((F.os.length:Int)-1) he
 have hp:=eP F
 unfold rK j8
 generalize zx F=fl at *
 cases q:wh y 0 ((F.os.length:Int)-1) <;> simp[hp,h,q]
def Mk (F:zT) (y:T) (he:xZ y=true):ju [zx F,y]=some (if yJ y [(0,F.A),(0,F.B)]=true then .zk else .err "NoPair" "pair" y):=by
 have h:=NS y [(0,F.A),(0,F.B)] (by show 2<=100;decide) he
 simp only[Au,A9,zt] at h
 unfold ju dA zx
 cases q:yJ y [(0,F.A),(0,F.B)] <;> simp[h,q]
def lP (n:Nat) (y:T) (h:(match y with | .tup _=>false | .err _ _ _=>false | .yT=>false | _=>true)=true) (hd:dep y<=60):xk (n+1) [y,y]=some (.bl true):=by
 have e:zR false y y=some (.bl true):=by unfold zR;rw[if_pos ⟨hd,hd⟩,kQ];rfl
 have e2:∀ b:Bool,zR true (.bl b) (.bl b)=some (.bl false):=λ b=>by cases b <;> rfl
 have e3:∀ b:Bool,zR false (.bl b) (.bl b)=some (.bl true):=λ b=>by cases b <;> rfl
 unfold xk jy
 cases y with
 | err _ _ _=>cases h
 | yT=>cases h
 | tup _=>cases h
 | _=>simp[xo,e,e2,e3]
def cT (n:Nat) (L:List T) (hl:L.length<=100) (h:∀ u∈L,xk n [u,u]=some (.bl true)):xk (n+1) [.tup L,.tup L]=some (.bl true):=by
 have hc:mm (xk n) [some (.im (.tup L)),some (.im (.tup L))]=some (.lst ((List.range L.length).map λ _=>T.bl true)):=by
  have hr:=qU L.length (by lia)
  unfold mm
  refine sZ (λ k:Nat=>T.int (k:Int)) _ (List.range L.length) ?_ (by simp;lia) λ k hk=>?_
  ·simp[hr]
  ·have Gr:k<L.length:=by simpa using hk
   have ea:L2.zW L (k:Int)=some L[k]:=vR (by simp[Gr])
   have h':=h L[k] (BJ Gr)
   simp[ea,h']
 have b1:sr ((List.range L.length).map λ _=>T.bl true)=some ((List.range L.length).map λ _=>true):=Yy _ _
 have e2:zR true (.int (L.length:Int)) (.int (L.length:Int))=some (.bl false):=by unfold zR;rw[kQ];rfl
 unfold xk jy
 generalize mm (xk n)=cc at *
 simp[xo,e2,hc,b1]
set_option maxHeartbeats 1600000 in
def Mi {F:zT}(y z:T) (h1:yF y=false) (h2:xZ z=true):mU [zx F,y,z]=some (if wh y 0 ((F.os.length:Int)-1)=true then (if yJ z [(0,F.A),(0,F.B)]=true then .zk else .int 1) else .int 0):=by
 have hw:∀ t:T,yF t=false->pZ [t]=some (.bl (match t with | .int _=>true | _=>false)):=λ t he=>by
  cases t with
  | err _ _ _=>cases he
  | _=>simp[pZ,df,xo]
 have k1:=hw y h1
 have k0:zq (zx F) (.int 0)=some (.tup [.int F.A,.int F.B]):=rfl
 have k2:zq (zx F) (.int 1)=some (.tup (F.os.map kt)):=rfl
 have kl:wJ [.tup (F.os.map kt)]=some (.int (F.os.length:Int)):=by simp
 have kL:((F.os.map kt).length:Int)=F.os.length:=by simp
 unfold mU dk
 generalize zx F=fl at *
 generalize F.os.map kt=O at *
 generalize (F.os.length:Int)=n at *
 simp only[zq] at k0 k2
 have e2:∀ i j:Int,zR true (.int i) (.int j)=some (.bl (!decide (i=j))):=λ i j=>eq_int i j true
 by_cases hy:wh y 0 (n-1)=true
 ·rw[if_pos hy]
  cases y with
  | int i=>
   simp only[wh,Bi,decide_eq_true_eq] at hy
   have a1:¬ i<0:=by lia
   have a2:¬ n<=i:=by lia
   cases z with
   | err _ _ _=>cases h2
   | tup ts=>
    rcases ts with _ | ⟨a,_ | ⟨b,_ | ⟨c,r⟩⟩⟩
    ·simp[k1,k2,kl,kL,yR,a1,a2,xo,yJ,e2]
    ·simp[k1,k2,kl,kL,yR,a1,a2,xo,yJ,e2]
    ·have ha:=hw a (xZ.mem h2 (by simp))
     have hb:=hw b (xZ.mem h2 (by simp))
     have g0:L2.zW [a,b] 0=some a:=rfl
     have g1:L2.zW [a,b] 1=some b:=rfl
     cases a with
     | int u=>
      cases b with
      | int v=>
       by_cases c1:0<=u <;> by_cases c2:u<=F.A <;> by_cases c3:0<=v <;> by_cases c4:v<=F.B <;> simp[k1,k2,k0,kl,kL,yR,a1,a2,xo,yJ,e2,ha,hb,g0,g1,wh,c1,c2,c3,c4]
      | _=>simp[k1,k2,kl,kL,yR,a1,a2,xo,yJ,e2,ha,hb,g0,g1,wh]
     | _=>simp[k1,k2,kl,kL,yR,a1,a2,xo,yJ,e2,ha,g0,g1,wh]
    ·have hr:¬ ((r.length:Int)+1+1+1=2):=by lia
     simp[k1,k2,kl,kL,yR,a1,a2,xo,yJ,e2,hr]
   | _=>simp[k1,k2,kl,kL,yR,a1,a2,xo,yJ]
  | _=>cases hy
 ·rw[if_neg hy]
  cases y with
  | err _ _ _=>cases h1
  | int i=>
   simp only[wh,Bi,decide_eq_true_eq] at hy
   by_cases c:i<0
   ·simp[k1,yR,c]
   ·have c2:n<=i:=by lia
    simp[k1,k2,kl,kL,yR,c,c2]
  | _=>simp[k1]
def NU (y z:T):tI [.zk,.zk,y,z]=some (.bl true):=by
 have i1:wL false .zk .zk=some (.bl true):=rfl
 unfold tI lu
 simp[i1]
def NW (y z:T) (h:xk 6 [y,y]=some (.bl true)):tI [.err "NoPlace" "place" y,.int 0,y,z]=some (.bl true):=by
 have i1:wL false (.int 0) .zk=some (.bl false):=rfl
 have i2:wL false (.err "NoPlace" "place" y) .zk=some (.bl false):=rfl
 have k:∀ c∈["NoFloor","NoMore","NoWay","NoChange","NoCount","NoName","NoRow","NoPair"],vb c "NoPlace"=false:=by decide
 have k2:vb "NoPlace" "NoPlace"=true:=by decide
 have e:zR true (.lst [.bl true,.bl false]) (.lst [.bl true,.bl false])=some (.bl false):=rfl
 unfold tI lu
 generalize xk 6=f at *
 simp[i1,i2,k,k2,eq_int,e,h]
def NV (y z:T) (h:xk 6 [z,z]=some (.bl true)):tI [.err "NoPair" "pair" z,.int 1,y,z]=some (.bl true):=by
 have i1:wL false (.int 1) .zk=some (.bl false):=rfl
 have i2:wL false (.err "NoPair" "pair" z) .zk=some (.bl false):=rfl
 have k:∀ c∈["NoFloor","NoMore","NoWay","NoChange","NoCount","NoName","NoRow","NoPlace"],vb c "NoPair"=false:=by decide
 have k2:vb "NoPair" "NoPair"=true:=by decide
 have e:zR true (.lst [.bl false,.bl true]) (.lst [.bl false,.bl true])=some (.bl false):=rfl
 unfold tI lu
 generalize xk 6=f at *
 simp[i1,i2,k,k2,eq_int,e,h]
def b9 {L:List T}{P:T->Prop}(hP:∀ y∈L,P y) {i:Int}(h0:0<=i) (h1:i<L.length):∃ v,L2.zW L i=some v/\P v:=by
 have hl:i.toNat<L.length:=by lia
 have e:L2.zW L i=some L[i.toNat]:=by
  have:=vR (k:=i.toNat) (A3 hl)
  rw[Cv h0] at this
  exact this
 exact⟨_,e,hP _ (BJ hl)⟩
def cV:∀ L:List T,L.all (λ y=>match y with | .zk=>true | .bl _=>true | .int _=>true | .str _=>true | .lst [.int _]=>true | .lst [.int _,.int _]=>true | .tup [.int _]=>true | _=>false)=true->∀ n,∀ u∈L,xk (n+2) [u,u]=some (.bl true):=λ L h n u hu=>by
 have:=Bj.mp h u hu
 split at this
 any_goals exact lP _ _ rfl (by simp[dep,xt])
 ·refine cT _ _ (by simp) λ v hv=>?_
  simp only[Ai,AV,or_false] at hv
  subst hv
  exact lP _ _ rfl (by simp[dep])
 ·cases this
def NZ (c:Int) (n:Nat) (h0:0<=c) (hn:1<=n):∃ y,oh [.int c,.int n]=some y/\yF y=false/\xk 6 [y,y]=some (.bl true):=by
 have d3:xg c 3:=⟨by decide,by decide⟩
 have d30:xg c 30:=⟨by decide,by decide⟩
 have JR:sL 10 20:=⟨by decide,by decide,by decide⟩
 have hs:=cV [.int n,.int (-1),.int (n+c/30%10 ^ 20),.bl true,.bl false,.zk,.str "0",.tup [.int 0],.lst [.int 0],.int 8] rfl 4
 by_cases h:c%3=1
 ·obtain⟨v,e,hv⟩:=b9 (L:=[.int n,.int (-1),.int (n+c/30%10 ^ 20),.bl true,.bl false,.zk,.str "0",.tup [.int 0],.lst [.int 0],.int 8]) (P:=λ y=>yF y=false/\xk 6 [y,y]=some (.bl true)) (i:=c/3%10) (λ y hy=>⟨by
   simp only[Ai,AV,or_false] at hy
   rcases hy with rfl | rfl | rfl | rfl | rfl | rfl | rfl | rfl | rfl | rfl <;> rfl,hs y hy⟩) (by lia) (by simp only[AW,B4];lia)
  refine⟨v,?_,hv⟩
  have q20:(0:Int)<10 ^ 20:=by decide
  unfold oh jz
  simp[-Int.reducePow,eq_int,h,d3,d30,JR,q20,e]
 ·refine⟨.int (c/3%n),?_,rfl,lP 5 _ rfl (by simp[dep])⟩
  have hn0:0<n:=by lia
  unfold oh jz
  simp[eq_int,h,d3,hn0]
def cU (L:List T) (h:L.all (λ y=>match y with | .tup ts=>decide (ts.length<=100)&&ts.all (λ y=>match y with | .zk=>true | .bl _=>true | .int _=>true | .str _=>true | .lst [.int _]=>true | .lst [.int _,.int _]=>true | .tup [.int _]=>true | _=>false) | .zk=>true | .int _=>true | .str _=>true | .lst [.int _,.int _]=>true | _=>false)=true) (u:T) (hu:u∈L):xZ u=true/\xk 6 [u,u]=some (.bl true):=by
 have:=Bj.mp h u hu
 split at this
 ·simp only[Bi,decide_eq_true_eq] at this
  refine⟨?_,cT _ _ this.1 λ v hv=>cV _ this.2 3 v hv⟩
  simp only[xZ,yF,Cy,Bool.true_and,Bj]
  intro v hv
  have z:=Bj.mp this.2 v hv
  cases v with
  | err _ _ _=>cases z
  | _=>rfl
 any_goals exact⟨rfl,lP _ _ rfl (by simp[dep,xt])⟩
 ·cases this
def NY (c A B:Int) (h0:0<=c) (hA:0<=A) (hB:0<=B):∃ y,oj [.int c,.tup [.int A,.int B]]=some y/\xZ y=true/\xk 6 [y,y]=some (.bl true):=by
 have d3:xg c 3:=⟨by decide,by decide⟩
 have d39:xg c 39:=⟨by decide,by decide⟩
 have Kv:xg c 507:=⟨by decide,by decide⟩
 have JR:sL 10 20:=⟨by decide,by decide,by decide⟩
 have a1:0<A+1:=by lia
 have b1:0<B+1:=by lia
 have g0:L2.zW [T.int A,.int B] 0=some (.int A):=rfl
 have g1:L2.zW [T.int A,.int B] 1=some (.int B):=rfl
 generalize hx:c/3%(A+1)=x
 generalize hy:c/39%(B+1)=y
 by_cases h:c%3=1
 ·have hs:=cU [.tup [.int (A+1),.int y],.tup [.int x,.int (B+1)],.tup [.int (-1),.int y],.tup [.int x,.int (-1)],.lst [.int x,.int y],.tup [.int x],.tup [.int x,.int y,.int 0],.tup [.bl true,.int y],.tup [.int x,.bl false],.tup [.zk,.int y],.tup [.int x,.str "0"],.zk,.int 7,.str "00",.tup [],.tup [.int x,.tup [.int y]],.tup [.int 13,.int 13],.tup [.int (A+10 ^ 20),.int y]] rfl
  obtain⟨v,e,hv⟩:=b9 hs (i:=c/507%18) (by lia) (by simp only[AW,B4];lia)
  refine⟨v,?_,hv⟩
  unfold oj j0
  simp[-Int.reducePow,eq_int,h,d3,d39,Kv,JR,a1,b1,hx,hy,g0,g1,e]
 ·have hs:=cU [.tup [.int x,.int y]] rfl
  refine⟨.tup [.int x,.int y],?_,hs _ (by simp)⟩
  unfold oj j0
  simp[eq_int,h,d3,d39,a1,b1,hx,hy,g0,g1]
def XS {y:T}{n:Nat}(h:wh y 0 ((n:Int)-1)=true):∃ p:Nat,y=.int (p:Int)/\p<n:=by
 cases y with
 | int i=>
  simp only[wh,Bi,decide_eq_true_eq] at h
  exact⟨i.toNat,by rw[Cv h.1],by lia⟩
 | _=>cases h
def Vu {z:T}{A B:Int}(h:yJ z [(0,A),(0,B)]=true):∃ q:Int×Int,z=zt q/\(0<=q.1/\q.1<=A)/\0<=q.2/\q.2<=B:=by
 cases z with
 | tup ts=>
  rcases ts with _ | ⟨a,_ | ⟨b,_ | ⟨c,r⟩⟩⟩
  ·simp[yJ] at h
  ·simp[yJ] at h
  ·cases a with
   | int u=>
    cases b with
    | int v=>
     simp[yJ,wh] at h
     exact⟨(u,v),rfl,h.1,h.2⟩
    | _=>simp[yJ,wh] at h
   | _=>simp[yJ,wh] at h
  ·simp[yJ] at h
 | _=>cases h
def O3 (o:Option Nat):yF (kS o)=false:=by cases o <;> rfl
def Mb {F:zT}(ok:F.Ok) (y z:T) (h1:yF y=false) (h2:xZ z=true):∃ v,ou [zx F,y,z]=some v/\if wh y 0 ((F.os.length:Int)-1)=true then (if yJ z [(0,F.A),(0,F.B)]=true then yF v=false else v=.err "NoPair" "pair" z) else v=.err "NoPlace" "place" y:=by
 have c1:=Mj F y h1
 have c2:=Mk F z h2
 by_cases hy:wh y 0 ((F.os.length:Int)-1)=true
 ·by_cases hz:yJ z [(0,F.A),(0,F.B)]=true
  ·simp only[if_pos hy,if_pos hz]
   rw[if_pos hy] at c1
   rw[if_pos hz] at c2
   obtain⟨more,hr,hn,_⟩:=NT ok
   obtain⟨p,rfl,hp⟩:=XS hy
   obtain⟨q,rfl,hq⟩:=Vu hz
   have h3:=Me (RN.start F::more) F.os.length p q (λ r h=>(hn r h).1) (λ r h b hb=>by have:=((hn r h).2 b hb).qj ok.a0;have:=ok.a1;lia) hp
   have he:=O3 (kT (RN.start F::more) p q)
   refine⟨_,?_,he⟩
   have hr:mQ [zx F]=some (tN (RN.start F::more)):=hr
   generalize kS (kT (RN.start F::more) p q)=v at *
   generalize tN (RN.start F::more)=tt at *
   generalize zx F=fl at *
   generalize zt q=pq at *
   unfold ou lx
   simp[c1,c2,h3,hr,he]
  ·simp only[if_pos hy,if_neg hz]
   rw[if_pos hy] at c1
   rw[if_neg hz] at c2
   refine⟨_,?_,rfl⟩
   generalize zx F=fl at *
   unfold ou lx
   simp[c1,c2]
 ·simp only[if_neg hy]
  rw[if_neg hy] at c1
  refine⟨_,?_,rfl⟩
  generalize zx F=fl at *
  unfold ou lx
  simp[c1]
def YX {F:zT}(ok:F.Ok) (y z:T) (h1:yF y=false) (h2:xZ z=true):om [zx F,y,z]=some (if wh y 0 ((F.os.length:Int)-1)=true then (if yJ z [(0,F.A),(0,F.B)]=true then .zk else .err "NoPair" "pair" z) else .err "NoPlace" "place" y):=by
 obtain⟨v,e,h⟩:=Mb ok y z h1 h2
 unfold om dq
 generalize zx F=fl at *
 by_cases hy:wh y 0 ((F.os.length:Int)-1)=true
 ·by_cases hz:yJ z [(0,F.A),(0,F.B)]=true
  ·rw[if_pos hy,if_pos hz] at h ⊢
   cases v with
   | err _ _ _=>cases h
   | _=>simp[e]
  ·rw[if_pos hy,if_neg hz] at h ⊢
   subst h
   simp[e]
 ·rw[if_neg hy] at h ⊢
  subst h
  simp[e]
def Q9 {F:zT}(ok:F.Ok) (ns:List Int) (k:Nat):∃ J',yN [2,3,4] J'=[some (.im (zU ns)),some (.im (zx F)),none,none,none]/\turn (zG 2) pS (.int (0+(k:Int))) [some (.im (zU ns)),some (.im (zx F)),none,none,none]=some (.nx J'):=by
 obtain⟨y,y1,y2,y3⟩:=NZ (cell ns (36+2*k)) F.os.length (md _ _) ok.n1
 obtain⟨z,z1,z2,z3⟩:=NY (cell ns (37+2*k)) F.A F.B (md _ _) ok.a0 ok.b0
 have c1:yQ [zU ns,.int (36+2*(k:Int))]=some (.int (cell ns (36+2*k))):=by rw[show (36:Int)+2*(k:Int)=((36+2*k:Nat):Int) by lia];exact rL ns _
 have c2:yQ [zU ns,.int (37+2*(k:Int))]=some (.int (cell ns (37+2*k))):=by rw[show (37:Int)+2*(k:Int)=((37+2*k:Nat):Int) by lia];exact rL ns _
 have h1:=YX ok y z y2 z2
 have h2:=Mi (F:=F) y z y2 z2
 have h3:tI [if wh y 0 ((F.os.length:Int)-1)=true then (if yJ z [(0,F.A),(0,F.B)]=true then .zk else .err "NoPair" "pair" z) else .err "NoPlace" "place" y,if wh y 0 ((F.os.length:Int)-1)=true then (if yJ z [(0,F.A),(0,F.B)]=true then .zk else .int 1) else .int 0,y,z]=some (.bl true):=by
  split
  ·split
   ·exact NU y z
   ·exact NV y z z3
  ·exact NW y z y3
 generalize (if wh y 0 ((F.os.length:Int)-1)=true then (if yJ z [(0,F.A),(0,F.B)]=true then T.zk else .err "NoPair" "pair" z) else .err "NoPlace" "place" y)=a at *
 generalize (if wh y 0 ((F.os.length:Int)-1)=true then (if yJ z [(0,F.A),(0,F.B)]=true then T.zk else .int 1) else .int 0)=b at *
 have k0:zq (zx F) (.int 0)=some (.tup [.int F.A,.int F.B]):=rfl
 have k2:zq (zx F) (.int 1)=some (.tup (F.os.map kt)):=rfl
 have kL:((F.os.map kt).length:Int)=F.os.length:=by simp
 have m1:x8 (.int 2) (.int (k:Int))=some (.int (2*(k:Int))):=kq (.inl ⟨by decide,by decide⟩)
 refine⟨[some (.im (zU ns)),some (.im (zx F)),some (.im (.int (0+(k:Int)))),some (.im y),some (.im z)],by simp,?_⟩
 rw[C2]
 unfold turn pS
 generalize zx F=fl at *
 generalize F.os.map kt=O at *
 generalize zU ns=sc at *
 generalize x8=mw at *
 simp only[zq] at k0 k2
 generalize yQ=f1 at *
 generalize oh=f2 at *
 generalize oj=f3 at *
 generalize om=f4 at *
 generalize mU=f5 at *
 generalize tI=f6 at *
 generalize cell ns (36+2*k)=d1 at *
 generalize cell ns (37+2*k)=d2 at *
 simp[m1,c1,c2,k0,k2,kL,y1,z1,h1,h2,h3]
def QA (ns:List Int) (hl:ns.length<=63):oq [zU ns]=some (.bl true):=by
 obtain⟨F,h1,ok⟩:=Md ns
 have Ha:=aJ (is:=[2,3,4]) (g:=zG 2) (b:=pS) (λ k:Nat=>T.int (0+(k:Int))) (λ _=>false) (.bl false) [some (.im (zU ns)),some (.im (zx F)),none,none,none] (List.range 4) [some (.im (zU ns)),some (.im (zx F)),none,none,none] (by simp) λ k _=>by
  obtain⟨J',e1,e2⟩:=Q9 ok ns k
  exact⟨J',e1,by rw[if_neg (by simp)];exact e2⟩
 have hr:=qU 4 (by decide)
 rw[show ((4:Nat):Int)=4 from rfl] at hr
 simp only[C2] at hr Ha
 have hc:=YX ok (.int 0) (.tup [.int F.A,.int F.B]) rfl rfl
 have g1:wh (.int 0) 0 ((F.os.length:Int)-1)=true:=by
  have:=ok.n1
  simp[wh];lia
 have g2:yJ (.tup [.int F.A,.int F.B]) [(0,F.A),(0,F.B)]=true:=by
  have:=ok.a0
  have:=ok.b0
  simp[yJ,wh];lia
 rw[if_pos g1,if_pos g2] at hc
 have k0:zq (zx F) (.int 0)=some (.tup [.int F.A,.int F.B]):=rfl
 have i1:wL false .zk .zk=some (.bl true):=rfl
 have EB:(List.range 4).any (λ _=>false)=false:=by decide
 rw[EB,if_neg (by decide)] at Ha
 unfold oq dv
 generalize pS=bb at *
 generalize zx F=fl at *
 generalize zU ns=sc at *
 simp only[zq] at k0
 simp[h1,hr,Ha,hc,k0,i1]
end yu
namespace PySem.W.Fast
def tw16591629071452307496:=0
def te51153743478726983:=0
def tw15889268362232132296:=0
def tw6832754803911946129:=0
def tw16727596713180743274:=0
def tw16557873827958654815:=0
def tw9629699130476522644:=0
def tw5894315937751958845:=0
def tw6041208364746343878:=0
def tw4010270965054793362:=0
def tw1447926055579681334:=0
def tw4109696568852794077:=0
def tw6972585025716902165:=0
def tw13969392891794261919:=0
def tw7272323202252640169:=0
def tw2741097906948556839:=0
def tw17872158161527177584:=0
def tw4116660269054125871:=0
def tw11865806415354482676:=0
def tw807863931168335008:=0
def tw7032053237932400257:=0
def tw5154910335209141266:=0
def tw837084165778046078:=0
def tw10226223272367933934:=0
def tw3670493399534720872:=0
def tw18434626357213424414:=0
def tw12461928115803072715:=0
def tw6790826872937201705:=0
def tw14662543618444121959:=0
def tw4477683746971529963:=0
def tw11230999844721324996:=0
def tw1420063087370453777:=0
def tw10491841900740167236:=0
def tw6493725881111770915:=0
def tw9523003828863776599:=0
def tw3677268420143393413:=0
def tw12552569071335465811:=0
def tw12984540732808271758:=0
def tw7497944188042003300:=0
def tw4677766487719793606:=0
def tw10966753960879654362:=0
def tw1090518465980839332:=0
def tw6344285431826215120:=0
def tw17167443197462577033:=0
def tw7899091292689410814:=0
def tw5201979202151603470:=0
def tw1085834441714344236:=0
def tw5325143761218220909:=0
def tw4652712355857768493:=0
def tw14994873045659448810:=0
def tw9985359127702191558:=0
def tw7844627577086643408:=0
def tw18422170459018385420:=0
def tw16116965128328739394:=0
def tw16237253896835164012:=0
def tw12079206656226226144:=0
def tw16402060920677561221:=0
def tw2454153213573684779:=0
def tw16829250764474594906:=0
def tw10283960844464421503:=0
def tw2583986163237849509:=0
def tw5275914284811552210:=0
def tw15671346667078311447:=0
def tw1722455930669219536:=0
def tw10823259858590710545:=0
def tw2917683449477534212:=0
def tw15620253856354349041:=0
def tw9295042418820023572:=0
def tw13346303637908833930:=0
def tw3382020920045897390:=0
def tw6267287156812730604:=0
def tw14249141845375036299:=0
def tw13152899508680102523:=0
def tw7432391637961813702:=0
def tw16044078388519041889:=0
def tw5310060311945539982:=0
def tw2166445993665372135:=0
def tw16091147287126817339:=0
def tw14463803333248111620:=0
def tw16461673482175960684:=0
def tw9531391011403972166:=0
def tw2242517533462819025:=0
def tw1079383780915946603:=0
def tw4658779635406619128:=0
def tw13755985412702840582:=0
def tw18366990334444941378:=0
def tw16724090448130861712:=0
def tw8574763407893321843:=0
def tw11031868422701094671:=0
def tw2726983752972698603:=0
def tw3351181497181853586:=0
def tw10880608857730382847:=0
def tw9564966295708767456:=0
def tw10499089458230031085:=0
def tw15343449335126196939:=0
def tw3376003161865127609:=0
def tw12719902153476678130:=0
def tw9125200571073699018:=0
def tw769675459022222597:=0
def tw14497658708355663250:=0
def tw6031550128772418837:=0
def tw3886865984483897207:=0
def tw5175119303065426201:=0
def tw13571780669005056599:=0
def tw10839377615799310614:=0
def tw9204728857783824899:=0
def tw10845974315092631349:=0
def tw14632032169595320944:=0
def tw4903304871975040240:=0
def tw14792988072026337687:=0
def tw11983639543522028237:=0
def tw15322639693080478596:=0
def tw3247656662940317816:=0
def tw8546354709097062342:=0
def tw16015979820288163767:=0
def tw14311589436059783569:=0
def tw12707519129673789202:=0
def tw6485243721703204203:=0
def tw1434243211222452680:=0
def tw10754788831337375855:=0
def tw18314222895535364056:=0
def tw7673203000833183123:=0
def tw9952988304581293490:=0
def tw6123784392397791514:=0
def tw13179209378574050030:=0
def tw1934141282966001704:=0
def tw3653739995628502892:=0
def tw16548273624306677028:=0
def tw355717185878835684:=0
def tw6695984550129412938:=0
def tw14096097952302693659:=0
def tw616950017963121082:=0
def tw2275067645879494523:=0
def tw7423464368713528676:=0
def tw17390690296635873930:=0
def tw6188693425970391668:=0
def tw12089560203598642598:=0
def tw5706503594319633578:=0
def tw13890941149028136153:=0
def tw13627346251418293983:=0
def tw4085886131292918905:=0
def tw16466186544021726067:=0
def tw10102287987167361004:=0
def tw16957779235943314456:=0
def tw13349399501680499090:=0
def tw4523176317770778194:=0
def tw6666240276667757861:=0
def tw8964796648721294576:=0
def tw9800905894174598703:=0
def tw4503093657130905148:=0
def tw10693706675429934242:=0
def tw11717983461303042057:=0
def tw13398923267698577762:=0
def te5832583704680530005:=0
end PySem.W.Fast
namespace yu
open PySem L2 L3 L5
open PyProof.Rows hiding St
def top (i:Nat):Stmt:=PySem.Challenge.pw_purseborder_k33_lasting_refused.main.body.getD i (.Pass ⟨0,0,0,0⟩)
abbrev i5:Stmt:=top 13
abbrev i4:Stmt:=top 14
abbrev lT:Stmt:=top 15
abbrev jZ:Stmt:=top 16
abbrev i8:Stmt:=top 17
abbrev i9:Stmt:=top 18
abbrev lQ:Stmt:=top 19
abbrev jY:Stmt:=top 20
abbrev iE:Stmt:=top 22
abbrev ia:Stmt:=top 23
abbrev lU:Stmt:=top 24
abbrev oO:Stmt:=top 25
abbrev i7:Stmt:=top 26
abbrev oP:Stmt:=top 28
abbrev j_:Stmt:=top 29
abbrev iD:Stmt:=top 30
abbrev iB:Stmt:=top 31
abbrev iC:Stmt:=top 32
abbrev oK:Stmt:=top 33
abbrev lS:Stmt:=top 34
abbrev lR:Stmt:=top 35
abbrev i6:Stmt:=top 36
abbrev i3:Stmt:=top 37
abbrev iw:Stmt:=top 39
abbrev iu:Stmt:=top 40
abbrev iz:Stmt:=top 41
abbrev ik:Stmt:=top 42
abbrev ic:Stmt:=top 43
abbrev ig:Stmt:=top 44
abbrev iq:Stmt:=top 45
abbrev il:Stmt:=top 46
abbrev ip:Stmt:=top 47
abbrev oM:Stmt:=top 48
abbrev ib:Stmt:=top 49
abbrev ir:Stmt:=top 50
abbrev ij:Stmt:=top 51
abbrev iy:Stmt:=top 52
abbrev i0:Stmt:=top 53
abbrev gQ:Stmt:=(Yn (top 4)).getD 0 (.Pass ⟨0,0,0,0⟩)
abbrev gR:Stmt:=(Yn (top 5)).getD 0 (.Pass ⟨0,0,0,0⟩)
def QR:mL "pair" gR:=⟨yj,⟨_,_,_,_,rfl,λ _=>rfl⟩,λ _ _ _ _ _ _ _ _=>xN λ _ _=>rfl⟩
def QQ:mL "place" gQ:=⟨yj,⟨_,_,_,_,rfl,λ _=>rfl⟩,λ _ _ _ _ _ _ _ _=>xN λ _ _=>rfl⟩
def Vj:zY ["thing"] ["thing"] (zy i5):=yj
def Va:zY ["floor"] ["floor"] (zy jZ):=yj
def Vp:zY ["pair","other"] ["pair","other"] (zy iE):=yj
def jU:zY ["pairs","least","pair"] ["pairs"] (zy ia):=yj
def rW:zY ["brims","stall","pair","purse","pairs","given","got"] ["brims","stall","pair"] (zy j_):=yj
def Vg:zY ["_law_script","_law_k"] ["_law_script","_law_k"] (zy iw):=yj
def Vf:zY ["_law_number"] ["_law_number"] (zy iu):=yj
def Vd:zY ["_law_cell_here","_law_many"] ["_law_cell_here","_law_many"] (zy il):=yj
def oH:zY ["_law_cell_here","_law_brims_here","_law_x","_law_y","_law_some"] ["_law_cell_here","_law_brims_here"] (zy ip):=yj
def Vb:zY ["_law_thing"] ["_law_thing"] (zy ib):=yj
def Vi:zY ["thing","least","most"] ["thing","least","most"] (zy i4):=yj
def Vl:zY ["border","pair"] ["border","pair"] (zy lU):=yj
def rY:zY ["border","other","steps","lows","shared","first","side","second"] ["border","other"] (zy oO):=yj
def Vm:zY ["border","other"] ["border","other"] (zy i7):=yj
def cR:zY ["brims","way","border","pairs"] ["brims","way","border"] (zy oP):=yj
def jW:zY ["_law_script","_law_many","_law_number","_law_found"] ["_law_script","_law_many"] (zy iz):=yj
def oG:zY ["_law_script","_law_many","_law_number","_law_found","_law_place"] ["_law_script","_law_many"] (zy ik):=yj
def ug:zY ["_law_script","_law_many","_law_number","_law_wide","_law_found","_law_place","_law_size","_law_k","_law_at","_law_drawn","_law_rest"] ["_law_script","_law_many"] (zy ic):=yj
def rX:zY ["_law_script","_law_owners_here","_law_found","_law_place","_law_drawn","_law_rest","_law_give","_law_get"] ["_law_script","_law_owners_here"] (zy ig):=yj
def Ve:zY ["_law_floor_here","_law_place","_law_pair"] ["_law_floor_here","_law_place","_law_pair"] (zy ir):=yj
def Vk:zY ["thing","bounds"] ["thing","bounds"] (zy lT):=yj
def Vn:zY ["floor","place"] ["floor","place"] (zy i8):=yj
def lM:zY ["borders","joined","border"] ["borders"] (zy iB):=yj
def lN:zY ["borders","joined","border"] ["borders"] (zy iC):=yj
def jX:zY ["told","place","pair","number","held"] ["told","place","pair"] (zy i6):=yj
def sQ:zY ["_law_script","_law_number","_law_many","_law_owners_here","_law_brims_here","_law_ways_here","_law_stalls_here"] ["_law_script"] (zy iq):=yj
def Vo:zY ["floor","pair"] ["floor","pair"] (zy i9):=yj
def W_:zY ["floor","place"] ["floor","place"] (zy lQ):=yj
def cP:zY ["floor","place","stall"] ["floor","place"] (zy jY):=yj
def lO:zY ["floor","place","border","stall","pairs","pair"] ["floor","place","border"] (zy iD):=yj
def jT:zY ["floor","place","last","ways","ahead"] ["floor","place","last"] (zy oK):=yj
def jS:zY ["floor","last","fresh","following","place"] ["floor","last","fresh"] (zy lS):=yj
def Vc:zY ["_law_thing","_law_other"] ["_law_thing","_law_other"] (zy oM):=yj
def qS:zY ["floor","told","fresh","last","following"] ["floor"] (zy lR):=yj
def cQ:zY ["_law_caught_here","_law_due_here","_law_place","_law_pair","_law_some"] ["_law_caught_here","_law_due_here","_law_place","_law_pair"] (zy ij):=yj
def Vh:zY ["floor","place","pair"] ["floor","place","pair"] (zy i3):=yj
def jV:zY ["_law_floor_here","_law_place","_law_pair","_law_caught_here","e"] ["_law_floor_here","_law_place","_law_pair"] (zy iy):=yj
def oJ:zY ["_law_script","_law_floor_here","_law_k","_law_place","_law_pair"] ["_law_script"] (zy i0):=yj
section
variable (P:Program)(w:World)(K:Ab)(mg:Aq)(base:Heap)
abbrev Xr:=FD P w K mg base "is_whole" 1 ["thing"] (zI zD ox)
abbrev eR:=FD P w K mg base "places_of" 1 ["floor"] (zI zD qE)
abbrev eT:=FD P w K mg base "at_or_above" 1 ["pair","other"] (zI zD oz)
abbrev lh:=FD P w K mg base "least_pairs" 1 ["pairs"] (zI zD sH)
abbrev Xb:=FD P w K mg base "pairs_ahead_of_changes" 1 ["brims","stall","pair"] (zI zD mR)
abbrev qG:=FD P w K mg base "_law_cell" 1 ["_law_script","_law_k"] (zI zD yQ)
abbrev Xn:=FD P w K mg base "_law_coins" 1 ["_law_number"] (zI zD sI)
abbrev Xj:=FD P w K mg base "_law_odd_place" 1 ["_law_cell_here","_law_many"] (zI xG oh)
abbrev Xk:=FD P w K mg base "_law_odd_pair" 1 ["_law_cell_here","_law_brims_here"] (zI xG oj)
abbrev Xe:=FD P w K mg base "_law_whole" 1 ["_law_thing"] (zI zD pZ)
abbrev eS:=FD P w K mg base "is_whole_within" 2 ["thing","least","most"] (zI zD rJ)
abbrev Xt:=FD P w K mg base "holds" 2 ["border","pair"] (zI zD mW)
abbrev Xx:=FD P w K mg base "both" 2 ["border","other"] (zI zD mY)
abbrev Xv:=FD P w K mg base "either" 2 ["border","other"] (zI zD mX)
abbrev X0:=FD P w K mg base "border_ahead_of_way" 2 ["brims","way","border"] (zI zD lb)
abbrev Xp:=FD P w K mg base "_law_brims" 2 ["_law_script","_law_many"] (zI zD oo)
abbrev Xi:=FD P w K mg base "_law_owners" 2 ["_law_script","_law_many"] (zI zD og)
abbrev Xf:=FD P w K mg base "_law_ways" 2 ["_law_script","_law_many"] (zI zD p_)
abbrev Xg:=FD P w K mg base "_law_stalls" 2 ["_law_script","_law_owners_here"] (zI zD oa)
abbrev Xm:=FD P w K mg base "_law_due" 2 ["_law_floor_here","_law_place","_law_pair"] (zI zD mU)
abbrev Xs:=FD P w K mg base "is_row_within" 3 ["thing","bounds"] (zI zD mV)
abbrev jw:=uD P w K mg base "check_place" 3 ["floor","place"] (zI zD rK)
abbrev Xy:=FD P w K mg base "border_of_either" 3 ["borders"] (zI xG mZ)
abbrev Xz:=FD P w K mg base "border_of_all" 3 ["borders"] (zI xG m_)
abbrev Xu:=FD P w K mg base "first_without" 3 ["told","place","pair"] (zI xG jt)
abbrev Xl:=FD P w K mg base "_law_floor" 3 ["_law_script"] (zI zD mT)
abbrev Xw:=uD P w K mg base "check_pair" 4 ["floor","pair"] (zI zD ju)
abbrev YZ:=FD P w K mg base "ways_from" 4 ["floor","place"] (zI zD mO)
abbrev Y_:=FD P w K mg base "stall_at" 4 ["floor","place"] (zI xG qD)
abbrev X2:=FD P w K mg base "border_ahead_of_changes" 5 ["floor","place","border"] (zI xG oy)
abbrev Xd:=FD P w K mg base "next_border" 6 ["floor","place","last"] (zI xG mS)
abbrev Xc:=FD P w K mg base "next_round" 7 ["floor","last","fresh"] (zI zD pY)
abbrev jv (n:Nat):=FD P w K mg base "_law_same" (n+1) ["_law_thing","_law_other"] (zI zD (xk n))
abbrev Ms:=jv P w K mg base 6
abbrev Xa:=FD P w K mg base "rounds" 8 ["floor"] (zI zD mQ)
abbrev Xh:=FD P w K mg base "_law_refused" 8 ["_law_caught_here","_law_due_here","_law_place","_law_pair"] (zI zD tI)
abbrev Xq:=uD P w K mg base "lasts" 9 ["floor","place","pair"] (zI xG ou)
abbrev Xo:=FD P w K mg base "_law_caught" 10 ["_law_floor_here","_law_place","_law_pair"] (zI xG om)
variable {K mg}(T:Bt mg)(U:Bq mg)
include T U
theorem Rw (F:Fy K mg "is_whole" i5):Xr P w K mg base:=
 y7 (k:=0) F Vj rfl (λ _ _ _ _ _ _=>su λ _=>rfl) λ f Af A outer s H E hr=>⟨_,
  (zA (zL (p7 (kd T (za 0)) (pz (bO (ke T (za 0))))))),
  (by unfold j6;exact yq)⟩
theorem SN (F:Fy K mg "places_of" jZ):eR P w K mg base:=
 y7 (k:=0) F Va rfl (λ _ _ _ _ _ _=>su λ _=>rfl) λ f Af A outer s H E hr=>⟨_,
  (zA (zL (v8 T.len (zc (zB (za 0) zg) zj)))),
  (by unfold eY;exact yq)⟩
theorem RL (F:Fy K mg "at_or_above" iE):eT P w K mg base:=
 y7 (k:=0) F Vp rfl (λ _ _ _ _ _ _=>xN λ _ _=>rfl) λ f Af A outer s H E hr=>⟨_,
  (zA (zL (p7 (bS (zB (za 0) zg) (zB (za 1) zg)) (pz (bS (zB (za 0) zg) (zB (za 1) zg)))))),
  (by unfold dG;exact yq)⟩
theorem Ra (F:Fy K mg "least_pairs" ia):lh P w K mg base:=
 y7 (k:=0) F jU rfl (λ _ _ _ _ _ _=>su λ _=>rfl) λ f Af A outer s H E hr=>⟨_,
  (zw (zP 1 jU.nd (xh zj))
  (zw (v5 KL rfl (wX (bN T.sorted (zc (za 0) zj))) (yE 2 jU.nd) (zA (yL (xB.pt (uH (uI (wx (za 1))) (sS (nc hr (zB (za 2) zg) (zB (zB (za 1) (bP zg)) zg))))) (zA (uX (qa (za 1) (za 2)))) yK)))
  (zA (zL (ni T.tuple (zc (za 1) zj)))))),
  (by unfold de pQ;exact yq)⟩
theorem SO (F:Fy K mg "pairs_ahead_of_changes" j_):Xb P w K mg base:=
 y7 (k:=0) F rW rfl (λ _ _ _ _ _ _=>tE λ _ _ _=>rfl) λ f Af A outer s H E hr=>⟨_,
  (zw (zP 3 rW.nd (zB (za 1) zg))
  (zw (zP 4 rW.nd (xh zj))
  (zw (zP 5 rW.nd (zB (za 2) (za 3)))
  (zw (zP 6 rW.nd (zB (za 2) (uY zg (za 3))))
  (zw (bL KL (U9 (za 5) (zB (za 0) (za 3))) (zw (uX (qa (za 4) (US (vk hr (za 3) zg) (yi (zc (za 5) (zc (za 6) zj))) (yi (zc (za 6) (zc (za 5) zj))))))
  (zw (zP 5 rW.nd (xm (za 5) (zB (za 1) zg)))
  (zA (zP 6 rW.nd (kc T.max (zc zg (zc (uY (za 6) (zB (za 1) zg)) zj))))))))
  (zA (zL (za 4)))))))),
  (by unfold eZ rA;exact yq)⟩
theorem Rp (F:Fy K mg "_law_cell" iw):qG P w K mg base:=
 y7 (k:=0) F Vg rfl (λ _ _ _ _ _ _=>xN λ _ _=>rfl) λ f Af A outer s H E hr=>⟨_,
  (zw (yL (nc hr (za 1) (v8 T.len (zc (za 0) zj))) (zA (zL (yp (zB (za 0) (za 1)) (hV zg zg)))) yK)
  (zA (zL zg))),
  (by unfold dm;exact yq)⟩
theorem Ro (F:Fy K mg "_law_coins" iu):Xn P w K mg base:=
 y7 (k:=0) F Vf rfl (λ _ _ _ _ _ _=>su λ _=>rfl) λ f Af A outer s H E hr=>⟨_,
  (zw (yL (vk hr (yp (za 0) zg) zg) (zA (zL (uY (yp (xf (za 0) zg) zg) zg))) yK)
  (zA (zL (uY (yp (yp (xf (za 0) zg) zg) zg) zg)))),
  (by unfold j5;exact yq)⟩
theorem Rj (F:Fy K mg "_law_odd_place" il):Xj P w K mg base:=
 y7 (k:=0) F Vd rfl (λ _ _ _ _ _ _=>xN λ _ _=>rfl) λ f Af A outer s H E hr=>⟨_,
  (zw (yL (tT hr (yp (za 0) zg) zg) (zA (zL (yp (xf (za 0) zg) (za 1)))) yK)
  (zA (zL (zB (xh (zc (za 1) (zc (uY zg zg) (zc (xm (za 1) (yp (xf (za 0) zg) (hV zg zg))) (zc u_ (zc u_ (zc v7 (zc ph (zc (yi (zc zg zj)) (zc (xh (zc zg zj)) (zc zg zj))))))))))) (yp (xf (za 0) zg) zg))))),
  (by unfold jz;exact yq)⟩
theorem Rl (F:Fy K mg "_law_odd_pair" ip):Xk P w K mg base:=
 y7 (k:=0) F oH rfl (λ _ _ _ _ _ _=>xN λ _ _=>rfl) λ f Af A outer s H E hr=>⟨_,
  (zw (zP 2 oH.nd (yp (xf (za 0) zg) (xm (zB (za 1) zg) zg)))
  (zw (zP 3 oH.nd (yp (xf (za 0) zg) (xm (zB (za 1) zg) zg)))
  (zw (yL (tT hr (yp (za 0) zg) zg) (zA (zL (yi (zc (za 2) (zc (za 3) zj))))) yK)
  (zw (zP 4 oH.nd (xh (zc (yi (zc (xm (zB (za 1) zg) zg) (zc (za 3) zj))) (zc (yi (zc (za 2) (zc (xm (zB (za 1) zg) zg) zj))) (zc (yi (zc (uY zg zg) (zc (za 3) zj))) (zc (yi (zc (za 2) (zc (uY zg zg) zj))) (zc (xh (zc (za 2) (zc (za 3) zj))) (zc (yi (zc (za 2) zj)) (zc (yi (zc (za 2) (zc (za 3) (zc zg zj)))) (zc (yi (zc u_ (zc (za 3) zj))) zj))))))))))
  (zw (zP 4 oH.nd (xm (za 4) (xh (zc (yi (zc (za 2) (zc u_ zj))) (zc (yi (zc v7 (zc (za 3) zj))) (zc (yi (zc (za 2) (zc ph zj))) (zc v7 (zc zg (zc ph (zc (yi zj) (zc (yi (zc (za 2) (zc (yi (zc (za 3) zj)) zj))) (zc (yi (zc zg (zc zg zj))) (zc (yi (zc (xm (zB (za 1) zg) (hV zg zg)) (zc (za 3) zj))) zj)))))))))))))
  (zA (zL (zB (za 4) (yp (xf (za 0) zg) zg))))))))),
  (by unfold j0;exact yq)⟩
theorem Rc (F:Fy K mg "_law_whole" ib):Xe P w K mg base:=
 y7 (k:=0) F Vb rfl (λ _ _ _ _ _ _=>su λ _=>rfl) λ f Af A outer s H E hr=>⟨_,
  (zA (zL (p7 (kd T (za 0)) (pz (bO (ke T (za 0))))))),
  (by unfold df;exact yq)⟩
theorem Rv (F:Fy K mg "is_whole_within" i4) (FN:Xr P w K mg base):eS P w K mg base:=
 y7 (k:=1) F Vi rfl (λ _ _ _ _ _ _=>tE λ _ _ _=>rfl) λ f Af A outer s H E hr=>⟨_,
  (zA (zL (p7 (zQ FN hr (zc (za 0) zj)) (pz (UZ qb qb fit_le fit_le yW.mo yW.mo (za 1) (za 0) (za 2)))))),
  (by unfold ly;exact yq)⟩
theorem R3 (F:Fy K mg "holds" lU) (ES:eT P w K mg base):Xt P w K mg base:=
 y7 (k:=1) F Vl rfl (λ _ _ _ _ _ _=>xN λ _ _=>rfl) λ f Af A outer s H E hr=>⟨_,
  (zA (zL (Tb T.any (zc (sW (N':=["own","pair"]) (pick:=[none,some 1]) (u7 (N:=["border","pair"]) (esc:=zy lU)) rfl (wX (za 0)) (λ _ _ _ _ _=>(yE 0 (wY ["own","pair"]))) (λ _ _ _ _ _=>sU) (λ _ _ _ _ _=>(zQ ES hr (zc (za 1) (zc (za 0) zj))))) zj)))),
  (by unfold dw mq;exact yq)⟩
theorem RF (F:Fy K mg "both" oO) (EH:lh P w K mg base):Xx P w K mg base:=
 y7 (k:=1) F rY rfl (λ _ _ _ _ _ _=>xN λ _ _=>rfl) λ f Af A outer s H E hr=>⟨_,
  (zw (zP 2 rY.nd (xm (sW (N':=["pair"]) (pick:=[none]) (u7 (N:=["border","other","steps","lows","shared","first","side","second"]) (esc:=zy oO)) rfl (wX (za 0)) (λ _ _ _ _ _=>(yE 0 (wY ["pair"]))) (λ _ _ _ _ _=>sU) (λ _ _ _ _ _=>(yi (zc (zB (za 0) zg) (zc zg (zc (zB (za 0) zg) zj)))))) (sW (N':=["pair"]) (pick:=[none]) (u7 (N:=["border","other","steps","lows","shared","first","side","second"]) (esc:=zy oO)) rfl (wX (za 1)) (λ _ _ _ _ _=>(yE 0 (wY ["pair"]))) (λ _ _ _ _ _=>sU) (λ _ _ _ _ _=>(yi (zc (zB (za 0) zg) (zc zg (zc (zB (za 0) zg) zj))))))))
  (zw (zP 3 rY.nd UX)
  (zw (zP 4 rY.nd (xh zj))
  (zw (v5 KL rfl (wX (bN T.sorted (zc (za 2) zj))) (nh (n:=3) (uJ (yE 5 rY.nd) (uJ (yE 6 rY.nd) (uJ (yE 7 rY.nd) ng)))) (zw (UG hr (za 3) (za 6) (hX T.min (zc (za 7) (zc (UY hr (za 3) (za 6) (za 7)) zj))))
  (zA (yL (vk hr (UW T.len (zc (za 3) zj)) zg) (zA (uX (qa (za 4) (yi (zc (za 5) (zc (kc T.max (zc (bV hr (za 3) zg) (zc (bV hr (za 3) zg) zj))) zj)))))) yK))))
  (zA (zL (zQ EH hr (zc (za 4) zj)))))))),
  (by unfold dB m7 f_ ee;exact yq)⟩
theorem R8 (F:Fy K mg "either" i7) (EH:lh P w K mg base):Xv P w K mg base:=
 y7 (k:=1) F Vm rfl (λ _ _ _ _ _ _=>xN λ _ _=>rfl) λ f Af A outer s H E hr=>⟨_,
  (zA (zL (zQ EH hr (zc (xm (hZ T.list (zc (za 0) zj)) (hZ T.list (zc (za 1) zj))) zj)))),
  (by unfold d9;exact yq)⟩
theorem RI (F:Fy K mg "border_ahead_of_way" oP) (EH:lh P w K mg base) (ES:eT P w K mg base):X0 P w K mg base:=
 y7 (k:=1) F cR rfl (λ _ _ _ _ _ _=>tE λ _ _ _=>rfl) λ f Af A outer s H E hr=>⟨_,
  (zw (l_ (i:=3) (N':=["pair","way"]) (pick:=[none,some 1]) (u7 (N:=["brims","way","border","pairs"]) (esc:=zy oP)) rfl (wX (za 2)) (λ _ _ _ _ _=>(yE 0 (wY ["pair","way"]))) (λ _ _ _ _ _=>sU) (λ _ _ _ _ _=>(yi (zc (kc T.max (zc zg (zc (uY (zB (za 0) zg) (zB (za 1) zg)) zj))) (zc (kc T.max (zc zg (zc (uY (zB (za 0) zg) (zB (za 1) zg)) zj))) zj)))) cR.nd rfl (by first | exact Or.inl rfl | exact Or.inr rfl))
  (zA (zL (zQ EH hr (zc (sW (N':=["pair","brims"]) (pick:=[none,some 0]) (u7 (N:=["brims","way","border","pairs"]) (esc:=zy oP)) rfl (wX (za 3)) (λ _ _ _ _ _=>(yE 0 (wY ["pair","brims"]))) (λ _ _ _ _ _=>ka (wx (zQ ES hr (zc (za 1) (zc (za 0) zj))))) (λ _ _ _ _ _=>(za 0))) zj))))),
  (by unfold dF mf mr;exact yq)⟩
theorem Rr (F:Fy K mg "_law_brims" iz) (EF:qG P w K mg base):Xp P w K mg base:=
 y7 (k:=1) F jW rfl (λ _ _ _ _ _ _=>xN λ _ _=>rfl) λ f Af A outer s H E hr=>⟨_,
  (zw (zP 2 jW.nd (zQ EF hr (zc (za 0) (zc zg zj))))
  (zw (zP 3 jW.nd (xh (zc (zB (xh (zc zg (zc zg (zc zg (zc zg (zc zg (zc zg (zc zg (zc zg zj))))))))) (yp (za 2) zg)) (zc (zB (xh (zc zg (zc zg (zc zg (zc zg (zc zg (zc zg (zc zg (zc zg zj))))))))) (yp (xf (za 2) zg) zg)) zj))))
  (zw (yL (hG (za 1) zg) (zA (zL (yi (zc (hX T.min (zc (zB (za 3) zg) (zc zg zj))) (zc (hX T.min (zc (zB (za 3) zg) (zc zg zj))) zj))))) yK)
  (zw (yL (vk hr (yp (xf (za 2) zg) zg) zg) (zA (zL (yi (zc zg (zc (yp (zB (za 3) zg) zg) zj))))) yK)
  (zw (yL (vk hr (yp (xf (za 2) zg) zg) zg) (zA (zL (yi (zc (yp (zB (za 3) zg) zg) (zc zg zj))))) yK)
  (zw (yL (xB.pt (q_ (vk hr (yp (xf (za 2) zg) zg) zg) (qZ (nc hr (za 1) zg)))) (zA (zL (yi (zc zg (zc zg zj))))) yK)
  (zA (zL (ni T.tuple (zc (za 3) zj)))))))))),
  (by unfold du;exact yq)⟩
theorem Ri (F:Fy K mg "_law_owners" ik) (EF:qG P w K mg base):Xi P w K mg base:=
 y7 (k:=1) F oG rfl (λ _ _ _ _ _ _=>xN λ _ _=>rfl) λ f Af A outer s H E hr=>⟨_,
  (zw (zP 2 oG.nd (zQ EF hr (zc (za 0) (zc zg zj))))
  (zw (zP 3 oG.nd (xh zj))
  (zw (v5 KL rfl (pb T.range (zc (za 1) zj)) (yE 4 oG.nd) (zw (uX (qa (za 3) (zB (xh (zc ph (zc ph zj))) (yp (za 2) zg))))
  (zA (zP 2 oG.nd (xf (za 2) zg)))))
  (zA (zL (ni T.tuple (zc (za 3) zj))))))),
  (by unfold di m5;exact yq)⟩
theorem Rf (F:Fy K mg "_law_ways" ic) (EF:qG P w K mg base) (Fd:Xn P w K mg base):Xf P w K mg base:=
 y7 (k:=1) F ug rfl (λ _ _ _ _ _ _=>xN λ _ _=>rfl) λ f Af A outer s H E hr=>⟨_,
  (zw (zP 2 ug.nd (zQ EF hr (zc (za 0) (zc zg zj))))
  (zw (zP 3 ug.nd (zB (xh (zc zg (zc zg zj))) (UR T.int (zc (UN hr (za 1) zg) zj))))
  (zw (zP 4 ug.nd (xh zj))
  (zw (v5 KL rfl (pb T.range (zc (za 1) zj)) (yE 5 ug.nd) (zw (zP 6 ug.nd (xm zg (yp (za 2) zg)))
  (zw (yL (xB.pt (q_ (nc hr (za 1) zg) (qZ (vk hr (yp (xf (za 2) zg) zg) zg)))) (zA (zP 6 ug.nd (xm zg (za 6)))) yK)
  (zw (v5 KL rfl (pb T.range (zc (za 6) zj)) (yE 7 ug.nd) (zw (zP 8 ug.nd (xm (sV (za 3) (za 5)) (za 7)))
  (zw (zP 9 ug.nd (yp (xm (xm (sV (zQ EF hr (zc (za 0) (zc (xm zg (za 8)) zj))) zg) (sV zg (za 8))) zg) zg))
  (zw (zP 10 ug.nd (xf (za 9) zg))
  (zA (uX (qa (za 4) (yi (zc (za 5) (zc (yp (yp (za 9) zg) (za 1)) (zc (zQ Fd hr (zc (za 10) zj)) (zc (zQ Fd hr (zc (xf (za 10) zg) zj)) zj))))))))))))
  (zA (zP 2 ug.nd (xf (za 2) zg)))))))
  (zA (zL (ni T.tuple (zc (bM hr T.sorted U.set (zc (za 4) zj)) zj)))))))),
  (by unfold dg my qv;exact yq)⟩
theorem Rg (F:Fy K mg "_law_stalls" ig) (EF:qG P w K mg base):Xg P w K mg base:=
 y7 (k:=1) F rX rfl (λ _ _ _ _ _ _=>xN λ _ _=>rfl) λ f Af A outer s H E hr=>⟨_,
  (zw (zP 2 rX.nd (xh zj))
  (zw (v5 KL rfl (pb T.range (zc (v8 T.len (zc (za 1) zj)) zj)) (yE 3 rX.nd) (zw (zP 4 rX.nd (yp (xm (xm (sV (zQ EF hr (zc (za 0) (zc (xm zg (za 3)) zj))) zg) (sV zg (za 3))) zg) zg))
  (zA (yL (xB.pt (q_ (vk hr (zB (za 1) (za 3)) ph) (qZ (vk hr (yp (za 4) zg) zg)))) (zw (zP 5 rX.nd (xf (za 4) zg))
  (zw (zP 6 rX.nd (xm zg (zB (xh (zc (yp (za 5) zg) (zc (yp (za 5) zg) (zc (yp (za 5) zg) zj)))) (yp (xf (za 5) zg) zg))))
  (zw (zP 7 rX.nd (zB (xh (zc (yp (xf (za 5) zg) zg) (zc (yp (xf (za 5) zg) zg) (zc (yp (xf (za 5) zg) zg) zj)))) (yp (xf (za 5) zg) zg)))
  (zA (uX (qa (za 2) (yi (zc (za 3) (zc (yp (xf (za 4) zg) zg) (zc (za 6) (zc (za 7) zj))))))))))) yK))))
  (zA (zL (ni T.tuple (zc (za 2) zj)))))),
  (by unfold dh pR;exact yq)⟩
theorem Rn (F:Fy K mg "_law_due" ir) (EX:Xe P w K mg base):Xm P w K mg base:=
 y7 (k:=1) F Ve rfl (λ _ _ _ _ _ _=>tE λ _ _ _=>rfl) λ f Af A outer s H E hr=>⟨_,
  (zw (yL (xB.pt (uH (uI (wx (zQ EX hr (zc (za 1) zj)))) (uH (nc hr (za 1) zg) (sS (UB (za 1) (v8 T.len (zc (zB (za 0) zg) zj))))))) (zA (zL zg)) yK)
  (zw (yL (xB.pt (uH (uI (wx (p0 T (za 2)))) (uH (tT hr (v8 T.len (zc (za 2) zj)) zg) (uH (uI (wx (zQ EX hr (zc (zB (za 2) zg) zj)))) (sS (uI (wx (zQ EX hr (zc (zB (za 2) zg) zj))))))))) (zA (zL zg)) yK)
  (zw (yL (xB.pt (q_ (bK qb qb fit_le fit_le yW.mo yW.mo zg (zB (za 2) zg) (zB (zB (za 0) zg) zg)) (qZ (bK qb qb fit_le fit_le yW.mo yW.mo zg (zB (za 2) zg) (zB (zB (za 0) zg) zg))))) (zA (zL v7)) yK)
  (zA (zL zg))))),
  (by unfold dk;exact yq)⟩
theorem Rx (F:Fy K mg "is_row_within" lT) (EL:eS P w K mg base):Xs P w K mg base:=
 y7 (k:=2) F Vk rfl (λ _ _ _ _ _ _=>xN λ _ _=>rfl) λ f Af A outer s H E hr=>⟨_,
  (zw (yL (xB.pt (uH (uI (wx (p0 T (za 0)))) (sS (tT hr (v8 T.len (zc (za 0) zj)) (v8 T.len (zc (za 1) zj)))))) (zA (zL u_)) yK)
  (zA (zL (bX T.all (zc (sW (N':=["number","bound"]) (pick:=[none,none]) (u7 (N:=["thing","bounds"]) (esc:=zy lT)) rfl (UH U.zip (zc (za 0) (zc (za 1) zj))) (λ _ _ _ _ _=>(nh (n:=2) (uJ (yE 0 (wY ["number","bound"])) (uJ (yE 1 (wY ["number","bound"])) ng)))) (λ _ _ _ _ _=>sU) (λ _ _ _ _ _=>(zQ EL hr (zc (za 0) (zc (zB (za 1) zg) (zc (zB (za 1) zg) zj)))))) zj))))),
  (by unfold j7 jb;exact yq)⟩
theorem RB (F:Fy K mg "check_place" i8) (Fn:mM K mg "NoPlace" "place" gQ) (EL:eS P w K mg base) (EU:eR P w K mg base):jw P w K mg base:=
 fF (k:=2) F Vn rfl (λ _ _ _ _ _ _=>xN λ _ _=>rfl) λ f Af A outer s H E hr=>⟨_,
  (qY (bI (uI (wx (zQ EL hr (zc (za 1) (zc zg (zc (uY (zQ EU hr (zc (za 0) zj)) zg) zj)))))) (qY (bG Fn QQ hr (za 1))) bH)),
  (by unfold j8;exact yq)⟩
theorem RG (F:Fy K mg "border_of_either" iB) (F8:Xv P w K mg base):Xy P w K mg base:=
 y7 (k:=2) F lM rfl (λ _ _ _ _ _ _=>su λ _=>rfl) λ f Af A outer s H E hr=>⟨_,
  (zw (zP 1 lM.nd (yi zj))
  (zw (v5 KL rfl (wX (za 0)) (yE 2 lM.nd) (zA (zP 1 lM.nd (zQ F8 hr (zc (za 1) (zc (za 2) zj))))))
  (zA (zL (za 1))))),
  (by unfold dD m9;exact yq)⟩
theorem RH (F:Fy K mg "border_of_all" iC) (GG:Xx P w K mg base):Xz P w K mg base:=
 y7 (k:=2) F lN rfl (λ _ _ _ _ _ _=>su λ _=>rfl) λ f Af A outer s H E hr=>⟨_,
  (zw (zP 1 lN.nd (yi (zc (yi (zc zg (zc zg zj))) zj)))
  (zw (v5 KL rfl (wX (za 0)) (yE 2 lN.nd) (zA (zP 1 lN.nd (zQ GG hr (zc (za 1) (zc (za 2) zj))))))
  (zA (zL (za 1))))),
  (by unfold dE mB;exact yq)⟩
theorem R4 (F:Fy K mg "first_without" i6) (Gq:Xt P w K mg base):Xu P w K mg base:=
 y7 (k:=2) F jX rfl (λ _ _ _ _ _ _=>tE λ _ _ _=>rfl) λ f Af A outer s H E hr=>⟨_,
  (zw (v5 KL rfl (hJ U.enumerate (zc (za 0) zj)) (nh (n:=2) (uJ (yE 3 jX.nd) (uJ (yE 4 jX.nd) ng))) (zA (yL (uI (wx (zQ Gq hr (zc (zB (za 4) (za 1)) (zc (za 2) zj))))) (zA (zL (za 3))) yK)))
  (zA (zL v7))),
  (by unfold d7 m6;exact yq)⟩
theorem Rm (F:Fy K mg "_law_floor" iq) (EF:qG P w K mg base) (Fq:Xi P w K mg base) (FJ:Xp P w K mg base) (FL:Xf P w K mg base) (Fp:Xg P w K mg base):Xl P w K mg base:=
 y7 (k:=2) F sQ rfl (λ _ _ _ _ _ _=>su λ _=>rfl) λ f Af A outer s H E hr=>⟨_,
  (zw (zP 1 sQ.nd (zQ EF hr (zc (za 0) (zc zg zj))))
  (zw (zP 2 sQ.nd (zB (xh (zc zg (zc zg (zc zg (zc zg (zc zg (zc zg (zc zg (zc (xm zg (yp (xf (za 1) zg) zg)) zj))))))))) (yp (za 1) zg)))
  (zw (zP 3 sQ.nd (zQ Fq hr (zc (za 0) (zc (za 2) zj))))
  (zw (zP 4 sQ.nd (zQ FJ hr (zc (za 0) (zc (za 2) zj))))
  (zw (zP 5 sQ.nd (zQ FL hr (zc (za 0) (zc (za 2) zj))))
  (zw (zP 6 sQ.nd (zQ Fp hr (zc (za 0) (zc (za 3) zj))))
  (zw (yL (xB.pt (q_ (vk hr (za 4) (yi (zc zg (zc zg zj)))) (qZ (xB.pt (uH (hG (v8 T.len (zc (za 5) zj)) zg) (sS (hG (v8 T.len (zc (za 6) zj)) zg))))))) (zA (zP 4 sQ.nd (yi (zc zg (zc zg zj))))) yK)
  (zA (zL (yi (zc (za 4) (zc (za 3) (zc (za 5) (zc (za 6) zj)))))))))))))),
  (by unfold j4;exact yq)⟩
theorem RC (F:Fy K mg "check_pair" i9) (FC:mM K mg "NoPair" "pair" gR) (E5:Xs P w K mg base):Xw P w K mg base:=
 fF (k:=3) F Vo rfl (λ _ _ _ _ _ _=>xN λ _ _=>rfl) λ f Af A outer s H E hr=>⟨_,
  (qY (bI (uI (wx (zQ E5 hr (zc (za 1) (zc (yi (zc (yi (zc zg (zc (zB (zB (za 0) zg) zg) zj))) (zc (yi (zc zg (zc (zB (zB (za 0) zg) zg) zj))) zj))) zj))))) (qY (bG FC QR hr (za 1))) bH)),
  (by unfold dA;exact yq)⟩
theorem S7 (F:Fy K mg "ways_from" lQ) (EK:jw P w K mg base):YZ P w K mg base:=
 y7 (k:=3) F W_ rfl (λ _ _ _ _ _ _=>xN λ _ _=>rfl) λ f Af A outer s H E hr=>⟨_,
  (zw (uX (zQ (uD.no EK) hr (zc (za 0) (zc (za 1) zj))))
  (zA (zL (sW (N':=["number","way","place"]) (pick:=[none,none,some 1]) (u7 (N:=["floor","place"]) (esc:=zy lQ)) rfl (hJ U.enumerate (zc (zB (za 0) zg) zj)) (λ _ _ _ _ _=>(nh (n:=2) (uJ (yE 0 (wY ["number","way","place"])) (uJ (yE 1 (wY ["number","way","place"])) ng)))) (λ _ _ _ _ _=>ka (vk hr (zB (za 1) zg) (za 2))) (λ _ _ _ _ _=>(za 0)))))),
  (by unfold eV mh;exact yq)⟩
theorem SJ (F:Fy K mg "stall_at" jY) (EK:jw P w K mg base):Y_ P w K mg base:=
 y7 (k:=3) F cP rfl (λ _ _ _ _ _ _=>xN λ _ _=>rfl) λ f Af A outer s H E hr=>⟨_,
  (zw (uX (zQ (uD.no EK) hr (zc (za 0) (zc (za 1) zj))))
  (zw (v5 KL rfl (wX (zB (za 0) zg)) (yE 2 cP.nd) (zA (yL (vk hr (zB (za 2) zg) (za 1)) (zA (zL (za 2))) yK)))
  (zA (zL v7)))),
  (by unfold eW pP;exact yq)⟩
theorem RJ (F:Fy K mg "border_ahead_of_changes" iD) (FK:Y_ P w K mg base) (EH:lh P w K mg base) (EO:Xb P w K mg base):X2 P w K mg base:=
 y7 (k:=4) F lO rfl (λ _ _ _ _ _ _=>tE λ _ _ _=>rfl) λ f Af A outer s H E hr=>⟨_,
  (zw (zP 3 lO.nd (zQ FK hr (zc (za 0) (zc (za 1) zj))))
  (zw (yL (i_ (za 3) v7) (zA (zL (za 2))) yK)
  (zw (zP 4 lO.nd (xh zj))
  (zw (v5 KL rfl (wX (za 2)) (yE 5 lO.nd) (zA (uX (UM (za 4) (zQ EO hr (zc (zB (za 0) zg) (zc (za 3) (zc (za 5) zj))))))))
  (zA (zL (zQ EH hr (zc (za 4) zj)))))))),
  (by unfold j9 mC;exact yq)⟩
theorem SW {FW:Value}(F:Fy K mg "next_border" oK) (FG:mg "KEEPER"=some FW) (FY:L2.RelV (.str "keeper") FW) (E7:Xz P w K mg base) (ET:X0 P w K mg base) (EM:X2 P w K mg base) (FH:YZ P w K mg base) (EW:Xy P w K mg base):Xd P w K mg base:=
 y7 (k:=5) F jT rfl (λ _ _ _ _ _ _=>tE λ _ _ _=>rfl) λ f Af A outer s H E hr=>⟨_,
  (zw (l_ (i:=3) (N':=["number","floor"]) (pick:=[none,some 0]) (u7 (N:=["floor","place","last","ways","ahead"]) (esc:=zy oK)) rfl (wX (zQ FH hr (zc (za 0) (zc (za 1) zj)))) (λ _ _ _ _ _=>(yE 0 (wY ["number","floor"]))) (λ _ _ _ _ _=>sU) (λ _ _ _ _ _=>(zB (zB (za 1) zg) (za 0))) jT.nd rfl (by first | exact Or.inl rfl | exact Or.inr rfl))
  (zw (l_ (i:=4) (N':=["way","floor","last"]) (pick:=[none,some 0,some 2]) (u7 (N:=["floor","place","last","ways","ahead"]) (esc:=zy oK)) rfl (wX (za 3)) (λ _ _ _ _ _=>(yE 0 (wY ["way","floor","last"]))) (λ _ _ _ _ _=>sU) (λ _ _ _ _ _=>(zQ ET hr (zc (zB (za 1) zg) (zc (za 0) (zc (zB (za 2) (zB (za 0) zg)) zj))))) jT.nd rfl (by first | exact Or.inl rfl | exact Or.inr rfl))
  (zw (yL (vk hr (zB (zB (za 0) zg) (za 1)) (UT FG FY)) (zA (zL (zQ EM hr (zc (za 0) (zc (za 1) (zc (zQ EW hr (zc (za 4) zj)) zj)))))) yK)
  (zA (zL (zQ E7 hr (zc (za 4) zj))))))),
  (by unfold da me ml;exact yq)⟩
theorem SV (F:Fy K mg "next_round" lS) (Ff:Xd P w K mg base):Xc P w K mg base:=
 y7 (k:=6) F jS rfl (λ _ _ _ _ _ _=>tE λ _ _ _=>rfl) λ f Af A outer s H E hr=>⟨_,
  (zw (zP 3 jS.nd (hZ T.list (zc (za 1) zj)))
  (zw (v5 KL rfl (wX (bM hr T.sorted U.set (zc (sW (N':=["way","fresh"]) (pick:=[none,some 2]) (u7 (N:=["floor","last","fresh","following","place"]) (esc:=zy lS)) rfl (wX (zB (za 0) zg)) (λ _ _ _ _ _=>(yE 0 (wY ["way","fresh"]))) (λ _ _ _ _ _=>ka (UA hr (zB (za 0) zg) (za 1))) (λ _ _ _ _ _=>(zB (za 0) zg))) zj))) (yE 4 jS.nd) (zA (UE (za 3) (za 4) (zQ Ff hr (zc (za 0) (zc (za 4) (zc (za 1) zj)))))))
  (zA (zL (za 3))))),
  (by unfold e_ mz mj;exact yq)⟩
theorem p8 {n:Nat}(F:Fy K mg "_law_same" oM) (EG:jv P w K mg base n):jv P w K mg base (n+1):=by
 have hh:n+1+1=n+1+1:=by lia
 show FD P w K mg base _ (n+1+1) _ _
 rw[hh]
 exact y7 (k:=n+1) F Vc rfl (λ _ _ _ _ _ _=>xN λ _ _=>rfl) λ f Af A outer s H E hr=>⟨_,
  (zw (yL (xB.pt (q_ (wx (p0 T (za 0))) (qZ (wx (p0 T (za 1)))))) (zw (yL (tT hr (v8 T.len (zc (za 0) zj)) (v8 T.len (zc (za 1) zj))) (zA (zL u_)) yK)
  (zA (zL (bX T.all (zc (sW (N':=["_law_k","_law_thing","_law_other"]) (pick:=[none,some 0,some 1]) (u7 (N:=["_law_thing","_law_other"]) (esc:=zy oM)) rfl (pb T.range (zc (v8 T.len (zc (za 0) zj)) zj)) (λ _ _ _ _ _=>(yE 0 (wY ["_law_k","_law_thing","_law_other"]))) (λ _ _ _ _ _=>sU) (λ _ _ _ _ _=>(bW EG hr (zc (zB (za 1) (za 0)) (zc (zB (za 2) (za 0)) zj))))) zj))))) yK)
  (zw (yL (xB.pt (uH (tT hr (ke T (za 0)) (ke T (za 1))) (sS (tT hr (kd T (za 0)) (kd T (za 1)))))) (zA (zL u_)) yK)
  (zA (zL (p7 (kf hr (p0 T (za 0)) (p0 T (za 1))) (pz (kf hr (za 0) (za 1)))))))),
  (by unfold jy mm;exact yq)⟩
theorem RO (F:Fy K mg "_law_same" oM):jv P w K mg base 0:=Oi F (λ _ _ _ _ _ _=>xN λ _ _=>rfl)
theorem SK (F:Fy K mg "rounds" lR) (Fo:Xc P w K mg base) (EU:eR P w K mg base):Xa P w K mg base:=
 y7 (k:=7) F qS rfl (λ _ _ _ _ _ _=>su λ _=>rfl) λ f Af A outer s H E hr=>⟨_,
  (zw (zP 1 qS.nd (xh (zc (sV (xh (zc (yi (zc (yi (zc zg (zc zg zj))) zj)) zj)) (zQ EU hr (zc (za 0) zj))) zj)))
  (zw (zP 2 qS.nd (UO T.list T.range (zc (zQ EU hr (zc (za 0) zj)) zj)))
  (zw (bL KL (wx (za 2)) (zw (zP 3 qS.nd (zB (za 1) (bP zg)))
  (zw (zP 4 qS.nd (zQ Fo hr (zc (za 0) (zc (za 3) (zc (za 2) zj)))))
  (zw (l_ (i:=2) (N':=["place","border","last"]) (pick:=[none,none,some 3]) (u7 (N:=["floor","told","fresh","last","following"]) (esc:=zy lR)) rfl (hJ U.enumerate (zc (za 4) zj)) (λ _ _ _ _ _=>(nh (n:=2) (uJ (yE 0 (wY ["place","border","last"])) (uJ (yE 1 (wY ["place","border","last"])) ng)))) (λ _ _ _ _ _=>ka (tT hr (za 1) (zB (za 2) (za 0)))) (λ _ _ _ _ _=>(za 0)) qS.nd rfl (by first | exact Or.inl rfl | exact Or.inr rfl))
  (zA (yL (wx (za 2)) (zA (uX (qa (za 1) (za 4)))) yK))))))
  (zA (zL (za 1)))))),
  (by unfold eX uP pO;exact yq)⟩
theorem Rh (F:Fy K mg "_law_refused" ij) (E9:Og K mg "NoChange") (Fj:Og K mg "NoCount") (Fi:Og K mg "NoFloor") (FA:Og K mg "NoMore") (Fz:Og K mg "NoName") (Fw:Og K mg "NoPair") (Fh:Og K mg "NoPlace") (FQ:Og K mg "NoRow") (FP:Og K mg "NoWay") (Je:mg "ValueError"=none) (EG:Ms P w K mg base):Xh P w K mg base:=
 y7 (k:=7) F cQ rfl (λ _ _ _ _ _ _=>N8 λ _ _ _ _=>rfl) λ f Af A outer s H E hr=>⟨_,
  (zw (yL (xB.pt (uH (i_ (za 1) v7) (sS (i_ (za 0) v7)))) (zA (zL (p7 (nj (za 1) v7) (pz (nj (za 0) v7))))) yK)
  (zw (zP 4 cQ.nd (xh (zc (bQ Fh T (za 0)) (zc (bQ Fw T (za 0)) zj))))
  (zw (yL (xB.pt (uH (tT hr (za 4) (xh (zc (kf hr (za 1) zg) (zc (kf hr (za 1) zg) zj)))) (sS (uI (wx (nj Je T (za 0))))))) (zA (zL u_)) yK)
  (zw (yL (wx (UQ (v_.cons Fi (v_.cons FA (v_.cons FP (v_.cons E9 (v_.cons Fj (v_.cons Fz (v_.cons FQ ⟨_,.nil⟩))))))) T (za 0))) (zA (zL u_)) yK)
  (zw (yL (vk hr (za 1) zg) (zA (zL (zQ EG hr (zc (bU (za 0)) (zc (za 2) zj))))) yK)
  (zA (zL (zQ EG hr (zc (bU (za 0)) (zc (za 3) zj)))))))))),
  (by unfold lu;exact yq)⟩
theorem Ru (F:Fy K mg "lasts" i3) (EK:jw P w K mg base) (Fs:Xw P w K mg base) (E6:Xu P w K mg base) (F7:Xa P w K mg base):Xq P w K mg base:=
 fF (k:=8) F Vh rfl (λ _ _ _ _ _ _=>tE λ _ _ _=>rfl) λ f Af A outer s H E hr=>⟨_,
  (bJ (iZ EK hr (zc (za 0) (zc (za 1) zj)))
  (bJ (iZ Fs hr (zc (za 0) (zc (za 2) zj)))
  (qY (U8 (zQ E6 hr (zc (zQ F7 hr (zc (za 0) zj)) (zc (za 1) (zc (za 2) zj)))))))),
  (by unfold lx;exact yq)⟩
theorem Rq (F:Fy K mg "_law_caught" iy) (Gp:Xq P w K mg base):Xo P w K mg base:=
 y7 (k:=9) F jV rfl (λ _ _ _ _ _ _=>tE λ _ _ _=>rfl) λ f Af A outer s H E hr=>⟨_,
  (zw (zP 3 jV.nd v7)
  (zw (UC 4 3 jV.nd (qY (iZ Gp hr (zc (za 0) (zc (za 1) (zc (za 2) zj))))))
  (zA (zL (za 3))))),
  (by unfold dq;exact yq)⟩
theorem Rt {f:Addr}{fd:FuncData}(F:vh K "law" "law" i0 f fd) (FI:Xl P w K mg base) (E4:Xj P w K mg base) (Fc:Xk P w K mg base) (E8:Xo P w K mg base) (EF:qG P w K mg base) (Fg:Xh P w K mg base) (FU:Xm P w K mg base):xy P w K mg base xI 11 f fd ["_law_script"] (tM K (zI zD oq)):=
 Z8 (k:=10) F oJ rfl λ Af A outer s H E hr=>⟨_,
  (zw (zP 1 oJ.nd (zQ FI hr (zc (za 0) zj)))
  (zw (v5 KL rfl (pb T.range (zc zg zj)) (yE 2 oJ.nd) (zw (zP 3 oJ.nd (zQ E4 hr (zc (zQ EF hr (zc (za 0) (zc (xm zg (sV zg (za 2))) zj))) (zc (v8 T.len (zc (zB (za 1) zg) zj)) zj))))
  (zw (zP 4 oJ.nd (zQ Fc hr (zc (zQ EF hr (zc (za 0) (zc (xm zg (sV zg (za 2))) zj))) (zc (zB (za 1) zg) zj))))
  (zA (yL (uI (wx (zQ Fg hr (zc (zQ E8 hr (zc (za 1) (zc (za 3) (zc (za 4) zj)))) (zc (zQ FU hr (zc (za 1) (zc (za 3) (zc (za 4) zj)))) (zc (za 3) (zc (za 4) zj))))))) (zA (zL u_)) yK)))))
  (zA (zL (nj (zQ E8 hr (zc (za 1) (zc zg (zc (zB (za 1) zg) zj)))) v7))))),
  (by unfold dv pS;exact yq)⟩
end
def all_mk {l:PySem.W.OpenLaw}{w:World}{K:Ab}{h:Heap}{mg:Aq}{fa:Addr}(X:K.In h) (G:h.Ns mainGlobals mg) (Ew:mg "law"=some (.ref fa))
  (h0:Fx K "is_whole" i5) (h1:Fx K "is_whole_within" i4) (h2:Fx K "is_row_within" lT) (h3:Fx K "places_of" jZ) (h4:Fx K "check_place" i8) (h5:Fx K "check_pair" i9) (h6:Fx K "ways_from" lQ) (h7:Fx K "stall_at" jY) (h8:Fx K "at_or_above" iE) (h9:Fx K "least_pairs" ia) (h10:Fx K "holds" lU) (h11:Fx K "both" oO) (h12:Fx K "either" i7) (h13:Fx K "border_ahead_of_way" oP) (h14:Fx K "pairs_ahead_of_changes" j_) (h15:Fx K "border_ahead_of_changes" iD) (h16:Fx K "border_of_either" iB) (h17:Fx K "border_of_all" iC) (h18:Fx K "next_border" oK) (h19:Fx K "next_round" lS) (h20:Fx K "rounds" lR) (h21:Fx K "first_without" i6) (h22:Fx K "lasts" i3) (h23:Fx K "_law_cell" iw) (h24:Fx K "_law_coins" iu) (h25:Fx K "_law_brims" iz) (h26:Fx K "_law_owners" ik) (h27:Fx K "_law_ways" ic) (h28:Fx K "_law_stalls" ig) (h29:Fx K "_law_floor" iq) (h30:Fx K "_law_odd_place" il) (h31:Fx K "_law_odd_pair" ip) (Ia:Fx K "_law_same" oM) (h33:Fx K "_law_whole" ib) (h34:Fx K "_law_due" ir) (h35:Fx K "_law_refused" ij) (h36:Fx K "_law_caught" iy) (h37:Fx K "law" i0)
  (FG:Cn K "KEEPER" (.str "keeper"))
  (FC:Ei K "NoPair" "pair" gR)
  (Fn:Ei K "NoPlace" "place" gQ)
  (E9:Ec K "NoChange")
  (Fj:Ec K "NoCount")
  (Fi:Ec K "NoFloor")
  (FA:Ec K "NoMore")
  (Fz:Ec K "NoName")
  (Fw:Ec K "NoPair")
  (Fh:Ec K "NoPlace")
  (FQ:Ec K "NoRow")
  (FP:Ec K "NoWay")
  (Je:PySem.W.nsIn K mainGlobals "ValueError"=some none)
  (y0:PySem.W.nsIn K mainGlobals "set"=some none) (y1:PySem.W.nsIn K mainGlobals "zip"=some none) (y2:PySem.W.nsIn K mainGlobals "enumerate"=some none)
  (z0:PySem.W.nsIn K mainGlobals "len"=some none) (z1:PySem.W.nsIn K mainGlobals "range"=some none) (z2:PySem.W.nsIn K mainGlobals "any"=some none) (z3:PySem.W.nsIn K mainGlobals "all"=some none) (z4:PySem.W.nsIn K mainGlobals "sorted"=some none) (z5:PySem.W.nsIn K mainGlobals "isinstance"=some none) (z6:PySem.W.nsIn K mainGlobals "bool"=some none) (z7:PySem.W.nsIn K mainGlobals "int"=some none) (z8:PySem.W.nsIn K mainGlobals "str"=some none) (z9:PySem.W.nsIn K mainGlobals "list"=some none) (z10:PySem.W.nsIn K mainGlobals "tuple"=some none) (z11:PySem.W.nsIn K mainGlobals "max"=some none) (z12:PySem.W.nsIn K mainGlobals "min"=some none):
  ∃ fd:FuncData,(∀ (s:Shared) (v:Value),BindsTo s fd ⟨[v],[]⟩ [("_law_script",v)])/\∀ base:Heap,K.In base->base.Ns mainGlobals mg->xy l.prog w K mg base xI 11 fa fd ["_law_script"] (tM K (zI zD oq)):=by
 have T:Bt mg:=⟨A_ X G z0,A_ X G z1,A_ X G z2,A_ X G z3,A_ X G z4,A_ X G z5,A_ X G z6,A_ X G z7,A_ X G z8,A_ X G z9,A_ X G z10,A_ X G z11,A_ X G z12⟩
 have U:Bq mg:=⟨A_ X G y0,A_ X G y1,A_ X G y2⟩
 obtain⟨FW,FG,FY⟩:=FG.mk X G
 replace FC:=FC.mk X G
 replace Fn:=Fn.mk X G
 replace E9:=E9.mk X G
 replace Fj:=Fj.mk X G
 replace Fi:=Fi.mk X G
 replace FA:=FA.mk X G
 replace Fz:=Fz.mk X G
 replace Fw:=Fw.mk X G
 replace Fh:=Fh.mk X G
 replace FQ:=FQ.mk X G
 replace FP:=FP.mk X G
 replace Je:=A_ X G Je
 obtain⟨fd,Fl,hb⟩:=h37.law X G Ew λ _ _ _ _ _ _ _ _=>.of_eq rfl
 refine⟨fd,hb,λ base _ _=>?_⟩
 have FN:=Rw l.prog w base T U (h0.mk X G)
 have EU:=SN l.prog w base T U (h3.mk X G)
 have ES:=RL l.prog w base T U (h8.mk X G)
 have EH:=Ra l.prog w base T U (h9.mk X G)
 have EO:=SO l.prog w base T U (h14.mk X G)
 have EF:=Rp l.prog w base T U (h23.mk X G)
 have Fd:=Ro l.prog w base T U (h24.mk X G)
 have E4:=Rj l.prog w base T U (h30.mk X G)
 have Fc:=Rl l.prog w base T U (h31.mk X G)
 have EX:=Rc l.prog w base T U (h33.mk X G)
 have EL:=Rv l.prog w base T U (h1.mk X G) FN
 have Gq:=R3 l.prog w base T U (h10.mk X G) ES
 have GG:=RF l.prog w base T U (h11.mk X G) EH
 have F8:=R8 l.prog w base T U (h12.mk X G) EH
 have ET:=RI l.prog w base T U (h13.mk X G) EH ES
 have FJ:=Rr l.prog w base T U (h25.mk X G) EF
 have Fq:=Ri l.prog w base T U (h26.mk X G) EF
 have FL:=Rf l.prog w base T U (h27.mk X G) EF Fd
 have Fp:=Rg l.prog w base T U (h28.mk X G) EF
 have FU:=Rn l.prog w base T U (h34.mk X G) EX
 have E5:=Rx l.prog w base T U (h2.mk X G) EL
 have EK:=RB l.prog w base T U (h4.mk X G) Fn EL EU
 have EW:=RG l.prog w base T U (h16.mk X G) F8
 have E7:=RH l.prog w base T U (h17.mk X G) GG
 have E6:=R4 l.prog w base T U (h21.mk X G) Gq
 have FI:=Rm l.prog w base T U (h29.mk X G) EF Fq FJ FL Fp
 have Fs:=RC l.prog w base T U (h5.mk X G) FC E5
 have FH:=S7 l.prog w base T U (h6.mk X G) EK
 have FK:=SJ l.prog w base T U (h7.mk X G) EK
 have EM:=RJ l.prog w base T U (h15.mk X G) FK EH EO
 have Ff:=SW l.prog w base T U (h18.mk X G) FG FY E7 ET EM FH EW
 have Fo:=SV l.prog w base T U (h19.mk X G) Ff
 have EG:=RO l.prog w base T U (Ia.mk X G)
 replace EG:=p8 l.prog w base T U (Ia.mk X G) EG
 replace EG:=p8 l.prog w base T U (Ia.mk X G) EG
 replace EG:=p8 l.prog w base T U (Ia.mk X G) EG
 replace EG:=p8 l.prog w base T U (Ia.mk X G) EG
 replace EG:=p8 l.prog w base T U (Ia.mk X G) EG
 replace EG:=p8 l.prog w base T U (Ia.mk X G) EG
 have F7:=SK l.prog w base T U (h20.mk X G) Fo EU
 have Fg:=Rh l.prog w base T U (h35.mk X G) E9 Fj Fi FA Fz Fw Fh FQ FP Je EG
 have Gp:=Ru l.prog w base T U (h22.mk X G) EK Fs E6 F7
 have E8:=Rq l.prog w base T U (h36.mk X G) Gp
 exact Rt l.prog w base T U Fl FI E4 Fc E8 EF Fg FU
def walk {l:PySem.W.OpenLaw}{q:Program}{loose:List Str}{XP:(Str->Option Value)->Heap->Prop}{YP:World->Heap->Prop}{d:DefRec}{K:Params->Ab}(hn:l.most=some 63) (Dn:d.params.defaults=[])
  (hY:∀ (w:World) (h:Heap),YP w h->(K w.params).In h)
  (F:∀ (w:World) (mg:Aq) (fa:Addr) (h:Heap),(K w.params).In h->h.Ns mainGlobals mg->mg d.name=some (.ref fa)->
   ∃ fd:FuncData,(∀ (s:Shared) (u:Value),BindsTo s fd ⟨[u],[]⟩ [("_law_script",u)])/\∀ base:Heap,(K w.params).In base->base.Ns mainGlobals mg->xy l.prog w (K w.params) mg base xI 11 fa fd ["_law_script"] (tM (K w.params) (zI zD oq))):
  PySem.W.WalkO q loose XP YP l.row.toRowW d [] (λ f vs=>PySem.call f vs):=
 L2.XY (n:=63) (k:=11) (x:="_law_script") (CX:=λ _=>xI) (sp:=λ w=>tM (K w.params) (zI zD oq)) hn (by decide) Dn ⟨rfl,by decide,by decide⟩ hY F (λ _ _ a ns hl hO hS=>QC QA hO hS hl) λ _ _ _ _ _ z=>z
end yu
open PySem PySem.W PyProof.Rows
set_option maxHeartbeats 0 in
theorem PySem.Challenge.cw_purseborder_k33_lasting_refused_holds : PySem.Challenge.rw_purseborder_k33_lasting_refused.Holds := by
 w_on;o_law;k_head;(case hw=>w_witness2)
 k_fill
 refine yu.walk (l:=PySem.Challenge.rw_purseborder_k33_lasting_refused) rfl rfl (λ w h Y=>PySem.W.kIn_of Y) ?F
 case F=>
  intro w mg fa h KX G Df
  refine' yu.all_mk KX G Df ?_ ?_ ?_ ?_ ?_ ?_ ?_ ?_ ?_ ?_ ?_ ?_ ?_ ?_ ?_ ?_ ?_ ?_ ?_ ?_ ?_ ?_ ?_ ?_ ?_ ?_ ?_ ?_ ?_ ?_ ?_ ?_ ?_ ?_ ?_ ?_ ?_ ?_ ?_ ?_ ?_ ?_ ?_ ?_ ?_ ?_ ?_ ?_ ?_ ?_ ?_ ?_ ?_ ?_ ?_ ?_ ?_ ?_ ?_ ?_ ?_ ?_ ?_ ?_ ?_ ?_ ?_
  all_goals first | exact L3.Ei.i (by k_is) (by k_is) (by k_is) (by k_is) (by kernel_rfl) (by k_is) (by k_is) (by k_is) (by k_is) (by k_is) (by k_is) | exact L3.Ec.i (by k_is) (by k_is) (by k_is) (by k_is) (by kernel_rfl) | exact L5.Fx.i (by k_is) (by k_is) (by k_is) (by k_is) | k_is | exact L5.Cn.i (by k_is) (by exact⟨_,rfl⟩)
