import PyProof.Rows.All
import Wide.All
import OpenK.AllK
import Wide.FinOn
import Lean
import PyProof.EqAt
import PyProof.EqKinds
import PyProof.TupleCall
import PySem.SetOps
import PyProof.SetScanFacts
import PyProof.TupleKey
import PyProof.SetKind
import PyProof.SetRoads
import PyProof.IsRules
import PyProof.ZipIter
import PyProof.TupleIter
import PyProof.ListMulRoad
import PyProof.FactsAll.tuple
import PyProof.ListRange
import PyProof.Draws
import PyProof.EnumFor
import PyProof.Rows.ListMul
import PyProof.AutoListH
import PyProof.ExcInit
import PyProof.ExcClass2
import PyProof.InstStore
import PyProof.InstStoreFacts
import PyProof.ExcArgsOwn
import PyProof.IsInstance
import PyProof.IsInstanceH
import PyProof.StationsW
import PyProof.Rows.CatchOwn
import PyProof.FactsAll.dict_1
import PyProof.Rows.Range3
import PyProof.FitsBits
import PySem.Challenge.RW_purseborder_k72_whole_least_brims
set_option Elab.async false
set_option linter.all false
set_option maxRecDepth 100000
set_option genSizeOf false
abbrev Ad:=PySem.Value->PySem.Shared->Prop
abbrev Ag:=List (PySem.Addr×PySem.Obj)
abbrev Af:=List PySem.Value
abbrev AG:=PySem.Str->Option PySem.Value
abbrev Ar:=Array PySem.Value
def AB {p:Prop}[Decidable p](h:decide p=true:=by decide +kernel):p:=of_decide_eq_true h
noncomputable section
def JC:=@PySem.wpAny_bind
def Kr:=@PySem.Heap.get?_push_of_some
def Ks:=@PySem.PassesOwn.never
def Kt:=@PySem.wpAny_holding
def Kv:=@decide_eq_false
def Ku:=@PySem.wpAny_field
def Kx:=@PySem.wpAny_mono
def Kw:=@PySem.wpAny_call_entry
def Kz:=@PySem.wpAny_newObj_type
def Ky:=@PySem.wpAny_setState_of
def KA:=@decide_eq_true
def KC:=@PySem.wpAny_seqItems
def KG:=@PySem.wpAny_truthy_bool
def KD:=@PySem.wpAny_callSpecial?_slot
def KJ:=@PySem.wpAny_passesOwn
def KI:=@PySem.wpAny_typeOf
def KH:=@PySem.Heap.get?_update_self
def KN:=@PySem.wpAny_pyIter_list
def KL:=@PySem.wpAny_setField_rec
def KP:=@PySem.wpAny_askSetting
def KO:=@PySem.wpAny_setField
def KQ:=@PySem.Heap.get?_update_other
def Ai:=@Option.bind_eq_some_iff
def Ao:=@List.mem_cons_self
def Av:=@List.mem_cons_of_mem
def AE:=@Option.map_eq_some_iff
def A3:=@List.not_mem_nil
def Bc:=@List.nodup_cons
def Bb:=@List.map_nil
def Ba:=@List.pairwise_cons
def Bk:=@Nat.lt_or_ge
def Bw:=@List.lookup_cons
def Bv:=@Nat.lt_succ_of_lt
def Bu:=@List.any_cons
def BD:=@Bool.false_ne_true
def BC:=@List.ext_getElem
def BO:=@Nat.ne_of_gt
def BN:=@List.replicate_succ
def BM:=@List.pairwise_map
def BK:=@List.mem_flatMap
def BW:=@List.mem_iff_getElem
def Ci:=@List.getElem?_append_right
def Cg:=@List.getElem?_append_left
def Cf:=@List.flatten_cons
def Ce:=@List.pairwise_iff_getElem
def Cd:=@Nat.le_add_right
def Cs:=@List.filterMap_cons
def Cr:=@List.mem_append_left
def Cq:=@List.find?_cons
def Cp:=@Array.getElem_toList
def Co:=@Int.toNat_natCast
def CM:=@Bool.and_false
def CL:=@List.map_congr_left
def CK:=@Array.getElem?_eq_none
def CJ:=@List.map_drop
def C5:=@List.append_nil
def C4:=@List.length_take
def C3:=@List.length_nil
def C2:=@Nat.lt_trans
def C1:=@Array.size_map
def C0:=@Nat.le_succ
def CZ:=@List.range_succ_eq_map
def CY:=@Nat.mod_lt
def CW:=@List.toList_toArray
def CV:=@List.length_filter_le
def DB:=@List.of_mem_zip
def DA:=@Option.isSome_iff_exists
def Dz:=@List.getElem?_replicate
def Dy:=@List.length_set
def Dx:=@List.forIn_cons
def Dw:=@List.getElem?_set
def Dv:=@List.getElem_range
def Du:=@Array.getD_eq_getD_getElem?
def Dt:=@Bool.and_self
def Ds:=@Nat.mul_comm
def Dr:=@Nat.lt_trichotomy
def Dq:=@Array.getElem?_setIfInBounds
def Dp:=@List.foldl_cons
def Dn:=@List.mem_iff_getElem?
def Dm:=@List.map_take
def Dl:=@List.zipIdx_cons
def Dk:=@Int.zero_add
def D4:=@List.mem_filterMap
def D3:=@List.zip_cons_cons
def D2:=@List.length_drop
def D1:=@List.getElem?_eq_none
def D0:=@Nat.eq_zero_or_pos
def DZ:=@List.mem_erase_of_ne
def DY:=@List.length_erase_of_mem
def DX:=@List.length_pos_of_mem
def DW:=@List.nodup_range
def DV:=@List.pairwise_append
def DU:=@List.getElem?_cons_succ
def DT:=@List.take_append_drop
def DS:=@List.perm_ext_iff_of_nodup
def DR:=@Bool.or_eq_true
def DQ:=@Int.mul_le_mul_of_nonneg_right
def DP:=@Int.natCast_add
def DN:=@Int.lt_of_le_of_lt
def DM:=@List.getElem?_cons_zero
def Ax:=@List.size_toArray
def A2:=@List.getElem?_eq_getElem
def AL:=@List.getElem?_eq_some_iff
def AA:=@List.getElem?_map
def Ah:=@Nat.le_refl
def Aj:=@List.mem_cons
def Au:=@List.map_cons
def Ay:=@List.length_map
def Ap:=@PySem.Heap.lt_size
def AF:=@PySem.Heap.get?_push_size
def Al:=@List.mem_map
def AZ:=@List.getD_eq_getElem?_getD
def CO:=@Bool.not_false
def Aw:=@Nat.ne_of_lt
def AU:=@List.mem_append_right
def CN:=@Bool.not_true
def AR:=@List.mem_singleton
def Bg:=@List.mem_of_getElem?
def Bf:=@Array.getElem?_eq_getElem
def AY:=@List.mem_append
def AX:=@List.length_cons
def Az:=@List.mem_range
def A7:=@PySem.W.mg_none_of
def A_:=@Nat.lt_of_lt_of_le
def A9:=@Bool.false_eq_true
def BR:=@List.length_range
def AK:=@Int.le_refl
def Bn:=@Bool.eq_iff_iff
def AW:=@List.mem_filter
def Bm:=@Option.bind_some
def A6:=@List.any_eq_true
def Ac:=@PySem.wpAny_pure
def Bl:=@Array.length_toList
def BA:=@Array.getElem?_toList
def AO:=@Nat.zero_le
def A5:=@Option.some.inj
def AJ:=@List.map_map
def Ck:=@List.length_append
def Cu:=@List.getElem_mem
def A8:=@Nat.le_trans
def BX:=@Nat.lt_irrefl
def Cj:=@Nat.lt_succ_self
def BE:=@Nat.le_of_lt
def BQ:=@List.all_eq_true
def Be:=@Bool.and_eq_true
def Bz:=@List.map_append
def Bx:=@Int.emod_nonneg
def BP:=@Int.emod_lt_of_pos
def Ct:=@Int.toNat_of_nonneg
abbrev Ab:=PySem.W.Frag
namespace L2
open PySem PySem.Spec PyProof.Rows
abbrev Key:=Sum Int Str
noncomputable def pE:Key->Value->Bool
 | .inl k,v=>Value.isInt k v
 | .inr x,v=>Value.isStrOf x v
noncomputable def Py (w:World):Key->Int
 | .inl k=>hashInt k
 | .inr x=>hashStr w x
theorem sL:∀ {k:Key}{v:Value},pE k v=true->(∃ i t,k=Sum.inl i/\v=Value.int i t)\/(∃ x t,k=Sum.inr x/\v=Value.str x t)
 | .inl i,v,h=>by
  obtain⟨t,e⟩:=Value.isInt_shape (k:=i) (v:=v) h
  exact .inl ⟨i,t,rfl,e⟩
 | .inr x,v,h=>by
  obtain⟨t,e⟩:=Value.isStrOf_shape (x:=x) (v:=v) h
  exact .inr ⟨x,t,rfl,e⟩
def Px (i:Int) (t:Tok):pE (.inl i) (.int i t)=true:=by simp[pE,Value.isInt]
def Pw (x:Str) (t:Tok):pE (.inr x) (.str x t)=true:=by simp[pE,Value.isStrOf]
def Pu (a b:Int):decide ((Sum.inl a:Key)=Sum.inl b)=(a == b):=by
 by_cases e:a=b
 ·subst e;simp
 ·have h:¬ (Sum.inl a:Key)=Sum.inl b:=λ q=>e (Sum.inl.inj q)
  rw[Kv h]
  exact (beq_eq_false_iff_ne.mpr e).symm
def Pq (a b:Str):decide ((Sum.inr a:Key)=Sum.inr b)=decide (a=b):=by
 by_cases e:a=b
 ·subst e;simp
 ·have h:¬ (Sum.inr a:Key)=Sum.inr b:=λ q=>e (Sum.inr.inj q)
  rw[Kv h,Kv e]
def Pt (a:Int) (b:Str):decide ((Sum.inl a:Key)=Sum.inr b)=false:=Kv (λ q=>nomatch q)
def Pr (a:Str) (b:Int):decide ((Sum.inr a:Key)=Sum.inl b)=false:=Kv (λ q=>nomatch q)
def wK (prog:Program) (w:World):PySem.KeyKind prog w Key where
 is:=pE
 hash:=Py w
 inj:=λ v a b ha hb=>by
  rcases sL ha with ⟨i,t,rfl,rfl⟩ | ⟨x,t,rfl,rfl⟩
  ·rcases sL hb with ⟨j,u,rfl,e⟩ | ⟨y,u,rfl,e⟩
   ·injection e with e1 _;rw[e1]
   ·exact nomatch e
  ·rcases sL hb with ⟨j,u,rfl,e⟩ | ⟨y,u,rfl,e⟩
   ·exact nomatch e
   ·injection e with e1 _;rw[e1]
 byValue:=λ k v h=>by
  rcases sL h with ⟨i,t,rfl,rfl⟩ | ⟨x,t,rfl,rfl⟩ <;> rfl
 pyHash:=λ hv h=>by
  rcases sL hv with ⟨i,t,rfl,rfl⟩ | ⟨x,t,rfl,rfl⟩
  ·exact wpAny_pyHash_int h
  ·exact wpAny_pyHash_str h
 eqBool:=λ hu hv h=>by
  rcases sL hu with ⟨i,t,rfl,rfl⟩ | ⟨x,t,rfl,rfl⟩
  ·rcases sL hv with ⟨j,u,rfl,rfl⟩ | ⟨y,u,rfl,rfl⟩
   ·rw[Pu] at h;exact wpAny_eqBool_int h
   ·rw[Pt] at h;exact SeqAt.EqAt.int_str i t y u _ _ _ _ h
  ·rcases sL hv with ⟨j,u,rfl,rfl⟩ | ⟨y,u,rfl,rfl⟩
   ·rw[Pr] at h;exact SeqAt.EqAt.str_int x t j u _ _ _ _ h
   ·rw[Pq] at h;exact wpAny_eqBool_str h
 «strs»:=λ k x t v h=>by
  rcases sL h with ⟨i,u,rfl,e⟩ | ⟨y,u,rfl,e⟩
  ·exact nomatch e
  ·injection e with e1 _
   subst e1
   cases v <;> rfl
def QO (prog:Program) (w:World) (i:Int) (t:Tok):(wK prog w).is (.inl i) (.int i t)=true:=Px i t
def QN (prog:Program) (w:World) (x:Str) (t:Tok):(wK prog w).is (.inr x) (.str x t)=true:=Pw x t
inductive V where
 | zr | bl (b:Bool) | int (i:Int) | str (x:Str) | j4 (b:Array UInt8) | ZR (b:UInt64) | ref (a:Addr) | ty (n:String)
 deriving DecidableEq
noncomputable def RelV:V->Value->Prop
 | .zr,u=>u=Value.none
 | .bl b,u=>u=Value.bool b
 | .int i,u=>∃ t,u=Value.int i t
 | .str x,u=>∃ t,u=Value.str x t
 | .j4 b,u=>∃ t,u=Value.bytes b t
 | .ZR b,u=>∃ t,u=Value.float b t
 | .ref a,u=>u=Value.ref a
 | .ty n,u=>u=Value.type n
abbrev Vals:List V->List Value->Prop:=Paired RelV
theorem Vals.length {xs:List V}{us:Af}(r:Vals xs us):xs.length=us.length:=Paired.length r
theorem Vals.get:∀ {xs:List V}{us:Af}{i:Nat}{x:V},Vals xs us->xs[i]?=some x->∃ u,us[i]?=some u/\RelV x u
 | _,_,_,_,.nil,e=>by simp at e
 | _,_,0,_,.cons r _,e=>by simp at e;subst e;exact⟨_,rfl,r⟩
 | _,_,i+1,x,.cons _ t,e=>by
  obtain⟨u,h1,h2⟩:=Vals.get (i:=i) (x:=x) t (by simpa using e)
  exact⟨u,by simpa using h1,h2⟩
theorem Vals.set {x:V}{u:Value}(r:RelV x u):∀ {xs:List V}{us:Af}(i:Nat),Vals xs us->Vals (xs.set i x) (us.set i u)
 | _,_,_,.nil=>.nil
 | _,_,0,.cons _ t=>.cons r t
 | _,_,i+1,.cons q t=>.cons q (Vals.set r i t)
theorem Vals.append:∀ {xs ys:List V}{us ws:Af},Vals xs us->Vals ys ws->Vals (xs++ys) (us++ws)
 | _,_,_,_,.nil,s=>s
 | _,_,_,_,.cons r t,s=>.cons r (Vals.append t s)
theorem Vals.take:∀ {xs:List V}{us:Af}(n:Nat),Vals xs us->Vals (xs.take n) (us.take n)
 | _,_,0,_=>.nil
 | _,_,_+1,.nil=>.nil
 | _,_,n+1,.cons r t=>.cons r (Vals.take n t)
theorem Vals.drop:∀ {xs:List V}{us:Af}(n:Nat),Vals xs us->Vals (xs.drop n) (us.drop n)
 | _,_,0,r=>r
 | _,_,_+1,.nil=>.nil
 | _,_,n+1,.cons _ t=>Vals.drop n t
noncomputable def uu:Option V->Option Value->Prop
 | some v,some u=>RelV v u
 | none,none=>True
 | _,_=>False
def KV {κ:Type}:List (κ × V)->List (κ × Value)->Prop:=Paired λ(p:κ × V) (q:κ × Value)=>p.1=q.1/\RelV p.2 q.2
noncomputable def kV:Key->V
 | .inl i=>.int i
 | .inr x=>.str x
inductive HO where
 /-- a list -/
 | lst (xs:List V)
 /-- a tuple (never changes) -/
 | tup (xs:List V)
 /-- a dict Iq keys are ints and texts;one Iq keys are tuples of ints and texts (Ih empty one is both) -/
 | dK (Aa:List (Key×V)) | dT (Aa:List (List Key×V))
 /-- a set of ints: its members,its size -/
 | set (S:Int->Bool) (n:Nat)
 /-- an instance of Ih class at C,its dict at dx,its attributes -/
 | ins (C dx:Addr) (fs:List (Str×V))
 /-- Ih dict of Ih instance at x -/
 | own (x:Addr)
 /-- Ih dict of an exception -/
 | xd (fs:List (Str×V))
 /-- a bound method,f of x -/
 | met (f x:Addr)
 /-- a range object lo,lo+1,.. below hi -/
 | gf (lo hi:Int)
 /-- a Iw that is known to Ih object (Ih JE;a dict while a loop walks it): read,never written while it is so -/
 | wb (o:Obj) (u:HO)
 /-- a code IB table -/
 | qo (ps:Ar)
 /-- any other Iw,by what is true of its one object (a def of one's own: yJ a S n:=HO.ext λ h=>..) -/
 | ext (φ:Heap->Prop)
abbrev Hp:=Addr->Option HO
noncomputable def upd (H:Hp) (a:Addr) (o:HO):Hp:=λ b=>if b=a then some o else H b
def y7 {H:Hp}{a:Addr}{o:HO}:upd H a o a=some o:=by unfold upd;rw[if_pos rfl]
def yq {H:Hp}{a b:Addr}{o:HO}(h:b≠a):upd H a o b=H b:=by unfold upd;rw[if_neg h]
def sG {H:Hp}{a b:Addr}{o u:HO}(h:H a=some o) (h':H b=some u) (d:o≠u):a≠b:=by
 intro e;subst e;rw[h] at h';exact d (A5 h')
def t8 {H:Hp}{a b:Addr}{o:HO}(h:H a=some o) (h':H b=none):a≠b:=by
 intro e;subst e;rw[h] at h';cases h'
section
variable (P:Program)(w:World)
noncomputable def yW (H:Hp) (h:Heap) (a:Addr):HO->Prop
 | .lst xs=>xs.length<=sizeLine/\∃ (its:Af) (n:Nat),Vals xs its/\h.get? a=some { cls:=.type "list",data:=.seq its.toArray n }
 | .tup xs=>xs.length<=sizeLine/\∃ its:List Value,Vals xs its/\IsTup h a its.toArray
 | .dK Aa=>Aa.length<=sizeLine/\(a == sysModules)=false/\∃ vs,KV Aa vs/\h.DictOf (wK P w) a vs
 | .dT Aa=>Aa.length<=sizeLine/\(a == sysModules)=false/\∃ xs:List (List Key×Addr×Value),
   Paired (λ(p:List Key×V) (q:List Key×Addr×Value)=>p.1=q.1/\H q.2.1=some (.tup (p.1.map kV))/\RelV p.2 q.2.2) Aa xs/\
   ∃ o es ep,h.get? a=some o/\o.ExactDict/\o.data=.dict es ep/\es.toList=xs.map (entryOfKey (tupleKind (wK P w)))/\(xs.map (·.1)).Nodup
 | .set S n=>h.SetOf (intKind P w) a S n
 | .ins C dx fs=>H dx=some (.own a)/\fs.length<=1000/\dx≠a/\h.get? a=some (PySem.W.instObj C dx)/\
   ∃ mA,h.Ns1 dx mA/\(∀ f,uu (fs.lookup f) (mA f))/\PySem.Within mA (fs.map (·.1))
 | .own _=>∃ o,h.get? a=some o
 | .xd fs=>∃ mA,h.Ns1 a mA/\∀ f,uu (fs.lookup f) (mA f)
 | .gf lo hi=>∃ t u v,h.get? a=some { cls:=.type "range",data:=.fields #[.int lo t,.int hi u,.int 1 v] }
 | .wb o u=>h.get? a=some o/\yW H h a u
 | .qo ps=>h.get? a=some { cls:=.none,data:=.fields ps }
 | .met f x=>h.get? a=some (PySem.W.methodObj (.ref f) (.ref x))
 | .ext φ=>φ h/\(∃ o,h.get? a=some o)/\∀ h1 h2:Heap,φ h1->(∀ o,h1.get? a=some o->h2.get? a=some o)->φ h2
def yQ (H:Hp) (h:Heap):Prop:=∀ a o,H a=some o->yW P w H h a o
end
section
variable {P:Program}{w:World}{H H':Hp}{h h':Heap}{a:Addr}{o:HO}
theorem yW.lt (x:yW P w H h a o):a<h.objs.size:=by
 cases o with
 | lst xs=>obtain⟨_,_,_,_,e⟩:=x;exact Ap e
 | tup xs=>obtain⟨_,_,_,p⟩:=x;exact p.lt
 | dK Aa=>obtain⟨_,_,_,_,o,_,_,e,_⟩:=x;exact Ap e
 | dT Aa=>obtain⟨_,_,_,_,o,_,_,e,_⟩:=x;exact Ap e
 | set S n=>obtain⟨o,_,_,_,e,_⟩:=x;exact Ap e
 | ins C dx fs=>obtain⟨_,_,_,e,_⟩:=x;exact Ap e
 | own y=>obtain⟨_,e⟩:=x;exact Ap e
 | xd fs=>obtain⟨_,⟨_,_,_,e,_⟩,_⟩:=x;exact Ap e
 | gf lo hi=>obtain⟨_,_,_,e⟩:=x;exact Ap e
 | wb ob u=>obtain⟨e,_⟩:=x;exact Ap e
 | qo ps=>exact Ap (show h.get? a=some _ from x)
 | met f y=>exact Ap (show h.get? a=some _ from x)
 | ext φ=>obtain⟨_,⟨_,e⟩,_⟩:=x;exact Ap e
theorem Paired.kR {α β:Type}{F G:α->β->Prop}:∀ {l₁:List α}{l₂:List β},Paired F l₁ l₂->(∀ a b,F a b->G a b)->Paired G l₁ l₂
 | _,_,.nil,_=>.nil
 | _,_,.cons r t,f=>.cons (f _ _ r) (Paired.kR t f)
def yW.se (x:yW P w H h a o) (k:∀ b u,(b=a\/H b=some (.own a))->h.get? b=some u->h'.get? b=some u)
  (ho:∀ b,H b=some (.own a)->H' b=some (.own a)) (ht:∀ b xs,H b=some (.tup xs)->H' b=some (.tup xs)):yW P w H' h' a o:=by
 induction o with
 | lst xs=>obtain⟨z,its,n,r,e⟩:=x;exact⟨z,its,n,r,k _ _ (.inl rfl) e⟩
 | tup xs=>obtain⟨z,its,r,ob,e,c⟩:=x;exact⟨z,its,r,ob,k _ _ (.inl rfl) e,c⟩
 | dK Aa=>obtain⟨z,y,vs,r,ob,es,ep,e,c⟩:=x;exact⟨z,y,vs,r,ob,es,ep,k _ _ (.inl rfl) e,c⟩
 | dT Aa=>
  obtain⟨z,y,xs,r,ob,es,ep,e,c⟩:=x
  exact⟨z,y,xs,Paired.kR r λ p q z=>⟨z.1,ht _ _ z.2.1,z.2.2⟩,ob,es,ep,k _ _ (.inl rfl) e,c⟩
 | set S n=>obtain⟨ob,es,ep,t,e,c⟩:=x;exact⟨ob,es,ep,t,k _ _ (.inl rfl) e,c⟩
 | ins C dx fs=>
  obtain⟨d,z,ne,e,mA,⟨od,es,ep,e2,c⟩,r⟩:=x
  exact⟨ho _ d,z,ne,k _ _ (.inl rfl) e,mA,⟨od,es,ep,k _ _ (.inr d) e2,c⟩,r⟩
 | own y=>obtain⟨ob,e⟩:=x;exact⟨ob,k _ _ (.inl rfl) e⟩
 | xd fs=>obtain⟨mA,⟨od,es,ep,e,c⟩,r⟩:=x;exact⟨mA,⟨od,es,ep,k _ _ (.inl rfl) e,c⟩,r⟩
 | gf lo hi=>obtain⟨t,u,v,e⟩:=x;exact⟨t,u,v,k _ _ (.inl rfl) e⟩
 | wb ob u ih=>obtain⟨e,q⟩:=x;exact⟨k _ _ (.inl rfl) e,ih q⟩
 | qo ps=>
  have e:h.get? a=some { cls:=.none,data:=.fields ps }:=x
  show h'.get? a=some { cls:=.none,data:=.fields ps }
  exact k a _ (.inl rfl) e
 | met f y=>
  have e:h.get? a=some (PySem.W.methodObj (.ref f) (.ref y)):=x
  show h'.get? a=some (PySem.W.methodObj (.ref f) (.ref y))
  exact k a _ (.inl rfl) e
 | ext φ=>obtain⟨p,⟨o,e⟩,st⟩:=x;exact⟨st _ _ p λ o q=>k _ _ (.inl rfl) q,⟨o,k _ _ (.inl rfl) e⟩,st⟩
theorem yQ.lt (x:yQ P w H h) (e:H a=some o):a<h.objs.size:=(x a o e).lt
def yQ.fresh (x:yQ P w H h) (e:h.objs.size<=a):H a=none:=by
 cases q:H a with
 | none=>rfl
 | some u=>exact absurd (A_ (x.lt q) e) (BX _)
def yQ.kept (x:yQ P w H h) (k:∀ b u,h.get? b=some u->h'.get? b=some u):yQ P w H h':=λ a o e=>
 (x a o e).se (λ b u _ q=>k b u q) (λ _ q=>q) λ _ _ q=>q
def yQ.laid (x:yQ P w H h) (k:∀ b u,h.get? b=some u->h'.get? b=some u) (hp:h.objs.size<=a) (new:yW P w (upd H a o) h' a o):yQ P w (upd H a o) h':=λ b u e=>by
 have hn:=x.fresh hp
 by_cases hb:b=a
 ·subst hb;rw[y7] at e;cases e;exact new
 ·rw[yq hb] at e
  exact (x b u e).se (λ c v _ q=>k c v q) (λ c q=>by rw[yq (t8 q hn)];exact q) λ c xs q=>by rw[yq (t8 q hn)];exact q
end
def Rd (H:Hp) (a:Addr) (u:HO):Prop:=H a=some u\/∃ o,H a=some (.wb o u)
def Rd.ok {P:Program}{w:World}{H:Hp}{h:Heap}{a:Addr}{u:HO}(r:Rd H a u) (x:yQ P w H h):yW P w H h a u:=by
 rcases r with r | ⟨o,r⟩
 ·exact x a u r
 ·obtain⟨_,q⟩:=x a _ r
  exact q
noncomputable def mY:Option HO->Prop
 | some (.lst _)=>True
 | some (.dK _)=>True
 | some (.dT _)=>True
 | some (.set _ _)=>True
 | some (.ins _ _ _)=>True
 | some (.ext _)=>True
 | _=>False
section
variable {P:Program}{w:World}{H:Hp}{h h':Heap}{x e:Addr}{o':HO}
def yQ.write (ok:yQ P w H h) (mu:mY (H x)) (he:e=x\/H e=some (.own x)) (k:∀ b u,b≠e->h.get? b=some u->h'.get? b=some u) (CU:∃ u,h'.get? e=some u)
  (new:yW P w (upd H x o') h' x o'):yQ P w (upd H x o') h':=λ b u q=>by
 have IE:∀ c y,H c=some (.own y)->c≠x:=λ c y r z=>by subst z;rw[r] at mu;exact mu
 have JK:∀ c xs,H c=some (.tup xs)->c≠x:=λ c xs r z=>by subst z;rw[r] at mu;exact mu
 by_cases hb:b=x
 ·subst hb;rw[y7] at q;cases q;exact new
 ·rw[yq hb] at q
  by_cases BJ:b=e
  ·have q':H b=some (.own x):=by
    rcases he with z | z
    ·exact absurd (BJ.trans z) hb
    ·rw[BJ];exact z
   rw[q] at q';cases q'
   obtain⟨v,hv⟩:=CU
   exact⟨v,by rw[BJ];exact hv⟩
  ·refine (ok b u q).se (λ c v hc r=>k c v ?_ r) (λ c r=>by rw[yq (IE c b r)];exact r) λ c xs r=>by rw[yq (JK c xs r)];exact r
   rcases hc with rfl | hc
   ·exact BJ
   ·rintro rfl
    rcases he with z | z
    ·exact IE c b hc z
    ·rw[hc] at z;cases z;exact hb rfl
end
structure Un (fs ex:List Addr) (H H':Hp) (h h':Heap):Prop where
 keep:∀ b o,h.get? b=some o->H b=none->b∉fs->b∉ex->h'.get? b=some o
 slot:∀ b o,h.get? b=some o->H b=none->b∈fs->b∉ex->∃ sl,h'.get? b=some { o with slots:=sl }
 free:∀ b o,h.get? b=some o->H b=none->b∉ex->H' b=none
 there:∀ b o,h.get? b=some o->b∉ex->∃ o',h'.get? b=some o'
 uW:∀ b xs,H b=some (.tup xs)->H' b=some (.tup xs)
 sO:∀ b o u,H b=some (.wb o u)->H' b=some (.wb o u)
 rB:∀ b ps,H b=some (.qo ps)->∃ more,H' b=some (.qo (ps++more))
section
variable {fs ex:List Addr}{H H1:Hp}{h h1 h':Heap}{a x e:Addr}{o:HO}
def Un.any (u:Un fs ex H H1 h h1) {b:Addr}{ob:Obj}(q:h.get? b=some ob) (n:H b=none) (hx:b∉ex):∃ sl,h1.get? b=some { ob with slots:=sl }:=by
 by_cases hb:b∈fs
 ·exact u.slot b ob q n hb hx
 ·exact⟨ob.slots,u.keep b ob q n hb hx⟩
def Un.kept (k:∀ b u,h.get? b=some u->h'.get? b=some u):Un fs ex H H h h':=
 ⟨λ b ob q _ _ _=>k b ob q,λ b ob q _ _ _=>⟨ob.slots,k b ob q⟩,λ _ _ _ n _=>n,λ b ob q _=>⟨ob,k b ob q⟩,λ _ _ q=>q,λ _ _ _ q=>q,λ _ ps q=>⟨#[],by rw[q];simp⟩⟩
def Un.refl:Un fs ex H H h h:=Un.kept λ _ _ q=>q
def Un.laid (k:∀ b u,h.get? b=some u->h'.get? b=some u) (hp:h.objs.size<=a) (hn:H a=none):Un fs ex H (upd H a o) h h' where
 keep:=λ b u q _ _ _=>k b u q
 slot:=λ b u q _ _ _=>⟨u.slots,k b u q⟩
 free:=λ b u q n _=>by rw[yq (Aw (A_ (Ap q) hp))];exact n
 there:=λ b u q _=>⟨u,k b u q⟩
 uW:=λ b xs q=>by rw[yq (t8 q hn)];exact q
 sO:=λ b u xs q=>by rw[yq (t8 q hn)];exact q
 rB:=λ b ps q=>⟨#[],by rw[yq (t8 q hn),q];simp⟩
def Un.write (mu:mY (H x)) (he:e=x\/H e=some (.own x)) (k:∀ b u,b≠e->h.get? b=some u->h'.get? b=some u) (CU:∃ u,h'.get? e=some u):Un fs ex H (upd H x o) h h':=by
 have hx:∀ b,H b=none->b≠x:=λ b n z=>by subst z;rw[n] at mu;exact mu
 have hb:∀ b,H b=none->b≠e:=λ b n z=>by
  subst z
  rcases he with r | r
  ·exact hx b n r
  ·rw[n] at r;cases r
 have hm:∀ b u,H b=some u->¬ mY (some u)->b≠x:=λ b u q nm z=>by subst z;rw[q] at mu;exact nm mu
 refine⟨λ b u q n _ _=>k b u (hb b n) q,λ b u q n _ _=>⟨u.slots,k b u (hb b n) q⟩,λ b u q n _=>by rw[yq (hx b n)];exact n,λ b u q _=>?_,
  λ b xs q=>by rw[yq (hm b _ q λ z=>z)];exact q,λ b u xs q=>by rw[yq (hm b _ q λ z=>z)];exact q,λ b ps q=>⟨#[],by rw[yq (hm b _ q λ z=>z),q];simp⟩⟩
 by_cases BJ:b=e
 ·subst BJ;exact CU
 ·exact⟨u,k b u BJ q⟩
end
noncomputable def lM (h:Heap) (H:Hp):List Addr:=(List.range h.objs.size).filter λ a=>(H a).isSome
def sN (h:Heap) (H:Hp):Heap:=PySem.W.hideAll h (lM h H)
def Og (h:Heap) (H:Hp):(sN h H).objs.size=h.objs.size:=PySem.W.hideAll_size _ _
def Oh {h:Heap}{H:Hp}{b:Addr}{o:Obj}(e:h.get? b=some o) (n:H b=none):(sN h H).get? b=some o:=
 PySem.W.hideAll_get _ e λ hm=>by
  have q:(H b).isSome=true:=(AW.mp hm).2
  rw[n] at q;simp at q
def Q4 {h:Heap}{H:Hp}{b:Addr}{o:Obj}(e:(sN h H).get? b=some o):h.get? b=some o/\H b=none:=by
 have e':h.get? b=some o:=PySem.W.of_hideAll (lM h H) e
 refine⟨e',?_⟩
 cases q:H b with
 | none=>rfl
 | some x=>
  have hm:b∈lM h H:=AW.mpr ⟨Az.mpr (Ap e'),by simp[q]⟩
  have z:(sN h H).get? b=none:=PySem.W.hideAll_none (lM h H) hm
  rw[z] at e;cases e
structure Mod (K:Ab) (mg:AG) (base:Heap):Prop where
 fg:K.In base
 glob:base.Ns mainGlobals mg
 blt:∃ mb,base.Ns builtinsNs mb/\∀ x:Str,x≠"__name__"->mb x=bootBuiltins x
 nolimit:base.NoLimit
structure Cx where
 prog:Program
 w:World
 K:Ab
 mg:Str->Option Value
 base:Heap
 A:Around
 N:List Str
 s₀:Shared
 H₀:Hp
 env:Env
 outer:List Env
 stack:List Env
 ex:List Addr
 fn:Str->Bool
 calm:Bool
 pn:Ag
 xe:Ad
noncomputable def vA (l:List Env):List Addr:=l.filterMap (·.frame)
abbrev Cx.fs (X:Cx):List Addr:=vA X.outer
def j6 (sc:Scope) (x:Str):Prop:=sc.names.lookup x=some .local\/sc.names.lookup x=some .cell\/sc.names.lookup x=some .free
def Loc (sc:Scope) (x:Str):Prop:=sc.names.lookup x=some .local\/sc.names.lookup x=some .cell
def Look (env:Env) (h:Heap) (m:AG) (x:Str) (u:Value):Prop:=
 (env.kindOf x=some .local/\m x=some u)\/((env.kindOf x=some .cell\/env.kindOf x=some .free)/\∃ c,env.cells.lookup x=some c/\h.IsCell c (some u))
structure Cx.Ok (X:Cx):Prop where
 mod:Mod X.K X.mg X.base
 kind:X.env.scope.kind=.function
 glob:X.env.globals=mainGlobals
 blt:X.env.builtins=builtinsNs
 above:X.s₀.heap.objs.size<=X.env.locals
 inj:∀ x y c,X.env.cells.lookup x=some c->X.env.cells.lookup y=some c->x=y
 has:∀ x,(X.env.kindOf x=some .cell\/X.env.kindOf x=some .free)->∃ c,X.env.cells.lookup x=some c
 mz:∀ x c,X.fn x=true->X.env.cells.lookup x=some c->X.s₀.heap.objs.size<=c
 hd:X.calm=true->X.A.handled=none
 frames:X.A.frames=some X.stack
 lP:X.stack=X.outer\/(X.stack=X.env::X.outer/\X.env.frame=some X.env.locals)
 fO:∀ b∈X.ex,b≠X.env.locals/\∀ x c,X.env.cells.lookup x=some c->c≠b
 bs:∀ b o,X.base.get? b=some o->X.s₀.heap.get? b=some o/\X.H₀ b=none
 qH:X.base.objs.size<=X.s₀.heap.objs.size
 nG:∀ b o,X.base.get? b=some o->b∉X.ex
 mf:∀ b∈X.ex,b∉X.fs
 uE:X.s₀.heap.FunFrames X.base X.outer
 pO:∀ b∈X.fs,X.H₀ b=none
structure Inv (X:Cx) (EH:Ag) (B:List (Option V)) (H:Hp) (s:Shared):Prop where
 ok:X.Ok
 os:s.os=X.s₀.os
 bare:AllBare s.gens
 base:Un X.fs X.ex X.H₀ H X.s₀.heap s.heap
 loc:∃ m,s.heap.Ns X.env.locals m/\∀ (i:Nat) (x:Str) (v:V),X.N[i]?=some x->B[i]?=some (some v)->j6 X.env.scope x->∃ u,RelV v u/\Look X.env s.heap m x u
 cell:∀ x c,X.env.cells.lookup x=some c->∃ v,s.heap.IsCell c v
 free:H X.env.locals=none
 tI:∀ x c,X.env.cells.lookup x=some c->H c=none
 pin:∀ p∈X.pn++EH,s.heap.get? p.1=some p.2/\H p.1=none/\p.1≠X.env.locals/\p.1∉X.fs/\∀ v,p.2.data≠.cell v
 zC:yQ X.prog X.w H s.heap
 len:B.length=X.N.length
section
variable {X:Cx}{EH:Ag}{B:List (Option V)}{H H':Hp}{s:Shared}{h':Heap}
def Cx.Ok.Q9 (ok:X.Ok) {b:Addr}{o:Obj}(e:X.base.get? b=some o):b∉X.fs:=λ hb=>by
 have:=(ok.uE.mem hb).1
 rw[e] at this;cases this
theorem Inv.bs (I:Inv X EH B H s):∀ b o,X.base.get? b=some o->s.heap.get? b=some o/\H b=none:=λ b o e=>
 ⟨I.base.keep b o (I.ok.bs b o e).1 (I.ok.bs b o e).2 (I.ok.Q9 e) (I.ok.nG b o e),I.base.free b o (I.ok.bs b o e).1 (I.ok.bs b o e).2 (I.ok.nG b o e)⟩
def Inv.bk (I:Inv X EH B H s):∀ b o,X.base.get? b=some o->s.heap.get? b=some o:=λ b o e=>(I.bs b o e).1
theorem Inv.mod (I:Inv X EH B H s):Mod X.K X.mg X.base:=I.ok.mod
def Inv.v8 (I:Inv X EH B H s):X.K.In s.heap:=I.ok.mod.fg.keeps I.bk
theorem Inv.lt (I:Inv X EH B H s):X.env.locals<s.heap.objs.size:=let ⟨_,hn,_⟩:=I.loc;hn.lt
def Inv.sz (I:Inv X EH B H s):X.s₀.heap.objs.size<=s.heap.objs.size:=A8 I.ok.above (BE I.lt)
def Inv.aG (I:Inv X EH B H s) {a:Addr}(h:s.heap.objs.size<=a):a∉X.fs:=λ hb=>by
 obtain⟨_,o,ho,_⟩:=I.ok.uE.mem hb
 exact absurd (A_ (Ap ho) (A8 I.sz h)) (BX _)
def Inv.qF (I:Inv X EH B H s):∀ x c,X.env.cells.lookup x=some c->c≠X.env.locals:=λ x c e z=>by
 obtain⟨v,o,ho,hd⟩:=I.cell x c e
 obtain⟨m,⟨o',es,ep,F7,Hg,_⟩,_⟩:=I.loc
 rw[z,F7] at ho;cases ho;rw[Hg] at hd;cases hd
theorem Inv.uE (I:Inv X EH B H s):s.heap.FunFrames X.base X.outer:=by
 have all:∀ (l:List Env),(∀ b∈vA l,b∈X.fs)->X.s₀.heap.FunFrames X.base l->s.heap.FunFrames X.base l:=by
  intro l
  induction l with
  | nil=>intro _ _;trivial
  | cons env r ih=>
   intro hs hl
   obtain⟨hk,⟨L,o,hf,hn,ho,hd⟩,hr⟩:=hl
   have hL:L∈X.fs:=hs L (by unfold vA;rw[Cs,hf];exact Ao)
   obtain⟨sl,e⟩:=I.base.slot L o ho (I.ok.pO L hL) hL λ z=>I.ok.mf L z hL
   exact⟨hk,⟨L,_,hf,hn,e,hd⟩,ih (λ b hb=>hs b (by unfold vA;rw[Cs,hf];exact Av _ hb)) hr⟩
 exact all X.outer (λ _ hb=>hb) I.ok.uE
theorem Inv.stack (I:Inv X EH B H s):s.heap.FunFrames X.base X.stack:=by
 rcases I.ok.lP with e | ⟨e,hf⟩
 ·rw[e];exact I.uE
 ·rw[e]
  obtain⟨m,hn,_⟩:=I.loc
  refine .cons (by rw[I.ok.kind];decide) hf hn ?_ I.uE
  exact Heap.get?_none_of_le (A8 I.ok.qH I.ok.above)
def Inv.iz (I:Inv X EH B H s):∀ b∈vA X.stack,b∈X.env.locals::X.fs:=λ b hb=>by
 rcases I.ok.lP with e | ⟨e,hf⟩
 ·rw[e] at hb;exact Av _ hb
 ·rw[e] at hb
  unfold vA at hb
  rw[Cs,hf] at hb
  exact hb
def Inv.cH (I:Inv X EH B H s):∀ b∈vA X.stack,H b=none:=λ b hb=>by
 rcases Aj.mp (I.iz b hb) with e | hb
 ·rw[e];exact I.free
 ·obtain⟨_,o,ho,_⟩:=I.ok.uE.mem hb
  exact I.base.free b o ho (I.ok.pO b hb) λ z=>I.ok.mf b z hb
def Inv.step {g':Array GenState}{t':Nat}{d':Drawn}{ch:List Addr}(I:Inv X EH B H s)
  (BV:∀ b∈ch,(b∈X.ex\/X.s₀.heap.objs.size<=b)/\b≠X.env.locals/\(∀ x c,X.env.cells.lookup x=some c->c≠b)/\∀ p∈X.pn++EH,p.1≠b)
  (keep:∀ b o,b≠X.env.locals->b∉X.fs->b∉ch->s.heap.get? b=some o->H b=none->h'.get? b=some o)
  (slot:∀ b o,b≠X.env.locals->b∈X.fs->b∉ch->s.heap.get? b=some o->H b=none->∃ sl,h'.get? b=some { o with slots:=sl }) (free:∀ b o,b∉ch->s.heap.get? b=some o->H b=none->H' b=none)
  (there:∀ b o,b∉ch->s.heap.get? b=some o->∃ o',h'.get? b=some o')
  (uW:∀ b xs,H b=some (.tup xs)->H' b=some (.tup xs)) (sO:∀ b o u,H b=some (.wb o u)->H' b=some (.wb o u)) (rB:∀ b ps,H b=some (.qo ps)->∃ more,H' b=some (.qo (ps++more)))
  (ns:∀ m,s.heap.Ns X.env.locals m->h'.Ns X.env.locals m) (zC:yQ X.prog X.w H' h') (hg:AllBare g'):
  Inv X EH B H' { s with heap:=h',gens:=g',drawn:=d',toks:=t' }:=by
 have neL:∀ b o,X.s₀.heap.get? b=some o->b≠X.env.locals:=λ b o e=>Aw (A_ (Ap e) I.ok.above)
 have Jo:∀ b o,X.s₀.heap.get? b=some o->b∉X.ex->b∉ch:=λ b o e hx hb=>by
  rcases (BV b hb).1 with z | z
  ·exact hx z
  ·exact absurd (A_ (Ap e) z) (BX _)
 have cellK:∀ x c,X.env.cells.lookup x=some c->∀ v,s.heap.IsCell c v->h'.IsCell c v:=λ x c e v ⟨o,ho,hd⟩=>by
  have II:c∉ch:=λ z=>(BV c z).2.2.1 x c e rfl
  by_cases hc:c∈X.fs
  ·obtain⟨sl,q⟩:=slot c o (I.qF x c e) hc II ho (I.tI x c e)
   exact⟨_,q,hd⟩
  ·exact⟨o,keep c o (I.qF x c e) hc II ho (I.tI x c e),hd⟩
 refine⟨I.ok,I.os,hg,⟨λ b o e n hb hx=>?_,λ b o e n hb hx=>?_,λ b o e n hx=>?_,λ b o e hx=>?_,λ b xs e=>uW b xs (I.base.uW b xs e),λ b o xs e=>sO b o xs (I.base.sO b o xs e),λ b ps e=>?_⟩,?_,λ x c e=>?_,?_,λ x c e=>?_,λ p hp=>?_,zC,I.len⟩
 ·exact keep b o (neL b o e) hb (Jo b o e hx) (I.base.keep b o e n hb hx) (I.base.free b o e n hx)
 ·obtain⟨sl,e1⟩:=I.base.slot b o e n hb hx
  obtain⟨sl',e2⟩:=slot b _ (neL b o e) hb (Jo b o e hx) e1 (I.base.free b o e n hx)
  exact⟨sl',e2⟩
 ·obtain⟨o',e1⟩:=I.base.there b o e hx
  exact free b o' (Jo b o e hx) e1 (I.base.free b o e n hx)
 ·obtain⟨o',e1⟩:=I.base.there b o e hx
  exact there b o' (Jo b o e hx) e1
 ·obtain⟨m1,e1⟩:=I.base.rB b ps e
  obtain⟨m2,e2⟩:=rB b _ e1
  exact⟨m1++m2,by rw[e2,Array.append_assoc]⟩
 ·obtain⟨m,hn,hl⟩:=I.loc
  refine⟨m,ns m hn,λ i x v e1 e2 e3=>?_⟩
  obtain⟨u,r,l⟩:=hl i x v e1 e2 e3
  refine⟨u,r,?_⟩
  rcases l with l | ⟨k,c,e,z⟩
  ·exact .inl l
  ·exact .inr ⟨k,c,e,cellK x c e _ z⟩
 ·obtain⟨v,z⟩:=I.cell x c e
  exact⟨v,cellK x c e v z⟩
 ·obtain⟨m,⟨o,_,_,ho,_⟩,_⟩:=I.loc
  exact free _ o (λ z=>(BV _ z).2.1 rfl) ho I.free
 ·obtain⟨v,o,ho,hd⟩:=I.cell x c e
  exact free c o (λ z=>(BV c z).2.2.1 x c e rfl) ho (I.tI x c e)
 ·obtain⟨e,n,ne,nf,d⟩:=I.pin p hp
  have II:p.1∉ch:=λ z=>(BV p.1 z).2.2.2 p hp rfl
  exact⟨keep p.1 p.2 ne nf II e n,free p.1 p.2 II e n,ne,nf,d⟩
def Inv.un {t':Nat}(I:Inv X EH B H s) (u:Un X.fs [] H H' s.heap h') (zC:yQ X.prog X.w H' h'):Inv X EH B H' { s with heap:=h',toks:=t' }:=by
 obtain⟨m,⟨o,es,ep,ho,r⟩,_⟩:=id I.loc
 obtain⟨sl,hL⟩:=u.any ho I.free (by simp)
 exact I.step (g':=s.gens) (d':=s.drawn) (ch:=[]) (λ _ z=>nomatch z) (λ b o _ hb _ e n=>u.keep b o e n hb (by simp)) (λ b o _ hb _ e n=>u.slot b o e n hb (by simp)) (λ b o _ e n=>u.free b o e n (by simp)) (λ b o _ e=>u.there b o e (by simp)) u.uW u.sO u.rB (λ m' hm=>by
  obtain⟨o',F8,Kl,F7,r'⟩:=hm
  rw[ho] at F7;cases F7
  exact⟨_,F8,Kl,hL,r'⟩) zC I.bare
def Inv.call {g':Array GenState}{t':Nat}{d':Drawn}{ch:List Addr}(I:Inv X EH B H s) (u:Un (vA X.stack) ch H H' s.heap h') (zC:yQ X.prog X.w H' h') (hg:AllBare g')
  (BV:∀ b∈ch,(b∈X.ex\/X.s₀.heap.objs.size<=b)/\b≠X.env.locals/\(∀ x c,X.env.cells.lookup x=some c->c≠b)/\∀ p∈X.pn++EH,p.1≠b):
  Inv X EH B H' { s with heap:=h',gens:=g',drawn:=d',toks:=t' }:=by
 obtain⟨m,⟨o,es,ep,ho,r⟩,_⟩:=id I.loc
 obtain⟨sl,hL⟩:=u.any ho I.free λ z=>(BV _ z).2.1 rfl
 exact I.step (ch:=ch) BV (λ b o hL hb hc e n=>u.keep b o e n (λ z=>(Aj.mp (I.iz b z)).elim hL hb) hc) (λ b o _ _ hc e n=>u.any e n hc) (λ b o hc e n=>u.free b o e n hc) (λ b o hc e=>u.there b o e hc) u.uW u.sO u.rB (λ m' hm=>by
  obtain⟨o',F8,Kl,F7,r'⟩:=hm
  rw[ho] at F7;cases F7
  exact⟨_,F8,Kl,hL,r'⟩) zC hg
def Inv.turned {t':Nat}{it:Addr}(I:Inv X EH B H s) (k:∀ b o,b≠it->s.heap.get? b=some o->h'.get? b=some o) (hn:H it=none) (hL:it≠X.env.locals)
  (h1:it∈X.ex\/X.s₀.heap.objs.size<=it) (h2:∀ x c,X.env.cells.lookup x=some c->c≠it) (h3:∀ p∈X.pn++EH,p.1≠it):Inv X EH B H { s with heap:=h',toks:=t' }:=by
 have IH:∀ b u,H b=some u->b≠it:=λ b u e z=>by rw[z,hn] at e;cases e
 refine I.step (g':=s.gens) (d':=s.drawn) (ch:=[it]) (λ b hb=>?_) (λ b o _ _ hc e _=>k b o (λ z=>hc (by simp[z])) e) (λ b o _ _ hc e _=>⟨o.slots,k b o (λ z=>hc (by simp[z])) e⟩) (λ _ _ _ _ n=>n)
  (λ b o hc e=>⟨o,k b o (λ z=>hc (by simp[z])) e⟩) (λ _ _ e=>e) (λ _ _ _ e=>e) (λ b ps e=>⟨#[],by rw[e];simp⟩) (λ m hm=>?_) (λ b u e=>?_) I.bare
 ·have e:b=it:=by simpa using hb
  subst e
  exact⟨h1,hL,h2,h3⟩
 ·obtain⟨o,es,ep,ho,r⟩:=hm
  exact⟨o,es,ep,k _ o (Ne.symm hL) ho,r⟩
 ·refine (I.zC b u e).se (λ c v hc q=>k c v ?_ q) (λ _ q=>q) λ _ _ q=>q
  rcases hc with z | z
  ·rw[z];exact IH b u e
  ·exact IH c _ z
def Inv.tok (I:Inv X EH B H s) (t:Nat):Inv X EH B H { s with toks:=t }:=I.un (h':=s.heap) (t':=t) Un.refl I.zC
theorem Inv.kept {t':Nat}(I:Inv X EH B H s) (k:∀ b u,s.heap.get? b=some u->h'.get? b=some u):Inv X EH B H { s with heap:=h',toks:=t' }:=I.un (Un.kept k) (I.zC.kept k)
theorem Inv.laid {a:Addr}{o:HO}{t':Nat}(I:Inv X EH B H s) (k:∀ b u,s.heap.get? b=some u->h'.get? b=some u) (hp:s.heap.objs.size<=a) (new:yW X.prog X.w (upd H a o) h' a o):
  Inv X EH B (upd H a o) { s with heap:=h',toks:=t' }:=I.un (Un.laid k hp (I.zC.fresh hp)) (I.zC.laid k hp new)
theorem Inv.write {x e:Addr}{o:HO}{t':Nat}(I:Inv X EH B H s) (mu:mY (H x)) (he:e=x\/H e=some (.own x)) (k:∀ b u,b≠e->s.heap.get? b=some u->h'.get? b=some u) (CU:∃ u,h'.get? e=some u)
  (new:yW X.prog X.w (upd H x o) h' x o):Inv X EH B (upd H x o) { s with heap:=h',toks:=t' }:=I.un (Un.write mu he k CU) (I.zC.write mu he k CU new)
def Inv.gr {Hx:Ag}(I:Inv X EH B H s) (h:∀ p∈Hx,s.heap.get? p.1=some p.2/\H p.1=none/\p.1≠X.env.locals/\p.1∉X.fs/\∀ v,p.2.data≠.cell v):Inv X Hx B H s:=
 ⟨I.ok,I.os,I.bare,I.base,I.loc,I.cell,I.free,I.tI,λ p hp=>(AY.mp hp).elim (λ z=>I.pin p (Cr _ z)) (h p),I.zC,I.len⟩
def aI {N:List Str}(hN:N.Nodup) {i j:Nat}{x:Str}(a:N[i]?=some x) (b:N[j]?=some x):i=j:=by
 obtain⟨h1,e1⟩:=AL.mp a
 obtain⟨h2,e2⟩:=AL.mp b
 exact (List.getElem_inj hN).mp (e1.trans e2.symm)
def WM {M:Model}{A:Around}{E:Ad}{i:Nat}{x:Str}{v:V}{u:Value}{Q:Unit->Shared->Prop}(I:Inv X EH B H s) (hN:X.N.Nodup) (hi:X.N[i]?=some x) (hx:Loc X.env.scope x) (r:RelV v u)
  (h:∀ s',Inv X EH (B.set i (some v)) H s'->(∃ a,Heap.SameBut a s.heap s'.heap/\(a=X.env.locals\/X.env.cells.lookup x=some a))->Q () s') (hf:X.fn x=true\/X.env.scope.names.lookup x=some .local:=by first | exact .inl rfl | exact .inr rfl | assumption):wpAny M A (storeName X.env x u) Q E s:=by
 obtain⟨m,hn,hl⟩:=id I.loc
 have ED:(X.env.scope.kind == .class||(X.env.scope.kind == .module&&X.env.locals != X.env.globals))=false:=by rw[I.ok.kind];rfl
 have hiσ:i < B.length:=by rw[I.len];exact (AL.mp hi).1
 have qF:=I.qF
 have tracked:∀ {a:Addr}{h':Heap},(∃ o,s.heap.get? a=some o/\H a=none)->Heap.SameBut a s.heap h'->yQ X.prog X.w H h':=λ{a h'} ha hs b ob e=>by
  obtain⟨_,_,HD⟩:=ha
  refine (I.zC b ob e).se (λ c w' hc q=>(hs.2 c ?_).trans q) (λ _ q=>q) λ _ _ q=>q
  rintro rfl
  rcases hc with rfl | hc
  ·rw[HD] at e;cases e
  ·rw[HD] at hc;cases hc
 rcases hx with hk | hk
 ·refine wpAny_storeName_local hk hn (λ h' Jw hs=>?_) ED
  obtain⟨oL,_,_,HA,_⟩:=id hn
  refine h _ ⟨I.ok,I.os,I.bare,⟨λ b o e n hb hx=>?_,λ b o e n hb hx=>?_,I.base.free,λ b o e hx=>?_,I.base.uW,I.base.sO,I.base.rB⟩,⟨_,Jw,λ j y v' e1 e2 e3=>?_⟩,λ y c e=>?_,I.free,I.tI,λ p hp=>?_,tracked ⟨oL,HA,I.free⟩ hs,by simpa using I.len⟩ ⟨_,hs,.inl rfl⟩
  ·exact (hs.2 b (Aw (A_ (Ap e) I.ok.above))).trans (I.base.keep b o e n hb hx)
  ·obtain⟨sl,e1⟩:=I.base.slot b o e n hb hx
   exact⟨sl,(hs.2 b (Aw (A_ (Ap e) I.ok.above))).trans e1⟩
  ·obtain⟨o',e1⟩:=I.base.there b o e hx
   exact⟨o',(hs.2 b (Aw (A_ (Ap e) I.ok.above))).trans e1⟩
  ·by_cases hj:j=i
   ·subst hj
    rw[hi] at e1;cases e1
    rw[List.getElem?_set_self hiσ] at e2
    cases e2
    exact⟨u,r,.inl ⟨hk,by simp⟩⟩
   ·rw[List.getElem?_set_ne (Ne.symm hj)] at e2
    obtain⟨u',r',q⟩:=hl j y v' e1 e2 e3
    refine⟨u',r',?_⟩
    rcases q with ⟨k,e⟩ | ⟨k,c,e,z⟩
    ·refine .inl ⟨k,?_⟩
     have:y≠x:=λ e=>hj (aI hN e1 (e▸hi))
     simp[this,e]
    ·exact .inr ⟨k,c,e,z.sameBut hs (qF y c e)⟩
  ·obtain⟨w',z⟩:=I.cell y c e
   exact⟨w',z.sameBut hs (qF y c e)⟩
  ·obtain⟨e,n,ne,nf,d⟩:=I.pin p hp
   exact⟨(hs.2 p.1 ne).trans e,n,ne,nf,d⟩
 ·have CF:X.fn x=true:=by
   rcases hf with z | z
   ·exact z
   ·rw[z] at hk;cases hk
  obtain⟨c,hc⟩:=I.ok.has x (.inl hk)
  obtain⟨w',z⟩:=I.cell x c hc
  refine wpAny_storeName_cell I.ok.kind hk hc z (λ h' J7 hs=>?_)
  obtain⟨oc,hoc,El⟩:=id z
  refine h { s with heap:=h' } ⟨I.ok,I.os,I.bare,⟨λ b o e n hb hx=>?_,λ b o e n hb hx=>?_,I.base.free,λ b o e hx=>?_,I.base.uW,I.base.sO,I.base.rB⟩,⟨m,hn.sameBut hs (Ne.symm (qF x c hc)),λ j y v' e1 e2 e3=>?_⟩,λ y c' e=>?_,I.free,I.tI,λ p hp=>?_,tracked ⟨oc,hoc,I.tI x c hc⟩ hs,by simpa using I.len⟩ ⟨c,hs,.inr hc⟩
  ·exact (hs.2 b (Aw (A_ (Ap e) (I.ok.mz x c CF hc)))).trans (I.base.keep b o e n hb hx)
  ·obtain⟨sl,e1⟩:=I.base.slot b o e n hb hx
   exact⟨sl,(hs.2 b (Aw (A_ (Ap e) (I.ok.mz x c CF hc)))).trans e1⟩
  ·obtain⟨o',e1⟩:=I.base.there b o e hx
   exact⟨o',(hs.2 b (Aw (A_ (Ap e) (I.ok.mz x c CF hc)))).trans e1⟩
  ·by_cases hj:j=i
   ·subst hj
    rw[hi] at e1;cases e1
    rw[List.getElem?_set_self hiσ] at e2
    cases e2
    exact⟨u,r,.inr ⟨.inl hk,c,hc,J7⟩⟩
   ·rw[List.getElem?_set_ne (Ne.symm hj)] at e2
    obtain⟨u',r',q⟩:=hl j y v' e1 e2 e3
    refine⟨u',r',?_⟩
    rcases q with q | ⟨k,c',e,z'⟩
    ·exact .inl q
    ·refine .inr ⟨k,c',e,z'.sameBut hs ?_⟩
     rintro rfl
     exact hj (aI hN e1 (I.ok.inj _ _ _ e hc▸hi))
  ·by_cases hcc:c'=c
   ·subst hcc;exact⟨_,J7⟩
   ·obtain⟨w2,z2⟩:=I.cell y c' e
    exact⟨w2,z2.sameBut hs hcc⟩
  ·obtain⟨e,n,ne,nf,d⟩:=I.pin p hp
   refine⟨(hs.2 p.1 ?_).trans e,n,ne,nf,d⟩
   intro q
   rw[q,hoc] at e
   have q':oc=p.2:=A5 e
   exact d w' (by rw[<- q'];exact El)
def iy {M:Model}{A:Around}{E:Ad}{i:Nat}{x:Str}{v:V}{u:Value}{Q:Unit->Shared->Prop}(I:Inv X EH B H s) (hN:X.N.Nodup) (hi:X.N[i]?=some x) (hx:Loc X.env.scope x) (r:RelV v u)
  (h:∀ s',Inv X EH (B.set i (some v)) H s'->Q () s') (hf:X.fn x=true\/X.env.scope.names.lookup x=some .local:=by first | exact .inl rfl | exact .inr rfl | assumption):wpAny M A (storeName X.env x u) Q E s:=
 WM I hN hi hx r (λ s' I' _=>h s' I') hf
def Inv.Ma {s':Shared}{ch:List Addr}(I:Inv X EH B H s) (ho:s'.os=s.os) (u:Un (vA X.stack) ch H H' s.heap s'.heap) (zC:yQ X.prog X.w H' s'.heap) (hg:AllBare s'.gens)
  (BV:∀ b∈ch,(b∈X.ex\/X.s₀.heap.objs.size<=b)/\b≠X.env.locals/\(∀ x c,X.env.cells.lookup x=some c->c≠b)/\∀ p∈X.pn++EH,p.1≠b):Inv X EH B H' s':=by
 obtain⟨h',g',d',t',o'⟩:=s'
 have e:o'=s.os:=ho
 subst e
 exact I.call (g':=g') (t':=t') (d':=d') u zC hg BV
end
abbrev XK:=Value->Option Addr->Hp->Prop
abbrev St:=List (Option V)
abbrev VK:=V->Hp->Prop
abbrev TE:=St->Hp->VK->Prop
abbrev TT:=St->Hp->(Bool->Hp->Prop)->Prop
abbrev TA:=St->Hp->(List V->Hp->Prop)->Prop
structure Ends where
 nx:St->Hp->Prop
 rt:VK
 bk:St->Hp->Prop:=λ _ _=>False
 ct:St->Hp->Prop:=λ _ _=>False
abbrev TS:=Ends->St->Hp->Prop
def EP (X:Cx) (EH:Ag) (B:St) (Q:VK) (u:Value) (s':Shared):Prop:=∃ v H',Inv X EH B H' s'/\RelV v u/\Q v H'
def TP (X:Cx) (EH:Ag) (B:St) (Q:Bool->Hp->Prop) (b:Bool) (s':Shared):Prop:=∃ H',Inv X EH B H' s'/\Q b H'
def AP (X:Cx) (EH:Ag) (B:St) (Q:List V->Hp->Prop) (us:Af) (s':Shared):Prop:=∃ vs H',Inv X EH B H' s'/\Vals vs us/\Q vs H'
def SP (X:Cx) (EH:Ag) (D:Ends) (f:Flow) (s':Shared):Prop:=
 match f with
 | .next=>∃ B' H',Inv X EH B' H' s'/\D.nx B' H'
 | .brk=>∃ B' H',Inv X EH B' H' s'/\D.bk B' H'
 | .cont=>∃ B' H',Inv X EH B' H' s'/\D.ct B' H'
 | .ret u=>∃ v B' H',Inv X EH B' H' s'/\RelV v u/\D.rt v H'
def PE (X:Cx) (e:Expr) (t:TE):Prop:=
 ∀ (EH:Ag) (s:Shared) (B:St) (H:Hp) (Q:VK),Inv X EH B H s->t B H Q->wpAny (model X.prog X.w) X.A (eval e X.env) (EP X EH B Q) X.xe s
def PT (X:Cx) (e:Expr) (t:TT):Prop:=
 ∀ (EH:Ag) (s:Shared) (B:St) (H:Hp) (Q:Bool->Hp->Prop),Inv X EH B H s->t B H Q->wpAny (model X.prog X.w) X.A (isTrue e X.env (eval e X.env)) (TP X EH B Q) X.xe s
def PW (X:Cx) (e:Expr) (t:TT):Prop:=
 ∀ (whole:Sem Value) (EH:Ag) (s:Shared) (B:St) (H:Hp) (Q:Bool->Hp->Prop),Inv X EH B H s->t B H Q->wpAny (model X.prog X.w) X.A (isTrue e X.env whole) (TP X EH B Q) X.xe s
def PW.pt {X:Cx}{e:Expr}{t:TT}(h:PW X e t):PT X e t:=h _
def PA (X:Cx) (es:List Expr) (t:TA):Prop:=
 ∀ (pos:Pos) (EH:Ag) (s:Shared) (B:St) (H:Hp) (Q:List V->Hp->Prop),Inv X EH B H s->t B H Q->wpAny (model X.prog X.w) X.A (spliced (backTo pos (starEach es X.env))) (AP X EH B Q) X.xe s
def PS (X:Cx) (st:Stmt) (t:TS):Prop:=
 ∀ (EH:Ag) (s:Shared) (B:St) (H:Hp) (D:Ends),Inv X EH B H s->t D B H->wpAny (model X.prog X.w) X.A (exec st X.env) (SP X EH D) X.xe s
def xW (X:Cx) (st:List Stmt) (t:TS):Prop:=
 ∀ (EH:Ag) (s:Shared) (B:St) (H:Hp) (D:Ends),Inv X EH B H s->t D B H->wpAny (model X.prog X.w) X.A (execs st X.env) (SP X EH D) X.xe s
def zE {α:Type}{t:Sem α}{Q Q':α->Shared->Prop}{M:Model}{A:Around}{E:Ad}{s:Shared}(h:wpAny M A t Q E s) (hQ:∀ a s,Q a s->Q' a s):wpAny M A t Q' E s:=Kx h hQ λ _ _ x=>x
section
variable {X:Cx}
def il (i:Nat):TE:=fun B H Q=>∃ v,B[i]?=some (some v)/\Q v H
def tC (v:V):TE:=λ _ H Q=>Q v H
def UP {i:Nat}{x:Str}{pos:Pos}(hN:X.N[i]?=some x) (hv:j6 X.env.scope x) (hd:(x == ("__debug__":Str))=false:=by decide) (Bs:(x == ("__classdict__":Str))=false:=by decide):PE X (.Name x pos) (il i):=by
 intro EH s B H Q I h
 obtain⟨v,e,h⟩:=h
 obtain⟨m,hn,hl⟩:=I.loc
 obtain⟨u,r,l⟩:=hl i x v hN e hv
 have fin:EP X EH B Q u s:=⟨v,H,I,r,h⟩
 rcases l with ⟨hk,hm⟩ | ⟨hk,c,hc,HF⟩
 ·exact wpAny_Name (wpAny_loadName_local I.ok.kind hk hn hm fin) hd
 ·rcases hk with hk | hk
  ·exact wpAny_Name (wpAny_loadName_cell I.ok.kind hk hc HF fin) hd
  ·exact wpAny_Name (wpAny_loadName_free I.ok.kind hk hc HF fin Bs) hd
def Tb {i j pos}:PE X (.Constant (.int i) j pos) (tC (.int i)):=λ _ _ _ H _ I h=>wpAny_Constant_int ⟨.int i,H,I.tok _,⟨_,rfl⟩,h⟩
def Tn {b j pos}:PE X (.Constant (.bool b) j pos) (tC (.bl b)):=λ _ _ _ H _ I h=>Constant_bool ⟨.bl b,H,I,rfl,h⟩
def UY {j pos}:PE X (.Constant .none j pos) (tC .zr):=λ _ _ _ H _ I h=>Constant_none ⟨.zr,H,I,rfl,h⟩
def US {x j pos}:PE X (.Constant (.str x) j pos) (tC (.str x)):=λ _ _ _ H _ I h=>Calls.Constant_str ⟨.str x,H,I.tok _,⟨_,rfl⟩,h⟩
def Gl (X:Cx) (x:Str):Prop:=X.env.kindOf x=some .globalImplicit
def Zf {E:Ad}{EH:Ag}{s:Shared}{B:St}{H:Hp}{x:Str}{u:Value}{pos:Pos}{Q:Ad}(I:Inv X EH B H s) (hg:Gl X x) (hm:X.mg x=some u) (h:Q u s)
  (hd:(x == ("__debug__":Str))=false:=by decide):wpAny (model X.prog X.w) X.A (eval (.Name x pos) X.env) Q E s:=
 Calls.Name_function_global I.ok.kind hg (Calls.loadGlobal_global (by rw[I.ok.glob];exact I.mod.glob.keeps I.bk) hm h) hd
def rO {E:Ad}{EH:Ag}{s:Shared}{B:St}{H:Hp}{x:Str}{u:Value}{pos:Pos}{Q:Ad}(I:Inv X EH B H s) (hg:Gl X x) (hm:X.mg x=none) (hv:bootBuiltins x=some u) (h:Q u s)
  (hn:x≠"__name__":=by decide) (hd:(x == ("__debug__":Str))=false:=by decide):wpAny (model X.prog X.w) X.A (eval (.Name x pos) X.env) Q E s:=by
 obtain⟨mb,h1,h2⟩:=I.mod.blt
 exact Calls.Name_function_global I.ok.kind hg (Calls.loadGlobal_builtin (by rw[I.ok.glob];exact I.mod.glob.keeps I.bk) hm (by rw[I.ok.blt];exact h1.keeps I.bk) ((h2 x hn).trans hv) h) hd
def bS {x:Str}{v:V}{u:Value}{pos:Pos}(hg:Gl X x) (hm:X.mg x=some u) (r:RelV v u) (hd:(x == ("__debug__":Str))=false:=by decide):PE X (.Name x pos) (tC v):=
 λ _ _ _ H _ I h=>Zf I hg hm ⟨v,H,I,r,h⟩ hd
def Tj {x:Str}{v:V}{u:Value}{pos:Pos}(hg:Gl X x) (hm:X.mg x=none) (hv:bootBuiltins x=some u) (r:RelV v u) (hn:x≠"__name__":=by decide) (hd:(x == ("__debug__":Str))=false:=by decide):PE X (.Name x pos) (tC v):=
 λ _ _ _ H _ I h=>rO I hg hm hv ⟨v,H,I,r,h⟩ hn hd
variable {a b:Expr}{ta tb:TE}{pos:Pos}
variable {tA Jl:TT}{EU:List Expr}
def WJ (t u:TT):TT:=fun B H Q=>t B H λ c H1=>if c=true then u B H1 Q else Q false H1
def W4 (t u:TT):TT:=fun B H Q=>t B H λ c H1=>if c=true then Q true H1 else u B H1 Q
def W6 (t:TT):TT:=fun B H Q=>t B H λ c H1=>Q (!c) H1
def Ud (ha:PT X a tA):PW X (.BoolOp .And [a] pos) tA:=by
 intro wh EH s B H Q I h
 refine isTrue_and (zE (ha EH s B H Q I h) λ c s1 e=>?_)
 cases c with
 | true=>exact isTrue_and_nil e
 | false=>exact e
def Ub (ha:PT X a tA):PW X (.BoolOp .Or [a] pos) tA:=by
 intro wh EH s B H Q I h
 refine isTrue_or (zE (ha EH s B H Q I h) λ c s1 e=>?_)
 cases c with
 | false=>exact isTrue_or_nil e
 | true=>exact e
def Ue (ha:PT X a tA) (hb:PW X (.BoolOp .And (b::EU) pos) Jl):PW X (.BoolOp .And (a::b::EU) pos) (WJ tA Jl):=by
 intro wh EH s B H Q I h
 refine isTrue_and (zE (ha EH s B H _ I h) λ c s1 ⟨H1,I1,q1⟩=>?_)
 cases c with
 | true=>exact hb wh EH s1 B H1 Q I1 q1
 | false=>exact⟨H1,I1,q1⟩
def Uc (ha:PT X a tA) (hb:PW X (.BoolOp .Or (b::EU) pos) Jl):PW X (.BoolOp .Or (a::b::EU) pos) (W4 tA Jl):=by
 intro wh EH s B H Q I h
 refine isTrue_or (zE (ha EH s B H _ I h) λ c s1 ⟨H1,I1,q1⟩=>?_)
 cases c with
 | true=>exact⟨H1,I1,q1⟩
 | false=>exact hb wh EH s1 B H1 Q I1 q1
def Uj (ha:PT X a tA):PT X (.UnaryOp .Not a pos) (W6 tA):=by
 intro EH s B H Q I h
 exact isTrue_not (ha EH s B H (λ c H1=>Q (!c) H1) I h)
def WI (ta tb:TE):TE:=fun B H Q=>ta B H λ x H1=>∃ c,x=.bl c/\if c=true then tb B H1 Q else Q (.bl false) H1
def W5 (ta:TE):TE:=fun B H Q=>ta B H λ x H1=>∃ c,x=.bl c/\Q (.bl (!c)) H1
def UW {op} {t:TE}(h:PE X a t):PE X (.BoolOp op [a] pos) t:=λ EH s B H Q I hw=>BoolOp_one (h EH s B H Q I hw)
def Tp (ha:PE X a ta) (hb:PE X (.BoolOp .And (b::EU) pos) tb):PE X (.BoolOp .And (a::b::EU) pos) (WI ta tb):=by
 intro EH s B H Q I h
 refine BoolOp_and (zE (ha EH s B H _ I h) λ v s1 ⟨x,H1,I1,r1,q1⟩=>?_)
 obtain⟨c,rfl,q1⟩:=q1
 cases r1
 refine KG ?_
 cases c with
 | true=>exact hb EH s1 B H1 Q I1 q1
 | false=>exact⟨.bl false,H1,I1,rfl,q1⟩
def UX (ha:PE X a ta):PE X (.UnaryOp .Not a pos) (W5 ta):=by
 intro EH s B H Q I h
 refine UnaryOp_ (zE (ha EH s B H _ I h) λ v s1 ⟨x,H1,I1,r1,q1⟩=>?_)
 obtain⟨c,rfl,q1⟩:=q1
 cases r1
 exact not_of (KG ⟨.bl (!c),H1,I1,rfl,q1⟩)
def WB (t:TT) (ta tb:TE):TE:=fun B H Q=>t B H λ c H1=>if c=true then ta B H1 Q else tb B H1 Q
def Tc {c:Expr}(hc:PT X c tA) (ha:PE X a ta) (hb:PE X b tb):PE X (.IfExp c a b pos) (WB tA ta tb):=by
 intro EH s B H Q I h
 refine wpAny_IfExp (zE (hc EH s B H _ I h) λ d s1 ⟨H1,I1,q1⟩=>?_)
 cases d with
 | true=>exact ha EH s1 B H1 Q I1 q1
 | false=>exact hb EH s1 B H1 Q I1 q1
end
def zM (K:Ab) (H:Hp) (a:Addr) (xs:List V):Prop:=
 Rd H a (.lst xs)\/
  ∃ (o:Obj) (its:Ar) (n:Nat),K.lookup a=some o/\o.cls=.type "list"/\o.dict=none/\o.data=.seq its n/\its.size<=sizeLine/\Vals xs its.toList
def zT (K:Ab) (H:Hp) (a:Addr) (xs:List V):Prop:=
 Rd H a (.tup xs)\/
  ∃ (o:Obj) (its:Ar) (n:Nat),K.lookup a=some o/\o.cls=.type "tuple"/\o.data=.seq its n/\its.size<=sizeLine/\Vals xs its.toList
noncomputable def Ms:Value->Option V
 | .none=>some .zr
 | .bool b=>some (.bl b)
 | .int i _=>some (.int i)
 | .str x _=>some (.str x)
 | .bytes b _=>some (.j4 b)
 | .float b _=>some (.ZR b)
 | .ref a=>some (.ref a)
 | .type n=>some (.ty n)
 | _=>none
def RelV.abs {x:V}{u:Value}(r:RelV x u):Ms u=some x:=by
 cases x with
 | zr=>cases r;rfl
 | bl _=>cases r;rfl
 | ref _=>cases r;rfl
 | ty _=>cases r;rfl
 | _=>obtain⟨t,rfl⟩:=r;rfl
theorem RelV.inj {x y:V}{u:Value}(r:RelV x u) (q:RelV y u):x=y:=A5 (r.abs.symm.trans q.abs)
theorem Vals.inj:∀ {xs ys:List V}{us:Af},Vals xs us->Vals ys us->xs=ys
 | _,_,_,.nil,.nil=>rfl
 | _,_,_,.cons r t,.cons r' t'=>by rw[r.inj r',Vals.inj t t']
section
variable {X:Cx}{EH:Ag}{B:St}{H:Hp}{s:Shared}{a:Addr}{xs ys:List V}
def zM.of {K:Ab}(h:H a=some (.lst xs)):zM K H a xs:=.inl (.inl h)
def zT.of {K:Ab}(h:H a=some (.tup xs)):zT K H a xs:=.inl (.inl h)
def Inv.list (I:Inv X EH B H s) (h:zM X.K H a xs):∃ its:List Value,Vals xs its/\PlainL s.heap a its.toArray/\xs.length<=sizeLine:=by
 rcases h with h | ⟨o,its,n,hk,hc,hd,hs,hz,r⟩
 ·obtain⟨z,its,n,r,e⟩:=h.ok I.zC
  exact⟨its,r,⟨_,n,e,rfl,rfl,rfl⟩,z⟩
 ·refine⟨its.toList,r,⟨o,n,I.v8 a o hk,hc,hd,by simpa using hs⟩,?_⟩
  have e:=r.length
  simp only[Bl] at e
  lia
def Inv.tuple (I:Inv X EH B H s) (h:zT X.K H a xs):∃ its:List Value,Vals xs its/\IsTup s.heap a its.toArray/\xs.length<=sizeLine:=by
 rcases h with h | ⟨o,its,n,hk,hc,hs,hz,r⟩
 ·obtain⟨z,its,r,p⟩:=h.ok I.zC
  exact⟨its,r,p,z⟩
 ·refine⟨its.toList,r,⟨o,I.v8 a o hk,hc,n,by simpa using hs⟩,?_⟩
  have e:=r.length
  simp only[Bl] at e
  lia
def Inv.gX (I:Inv X EH B H s) (h:zM X.K H a xs) (h':zM X.K H a ys):xs=ys:=by
 obtain⟨its,r,⟨o,n,e,_,_,d⟩,_⟩:=I.list h
 obtain⟨AH,r',⟨o',n',e',_,_,d'⟩,_⟩:=I.list h'
 rw[e] at e';cases e'
 rw[d] at d'
 injection d' with d1 _
 have:its=AH:=by simpa using congrArg Array.toList d1
 subst this
 exact r.inj r'
def Inv.ij (I:Inv X EH B H s) (h:zT X.K H a xs) (h':zT X.K H a ys):xs=ys:=by
 obtain⟨its,r,⟨o,e,_,n,d⟩,_⟩:=I.tuple h
 obtain⟨AH,r',⟨o',e',_,n',d'⟩,_⟩:=I.tuple h'
 rw[e] at e';cases e'
 rw[d] at d'
 injection d' with d1 _
 have:its=AH:=by simpa using congrArg Array.toList d1
 subst this
 exact r.inj r'
end
abbrev Cx.uU (X:Cx) (E:Ad):Cx:={ X with xe:=E }
abbrev Cx.rM (X:Cx):Cx:=X.uU λ _ _=>False
theorem Cx.Ok.uU {X:Cx}(ok:X.Ok) (E:Ad):(X.uU E).Ok:=
 ⟨ok.mod,ok.kind,ok.glob,ok.blt,ok.above,ok.inj,ok.has,ok.mz,ok.hd,ok.frames,ok.lP,ok.fO,ok.bs,ok.qH,ok.nG,ok.mf,ok.uE,ok.pO⟩
def Cx.Ok.qY {X:Cx}{E:Ad}(ok:(X.uU E).Ok):X.Ok:=
 ⟨ok.mod,ok.kind,ok.glob,ok.blt,ok.above,ok.inj,ok.has,ok.mz,ok.hd,ok.frames,ok.lP,ok.fO,ok.bs,ok.qH,ok.nG,ok.mf,ok.uE,ok.pO⟩
section
variable {X:Cx}{EH:Ag}{B:St}{H:Hp}{s:Shared}{E:Ad}
theorem Inv.uU (I:Inv X EH B H s) (E:Ad):Inv (X.uU E) EH B H s:=⟨I.ok.uU E,I.os,I.bare,I.base,I.loc,I.cell,I.free,I.tI,I.pin,I.zC,I.len⟩
theorem Inv.qY (I:Inv (X.uU E) EH B H s):Inv X EH B H s:=⟨I.ok.qY,I.os,I.bare,I.base,I.loc,I.cell,I.free,I.tI,I.pin,I.zC,I.len⟩
theorem SP.qY {D:Ends}{f:Flow}{s':Shared}(h:SP (X.uU E) EH D f s'):SP X EH D f s':=by
 cases f with
 | ret u=>obtain⟨v,B',H',I,r,q⟩:=h;exact⟨v,B',H',I.qY,r,q⟩
 | _=>obtain⟨B',H',I,q⟩:=h;exact⟨B',H',I.qY,q⟩
theorem xW.rM {st:List Stmt}{t:TS}(h:xW X.rM st t):xW X st t:=λ EH s B H D I hw=>
 Kx (h EH s B H D (I.uU _) hw) (λ _ _ q=>q.qY) λ _ _ z=>False.elim z
end
section
variable {X:Cx}{st:Stmt}{EU:List Stmt}{t u:TS}{e:Expr}{te:TE}{pos:Pos}
def W8:TS:=λ D B H=>D.nx B H
def W0 (t u:TS):TS:=λ D B H=>t { D with nx:=u D } B H
def Uo:xW X [] W8:=λ _ _ B H _ I h=>wpAny_execs_nil ⟨B,H,I,h⟩
def Uq (h1:PS X st t) (h2:xW X EU u):xW X (st::EU) (W0 t u):=by
 intro EH s B H D I h
 refine wpAny_execs_cons (zE (h1 EH s B H { D with nx:=u D } I h) λ f s1 q=>?_)
 cases f with
 | next=>
  obtain⟨B',H',I',q⟩:=q
  exact h2 EH s1 B' H' D I' q
 | ret v=>exact q
 | _=>exact q
def Um (h1:PS X st t):xW X [st] t:=by
 intro EH s B H D I h
 refine wpAny_execs_cons (zE (h1 EH s B H D I h) λ f s1 q=>?_)
 cases f with
 | next=>exact wpAny_execs_nil q
 | ret v=>exact q
 | _=>exact q
def Inv.quiet {EH:Ag}{B:St}{H:Hp}{s:Shared}(I:Inv X EH B H s):interactive X.env=false:=by simp[interactive,I.ok.kind]
def WD (te:TE):TS:=λ D B H=>te B H λ _ H1=>D.nx B H1
def Ux (he:PE X e te) (hs:swapsWith e none pos.line X.env=pure false:=by rfl):PS X (.Expr e pos) (WD te):=by
 intro EH s B H D I h
 exact wpAny_Expr_any (zE (he EH s B H _ I h) λ v s1 ⟨x,H1,I1,r1,q1⟩=>⟨B,H1,I1,q1⟩) I.quiet hs
def W2 (te:TE):TS:=λ D B H=>te B H D.rt
def Uu (he:PE X e te):PS X (.Return (some e) pos) (W2 te):=by
 intro EH s B H D I h
 exact wpAny_Return_some (zE (he EH s B H _ I h) λ v s1 ⟨x,H1,I1,r1,q1⟩=>⟨x,B,H1,I1,r1,q1⟩)
def WA (c:TT) (t u:TS):TS:=λ D B H=>c B H λ b H1=>if b=true then t D B H1 else u D B H1
def Uv {c:Expr}{a b:List Stmt}{tc:TT}(hc:PT X c tc) (ha:xW X a t) (hb:xW X b u):PS X (.If c a b pos) (WA tc t u):=by
 intro EH s B H D I h
 refine wpAny_If (zE (hc EH s B H _ I h) λ d s1 ⟨H1,I1,q1⟩=>?_)
 cases d with
 | true=>exact ha EH s1 B H1 D I1 q1
 | false=>exact hb EH s1 B H1 D I1 q1
end
abbrev TG:=V->St->Hp->(St->Hp->Prop)->Prop
abbrev sX:=List V->St->Hp->(St->Hp->Prop)->Prop
def PG (X:Cx) (target:Expr) (t:TG):Prop:=
 ∀ (EH:Ag) (s:Shared) (B:St) (H:Hp) (v:V) (u:Value) (Q:St->Hp->Prop),Inv X EH B H s->RelV v u->t v B H Q->
  wpAny (model X.prog X.w) X.A (assign target X.env u) (λ _ s'=>∃ B' H',Inv X EH B' H' s'/\Q B' H') X.xe s
def tV (X:Cx) (ts:List Expr) (t:sX):Prop:=
 ∀ (EH:Ag) (s:Shared) (B:St) (H:Hp) (vs:List V) (us:Af) (Q:St->Hp->Prop),Inv X EH B H s->Vals vs us->t vs B H Q->
  wpAny (model X.prog X.w) X.A (assignInOrder ((assignEach ts X.env).map (·.2)) us) (λ _ s'=>∃ B' H',Inv X EH B' H' s'/\Q B' H') X.xe s
abbrev eO:=V->V->V->Hp->(Hp->Prop)->Prop
def YY (X:Cx) (t:eO):Prop:=
 ∀ (EH:Ag) (s:Shared) (B:St) (H:Hp) (o i v:V) (ov iv u:Value) (Q:Hp->Prop),Inv X EH B H s->RelV o ov->RelV i iv->RelV v u->t o i v H Q->
  wpAny (model X.prog X.w) X.A (setItem ov iv u) (λ _ s'=>∃ H',Inv X EH B H' s'/\Q H') X.xe s
section
variable {X:Cx}{pos:Pos}
noncomputable def pN (i:Nat):TG:=λ v B H Q=>Q (B.set i (some v)) H
def UL {i:Nat}{x:Str}(hN:X.N.Nodup) (hi:X.N[i]?=some x) (hx:Loc X.env.scope x) (hf:X.fn x=true\/X.env.scope.names.lookup x=some .local:=by first | exact .inl rfl | exact .inr rfl | assumption):PG X (.Name x pos) (pN i):=by
 intro EH s B H v u Q I r h
 exact wpAny_assign_Name (iy I hN hi hx r (λ s' I'=>⟨_,H,I',h⟩) hf)
noncomputable def O7:sX:=λ vs B H Q=>vs=[]/\Q B H
noncomputable def O8 (t:TG) (u:sX):sX:=λ vs B H Q=>∃ v r,vs=v::r/\t v B H fun B' H'=>u r B' H' Q
def UH:tV X [] O7:=by
 intro EH s B H vs us Q I r h
 obtain⟨e,h⟩:=h
 subst e
 cases r
 exact assignInOrder_nil ⟨B,H,I,h⟩
def UI {e:Expr}{es:List Expr}{t:TG}{u:sX}(h1:PG X e t) (h2:tV X es u)
  (hs:(assignEach (e::es) X.env).map (·.2)=assign e X.env::(assignEach es X.env).map (·.2):=by rfl):tV X (e::es) (O8 t u):=by
 intro EH s B H vs us Q I r h
 obtain⟨v,vr,e1,h⟩:=h
 subst e1
 cases r with
 | cons r rr=>
  rw[hs]
  refine assignInOrder_cons (zE (h1 EH s B H _ _ _ I r h) λ _ s1 ⟨B1,H1,I1,q1⟩=>?_)
  exact h2 EH s1 B1 H1 _ _ Q I1 rr q1
noncomputable def ZM (K:Ab) (n:Nat) (t:sX):TG:=λ v B H Q=>∃ a xs,v=.ref a/\zT K H a xs/\xs.length=n/\t xs B H Q
def UJ {es:List Expr}{k:Nat}{t:sX}{n:Nat}(hc:X.calm=true) (h:tV X es t)
  (hn:(assignEach es X.env).length=n:=by rfl) (AV:(assignEach es X.env).findIdx? (·.1)=none:=by rfl):PG X (.Tuple es k pos) (ZM X.K n t):=by
 intro EH s B H v u Q I r hw
 obtain⟨a,xs,e1,hq,hl,hw⟩:=hw
 subst e1
 cases r
 obtain⟨its,rv,ht,hz⟩:=I.tuple hq
 refine assign_Tuple_tuple (I.ok.hd hc) ht (by simp[hn,<- hl,rv.length]) AV λ h' hx=>?_
 have I1:Inv X EH B H { s with heap:=h' }:=I.kept (t':=s.toks) λ b o e=>hx b o (Aw (Ap e)) e
 exact h EH _ B H xs _ Q I1 (by simpa using rv) hw
noncomputable def O6 (to ti:TE) (t:eO):TG:=λ v B H Q=>to B H λ o H1=>ti B H1 λ i H2=>t o i v H2 λ H3=>Q B H3
def UK {o i:Expr}{to ti:TE}{t:eO}(ho:PE X o to) (hi:PE X i ti) (hs:YY X t)
  (ha:∀ v,assign (.Subscript o i pos) X.env v=(do
   let ov <- holding [v] (eval o X.env)
   let iv <- holding [v,ov] (eval i X.env)
   standAt pos
   holding [v,ov,iv] (setItem ov iv v)
   release [v,ov,iv] []):=by intro _;rfl):PG X (.Subscript o i pos) (O6 to ti t):=by
 intro EH s B H v u Q I r h
 rw[ha]
 refine JC (Kt (zE (ho EH s B H _ I h) λ ov s1 ⟨x,H1,I1,r1,q1⟩=>?_))
 refine JC (Kt (zE (hi EH s1 B H1 _ I1 q1) λ iv s2 ⟨y,H2,I2,r2,q2⟩=>?_))
 refine JC (wpAny_standAt (JC (Kt (zE (hs EH s2 B H2 x y v ov iv u _ I2 r1 r2 r q2) λ _ s3 ⟨H3,I3,q3⟩=>?_))))
 exact wpAny_release ⟨B,H3,I3,q3⟩
def lO (te:TE) (g:TG):TS:=λ D B H=>te B H λ x H1=>g x B H1 D.nx
def Uz {tg e:Expr}{te:TE}{g:TG}(he:PE X e te) (hg:PG X tg g) (hs:swapsWithSole [tg] e pos.line X.env=pure false:=by rfl) (hw:swappedStores [tg] e X.env=pure none:=by rfl)
  (h1:(assignEach [tg] X.env).map (·.2)=[assign tg X.env]:=by rfl):PS X (.Assign [tg] e pos) (lO te g):=by
 intro EH s B H D I h
 refine wpAny_Assign_stores (zE (he EH s B H _ I h) λ v s1 ⟨x,H1,I1,r1,q1⟩=>?_) hs hw
 rw[h1]
 exact zE (hg EH s1 B H1 x v _ I1 r1 q1) λ _ s2 q=>q
def Ut {i:Nat}{x:Str}{e:Expr}{te:TE}{pos':Pos}(hN:X.N.Nodup) (hi:X.N[i]?=some x) (hx:Loc X.env.scope x) (he:PE X e te) (hs:swapsWith e (some (.Name x pos')) pos.line X.env=pure false:=by rfl) (hf:X.fn x=true\/X.env.scope.names.lookup x=some .local:=by first | exact .inl rfl | exact .inr rfl | assumption):
  PS X (.Assign [.Name x pos'] e pos) (lO te (pN i)):=by
 intro EH s B H D I h
 refine wpAny_Assign_Name (zE (he EH s B H _ I h) λ v s1 ⟨y,H1,I1,r1,q1⟩=>?_) hs
 exact iy I1 hN hi hx r1 (λ s2 I2=>⟨_,H1,I2,q1⟩) hf
def Wv (c:TT) (tb:TS):TS:=λ D B H=>∃ W:Nat->St->Hp->Prop,(∃ m,W m B H)/\∀ m B H,W m B H->
 c B H λ b H1=>if b=true then ∃ N:St->Hp->Prop,(∀ B' H',N B' H'->∃ m',m'<m/\W m' B' H')/\tb { D with nx:=N,ct:=N,bk:=D.nx } B H1 else D.nx B H1
def Ur {c:Expr}{body:List Stmt}{tc:TT}{tb:TS}(hp:PassesOwn (model X.prog X.w) X.A X.env X.xe) (hc:PT X c tc) (hb:xW X body tb):PS X (.While c body [] pos) (Wv tc tb):=by
 intro EH s B H D I h
 obtain⟨W,⟨m0,w0⟩,turn⟩:=h
 refine wpAny_While (codeAny_whileLoop (λ n s'=>∃ B' H',Inv X EH B' H' s'/\W n B' H') ?_ m0 ⟨B,H,I,w0⟩)
 rintro n s1 ⟨B1,H1,I1,w1⟩
 refine KJ hp (zE (hc EH s1 B1 H1 _ I1 (turn n B1 H1 w1)) λ b s2 ⟨H2,I2,q2⟩=>?_)
 cases b with
 | true=>
  obtain⟨N,hN,q2⟩:=q2
  rw[if_pos rfl]
  refine KJ hp (zE (hb EH s2 B1 H2 _ I2 q2) λ f s3 q3=>?_)
  cases f with
  | next=>
   obtain⟨B3,H3,I3,n3⟩:=q3
   obtain⟨m',hm,w3⟩:=hN B3 H3 n3
   exact⟨m',hm,B3,H3,I3,w3⟩
  | cont=>
   obtain⟨B3,H3,I3,n3⟩:=q3
   obtain⟨m',hm,w3⟩:=hN B3 H3 n3
   exact⟨m',hm,B3,H3,I3,w3⟩
  | brk=>exact q3
  | ret v=>exact q3
 | false=>
  rw[if_neg BD]
  exact wpAny_execs_nil ⟨B1,H2,I2,q2⟩
end
structure It where
 go:Nat->Hp->Prop
 qX:Nat->Hp->V->Hp->Prop
 stop:Nat->Hp->Prop
def vP (X:Cx) (EH:Ag) (H:Hp) (b:Addr):Prop:=
 H b=none/\b≠X.env.locals/\b∉X.fs/\(b∈X.ex\/X.s₀.heap.objs.size<=b)/\(∀ x c,X.env.cells.lookup x=some c->c≠b)/\∀ p∈X.pn++EH,p.1≠b
def Inv.ma {X:Cx}{EH:Ag}{B:St}{H H':Hp}{s:Shared}{b:Addr}(I:Inv X EH B H s) (hb:s.heap.objs.size<=b) (hn:H' b=none):vP X EH H' b:=by
 refine⟨hn,BO (A_ I.lt hb),I.aG hb,.inr (A8 I.sz hb),λ x c e z=>?_,λ p hp z=>?_⟩
 ·obtain⟨v,q⟩:=I.cell x c e
  exact absurd (A_ q.lt (by rw[z];exact hb)) (BX _)
 ·exact absurd (A_ (Ap (I.pin p hp).1) (by rw[z];exact hb)) (BX _)
structure Turn (P:Program) (w:World) (K:Ab) (tg:Expr) (J:It) (fp:List Addr) (it:Addr) (tn:Nat->Heap->Prop):Prop where
 mem:it∈fp
 obj:∀ i h,tn i h->∀ b∈fp,∃ o,h.get? b=some o/\∀ v,o.data≠.cell v
 keep:∀ i h h',tn i h->(∀ b∈fp,∀ o,h.get? b=some o->h'.get? b=some o)->tn i h'
 item:∀ (X:Cx),X.prog=P->X.w=w->X.K=K->X.calm=true->∀ (i:Nat) (EH:Ag) (s:Shared) (B:St) (H:Hp) (E:Ad),Inv X EH B H s->(∀ b∈fp,vP X EH H b)->tn i s.heap->J.go i H->
  wpAny (model P w) X.A (pyNext (.ref it)) (λ r s1=>∃ u,r=some u/\
   wpAny (model P w) X.A (letOwnedTupleGo tg (.ref it) u) (λ _ s2=>∃ x H',Inv X EH B H' s2/\RelV x u/\J.qX i H x H'/\tn (i+1) s2.heap/\∀ b∈fp,H' b=none) E s1) E s
 done:∀ (X:Cx),X.prog=P->X.w=w->X.K=K->X.calm=true->∀ (i:Nat) (EH:Ag) (s:Shared) (B:St) (H:Hp) (E:Ad),Inv X EH B H s->(∀ b∈fp,vP X EH H b)->tn i s.heap->J.stop i H->
  wpAny (model P w) X.A (pyNext (.ref it)) (λ r s1=>r=none/\Inv X EH B H s1) E s
 self:∀ (A:Around) (i:Nat) (s:Shared) (Q:Ad) (E:Ad),tn i s.heap->Q (.ref it) s->wpAny (model P w) A (pyIter (.ref it)) Q E s
abbrev TI:=St->Hp->(It->Hp->Prop)->Prop
def eP (X:Cx) (EH:Ag) (B:St) (tg:Expr) (R:It->Hp->Prop) (Jr:Value) (s2:Shared):Prop:=
 ∃ (it:Addr) (fp:List Addr) (tn:Nat->Heap->Prop) (J:It) (H':Hp),Jr=.ref it/\Inv X EH B H' s2/\Turn X.prog X.w X.K tg J fp it tn/\tn 0 s2.heap/\(∀ b∈fp,vP X EH H' b)/\R J H'
def PI (X:Cx) (tg iter:Expr) (wi:TI):Prop:=
 ∀ (EH:Ag) (s:Shared) (B:St) (H:Hp) (R:It->Hp->Prop),Inv X EH B H s->wi B H R->
  wpAny (model X.prog X.w) X.A (eval iter X.env) (λ v s1=>wpAny (model X.prog X.w) X.A (pyIter v) (eP X EH B tg R) X.xe s1) X.xe s
def jg {M:Model}{A:Around}{E:Ad}{s:Shared}{tg:Expr}{it:Addr}{u:Value}{o:Obj}{n:String}{vs:Ar}{Q:Unit->Shared->Prop}(ho:s.heap.get? it=some o) (hc:o.cls=.type n) (hd:o.data=.fields vs)
  (hn:["enumerate","zip","dict_itemiterator","dict_reverseitemiterator","odict_iterator","itertools.zip_longest","itertools.pairwise"].contains n=false) (hQ:Q () s):wpAny M A (letOwnedTupleGo tg (.ref it) u) Q E s:=by
 unfold letOwnedTupleGo
 cases tg <;> first
  | exact Ac hQ
  | (cases u <;> first
    | exact Ac hQ
    | (refine JC (wpAny_load ho ?_)
       rw[hc,hd]
       show wpAny M A (if (["enumerate","zip","dict_itemiterator","dict_reverseitemiterator","odict_iterator","itertools.zip_longest","itertools.pairwise"].contains n&&vs[0]? == some (rawInt _))=true then _ else _) Q E s
       rw[if_neg (by intro h;rw[hn,Bool.false_and] at h;cases h)]
       exact Ac hQ))
def Xe (K:Ab) (a:Addr):It:=
 ⟨λ i H=>∃ xs x,zM K H a xs/\xs[i]?=some x,λ i H x H'=>H'=H/\∀ xs,zM K H a xs->xs[i]?=some x,λ i H=>∃ xs,zM K H a xs/\xs.length<=i⟩
def Xd (K:Ab) (a:Addr):It:=
 ⟨λ i H=>∃ xs x,zT K H a xs/\xs[i]?=some x,λ i H x H'=>H'=H/\∀ xs,zT K H a xs->xs[i]?=some x,λ i H=>∃ xs,zT K H a xs/\xs.length<=i⟩
def mZ (lo:Int) (n:Nat):It:=⟨λ i _=>i<n,λ i H x H'=>H'=H/\x=.int (lo+i),λ i _=>n<=i⟩
def Wo {P:Program}{w:World}{K:Ab}{tg:Expr}(a it:Addr):Turn P w K tg (Xe K a) [it] it (λ i h=>h.IsListIter it a i) where
 mem:=by simp
 obj:=λ i h st b hb=>by
  have e:b=it:=by simpa using hb
  subst e
  obtain⟨o,e,c,d⟩:=st
  exact⟨o,e,λ v z=>by rw[d] at z;cases z⟩
 keep:=λ i h h' st k=>st.at λ o e=>k it (by simp) o e
 item:=by
  intro X hP hw hK hc i EH s B H E I hf st hg
  subst hP hw hK
  obtain⟨xs,x,hq,hx⟩:=hg
  obtain⟨its,rv,p,hz⟩:=I.list hq
  obtain⟨u,hu,ru⟩:=rv.get hx
  obtain⟨f0,f1,f2,f3,f4,f5⟩:=hf it (by simp)
  refine wpAny_pyNext_list_item st p.isList (x:=u) (by simpa using hu) λ h' GC sb=>?_
  have I1:Inv X EH B H { s with heap:=h' }:=I.turned (t':=s.toks) (λ b o hb e=>(sb.2 b hb).trans e) f0 f1 f3 f4 f5
  obtain⟨o,e,c,d⟩:=id GC
  exact⟨u,rfl,jg (s:={ s with heap:=h' }) e c d (by decide) ⟨x,H,I1,ru,⟨rfl,λ ys hy=>by rw[I.gX hy hq];exact hx⟩,GC,λ b hb=>(hf b hb).1⟩⟩
 done:=by
  intro X hP hw hK hc i EH s B H E I hf st hg
  subst hP hw hK
  obtain⟨xs,hq,hx⟩:=hg
  obtain⟨its,rv,p,hz⟩:=I.list hq
  obtain⟨f0,f1,f2,f3,f4,f5⟩:=hf it (by simp)
  have hl:=rv.length
  exact wpAny_pyNext_list_end (I.ok.hd hc) st p.isList (by simp;lia) λ h' eb=>⟨rfl,I.turned (t':=s.toks) (λ b o hb e=>eb b o hb e) f0 f1 f3 f4 f5⟩
 self:=λ _ _ _ _ _ st h=>wpAny_pyIter_listiter st h
def Wl {P:Program}{w:World}{K:Ab}{tg:Expr}(a it:Addr):Turn P w K tg (Xd K a) [it] it (λ i h=>h.IsTupleIter it a i) where
 mem:=by simp
 obj:=λ i h st b hb=>by
  have e:b=it:=by simpa using hb
  subst e
  obtain⟨o,e,c,d⟩:=st
  exact⟨o,e,λ v z=>by rw[d] at z;cases z⟩
 keep:=λ i h h' st k=>st.at λ o e=>k it (by simp) o e
 item:=by
  intro X hP hw hK hc i EH s B H E I hf st hg
  subst hP hw hK
  obtain⟨xs,x,hq,hx⟩:=hg
  obtain⟨its,rv,p,hz⟩:=I.tuple hq
  obtain⟨u,hu,ru⟩:=rv.get hx
  obtain⟨f0,f1,f2,f3,f4,f5⟩:=hf it (by simp)
  refine wpAny_pyNext_tuple_item st (show s.heap.IsTuple a its.toArray from p) (x:=u) (by simpa using hu) λ h' GC sb=>?_
  have I1:Inv X EH B H { s with heap:=h' }:=I.turned (t':=s.toks) (λ b o hb e=>(sb.2 b hb).trans e) f0 f1 f3 f4 f5
  obtain⟨o,e,c,d⟩:=id GC
  exact⟨u,rfl,jg (s:={ s with heap:=h' }) e c d (by decide) ⟨x,H,I1,ru,⟨rfl,λ ys hy=>by rw[I.ij hy hq];exact hx⟩,GC,λ b hb=>(hf b hb).1⟩⟩
 done:=by
  intro X hP hw hK hc i EH s B H E I hf st hg
  subst hP hw hK
  obtain⟨xs,hq,hx⟩:=hg
  obtain⟨its,rv,p,hz⟩:=I.tuple hq
  obtain⟨f0,f1,f2,f3,f4,f5⟩:=hf it (by simp)
  have hl:=rv.length
  exact wpAny_pyNext_tuple_end (I.ok.hd hc) st (show s.heap.IsTuple a its.toArray from p) (by simp;lia) λ h' eb=>⟨rfl,I.turned (t':=s.toks) (λ b o hb e=>eb b o hb e) f0 f1 f3 f4 f5⟩
 self:=λ _ _ _ _ _ st h=>wpAny_pyIter_tupleiter st h
def Wn {P:Program}{w:World}{K:Ab}{tg:Expr}(it:Addr) (lo:Int) (n:Nat):Turn P w K tg (mZ lo n) [it] it (λ i h=>IsRangeIter h it (lo+(i:Nat)*1) ((n:Int)-(i:Nat)) 1) where
 mem:=by simp
 obj:=λ i h st b hb=>by
  have e:b=it:=by simpa using hb
  subst e
  exact⟨_,st,λ v z=>by
   have z':Data.fields _=Data.cell v:=z
   cases z'⟩
 keep:=λ i h h' st k=>k it (by simp) _ st
 item:=by
  intro X hP hw hK hc i EH s B H E I hf st hg
  subst hP hw hK
  obtain⟨f0,f1,f2,f3,f4,f5⟩:=hf it (by simp)
  have W:=Walks.range (prog:=X.prog) (w:=X.w) (I.ok.hd hc) it lo 1 n
  refine W.item i s _ _ hg st λ v h' tk hv GC kk=>?_
  obtain⟨t,rfl⟩:=hv
  have I1:Inv X EH B H { s with heap:=h',toks:=tk }:=I.turned (λ b o hb e=>kk b o (by simpa using hb) e) f0 f1 f3 f4 f5
  refine⟨_,rfl,jg (s:={ s with heap:=h',toks:=tk }) (n:="range_iterator") GC rfl rfl (by decide) ⟨.int (lo+i),H,I1,⟨t,?_⟩,⟨rfl,rfl⟩,GC,λ b hb=>(hf b hb).1⟩⟩
  rw[Int.mul_one]
 done:=by
  intro X hP hw hK hc i EH s B H E I hf st hg
  subst hP hw hK
  obtain⟨f0,f1,f2,f3,f4,f5⟩:=hf it (by simp)
  exact wpAny_pyNext_range_end (I.ok.hd hc) st (by have:n<=i:=hg;lia) λ h' eb=>⟨rfl,I.turned (t':=s.toks) (λ b o hb e=>eb b o hb e) f0 f1 f3 f4 f5⟩
 self:=λ _ _ _ _ _ st h=>wpAny_pyIter_rangeiter st h
section
variable {X:Cx}{tg:Expr}
def b7 {EH:Ag}{B:St}{H:Hp}{s:Shared}{R:It->Hp->Prop}{E:Ad}{lo hi:Int}{t u v:Tok}{tk:Nat}(I:Inv X EH B H s) (h1:-(2 ^ 62)<=lo) (h2:lo<2 ^ 62) (h3:-(2 ^ 62)<=hi) (h4:hi<2 ^ 62)
  (q:R (mZ lo (hi-lo).toNat) H):wpAny (model X.prog X.w) X.A (pyIter (.ref s.heap.objs.size)) (eP X EH B tg R) E { s with heap:=s.heap.push { cls:=.type "range",data:=.fields #[.int lo t,.int hi u,.int 1 v] },toks:=tk }:=by
 refine wpAny_pyIter_range (IsRange.new ..) (small_one h1 h2 h3 h4) ?_
 have I1:Inv X EH B H { s with heap:=s.heap.push { cls:=.type "range",data:=.fields #[.int lo t,.int hi u,.int 1 v] },toks:=tk }:=I.kept λ b o e=>Kr _ e
 refine⟨(s.heap.push { cls:=.type "range",data:=.fields #[.int lo t,.int hi u,.int 1 v] }).objs.size,[(s.heap.push { cls:=.type "range",data:=.fields #[.int lo t,.int hi u,.int 1 v] }).objs.size],_,_,H,rfl,
  I1.kept (t':=tk) λ b o e=>Kr _ e,Wn _ lo (hi-lo).toNat,?_,λ b hb=>?_,q⟩
 ·have e1:lo+((0:Nat):Int)*1=lo:=by simp
  have e2:(((hi-lo).toNat:Nat):Int)-((0:Nat):Int)=Builtin.Range.rangeSize lo hi 1:=by rw[rangeSize_one];split <;> lia
  show IsRangeIter _ _ (lo+((0:Nat):Int)*1) ((((hi-lo).toNat:Nat):Int)-((0:Nat):Int)) 1
  rw[e1,e2]
  exact AF _ rfl
 ·have e:b=(s.heap.push { cls:=.type "range",data:=.fields #[.int lo t,.int hi u,.int 1 v] }).objs.size:=by simpa using hb
  subst e
  exact I1.ma (Ah _) (I1.zC.fresh (Ah _))
def ZD (ta:TA):TI:=fun B H R=>ta B H λ vs H1=>∃ j:Int,vs=[.int j]/\-(2 ^ 62)<=j/\j<2 ^ 62/\R (mZ 0 j.toNat) H1
def ZC (ta:TA):TI:=fun B H R=>ta B H λ vs H1=>∃ i j:Int,vs=[.int i,.int j]/\(-(2 ^ 62)<=i/\i<2 ^ 62/\-(2 ^ 62)<=j/\j<2 ^ 62)/\R (mZ i (j-i).toNat) H1
def UE {a:Expr}{ta:TA}{p pos:Pos}(hg:Gl X "range") (hm:X.mg "range"=none) (ha:PA X [a] ta) (hs:starEach [a] X.env=[(false,eval a X.env)]:=by rfl):PI X tg (.Call (.Name "range" p) [a] [] pos) (ZD ta):=by
 intro EH s B H R I h
 refine Call_ (rO I hg hm boot_range (PyProof.Rows.callWith_type1 (zE (ha pos EH s B H _ I h) λ us s1 ⟨vs,H1,I1,r1,q1⟩=>?_) hs rfl))
 obtain⟨j,e,q1,q2,q⟩:=q1
 subst e
 cases r1 with
 | cons r rr=>
  cases rr
  obtain⟨t,rfl⟩:=r
  exact call_range_1 (b7 I1 (by lia) (by lia) q1 q2 (by simpa using q))
def UD {a b:Expr}{ta:TA}{p pos:Pos}(hg:Gl X "range") (hm:X.mg "range"=none) (ha:PA X [a,b] ta) (hs:starEach [a,b] X.env=[(false,eval a X.env),(false,eval b X.env)]:=by rfl) (GD:starEach [b] X.env=[(false,eval b X.env)]:=by rfl):
  PI X tg (.Call (.Name "range" p) [a,b] [] pos) (ZC ta):=by
 intro EH s B H R I h
 refine Call_ (rO I hg hm boot_range (PyProof.Rows.callWith_type1 (zE (ha pos EH s B H _ I h) λ us s1 ⟨vs,H1,I1,r1,q1⟩=>?_) (by rw[hs,GD]) (by rw[GD];rfl)))
 obtain⟨i,j,e,⟨q1,q2,q3,q4⟩,q⟩:=q1
 subst e
 cases r1 with
 | cons r rr=>
  cases rr with
  | cons r' rr=>
   cases rr
   obtain⟨t,rfl⟩:=r
   obtain⟨t',rfl⟩:=r'
   exact call_range_2 (b7 I1 q1 q2 q3 q4 q)
def WC (wi:TI) (g:TG) (tb:TS):TS:=λ D B H=>wi B H λ J H1=>∃ W:Nat->Nat->St->Hp->Prop,(∃ m,W 0 m B H1)/\∀ i m B H,W i m B H->
 (J.stop i H/\D.nx B H)\/(J.go i H/\∃ N:St->Hp->Prop,(∀ B' H',N B' H'->∃ m',m'<m/\W (i+1) m' B' H')/\∀ x H',J.qX i H x H'->g x B H' fun B2 H2=>tb { D with nx:=N,ct:=N,bk:=D.nx } B2 H2)
noncomputable def nc (fp:List Addr) (h:Heap):Ag:=fp.filterMap λ b=>(h.get? b).map λ o=>(b,o)
def kP {fp:List Addr}{h:Heap}{b:Addr}{o:Obj}(hb:b∈fp) (e:h.get? b=some o):(b,o)∈nc fp h:=D4.mpr ⟨b,hb,by rw[e];rfl⟩
def Q3 {fp:List Addr}{h:Heap}{p:Addr×Obj}(hp:p∈nc fp h):p.1∈fp/\h.get? p.1=some p.2:=by
 obtain⟨b,hb,e⟩:=D4.mp hp
 cases q:h.get? b with
 | none=>rw[q] at e;cases e
 | some o=>
  rw[q] at e
  have e':(b,o)=p:=A5 e
  subst e'
  exact⟨hb,q⟩
def Inv.pinned {EH:Ag}{B:St}{H:Hp}{s:Shared}{fp:List Addr}(I:Inv X EH B H s) (hf:∀ b∈fp,vP X EH H b) (ho:∀ b∈fp,∃ o,s.heap.get? b=some o/\∀ v,o.data≠.cell v):Inv X (EH++nc fp s.heap) B H s:=
 I.gr λ p hp=>(AY.mp hp).elim (λ z=>I.pin p (AU _ z)) λ z=>by
  obtain⟨hb,e⟩:=Q3 z
  obtain⟨f0,f1,f2,_⟩:=hf p.1 hb
  obtain⟨o,e',d⟩:=ho p.1 hb
  rw[e] at e';cases e'
  exact⟨e,f0,f1,f2,d⟩
def Inv.oD {EH pl:Ag}{B:St}{H:Hp}{s:Shared}(I:Inv X (EH++pl) B H s):Inv X EH B H s:=I.gr λ p hp=>I.pin p (AU _ (Cr _ hp))
def Uw {iter:Expr}{body:List Stmt}{wi:TI}{g:TG}{tb:TS}{pos:Pos}(hp:PassesOwn (model X.prog X.w) X.A X.env X.xe) (hc:X.calm=true) (hi:PI X tg iter wi) (hg:PG X tg g) (hb:xW X body tb)
  (hs:∀ x,foldedSetIterable iter X.env x=pure x:=by intro _;rfl):PS X (.For tg iter body [] pos) (WC wi g tb):=by
 intro EH s B H D I h
 refine wpAny_For (zE (hi EH s B H _ I h) λ v s1 h1=>zE h1 λ Jr s2 h2=>?_) hs
 obtain⟨it,fp,tn,J,H2,e,I2,T,Iz,f2,W,⟨m0,w0⟩,turn⟩:=h2
 subst e
 have GK:∀ {H':Hp},(∀ b∈fp,H' b=none)->∀ b∈fp,vP X EH H' b:=λ hn b hb=>⟨hn b hb,(f2 b hb).2⟩
 refine codeAny_forLoop_any (λ n s'=>∃ i B' H',Inv X EH B' H' s'/\tn i s'.heap/\(∀ b∈fp,H' b=none)/\W i n B' H') ?_ m0 ⟨0,B,H2,I2,Iz,λ b hb=>(f2 b hb).1,w0⟩
 rintro n s3 ⟨i,B3,H3,I3,Iy,Jd,w3⟩
 rcases turn i n B3 H3 w3 with ⟨stop,qn⟩ | ⟨go,N,hN,step⟩
 ·refine KJ hp (zE (T.done X rfl rfl rfl hc i EH s3 B3 H3 X.xe I3 (GK Jd) Iy stop) λ r s4 ⟨hr,I4⟩=>?_)
  subst hr
  exact wpAny_execs_nil ⟨B3,H3,I4,qn⟩
 ·refine KJ hp (zE (T.item X rfl rfl rfl hc i EH s3 B3 H3 X.xe I3 (GK Jd) Iy go) λ r s4 ⟨u,hr,h4⟩=>?_)
  subst hr
  refine KJ hp (zE h4 λ _ s5 ⟨x,H5,I5,r5,y5,HP,Ki⟩=>?_)
  have Kq:=I5.pinned (GK Ki) (T.obj _ _ HP)
  refine KJ hp (zE (hg _ s5 B3 H5 x u _ Kq r5 (step x H5 y5)) λ _ s6 ⟨B6,H6,I6,q6⟩=>?_)
  refine KJ hp (zE (hb _ s6 B6 H6 _ I6 q6) λ f s7 q7=>?_)
  have again:∀ {B7:St}{H7:Hp},Inv X (EH++nc fp s5.heap) B7 H7 s7->N B7 H7->∃ m,m<n/\∃ i B' H',Inv X EH B' H' s7/\tn i s7.heap/\(∀ b∈fp,H' b=none)/\W i m B' H':=λ{B7 H7} I7 n7=>by
   obtain⟨m',hm,w7⟩:=hN B7 H7 n7
   refine⟨m',hm,i+1,B7,H7,I7.oD,T.keep _ _ _ HP λ b hb o e=>(I7.pin (b,o) (AU _ (AU _ (kP hb e)))).1,λ b hb=>?_,w7⟩
   obtain⟨o,e,d⟩:=T.obj _ _ HP b hb
   exact (I7.pin (b,o) (AU _ (AU _ (kP hb e)))).2.1
  cases f with
  | brk=>obtain⟨B7,H7,I7,q7⟩:=q7;exact⟨B7,H7,I7.oD,q7⟩
  | ret v=>obtain⟨x7,B7,H7,I7,r7,q7⟩:=q7;exact⟨x7,B7,H7,I7.oD,r7,q7⟩
  | _=>obtain⟨B7,H7,I7,n7⟩:=q7;exact again I7 n7
end
abbrev R2:=V->V->Hp->VK->Prop
def yc (X:Cx) (f:Value->Value->Sem Value) (r:R2):Prop:=
 ∀ (EH:Ag) (s:Shared) (B:St) (H:Hp) (x y:V) (v u:Value) (Q:VK),Inv X EH B H s->RelV x v->RelV y u->r x y H Q->
  wpAny (model X.prog X.w) X.A (f v u) (EP X EH B Q) X.xe s
def eM (X:Cx) (f:Value->Sem Value) (r:V->Hp->VK->Prop):Prop:=
 ∀ (EH:Ag) (s:Shared) (B:St) (H:Hp) (x:V) (v:Value) (Q:VK),Inv X EH B H s->RelV x v->r x H Q->
  wpAny (model X.prog X.w) X.A (f v) (EP X EH B Q) X.xe s
def yA (X:Cx) (f:Value) (r:List V->Hp->VK->Prop):Prop:=
 ∀ (EH:Ag) (s:Shared) (B:St) (H:Hp) (xs:List V) (us:Af) (Q:VK),Inv X EH B H s->Vals xs us->r xs H Q->
  wpAny (model X.prog X.w) X.A (call f us) (EP X EH B Q) X.xe s
def Mt (X:Cx) (r:V->Hp->(Bool->Hp->Prop)->Prop):Prop:=
 ∀ (EH:Ag) (s:Shared) (B:St) (H:Hp) (x:V) (v:Value) (Q:Bool->Hp->Prop),Inv X EH B H s->RelV x v->r x H Q->
  wpAny (model X.prog X.w) X.A (truthy v) (TP X EH B Q) X.xe s
def oG (r:R2) (ta tb:TE):TE:=fun B H Q=>ta B H λ x H1=>tb B H1 λ y H2=>r x y H2 Q
def Ww (r:V->Hp->VK->Prop) (ta:TE):TE:=fun B H Q=>ta B H λ x H1=>r x H1 Q
def rI (C:Int->Int->Prop) (g:Int->Int->V):R2:=λ x y H Q=>∃ i j,x=.int i/\y=.int j/\C i j/\Q (g i j) H
def wW (g:Int->Int->V):R2:=λ x y H Q=>∃ i j,x=.int i/\y=.int j/\Q (g i j) H
def rU (g:Int->V):V->Hp->VK->Prop:=λ x H Q=>∃ i,x=.int i/\Q (g i) H
section
variable {X:Cx}{a b:Expr}{ta tb:TE}{pos:Pos}
def ez (ha:PE X a ta) (hb:PE X b tb) {EH:Ag}{s:Shared}{B:St}{H:Hp}{R:V->V->Hp->Prop}(I:Inv X EH B H s)
  (h:ta B H λ x H1=>tb B H1 λ y H2=>R x y H2) {Q:Ad}{f:Value->Value->Sem Value}
  (hf:∀ v u s2 x y H2,Inv X EH B H2 s2->RelV x v->RelV y u->R x y H2->wpAny (model X.prog X.w) X.A (f v u) Q X.xe s2):
  wpAny (model X.prog X.w) X.A (eval a X.env) (λ v s₁=>wpAny (model X.prog X.w) X.A (eval b X.env) (λ u s₂=>wpAny (model X.prog X.w) X.A (f v u) Q X.xe s₂) X.xe s₁) X.xe s:=by
 refine zE (ha EH s B H _ I h) λ v s1 ⟨x,H1,I1,r1,q1⟩=>?_
 refine zE (hb EH s1 B H1 _ I1 q1) λ u s2 ⟨y,H2,I2,r2,q2⟩=>?_
 exact hf v u s2 x y H2 I2 r1 r2 q2
def UU {op:Operator}{r:R2}(ho:yc X (binaryOp op) r) (ha:PE X a ta) (hb:PE X b tb):PE X (.BinOp a op b pos) (oG r ta tb):=by
 intro EH s B H Q I h
 exact wpAny_BinOp (ez ha hb I h λ v u s2 x y H2 I2 rx ry q=>ho EH s2 B H2 x y v u Q I2 rx ry q)
def UQ {op:UnaryOp}{r:V->Hp->VK->Prop}(ho:eM X (unaryOp op) r) (ha:PE X a ta):PE X (.UnaryOp op a pos) (Ww r ta):=by
 intro EH s B H Q I h
 exact UnaryOp_ (zE (ha EH s B H _ I h) λ v s1 ⟨x,H1,I1,r1,q1⟩=>ho EH s1 B H1 x v Q I1 r1 q1)
def p8 {f:Value->Value->Sem Value}{C:Int->Int->Prop}{g:Int->Int->Int}
  (rule:∀ (i j:Int) (t u:Tok) (s:Shared) (Q:Ad) (E:Ad),C i j->Q (.int (g i j) s.toks) { s with toks:=s.toks+1 }->wpAny (model X.prog X.w) X.A (f (.int i t) (.int j u)) Q E s):
  yc X f (rI C λ i j=>.int (g i j)):=by
 intro EH s B H x y v u Q I rx ry h
 obtain⟨i,j,rfl,rfl,hc,q⟩:=h
 obtain⟨t,rfl⟩:=rx
 obtain⟨t',rfl⟩:=ry
 exact rule i j t t' s _ _ hc ⟨.int (g i j),H,I.tok _,⟨_,rfl⟩,q⟩
def av {f:Value->Value->Sem Value}{g:Int->Int->Int}
  (rule:∀ (i j:Int) (t u:Tok) (s:Shared) (Q:Ad) (E:Ad),Q (.int (g i j) s.toks) { s with toks:=s.toks+1 }->wpAny (model X.prog X.w) X.A (f (.int i t) (.int j u)) Q E s):
  yc X f (wW λ i j=>.int (g i j)):=by
 intro EH s B H x y v u Q I rx ry h
 obtain⟨i,j,rfl,rfl,q⟩:=h
 obtain⟨t,rfl⟩:=rx
 obtain⟨t',rfl⟩:=ry
 exact rule i j t t' s _ _ ⟨.int (g i j),H,I.tok _,⟨_,rfl⟩,q⟩
def kH {f:Value->Value->Sem Value}{g:Int->Int->Bool}
  (rule:∀ (i j:Int) (t u:Tok) (s:Shared) (Q:Ad) (E:Ad),Q (.bool (g i j)) s->wpAny (model X.prog X.w) X.A (f (.int i t) (.int j u)) Q E s):
  yc X f (wW λ i j=>.bl (g i j)):=by
 intro EH s B H x y v u Q I rx ry h
 obtain⟨i,j,rfl,rfl,q⟩:=h
 obtain⟨t,rfl⟩:=rx
 obtain⟨t',rfl⟩:=ry
 exact rule i j t t' s _ _ ⟨.bl (g i j),H,I,rfl,q⟩
def wq (i j:Int):Prop:=0<j/\j<1073741824
def ql (i j:Int):Prop:=0<=j/\j<=1000000/\i.natAbs<2 ^ 64
def vQ (i j:Int):Prop:=(-(2 ^ 64)<i/\i<2 ^ 64)\/(-(2 ^ 64)<j/\j<2 ^ 64)
def vQ.ok {i j:Int}(h:vQ i j):IntMulOk i j:=by
 rcases h with ⟨h1,h2⟩ | ⟨h1,h2⟩
 ·exact .of_left (intBits_le_64 h1 h2)
 ·exact .of_right (intBits_le_64 h1 h2)
def SM:yc X (binaryOp .Add) (wW λ i j=>.int (i+j)):=av λ _ _ _ _ _ _ _ q=>add_int q
def Sj:yc X (binaryOp .Sub) (wW λ i j=>.int (i-j)):=av λ _ _ _ _ _ _ _ q=>sub_int q
def Sv:yc X (binaryOp .Mult) (rI vQ λ i j=>.int (i*j)):=p8 λ _ _ _ _ _ _ _ hc q=>mul_int q hc.ok
def SF:yc X (binaryOp .FloorDiv) (rI wq λ i j=>.int (i/j)):=p8 λ i j _ _ _ _ _ hc q=>by
 have h1:(0:Int)<j:=hc.1
 have h2:j<1073741824:=hc.2
 exact floordiv_int (by lia) (by rw[Int.fdiv_eq_ediv_of_nonneg i (by lia)];exact q) (.inl (PyProof.noPylong_small (by lia)))
def Sy:yc X (binaryOp .Mod) (rI (λ _ j=>0<j) λ i j=>.int (i%j)):=p8 λ i j _ _ _ _ _ hc q=>by
 have h1:(0:Int)<j:=hc
 exact mod_int' (by lia) (by rw[Int.fmod_eq_emod_of_nonneg i (by lia)];exact q)
def Sk:yc X (binaryOp .Pow) (rI ql λ i j=>.int (i ^ j.toNat)):=p8 λ _ _ _ _ _ _ _ hc q=>pow_int_small hc.1 hc.2.1 hc.2.2 q
def Wh {f:Value->Sem Value}{g:Int->Int}
  (rule:∀ (i:Int) (t:Tok) (s:Shared) (Q:Ad) (E:Ad),Q (.int (g i) s.toks) { s with toks:=s.toks+1 }->wpAny (model X.prog X.w) X.A (f (.int i t)) Q E s):
  eM X f (rU λ i=>.int (g i)):=by
 intro EH s B H x v Q I rx h
 obtain⟨i,rfl,q⟩:=h
 obtain⟨t,rfl⟩:=rx
 exact rule i t s _ _ ⟨.int (g i),H,I.tok _,⟨_,rfl⟩,q⟩
def Wg:eM X (unaryOp .USub) (rU λ i=>.int (-i)):=Wh λ _ _ _ _ _ q=>neg_int q
end
section
variable {X:Cx}{a b c:Expr}{ta tb tc:TE}{pos:Pos}
def OK {EH:Ag}{B:St}{H:Hp}{s:Shared}{Q:VK}{k k':Bool}(I:Inv X EH B H s) (q:Q (.bl k) H) (e:k=k'):EP X EH B Q (.bool k') s:=by
 subst e
 exact⟨.bl k,H,I,rfl,q⟩
def S7:yc X (compareOp .Lt) (wW λ i j=>.bl (decide (i<j))):=kH λ _ _ _ _ _ _ _ q=>lt_int q
def p7:yc X (compareOp .LtE) (wW λ i j=>.bl (decide (i<=j))):=kH λ _ _ _ _ _ _ _ q=>le_int q
def SA:yc X (compareOp .Gt) (wW λ i j=>.bl (decide (j<i))):=kH λ _ _ _ _ _ _ _ q=>gt_int q
def SD:yc X (compareOp .GtE) (wW λ i j=>.bl (decide (j<=i))):=kH λ _ _ _ _ _ _ _ q=>ge_int q
def S8:yc X (compareOp .Is) (λ x y H Q=>y=.zr/\Q (.bl (decide (x=.zr))) H):=by
 intro EH s B H x y v u Q I rx ry h
 obtain⟨rfl,q⟩:=h
 cases ry
 refine is_none_gen (OK I q ?_)
 cases x <;> first
  | (cases rx;rfl)
  | (obtain⟨t,rfl⟩:=rx;rfl)
def yc.or {f:Value->Value->Sem Value}{r r':R2}(h:yc X f r) (h':yc X f r'):yc X f (λ x y H Q=>r x y H Q\/r' x y H Q):=by
 intro EH s B H x y v u Q I rx ry q
 rcases q with q | q
 ·exact h EH s B H x y v u Q I rx ry q
 ·exact h' EH s B H x y v u Q I rx ry q
def tu (b:Expr) {op:CmpOp}(h:op≠.In:=by decide) (h2:op≠.NotIn:=by decide):behindInMarks op b=false:=by
 have e1:(op == CmpOp.In)=false:=by cases op <;> first | rfl | exact absurd rfl h
 have e2:(op == CmpOp.NotIn)=false:=by cases op <;> first | rfl | exact absurd rfl h2
 cases b <;> simp[behindInMarks,e1,e2]
def Tg {op:CmpOp}{r:R2}(ho:yc X (compareOp op) r) (ha:PE X a ta) (hb:PE X b tb) (hm:behindInMarks op b=false):PE X (.Compare a [op] [b] pos) (oG r ta tb):=by
 intro EH s B H Q I h
 exact wpAny_Compare1 (ez ha hb I h λ v u s2 x y H2 I2 rx ry q=>ho EH s2 B H2 x y v u Q I2 rx ry q) hm
def cF (t:TE):TT:=fun B H Q=>t B H λ x H'=>∃ k,x=.bl k/\Q k H'
def Uk {op:CmpOp}{r:R2}(ho:yc X (compareOp op) r) (ha:PE X a ta) (hb:PE X b tb) (hm:behindInMarks op b=false):PT X (.Compare a [op] [b] pos) (cF (oG r ta tb)):=by
 intro EH s B H Q I h
 refine wpAny_isTrue_Compare1 (zE (ha EH s B H _ I h) λ v s1 ⟨x,H1,I1,r1,q1⟩=>zE (hb EH s1 B H1 _ I1 q1) λ u s2 ⟨y,H2,I2,r2,q2⟩=>
  zE (ho EH s2 B H2 x y v u _ I2 r1 r2 q2) λ c s3 ⟨z,H3,I3,r3,k,e,q3⟩=>?_) hm
 subst e
 cases r3
 exact KG ⟨H3,I3,q3⟩
def iu (r r':R2) (ta tb tc:TE):TE:=fun B H Q=>ta B H λ x H1=>tb B H1 λ y H2=>r x y H2 λ z H3=>∃ k,z=.bl k/\
 (if k=true then tc B H3 λ w' H4=>r' y w' H4 Q else Q (.bl false) H3)
def Th {op GN:CmpOp}{r r':R2}(ho:yc X (compareOp op) r) (F7:yc X (compareOp GN) r') (ha:PE X a ta) (hb:PE X b tb) (hc:PE X c tc)
  (hm:lastMarks [op,GN] [b,c]=false:=by with_unfolding_all rfl):PE X (.Compare a [op,GN] [b,c] pos) (iu r r' ta tb tc):=by
 intro EH s B H Q I h
 refine Compare_chain (zE (ha EH s B H _ I h) λ v s1 ⟨x,H1,I1,r1,q1⟩=>chain_link (zE (hb EH s1 B H1 _ I1 q1) λ u s2 ⟨y,H2,I2,r2,q2⟩=>
  zE (ho EH s2 B H2 x y v u _ I2 r1 r2 q2) λ d s3 ⟨z,H3,I3,r3,k,e,q3⟩=>?_)) hm
 subst e
 cases r3
 refine KG ?_
 cases k with
 | false=>exact ite_ff ⟨.bl false,H3,I3,rfl,q3⟩
 | true=>exact ite_tt (chain_last (zE (hc EH s3 B H3 _ I3 q3) λ w' s4 ⟨z',H4,I4,r4,q4⟩=>F7 EH s4 B H4 y z' u w' Q I4 r2 r4 q4))
def Ul {op GN:CmpOp}{r r':R2}(ho:yc X (compareOp op) r) (F7:yc X (compareOp GN) r') (ha:PE X a ta) (hb:PE X b tb) (hc:PE X c tc)
  (hm:lastMarks [op,GN] [b,c]=false:=by with_unfolding_all rfl):PT X (.Compare a [op,GN] [b,c] pos) (cF (iu r r' ta tb tc)):=by
 intro EH s B H Q I h
 refine isTrue_chain (zE (ha EH s B H _ I h) λ v s1 ⟨x,H1,I1,r1,q1⟩=>test_link (zE (hb EH s1 B H1 _ I1 q1) λ u s2 ⟨y,H2,I2,r2,q2⟩=>
  zE (ho EH s2 B H2 x y v u _ I2 r1 r2 q2) λ d s3 ⟨z,H3,I3,r3,k,e,q3⟩=>?_)) hm
 subst e
 cases r3
 refine KG ?_
 cases k with
 | false=>
  obtain⟨k',e',q'⟩:=q3
  cases e'
  exact ite_ff ⟨H3,I3,q'⟩
 | true=>
  refine ite_tt (test_last (zE (hc EH s3 B H3 _ I3 q3) λ w' s4 ⟨z',H4,I4,r4,q4⟩=>zE (F7 EH s4 B H4 y z' u w' _ I4 r2 r4 q4) λ d' s5 ⟨z2,H5,I5,r5,k2,e2,q5⟩=>?_))
  subst e2
  cases r5
  exact KG ⟨H5,I5,q5⟩
def eN (K:Ab) (x:V) (H:Hp) (k:Bool):Prop:=
 match x with
 | .zr=>k=false
 | .bl b=>k=b
 | .int i=>k=(i != 0)
 | .str y=>y.length<=sizeLine/\k=((y.length:Int) != 0)
 | .j4 y=>y.size<=sizeLine/\k=((y.size:Int) != 0)
 | .ref p=>(∃ xs,zM K H p xs/\k=!xs.isEmpty)\/(∃ xs,zT K H p xs/\k=!xs.isEmpty)\/∃ Aa,H p=some (.dK Aa)/\k=!Aa.isEmpty
 | _=>False
def PM {κ:Type}{Aa:List (κ × V)}{vs:List (κ × Value)}(r:KV Aa vs):(!vs.isEmpty)=!Aa.isEmpty:=by
 cases r <;> rfl
def Zt {xs:List V}{its:Af}(r:Vals xs its):(!its.toArray.isEmpty)=!xs.isEmpty:=by
 cases r <;> simp
def qA:(sizeLine:Nat)<2 ^ 63:=by rw[sizeLine_eq];decide
def Wt:Mt X (λ x H Q=>∃ k,eN X.K x H k/\Q k H):=by
 intro EH s B H x v Q I rx h
 obtain⟨k,e,q⟩:=h
 have hl:=qA
 have hs:sizeLine=16777216:=sizeLine_eq
 cases x with
 | zr=>
  cases rx
  have e':k=false:=e
  subst e'
  exact truthy_none ⟨H,I,q⟩
 | bl b=>
  cases rx
  have e':k=b:=e
  subst e'
  exact KG ⟨H,I,q⟩
 | int i=>
  obtain⟨t,rfl⟩:=rx
  have e':k=(i != 0):=e
  subst e'
  exact PySem.P.truthy_int ⟨H,I,q⟩
 | str y=>
  obtain⟨t,rfl⟩:=rx
  obtain⟨hy,e'⟩:y.length<=sizeLine/\k=((y.length:Int) != 0):=e
  subst e'
  exact PySem.P.truthy_str (by lia) ⟨H,I.tok _,q⟩
 | j4 y=>
  obtain⟨t,rfl⟩:=rx
  obtain⟨hy,e'⟩:y.size<=sizeLine/\k=((y.size:Int) != 0):=e
  subst e'
  exact PySem.W.truthy_bytes (by lia) ⟨H,I.tok _,q⟩
 | ref p=>
  cases rx
  have e':(∃ xs,zM X.K H p xs/\k=!xs.isEmpty)\/(∃ xs,zT X.K H p xs/\k=!xs.isEmpty)\/∃ Aa,H p=some (.dK Aa)/\k=!Aa.isEmpty:=e
  rcases e' with ⟨xs,hx,e'⟩ | ⟨xs,hx,e'⟩ | ⟨Aa,hx,e'⟩
  ·subst e'
   obtain⟨its,r,pl,hz⟩:=I.list hx
   have hlen:=r.length
   exact wpAny_truthy_list pl.isList (by simp only[Ax];lia) ⟨H,I.tok _,by rw[Zt r];exact q⟩
  ·subst e'
   obtain⟨its,r,pl,hz⟩:=I.tuple hx
   have hlen:=r.length
   exact truthy_tuple pl (by simp only[Ax];lia) ⟨H,I.tok _,by rw[Zt r];exact q⟩
  ·subst e'
   obtain⟨hz,hS,vs,r,m⟩:Aa.length<=sizeLine/\(p == sysModules)=false/\∃ vs,KV Aa vs/\s.heap.DictOf (wK X.prog X.w) p vs:=I.zC p _ hx
   have hlen:Aa.length=vs.length:=Paired.length r
   exact wpAny_truthy_dict hS m (by lia) ⟨H,I.tok _,by rw[PM r];exact q⟩
 | _=>exact (show False from e).elim
def Ui (ha:PE X a ta) (he:∀ whole,isTrue a X.env whole=(do let v <- whole;standAt a.pos;holding [v] (truthy v))):
  PT X a (fun B H Q=>ta B H λ x H'=>∃ k,eN X.K x H' k/\Q k H'):=by
 intro EH s B H Q I h
 exact isTrue_plain (zE (ha EH s B H _ I h) λ v s1 ⟨x,H1,I1,r1,q1⟩=>Wt EH s1 B H1 x v Q I1 r1 q1) (he _)
def SK:yc X (binaryOp .Add) (λ x y H Q=>∃ i j,x=.str i/\y=.str j/\i.length+j.length<=sizeLine/\Q (.str (i++j)) H):=by
 intro EH s B H x y v u Q I rx ry h
 obtain⟨i,j,rfl,rfl,hz,q⟩:=h
 obtain⟨t,rfl⟩:=rx
 obtain⟨t',rfl⟩:=ry
 exact add_str (λ t' tk=>⟨.str (i++j),H,I.tok _,⟨_,rfl⟩,q⟩) hz
def vals1 {x:V}{us:Af}(r:Vals [x] us):∃ u,us=[u]/\RelV x u:=by
 cases r with
 | cons r1 r2=>cases r2;exact⟨_,rfl,r1⟩
def vals2 {x y:V}{us:Af}(r:Vals [x,y] us):∃ u w',us=[u,w']/\RelV x u/\RelV y w':=by
 cases r with
 | cons r1 r2=>
  cases r2 with
  | cons r3 r4=>cases r4;exact⟨_,_,rfl,r1,r3⟩
def N_:yA X (.builtin "abs") (λ xs H Q=>∃ i,xs=[.int i]/\Q (.int (if i<0 then -i else i)) H):=by
 intro EH s B H xs us Q I r h
 obtain⟨i,rfl,q⟩:=h
 obtain⟨u,rfl,t,rfl⟩:=vals1 r
 exact call_abs_int λ u tk=>⟨.int (if i<0 then -i else i),H,I.tok _,⟨_,rfl⟩,q⟩
def NR (hc:X.calm=true):yA X (.builtin "max") (λ xs H Q=>∃ i j,xs=[.int i,.int j]/\Q (.int (if j>i then j else i)) H):=by
 intro EH s B H xs us Q I r h
 obtain⟨i,j,rfl,q⟩:=h
 obtain⟨u,w',rfl,⟨t,rfl⟩,⟨t',rfl⟩⟩:=vals2 r
 refine max_two_ints (I.ok.hd hc) λ h' tk k=>⟨_,H,I.kept k,?_,q⟩
 by_cases hj:j>i
 ·rw[if_pos hj,if_pos hj];exact⟨_,rfl⟩
 ·rw[if_neg hj,if_neg hj];exact⟨_,rfl⟩
def NQ (hc:X.calm=true):yA X (.builtin "min") (λ xs H Q=>∃ i j,xs=[.int i,.int j]/\Q (.int (if j<i then j else i)) H):=by
 intro EH s B H xs us Q I r h
 obtain⟨i,j,rfl,q⟩:=h
 obtain⟨u,w',rfl,⟨t,rfl⟩,⟨t',rfl⟩⟩:=vals2 r
 refine min_two_ints (I.ok.hd hc) λ h' tk k=>⟨_,H,I.kept k,?_,q⟩
 by_cases hj:j<i
 ·rw[if_pos hj,if_pos hj];exact⟨_,rfl⟩
 ·rw[if_neg hj,if_neg hj];exact⟨_,rfl⟩
end
def uu.some_of {v:V}{o:Option Value}(r:uu (some v) o):∃ u,o=some u/\RelV v u:=by
 cases o with
 | none=>exact (show False from r).elim
 | some u=>exact⟨u,rfl,r⟩
structure yt (k:Nat) (A:Around):Prop where
 hd:A.handled=none
 dp:A.depth+3*k+5<recursionLimit
 un:A.units+16*k+200<cLine
def yt.mono {j k:Nat}{A:Around}(r:yt k A) (h:j<=k):yt j A:=⟨r.hd,by have:=r.dp;lia,by have:=r.un;lia⟩
theorem yt.deeper {k:Nat}{A:Around}(r:yt (k+1) A) (env:Env):yt k (A.deeper env):=
 ⟨r.hd,by have:=r.dp;show A.depth+1+3*k+5<_;lia,by have:=r.un;show A.units+3+16*k+200<_;lia⟩
theorem yt.depth {k:Nat}{A:Around}(r:yt k A):A.depth<recursionLimit:=by have:=r.dp;lia
theorem yt.units {k:Nat}{A:Around}(r:yt k A):A.units+64<cLine:=by have:=r.un;lia
def ip:TA:=λ _ H Q=>Q [] H
def ir (ta:TE) (tr:TA):TA:=fun B H Q=>ta B H λ x H1=>tr B H1 λ xs H2=>Q (x::xs) H2
section
variable {X:Cx}{e:Expr}{es:List Expr}{te:TE}{t:TA}{pos:Pos}
def p0:PA X [] ip:=λ _ _ _ _ H Q I h=>Calls.spliced_nil ⟨[],H,I,.nil,h⟩
def qy (ha:PE X e te) (hr:PA X es t) (hs:starEach (e::es) X.env=(false,eval e X.env)::starEach es X.env:=by rfl):PA X (e::es) (ir te t):=by
 intro pos EH s B H Q I h
 rw[hs]
 show wpAny _ _ (spliced ((false,eval e X.env)::backTo pos (starEach es X.env))) _ _ s
 refine Calls.spliced_cons (zE (ha EH s B H _ I h) λ u s1 ⟨x,H1,I1,r1,q1⟩=>?_)
 exact zE (hr pos EH s1 B H1 _ I1 q1) λ us s2 ⟨xs,H2,I2,r2,q2⟩=>⟨x::xs,H2,I2,.cons r1 r2,q2⟩
def Wx (t:TA):TE:=fun B H Q=>t B H λ xs H1=>xs.length<=sizeLine/\∀ p,H1 p=none->Q (.ref p) (upd H1 p (.tup xs))
def W9 (t:TA):TE:=fun B H Q=>t B H λ xs H1=>xs.length<=sizeLine/\∀ p,H1 p=none->Q (.ref p) (upd H1 p (.lst xs))
def UR {x1} (h:PA X es t):PE X (.Tuple es x1 pos) (Wx t):=by
 intro EH s B H Q I hq
 refine wpAny_Tuple_spliced (zE (h pos EH s B H _ I hq) λ us s1 ⟨xs,H1,I1,r,z,q⟩=>⟨by rw[<- r.length];exact z,?_⟩)
 have hf:H1 s1.heap.objs.size=none:=I1.zC.fresh (Ah _)
 refine⟨.ref s1.heap.objs.size,upd H1 s1.heap.objs.size (.tup xs),I1.laid (t':=s1.toks) (λ b u e=>Kr _ e) (Ah _) ?_,rfl,q _ hf⟩
 exact⟨z,us,r,⟨_,AF _ rfl,rfl,_,rfl⟩⟩
def UZ (h:PA X es t):PE X (.List es pos) (W9 t):=by
 intro EH s B H Q I hq
 refine wpAny_List_spliced (zE (h pos EH s B H _ I hq) λ us s1 ⟨xs,H1,I1,r,z,q⟩=>⟨by rw[<- r.length];exact z,?_⟩)
 have hf:H1 s1.heap.objs.size=none:=I1.zC.fresh (Ah _)
 refine⟨.ref s1.heap.objs.size,upd H1 s1.heap.objs.size (.lst xs),I1.laid (t':=s1.toks) (λ b u e=>Kr _ e) (Ah _) ?_,rfl,q _ hf⟩
 exact⟨z,us,0,r,AF _ rfl⟩
end
abbrev Sp:=List V->Hp->VK->XK->Prop
abbrev uS:=List Env->Hp->Shared->XK->Value->Shared->Prop
structure jP (P:Program) (w:World) (K:Ab) (mg:AG) (base:Heap) (A:Around) (outer:List Env) (s:Shared) (H:Hp):Prop where
 frames:A.frames=some outer
 mod:Mod K mg base
 bs:∀ b o,base.get? b=some o->s.heap.get? b=some o/\H b=none
 qH:base.objs.size<=s.heap.objs.size
 uE:s.heap.FunFrames base outer
 pO:∀ b∈vA outer,H b=none
 zC:yQ P w H s.heap
 bare:AllBare s.gens
def CE (outer:List Env) (P:Program) (w:World) (H:Hp) (s:Shared) (Q:VK) (u:Value) (s':Shared):Prop:=
 ∃ v H',s'.os=s.os/\AllBare s'.gens/\Un (vA outer) [] H H' s.heap s'.heap/\yQ P w H' s'.heap/\RelV v u/\Q v H'
def CR (CX:uS) (outer:List Env) (P:Program) (w:World) (H:Hp) (s:Shared) (Q:VK) (E:XK) (r:Result) (s':Shared):Prop:=
 match r with
 | .ok (.ret u)=>CE outer P w H s Q u s'
 | .ok _=>False
 | .error e=>CX outer H s E e s'
structure ux (P:Program) (w:World) (K:Ab) (mg:AG) (base:Heap) (CX:uS) (k:Nat) (f:Addr) (fd:FuncData) (ps:List Str) (sp:Sp):Prop where
 len:∀ vs H Q E,sp vs H Q E->vs.length=ps.length
 run:∀ (A:Around) (outer:List Env) (s:Shared) (H:Hp) (args:Args) (us:Af) (vs:List V) (Q:VK) (E:XK),yt k A->jP P w K mg base A outer s H->BindsTo s fd args (ps.zip us)->Vals vs us->sp vs H Q E->
  codeAny (model P w) A (.call (.ref f) args) (CR CX outer P w H s Q E) s
section
variable {X:Cx}{EH:Ag}{B:St}{H:Hp}{s s':Shared}
def Inv.OX (I:Inv X EH B H s):jP X.prog X.w X.K X.mg X.base X.A X.stack s H:=
 ⟨I.ok.frames,I.ok.mod,I.bs,A8 I.ok.qH I.sz,I.stack,I.cH,I.zC,I.bare⟩
def Inv.after {Q:VK}{u:Value}(I:Inv X EH B H s) (h:CE X.stack X.prog X.w H s Q u s'):EP X EH B Q u s':=by
 obtain⟨v,H',os,bare,un,zC,r,q⟩:=h
 obtain⟨hh,g,d,t,HR⟩:=s'
 obtain rfl:HR=s.os:=os
 exact⟨v,H',I.call (h':=hh) (g':=g) (d':=d) (t':=t) (ch:=[]) un zC bare (λ b z=>absurd z (by simp)),r,q⟩
end
def cG (sp:Sp) (HK:List V) (E:XK) (t:TA):TE:=fun B H Q=>t B H λ vs H1=>sp (vs++HK) H1 Q E
def Binds (K:Ab) (fd:FuncData) (ps:List Str) (ds:Af):Prop:=
 ∀ (s:Shared) (us:Af),K.In s.heap->(us++ds).length=ps.length->BindsTo s fd ⟨us,[]⟩ (ps.zip (us++ds))
def Binds.all {K:Ab}{fd:FuncData}{ps:List Str}(h:∀ us:List Value,us.length=ps.length->bindArgs fd ⟨us,[]⟩=pure (ps.zip us)):Binds K fd ps []:=λ s us _ hl=>by
 rw[C5] at hl ⊢
 exact .of_eq (h us hl)
def Passes (CX:uS) (X:Cx) (E:XK):Prop:=∀ (EH:Ag) (B:St) (H:Hp) (s:Shared) (e:Value) (s':Shared),Inv X EH B H s->CX X.stack H s E e s'->X.xe e s'
section
variable {X:Cx}{CX:uS}{k:Nat}{f:Addr}{fd:FuncData}{ps:List Str}{sp:Sp}{HK:List V}{ds:Af}{E:XK}{x:Str}{p pos:Pos}{e:Expr}{es:List Expr}{t:TA}
def VG {EH:Ag}{B:St}{H:Hp}{s:Shared}{Q:VK}{us:Af}{vs:List V}(F:ux X.prog X.w X.K X.mg X.base CX k f fd ps sp) (hr:yt k X.A) (hb:Binds X.K fd ps ds) (hd:Vals HK ds) (hx:Passes CX X E)
  (I:Inv X EH B H s) (r:Vals vs us) (h:sp (vs++HK) H Q E):wpAny (model X.prog X.w) X.A (call (.ref f) us) (EP X EH B Q) X.xe s:=by
 have r2:Vals (vs++HK) (us++ds):=r.append hd
 have hl:(us++ds).length=ps.length:=by rw[<- r2.length];exact F.len _ _ _ _ h
 refine wpAny_call (codeAny_mono (F.run X.A X.stack s H ⟨us,[]⟩ (us++ds) (vs++HK) Q E hr I.OX (hb s us I.v8 hl) r2 h) λ r s' hq=>?_)
 cases r with
 | error e=>exact hx EH B H s e s' I hq
 | ok fl=>
  cases fl with
  | ret u=>exact I.after hq
  | _=>exact False.elim hq
def Ti (F:ux X.prog X.w X.K X.mg X.base CX k f fd ps sp) (hr:yt k X.A) (hg:Gl X x) (hm:X.mg x=some (.ref f)) (hk:PySem.W.keepIn X.K (.ref f)=true) (hb:Binds X.K fd ps ds) (hd:Vals HK ds) (hx:Passes CX X E)
  (ha:PA X (e::es) t) (Cc:(x == ("__debug__":Str))=false:=by decide) (he:starEach (e::es) X.env=(false,eval e X.env)::starEach es X.env:=by rfl) (Aq:(backTo pos (starEach es X.env)).any (·.1)=false:=by rfl):
  PE X (.Call (.Name x p) (e::es) [] pos) (cG sp HK E t):=by
 intro EH s B H Q I h
 refine wpAny_Call_Name_kw (Zf I hg hm ?_ Cc)
 refine PySem.W.callWith_K (h₀:=X.base) I.ok.mod.fg hk (zE (ha pos EH s B H _ I h) λ us s1 ⟨vs,H1,I1,r,q⟩=>⟨I1.v8,?_⟩) he Aq
 exact VG F hr hb hd hx I1 r q
end
structure zU (N P:List Str) (sc:Scope):Prop where
 kind:sc.kind=.function
 co:sc.isCoroutine=false
 gen:sc.isGenerator=false
 nd:N.Nodup
 pre:N.take P.length=P
 par:∀ x∈P,sc.names.lookup x=some .local\/sc.names.lookup x=some .cell
 Q8:∀ y∈sc.names,y.2≠.free
theorem YF {kindOf:Str->Option NameKind}{x:Str}:∀ {binds:List (Str×Value)}{m:AG},(∀ v,(x,v)∉binds)->bindL kindOf binds m x=m x
 | [],_,_=>rfl
 | (n,v)::r,m,h=>by
  unfold bindL
  rw[YF λ w hw=>h w (Av _ hw)]
  split
  ·have:x≠n:=by rintro rfl;exact h v Ao
   simp[this]
  ·rfl
theorem YH {kindOf:Str->Option NameKind}{x:Str}:∀ {binds:List (Str×Value)}{m:AG},(∀ v,(x,v)∉binds)->bindC kindOf binds m x=m x
 | [],_,_=>rfl
 | (n,v)::r,m,h=>by
  unfold bindC
  rw[YH λ w hw=>h w (Av _ hw)]
  split
  ·rfl
  ·have:x≠n:=by rintro rfl;exact h v Ao
   simp[this]
theorem YG {kindOf:Str->Option NameKind}{x:Str}{v:Value}:∀ {P:List Str}{vs:Af}{i:Nat}{m:AG},P.Nodup->P[i]?=some x->vs[i]?=some v->kindOf x=some .local->
  bindL kindOf (P.zip vs) m x=some v
 | [],_,_,_,_,h,_,_=>by simp at h
 | _::_,[],_,_,_,_,h,_=>by simp at h
 | p::P,w::vs,0,m,nd,h1,h2,hk=>by
  simp at h1 h2;subst h1;subst h2
  show bindL kindOf ((p,w)::P.zip vs) m p=_
  unfold bindL
  rw[YF λ v hv=>(Bc.mp nd).1 (DB hv).1,if_pos hk]
  simp
 | p::P,w::vs,i+1,m,nd,h1,h2,hk=>by
  show bindL kindOf ((p,w)::P.zip vs) m x=_
  unfold bindL
  exact YG (i:=i) (Bc.mp nd).2 (by simpa using h1) (by simpa using h2) hk
theorem YI {kindOf:Str->Option NameKind}{x:Str}{v:Value}:∀ {P:List Str}{vs:Af}{i:Nat}{m:AG},P.Nodup->P[i]?=some x->vs[i]?=some v->kindOf x≠some .local->
  bindC kindOf (P.zip vs) m x=some v
 | [],_,_,_,_,h,_,_=>by simp at h
 | _::_,[],_,_,_,_,h,_=>by simp at h
 | p::P,w::vs,0,m,nd,h1,h2,hk=>by
  simp at h1 h2;subst h1;subst h2
  show bindC kindOf ((p,w)::P.zip vs) m p=_
  unfold bindC
  rw[YH λ v hv=>(Bc.mp nd).1 (DB hv).1,if_neg hk]
  simp
 | p::P,w::vs,i+1,m,nd,h1,h2,hk=>by
  show bindC kindOf ((p,w)::P.zip vs) m x=_
  unfold bindC
  exact YI (i:=i) (Bc.mp nd).2 (by simpa using h1) (by simpa using h2) hk
noncomputable def start (N:List Str) (vs:List V):St:=vs.map some++List.replicate (N.length-vs.length) none
noncomputable def tP (CX:uS) (P:Program) (w:World) (K:Ab) (mg:AG) (base:Heap) (N:List Str) (qual:Str) (scope:Scope) (f:Addr) (cd:Value) (A:Around) (outer:List Env) (s:Shared) (H:Hp) (E:XK):Cx where
 prog:=P
 w:=w
 K:=K
 mg:=mg
 base:=base
 A:=A.deeper (envOfC qual scope s.heap.objs.size f cd)
 N:=N
 s₀:=s
 H₀:=H
 env:=envOfC qual scope s.heap.objs.size f cd
 outer:=outer
 stack:=envOfC qual scope s.heap.objs.size f cd::outer
 ex:=[]
 calm:=true
 fn:=λ _=>true
 pn:=[]
 xe:=λ e s'=>wpAny (model P w) (A.deeper (envOfC qual scope s.heap.objs.size f cd)) (leaving (envOfC qual scope s.heap.objs.size f cd) e) (λ _ Hn=>CX outer H s E e Hn) (λ e' Hn=>CX outer H s E e' Hn) s'
def Y6 {sc:Scope}{n:Nat}{x:Str}(h:sc.names.lookup x=some .cell):∃ c,(cellsFrom n sc.names []).lookup x=some c:=by
 have q:=PySem.W.cellsFrom_some sc.names n [] (.inl h)
 exact DA.mp q
def PR {CX:uS}{P:Program}{w:World}{K:Ab}{mg:AG}{base:Heap}{N ps:List Str}{qual:Str}{scope:Scope}{f:Addr}{cd:Value}{A:Around}{outer:List Env}{s s1:Shared}{H:Hp}{E:XK}{us:Af}{vs:List V}
  (S:zU N ps scope) (hd:A.handled=none) (e0:jP P w K mg base A outer s H) (hl:vs.length=ps.length) (r:Vals vs us)
  (x:InCallC s s.heap.objs.size (bindL (envOfC qual scope s.heap.objs.size f cd).kindOf (ps.zip us) λ _=>none) (cellsFrom (s.heap.objs.size+1) scope.names []) (bindC (envOfC qual scope s.heap.objs.size f cd).kindOf (ps.zip us) λ _=>none) s1):
  Inv (tP CX P w K mg base N qual scope f cd A outer s H E) [] (start N vs) H s1:=by
 have Aq:ps.length<=N.length:=by have:=congrArg List.length S.pre;rw[C4] at this;lia
 obtain⟨h1,tk,rfl,hk⟩:=x.done
 have IG:∀ b:Addr,b∉(tP CX P w K mg base N qual scope f cd A outer s H E).ex:=λ b z=>absurd (show b∈([]:List Addr) from z) (by simp)
 refine⟨⟨e0.mod,S.kind,rfl,rfl,Ah _,λ y z c h1 h2=>?_,λ y hy=>?_,λ y c _ h=>?_,λ _=>hd,Around.frames_deeper e0.frames,.inr ⟨rfl,rfl⟩,λ b z=>absurd z (IG b),e0.bs,e0.qH,λ b _ _=>IG b,λ b z=>absurd z (IG b),e0.uE,e0.pO⟩,
  rfl,e0.bare,Un.kept hk,⟨_,x.toInCall.ns,λ i y v h1 h2 h3=>?_⟩,λ y c h=>⟨_,x.cell y c h⟩,e0.zC.fresh (Ah _),λ y c h=>?_,λ p hp=>absurd (show p∈([]:Ag) from hp) (by simp),e0.zC.kept hk,?_⟩
 ·exact name_of_addr x.apart (PySem.mem_of_lookup h1) (PySem.mem_of_lookup h2)
 ·have hy:scope.names.lookup y=some .cell\/scope.names.lookup y=some .free:=hy
  rcases hy with hy | hy
  ·exact Y6 hy
  ·exact absurd rfl (S.Q8 _ (PySem.mem_of_lookup hy))
 ·exact BE (x.above y c (PySem.mem_of_lookup h))
 ·have hi:i<vs.length:=by
   unfold start at h2
   by_cases hi:i<vs.length
   ·exact hi
   ·rw[Ci (by simpa using hi)] at h2
    rw[Dz] at h2
    split at h2 <;> cases h2
  have ha:vs[i]?=some v:=by
   unfold start at h2
   rw[Cg (by simpa using hi),AA] at h2
   cases e:vs[i]? with
   | none=>rw[e] at h2;cases h2
   | some a=>rw[e] at h2;cases h2;rfl
  obtain⟨u,hu,rv⟩:=r.get ha
  have hp:ps[i]?=some y:=by
   rw[<- S.pre,List.getElem?_take_of_lt (by lia)];exact h1
  have ndP:ps.Nodup:=by rw[<- S.pre];exact S.nd.sublist (List.take_sublist _ _)
  refine⟨u,rv,?_⟩
  rcases S.par y (Bg hp) with k | k
  ·exact .inl ⟨k,YG ndP hp hu k⟩
  ·obtain⟨c,e⟩:=Y6 (n:=s.heap.objs.size+1) k
   refine .inr ⟨.inl k,c,e,?_⟩
   have q:=x.cell y c e
   rw[YI ndP hp hu (by show scope.names.lookup y≠_;rw[k];decide)] at q
   exact q
 ·exact e0.zC.fresh (BE (x.above y c (PySem.mem_of_lookup h)))
 ·unfold start
  show _=N.length
  rw[Ck,Ay,List.length_replicate]
  lia
def OE {CX:uS}{P:Program}{w:World}{K:Ab}{mg:AG}{base:Heap}{k:Nat}{f:Addr}{name qual:Str}{params:Arguments}{body:List Stmt}{scope:Scope}{dV kV doc pm Ae ct oc:Value}{an od:Option Addr}
  {Hy:Array (Option Value)}{N ps:List Str}{sp:Sp}(lk:K.lookup f=some ⟨oc,od,.func (PySem.W.fnOf name qual params body scope dV kV doc pm an Ae ct),Hy⟩) (Bs:PySem.W.codeIn K Ae qual=true) (S:zU N ps scope)
  (len:∀ vs H Q E,sp vs H Q E->vs.length=ps.length)
  (FO:∀ (A:Around) (outer:List Env) (s:Shared) (H:Hp) (vs:List V) (Q:VK) (E:XK),yt k (A.deeper (envOfC qual scope s.heap.objs.size f Ae))->sp vs H Q E->
   ∃ t,xW (tP CX P w K mg base N qual scope f Ae A outer s H E) body t/\t { nx:=λ _ H'=>Q .zr H',rt:=Q } (start N vs) H):
  ux P w K mg base CX (k+1) f (PySem.W.fnOf name qual params body scope dV kV doc pm an Ae ct) ps sp:=by
 refine⟨len,λ A outer s H args us vs Q E hr e0 hb r BS=>?_⟩
 have hl:=len _ _ _ _ BS
 have KX:K.In s.heap:=e0.mod.fg.keeps λ b o e=>(e0.bs b o e).1
 have lim:s.heap.NoLimit:=e0.mod.nolimit.keeps λ b o e=>(e0.bs b o e).1
 have IW:∀ y∈ps.zip us,scope.names.lookup y.1=some .local\/(scope.names.lookup y.1=some .cell/\((cellsFrom (s.heap.objs.size+1) scope.names []).lookup y.1).isSome=true):=λ⟨n,v⟩ hy=>by
  rcases S.par n (DB hy).1 with q | q
  ·exact .inl q
  ·exact .inr ⟨q,PySem.W.cellsFrom_some _ _ _ (.inl q)⟩
 refine codeAny_call_function hr.depth (KX _ _ lk) rfl S.co S.gen rfl (PySem.W.codeRec_of KX Bs) (hb _ _ _ _ ?_)
 refine wpAny_newFunctionEnv_cells S.kind IW λ env he s1 x=>?_
 subst he
 refine⟨lim.keeps x.toInCall.keep,codeAny_func ?_⟩
 obtain⟨t,ht,hq⟩:=FO A outer s H vs Q E (hr.deeper _) BS
 have I:Inv (tP CX P w K mg base N qual scope f Ae A outer s H E) [] (start N vs) H s1:=PR S hr.hd e0 hl r x
 refine Kx (ht [] s1 (start N vs) H _ I hq) (λ fl s' hs=>?_) λ e s' hs=>hs
 have fin:∀ {B':St}{H':Hp}{v:V}{u:Value},Inv (tP CX P w K mg base N qual scope f Ae A outer s H E) [] B' H' s'->RelV v u->Q v H'->CE outer P w H s Q u s':=
  λ{B' H' v u} J rv q=>⟨v,H',J.os,J.bare,J.base,J.zC,rv,q⟩
 cases fl with
 | ret u=>
  obtain⟨v,B',H',J,rv,q⟩:=hs
  exact fin J rv q
 | next=>
  obtain⟨B',H',J,q⟩:=hs
  exact fin (v:=V.zr) (u:=Value.none) J rfl q
 | brk=>
  obtain⟨_,_,_,q⟩:=hs
  exact False.elim q
 | cont=>
  obtain⟨_,_,_,q⟩:=hs
  exact False.elim q
section
variable {X:Cx}{x:Str}{p pos:Pos}{e:Expr}{es:List Expr}{t:TA}{id T:String}{r:List V->Hp->VK->Prop}
def lN (r:List V->Hp->VK->Prop) (t:TA):TE:=fun B H Q=>t B H λ vs H1=>r vs H1 Q
def u_ (hc:yA X (.builtin id) r) (hg:Gl X x) (hm:X.mg x=none) (hv:bootBuiltins x=some (.builtin id)) (ha:PA X (e::es) t) (hn:x≠"__name__":=by decide) (Cc:(x == ("__debug__":Str))=false:=by decide)
  (he:starEach (e::es) X.env=(false,eval e X.env)::starEach es X.env:=by rfl) (Aq:(backTo pos (starEach es X.env)).any (·.1)=false:=by rfl):PE X (.Call (.Name x p) (e::es) [] pos) (lN r t):=by
 intro EH s B H Q I h
 refine wpAny_Call_Name_kw (rO I hg hm hv ?_ hn Cc)
 exact PyProof.Rows.callWith_builtin1 (zE (ha pos EH s B H _ I h) λ us s1 ⟨vs,H1,I1,r1,q1⟩=>hc EH s1 B H1 vs us Q I1 r1 q1) he Aq
def nh (hc:yA X (.type T) r) (hg:Gl X x) (hm:X.mg x=none) (hv:bootBuiltins x=some (.type T)) (ha:PA X (e::es) t) (hn:x≠"__name__":=by decide) (Cc:(x == ("__debug__":Str))=false:=by decide)
  (he:starEach (e::es) X.env=(false,eval e X.env)::starEach es X.env:=by rfl) (Aq:(backTo pos (starEach es X.env)).any (·.1)=false:=by rfl):PE X (.Call (.Name x p) (e::es) [] pos) (lN r t):=by
 intro EH s B H Q I h
 refine wpAny_Call_Name_kw (rO I hg hm hv ?_ hn Cc)
 exact PyProof.Rows.callWith_type1 (zE (ha pos EH s B H _ I h) λ us s1 ⟨vs,H1,I1,r1,q1⟩=>hc EH s1 B H1 vs us Q I1 r1 q1) he Aq
end
end L2
namespace HT
open PySem PyProof.Rows
noncomputable def lexLt:List Int->List Int->Bool
 | [],[]=>false
 | [],_::_=>true
 | _::_,[]=>false
 | x::xs,y::ys=>if x=y then lexLt xs ys else decide (x<y)
def tF (x y:Int) (xs ys:List Int):lexLt (x::xs) (y::ys)=if x=y then lexLt xs ys else decide (x<y):=rfl
def Q_:lexLt [] []=false:=rfl
def Pa (y:Int) (ys:List Int):lexLt [] (y::ys)=true:=rfl
def Pb (x:Int) (xs:List Int):lexLt (x::xs) []=false:=rfl
def OW (A:Around) (s:Shared) (a:Int) (t:Tok) (c:Int) (u:Tok):∃ e,SeqAt.EqAt A s (.int a t) (.int c u) e/\(e=true↔a=c):=
 ⟨(a == c),SeqAt.EqAt.int_int a t c u,by simp⟩
def VT (A:Around) (s:Shared) (a:Int) (t:Tok) (c:Int) (u:Tok) (prog:Program) (w:World) (E:Ad) (Q:Ad) (h:Q (.bool (decide (a<c))) s):
  wpAny (model prog w) A (richCompare .Lt (.int a t) (.int c u)) Q E s:=
 (PyProof.Rows.lt_int h:wpAny (model prog w) A (compareOp .Lt (.int a t) (.int c u)) Q E s)
section
open PySem.SeqAt
open PySem.AutoSeq1 (wpAny_loadPart')
open PySem.MeetsSeq PySem.MeetsSeq2 PySem.MeetsSeq3
def Wr (l b:Addr) (items Fs:Ar) (n n2:Nat) (dd Hm:Option Addr) (sl Hj:Array (Option Value)) (ns ms:List Int) (hi:IntsAre items.toList ns) (hj:IntsAre Fs.toList ms):
  Meets (Builtin.«tuple.__lt__» ⟨[.ref l,.ref b],[]⟩)
   (λ _ R s=>s.heap.get? l=some { cls:=.type "tuple",dict:=dd,data:=.seq items n,slots:=sl }/\s.heap.get? b=some { cls:=.type "tuple",dict:=Hm,data:=.seq Fs n2,slots:=Hj }/\
    R (.ok (.ret (.bool (lexLt ns ms)))) s):=
 .of_wp λ prog w A R s h=>by
  obtain⟨hp,g,d,tk,os⟩:=s;obtain⟨hl,hb,h⟩:=h
  have f2:=AutoSeq1.sub_tuple_tuple
  have z1:items.size=ns.length:=by rw[<- hi.length];simp
  have z2:Fs.size=ms.length:=by rw[<- hj.length];simp
  wp_walk using wpAny_loadPart' hl,wpAny_loadPart' hb,wpAny_forIn_list _ (λ EU b s'=>b.1=none/\s'=⟨hp,g,d,tk,os⟩/\∃ (vs ws:Af) (Gp Gq:List Int),EU=vs.zip ws/\
   IntsAre vs Gp/\IntsAre ws Gq/\Gp.length+Fs.size=Gq.length+items.size/\R (.ok (.ret (.bool (lexLt Gp Gq)))) ⟨hp,g,d,tk,os⟩) _
  case turn=>
   rintro⟨y,x⟩ EU b s' ⟨HI,rfl,vs,ws,Gp,Gq,hz,D_,CP,hlen,hR⟩
   cases D_ with
   | nil=>rw[List.zip_nil_left] at hz;cases hz
   | cons a t D9=>
    cases CP with
    | nil=>rw[List.zip_nil_right] at hz;cases hz
    | cons c u D7=>
     rw[D3] at hz
     injection hz with hyx IM
     injection hyx with hy hx
     subst hy hx
     rw[tF] at hR
     simp only[AX] at hlen
     obtain⟨e,he,Df⟩:=OW A.in1 ⟨hp,g,d,tk,os⟩ a t c u
     refine JC (he prog w _ _ ?_)
     cases e with
     | true=>
      rw[if_pos (Df.mp rfl)] at hR
      wp_walk
      exact⟨rfl,rfl,_,_,_,_,IM,D9,D7,by lia,hR⟩
     | false=>
      rw[if_neg (λ q=>absurd (Df.mpr q) BD)] at hR
      have hri:=VT A.in1 ⟨hp,g,d,tk,os⟩ a t c u prog w
      wp_walk using hri
      exact⟨_,rfl,by simpa using hR⟩
  case fin=>
   rintro⟨b1,b2⟩ s' ⟨HI,rfl,vs,ws,Gp,Gq,hz,D_,CP,hlen,hR⟩
   simp only at HI
   subst HI
   have hv:lexLt Gp Gq=decide (items.size<Fs.size):=by
    cases D_ with
    | nil=>
     cases CP with
     | nil=>
      simp only[C3] at hlen
      rw[Q_]
      exact (Kv (by lia)).symm
     | cons c u hw=>
      simp only[C3,AX] at hlen
      rw[Pa]
      exact (KA (by lia)).symm
    | cons a t hv=>
     cases CP with
     | nil=>
      simp only[C3,AX] at hlen
      rw[Pb]
      exact (Kv (by lia)).symm
     | cons c u hw=>
      rw[D3] at hz
      cases hz
   rw[hv] at hR
   wp_walk
   exact⟨_,rfl,by simpa [Builtin.Tuple.tupleCompareSizes] using hR⟩
  case h=>
   exact⟨rfl,rfl,items.toList,Fs.toList,ns,ms,rfl,hi,hj,by lia,h⟩
end
section
variable {prog:Program}{w:World}{A:Around}{E:Ad}{s:Shared}
def QS {l b:Addr}{items Fs:Ar}{ns ms:List Int}{Q:Ad}(hl:IsTup s.heap l items) (hb:IsTup s.heap b Fs) (hi:IntsAre items.toList ns) (hj:IntsAre Fs.toList ms)
  (hu:A.units<cLine) (h:Q (.bool (lexLt ns ms)) s):wpAny (model prog w) A (compareOp .Lt (.ref l) (.ref b)) Q E s:=by
 obtain⟨⟨cls,dd,data,sl⟩,ho,hc,n,hd⟩:=id hl
 obtain⟨⟨Ie,Hm,data2,Hj⟩,G1,Gm,n2,hd2⟩:=id hb
 simp only at hc hd Gm hd2
 subst hc hd Gm hd2
 exact richCompare_meets_room (op:=.Lt) ⟨_,ho,rfl⟩ ⟨_,G1,rfl⟩ PySem.F.slot_tuple_lt PySem.F.entry_tuple_lt (PySem.F.args_tuple_lt_2 _ _) (Wr l b items Fs n n2 dd Hm sl Hj ns ms hi hj)
  ⟨ho,G1,show Value.bool (lexLt ns ms)≠Value.notImplemented/\Q (.bool (lexLt ns ms)) s from ⟨(λ x=>nomatch x),h⟩⟩ hu
def NC {t b:Addr}{vs ws:Af}{Q:Ad}(ht:IsTup s.heap t vs.toArray) (hb:IsTup s.heap b ws.toArray) (hv:vs≠[])
  (h1:ws=[]->Q (.ref t) s) (h2:ws≠[]->Q (.ref s.heap.objs.size) { s with heap:=s.heap.push { cls:=.type "tuple",data:=.seq (vs++ws).toArray } })
  (hsz:vs.length+ws.length<=sizeLine):wpAny (model prog w) A (binaryOp .Add (.ref t) (.ref b)) Q E s:=by
 obtain⟨⟨cls,dd,data,sl⟩,ho,hc,n,hd⟩:=id ht
 obtain⟨⟨Ie,Hm,data2,Hj⟩,G1,Gm,n2,hd2⟩:=id hb
 simp only at hc hd Gm hd2
 subst hc hd Gm hd2
 have e:vs.toArray++ws.toArray=(vs++ws).toArray:=by simp
 by_cases hw:ws=[]
 ·exact concat_meets ⟨_,ho,rfl⟩ ⟨_,G1,rfl⟩ noFill_tuple_add seq_tuple_add PySem.F.slot_tuple_add PySem.F.entry_tuple_add (PySem.F.args_tuple_add_2 _ _)
   (tuple_addW1 t b vs.toArray ws.toArray n n2 dd Hm sl Hj (by simpa using hv) (by simp[hw])) ⟨ho,G1,h1 hw⟩
 ·refine concat_meets ⟨_,ho,rfl⟩ ⟨_,G1,rfl⟩ noFill_tuple_add seq_tuple_add PySem.F.slot_tuple_add PySem.F.entry_tuple_add (PySem.F.args_tuple_add_2 _ _)
   (tuple_addW2 t b vs.toArray ws.toArray n n2 dd Hm sl Hj (by simpa using hv) (by simpa using hw) (by rw[Ax,Ax];exact hsz)) ⟨ho,G1,?_⟩
  rw[e]
  exact h2 hw
noncomputable def zG (n d:Nat):Option Int->Nat
 | none=>d
 | some v=>if v<0 then (v+(n:Int)).toNat else min v.toNat n
def VE (n d:Nat) (hd:d<=n) (o:Option Int):zG n d o<=n:=by
 cases o with
 | none=>exact hd
 | some v=>
  show (if v<0 then (v+(n:Int)).toNat else min v.toNat n)<=n
  by_cases hv:v<0
  ·rw[if_pos hv];lia
  ·rw[if_neg hv];exact Nat.min_le_right _ _
def Y1 (v:Int) (n d:Nat):(if v<0 then max (v+(n:Int)) 0 else min v (n:Int))=((zG n d (some v):Nat):Int):=by
 show (if v<0 then max (v+(n:Int)) 0 else min v (n:Int))=(((if v<0 then (v+(n:Int)).toNat else min v.toNat n):Nat):Int)
 by_cases hv:v<0
 ·simp only[if_pos hv];lia
 ·simp only[if_neg hv];lia
def Mp (lo hi:Option Int) (n:Nat):Builtin.Slice.sliceAdjust lo hi 1 (n:Int)=(((zG n 0 lo:Nat):Int),((zG n n hi:Nat):Int)):=by
 have h1:¬ ((1:Int)<0):=by lia
 unfold Builtin.Slice.sliceAdjust
 simp only[h1,if_false]
 refine Prod.ext ?_ ?_
 ·cases lo with
  | none=>rfl
  | some v=>exact Y1 v n 0
 ·cases hi with
  | none=>rfl
  | some v=>exact Y1 v n n
def U5 (i j:Nat):Builtin.Slice.slicePlaces (i:Int) (j:Int) 1=j-i:=by
 unfold Builtin.Slice.slicePlaces
 have h1:(1:Int)>0:=by lia
 simp only[h1,if_true,Int.ediv_one]
 split <;> lia
def cR {v:Value}{o:Option Int}{Q:Option Int->Shared->Prop}(p:IsPart v o) (h:Q o s):wpAny (model prog w) A (Builtin.Slice.slicePartIndex v) Q E s:=by
 cases p with
 | none=>exact slicePart_none h
 | int i t=>exact slicePart_int h
def cT {sl:Addr}{vl vu:Value}{lo hi:Option Int}{n:Nat}{Q:Int×Int×Nat->Shared->Prop}(hs:s.heap.IsSliceOf sl vl vu .none) (pl:IsPart vl lo) (pu:IsPart vu hi)
  (h:Q (((zG n 0 lo:Nat):Int),1,zG n n hi-zG n 0 lo) s):wpAny (model prog w) A (Builtin.Slice.sliceApplied (.ref sl) (pure (n:Int))) Q E s:=by
 obtain⟨os,B_,hcs,DJ⟩:=id hs
 unfold Builtin.Slice.sliceApplied Builtin.Slice.sliceFields
 refine JC (JC (Ku B_ DJ (x:=vl) rfl (JC (Ku B_ DJ (x:=vu) rfl (JC (Ku B_ DJ (x:=.none) rfl (Ac ?_)))))))
 refine JC (slicePart_none ?_)
 show wpAny _ _ (if ((1:Int) == 0)=true then _ else _) _ _ s
 rw[if_neg (by decide)]
 refine JC (cR pl (JC (cR pu (JC (Ac ?_)))))
 show wpAny _ _ (match Builtin.Slice.sliceAdjust lo hi 1 (n:Int) with | (lo,hi)=>pure (lo,(1:Int),Builtin.Slice.slicePlaces lo hi 1)) _ _ s
 rw[Mp lo hi n]
 show wpAny _ _ (pure (((zG n 0 lo:Nat):Int),(1:Int),Builtin.Slice.slicePlaces ((zG n 0 lo:Nat):Int) ((zG n n hi:Nat):Int) 1)) _ _ s
 rw[U5]
 exact Ac h
def U8 (xs:Ar) (i k:Nat):((List.range k).filterMap λ(m:Nat)=>xs[((i:Int)+(m:Int)*1).toNat]?).toArray=((xs.toList.drop i).take k).toArray:=by
 have e:(λ(m:Nat)=>xs[((i:Int)+(m:Int)*1).toNat]?)=λ m=>xs[i+m]?:=by
  funext m
  have:((i:Int)+(m:Int)*1).toNat=i+m:=by lia
  rw[this]
 rw[e]
 have:=pick_run xs i k
 rw[List.filterMap_map] at this
 have e2:((λ x=>xs[x]?) ∘ λ x=>i+x)=λ m=>xs[i+m]?:=rfl
 rw[e2] at this
 rw[this]
def O5 {t sl:Addr}{items:Ar}{vl vu:Value}{lo hi:Option Int}{Q:Ad}(ht:IsTup s.heap t items) (hs:s.heap.IsSliceOf sl vl vu .none) (pl:IsPart vl lo) (pu:IsPart vu hi)
  (hw:¬ (zG items.size 0 lo=0/\zG items.size items.size hi=items.size))
  (h:Q (.ref s.heap.objs.size) { s with heap:=s.heap.push { cls:=.type "tuple",data:=.seq ((items.toList.drop (zG items.size 0 lo)).take (zG items.size items.size hi-zG items.size 0 lo)).toArray } })
  (hsz:items.size<=sizeLine):wpAny (model prog w) A (getItem (.ref t) (.ref sl)) Q E s:=by
 have GW:sizeOk (.seq ((items.toList.drop (zG items.size 0 lo)).take (zG items.size items.size hi-zG items.size 0 lo)).toArray):=by
  show ((items.toList.drop (zG items.size 0 lo)).take (zG items.size items.size hi-zG items.size 0 lo)).toArray.size<=sizeLine
  rw[Ax,C4,D2,Bl]
  lia
 have hj:zG items.size items.size hi<=items.size:=VE _ _ (Ah _) hi
 obtain⟨os,B_,hcs,DJ⟩:=id hs
 have hTs:s.TypeIs (.ref sl) "slice":=⟨os,B_,hcs⟩
 unfold getItem
 try with_reducible refine Kt ?_
 first | refine JC (Ac ?_) | skip
 refine JC (wpAny_sequenceKey ht.typeIs (by decide) ?_)
 refine JC (KD (name:=Str.ofString "__getitem__") ht.typeIs PyProof.Rows.slot_tuple_getitem
  (Kw PyProof.Rows.slot_tuple_getitem ht.typeIs entry_tuple_getitem ?_ (args_tuple_getitem _ _)))
 show wpAny _ _ (Builtin.Tuple.tupleItemsOf (.ref t) >>= _) _ _ s
 refine JC (tupleItemsOf_ ht ?_)
 refine JC (KI hTs ?_)
 rw[if_pos (by decide)]
 refine JC (cT hs pl pu ?_)
 have hno:¬ ((((zG items.size 0 lo:Nat):Int) == 0&&(1:Int) == 1&&(zG items.size items.size hi-zG items.size 0 lo) == items.size)=true):=by
  intro q
  rw[Be,Be] at q
  have q1:((zG items.size 0 lo:Nat):Int)=0:=eq_of_beq q.1.1
  have q2:zG items.size items.size hi-zG items.size 0 lo=items.size:=eq_of_beq q.2
  exact hw ⟨by lia,by lia⟩
 show wpAny _ _ (if (((zG items.size 0 lo:Nat):Int) == 0&&(1:Int) == 1&&(zG items.size items.size hi-zG items.size 0 lo) == items.size)=true then _ else _) _ _ s
 rw[if_neg hno,U8]
 first
  | exact JC (m:=Builtin.Tuple.tupleExact _) (Kz (Ac ⟨_,rfl,Ac h⟩) GW)
  | exact JC (m:=Builtin.Tuple.tupleExact _) (Kz (JC (Ac (Ac ⟨_,rfl,Ac h⟩))) GW)
  | exact JC (JC (m:=Builtin.Tuple.tupleExact _) (Kz (Ac (Ac ⟨_,rfl,Ac h⟩)) GW))
  | exact JC (JC (m:=Builtin.Tuple.tupleExact _) (Kz (Ac ⟨_,rfl,Ac h⟩) GW))
end
end HT
namespace L2
open PySem PySem.Spec PyProof.Rows
abbrev TO:=St->Hp->(Option Int->Hp->Prop)->Prop
def PO (X:Cx) (e:Option Expr) (t:TO):Prop:=
 ∀ (EH:Ag) (s:Shared) (B:St) (H:Hp) (Q:Option Int->Hp->Prop),Inv X EH B H s->t B H Q->
  wpAny (model X.prog X.w) X.A (evalPart e X.env) (λ u s'=>∃ o H',Inv X EH B H' s'/\IsPart u o/\Q o H') X.xe s
noncomputable def W7:TO:=λ _ H Q=>Q none H
noncomputable def W3 (t:TE):TO:=fun B H Q=>t B H λ x H1=>∃ i,x=.int i/\Q (some i) H1
def intsAre_of {ns:List Int}:∀ {us:Af},Vals (ns.map V.int) us->IntsAre us ns:=by
 induction ns with
 | nil=>intro us r;rw[Bb] at r;cases r;exact .nil
 | cons n ns ih=>
  intro us r
  rw[Au] at r
  cases r with
  | cons r1 r2=>
   obtain⟨t,e⟩:=r1
   subst e
   exact .cons n t (ih r2)
section
variable {X:Cx}{e:Expr}{te:TE}{lo hi:Option Expr}{tl th:TO}{pos p2:Pos}
def U4:PO X none W7:=by
 intro EH s B H Q I h
 rw[evalPart_none]
 exact Ac ⟨none,H,I,.none,h⟩
def U3 (h:PE X e te):PO X (some e) (W3 te):=by
 intro EH s B H Q I hw
 rw[evalPart_some]
 refine zE (h EH s B H _ I hw) λ u s1 ⟨x,H1,I1,r1,q1⟩=>?_
 obtain⟨i,rfl,q⟩:=q1
 obtain⟨t,rfl⟩:=r1
 exact⟨some i,H1,I1,.int i t,q⟩
def qc (X:Cx) (r:V->Option Int->Option Int->Hp->VK->Prop):Prop:=
 ∀ (EH:Ag) (s:Shared) (B:St) (H:Hp) (x:V) (v vl vu:Value) (lo hi:Option Int) (sl:Addr) (Q:VK),Inv X EH B H s->RelV x v->s.heap.IsSliceOf sl vl vu .none->IsPart vl lo->IsPart vu hi->r x lo hi H Q->
  ∃ T id,typeLookup (.type T) "__getitem__"=pure (some (.builtin id))/\s.TypeIs v T/\wpAny (model X.prog X.w) X.A (getItem v (.ref sl)) (EP X EH B Q) X.xe s
def qc.or {r r':V->Option Int->Option Int->Hp->VK->Prop}(h:qc X r) (h':qc X r'):qc X (λ x lo hi H Q=>r x lo hi H Q\/r' x lo hi H Q):=by
 intro EH s B H x v vl vu lo hi sl Q I rx hs pl pu q
 rcases q with q | q
 ·exact h EH s B H x v vl vu lo hi sl Q I rx hs pl pu q
 ·exact h' EH s B H x v vl vu lo hi sl Q I rx hs pl pu q
def Wz (r:V->Option Int->Option Int->Hp->VK->Prop) (te:TE) (tl th:TO):TE:=fun B H Q=>te B H λ x H1=>tl B H1 λ l H2=>th B H2 λ u H3=>r x l u H3 Q
def UT {r:V->Option Int->Option Int->Hp->VK->Prop}(hr:qc X r) (he:PE X e te) (hl:PO X lo tl) (hu:PO X hi th):PE X (.Subscript e (.Slice lo hi none p2) pos) (Wz r te tl th):=by
 intro EH s B H Q I h
 refine Subscript_ (zE (he EH s B H _ I h) λ v s1 ⟨x,H1,I1,r1,q1⟩=>?_)
 refine wpAny_Slice (zE (hl EH s1 B H1 _ I1 q1) λ vl s2 ⟨l,H2,I2,pl,q2⟩=>zE (hu EH s2 B H2 _ I2 q2) λ vu s3 ⟨u,H3,I3,pu,q3⟩=>?_)
 rw[evalPart_none]
 refine Ac ?_
 have I4:Inv X EH B H3 { s3 with heap:=s3.heap.push { cls:=.type "slice",data:=.fields #[vl,vu,.none] } }:=I3.kept (t':=s3.toks) λ b ob q=>Kr _ q
 obtain⟨T,id,hT,ht,hg⟩:=hr EH { s3 with heap:=s3.heap.push { cls:=.type "slice",data:=.fields #[vl,vu,.none] } } B H3 x v vl vu l u s3.heap.objs.size Q I4 r1 (Heap.IsSliceOf.new ..) pl pu q3
 show wpAny (model X.prog X.w) X.A (subscriptTail e (.Slice lo hi none p2) v (.ref s3.heap.objs.size)) (EP X EH B Q) X.xe { s3 with heap:=s3.heap.push { cls:=.type "slice",data:=.fields #[vl,vu,.none] } }
 exact tail_any (ops:=[.ref s3.heap.objs.size,v]) ht hT hg (by with_unfolding_all rfl)
def tQ (xs:List V) (lo hi:Option Int):List V:=(xs.drop (HT.zG xs.length 0 lo)).take (HT.zG xs.length xs.length hi-HT.zG xs.length 0 lo)
def Yw (xs:List V) (lo hi:Option Int):(tQ xs lo hi).length<=xs.length:=by
 unfold tQ
 rw[C4,D2]
 lia
def bA (K:Ab):V->Option Int->Option Int->Hp->VK->Prop:=λ x lo hi H Q=>∃ a xs,x=.ref a/\zT K H a xs/\
 ¬ (HT.zG xs.length 0 lo=0/\HT.zG xs.length xs.length hi=xs.length)/\∀ p,H p=none->Q (.ref p) (upd H p (.tup (tQ xs lo hi)))
def Vd:qc X (bA X.K):=by
 intro EH s B H x v vl vu lo hi sl Q I rx hs pl pu h
 obtain⟨a,xs,rfl,hx,hw,q⟩:=h
 cases rx
 obtain⟨its,r,ht,hz⟩:=I.tuple hx
 have hlen:its.toArray.size=xs.length:=by rw[Ax];exact r.length.symm
 refine⟨"tuple",_,PyProof.Rows.slot_tuple_getitem.lookup,ht.typeIs,?_⟩
 refine HT.O5 ht hs pl pu (by rw[hlen];exact hw) ?_ (by rw[hlen];exact hz)
 rw[hlen]
 refine⟨.ref s.heap.objs.size,_,I.laid (t':=s.toks) (o:=.tup (tQ xs lo hi)) (λ b ob q=>Kr _ q) (Ah _) ?_,rfl,q _ (I.zC.fresh (Ah _))⟩
 exact⟨A8 (Yw xs lo hi) hz,_,(r.drop (HT.zG xs.length 0 lo)).take (HT.zG xs.length xs.length hi-HT.zG xs.length 0 lo),IsTup.new _ _⟩
def gk (K:Ab):R2:=λ x y H Q=>∃ a b ns ms,x=.ref a/\y=.ref b/\zT K H a (ns.map V.int)/\zT K H b (ms.map V.int)/\Q (.bl (HT.lexLt ns ms)) H
def Sz (hu:X.A.units<cLine):yc X (compareOp .Lt) (gk X.K):=by
 intro EH s B H x y v u Q I rx ry h
 obtain⟨a,b,ns,ms,rfl,rfl,ha,hb,q⟩:=h
 cases rx
 cases ry
 obtain⟨its,r1,p1,_⟩:=I.tuple ha
 obtain⟨Fw,r2,p2,_⟩:=I.tuple hb
 have i1:IntsAre its.toArray.toList ns:=intsAre_of r1
 have i2:IntsAre Fw.toArray.toList ms:=intsAre_of r2
 exact HT.QS p1 p2 i1 i2 hu ⟨.bl (HT.lexLt ns ms),H,I,rfl,q⟩
def bJ (K:Ab):R2:=λ x y H Q=>∃ a b xs ys,x=.ref a/\y=.ref b/\zT K H a xs/\zT K H b ys/\xs≠[]/\xs.length+ys.length<=sizeLine/\
 (ys=[]->Q (.ref a) H)/\(ys≠[]->∀ p,H p=none->Q (.ref p) (upd H p (.tup (xs++ys))))
def Vals.nH {xs:List V}{us:Af}(r:Vals xs us):us=[]↔xs=[]:=by
 cases r with
 | _=>simp
def SH:yc X (binaryOp .Add) (bJ X.K):=by
 intro EH s B H x y v u Q I rx ry h
 obtain⟨a,b,xs,ys,rfl,rfl,ha,hb,hx,hz,q1,q2⟩:=h
 cases rx
 cases ry
 obtain⟨its,r1,p1,_⟩:=I.tuple ha
 obtain⟨Fw,r2,p2,_⟩:=I.tuple hb
 refine HT.NC p1 p2 (λ z=>hx (r1.nH.mp z)) (λ z=>⟨.ref a,H,I,rfl,q1 (r2.nH.mp z)⟩) (λ z=>?_) (by rw[<- r1.length,<- r2.length];exact hz)
 refine⟨.ref s.heap.objs.size,_,I.laid (t':=s.toks) (o:=.tup (xs++ys)) (λ b ob q=>Kr _ q) (Ah _) ?_,rfl,q2 (λ w=>z (r2.nH.mpr w)) _ (I.zC.fresh (Ah _))⟩
 exact⟨by rw[Ck];exact hz,_,r1.append r2,IsTup.new _ _⟩
end
noncomputable def wZ (n:Nat) (i:Int):Option Nat:=if 0<=i then (if i<n then some i.toNat else none) else if -(n:Int)<=i then some (i+n).toNat else none
def zP {α:Type}(xs:List α) (i:Int):Option α:=(wZ xs.length i).bind λ j=>xs[j]?
def Zo {n:Nat}{i:Int}{j:Nat}(h:wZ n i=some j):seqIndex? i n=some j/\j<n/\-(n:Int)<=i/\i<n:=by
 unfold wZ at h
 by_cases h0:0<=i
 ·rw[if_pos h0] at h
  by_cases h1:i<n
  ·rw[if_pos h1] at h
   have e:i.toNat=j:=A5 h
   exact⟨by rw[seqIndex_of h0 h1,e],by lia,by lia,h1⟩
  ·rw[if_neg h1] at h;cases h
 ·rw[if_neg h0] at h
  by_cases h1:-(n:Int)<=i
  ·rw[if_pos h1] at h
   have e:(i+n).toNat=j:=A5 h
   exact⟨by rw[seqIndex_neg (by lia) h1,e],by lia,h1,by lia⟩
  ·rw[if_neg h1] at h;cases h
def eB {α:Type}{xs:List α}{i:Int}{v:α}(h:zP xs i=some v):∃ j,seqIndex? i xs.length=some j/\xs[j]?=some v/\j<xs.length/\-(xs.length:Int)<=i/\i<xs.length:=by
 unfold zP at h
 cases e:wZ xs.length i with
 | none=>rw[e] at h;cases h
 | some j=>
  rw[e] at h
  obtain⟨h1,h2,h3,h4⟩:=Zo e
  exact⟨j,h1,h,h2,h3,h4⟩
def eA {α:Type}(xs:List α) (v:α):zP (xs++[v]) (-1)=some v:=by
 have hl:(xs++[v]).length=xs.length+1:=by simp
 have e:wZ (xs++[v]).length (-1)=some xs.length:=by
  unfold wZ
  rw[hl,if_neg (by decide),if_pos (by lia)]
  congr 1
  lia
 unfold zP
 rw[e]
 show (xs++[v])[xs.length]?=some v
 simp
def YX (b:Expr):Prop:=∀ o i,subscripted b false o i=operate [o,i] (getItem o i)
def rb (X:Cx) (r:R2):Prop:=
 ∀ (value slice:Expr) (EH:Ag) (s:Shared) (B:St) (H:Hp) (x y:V) (v u:Value) (Q:VK),Inv X EH B H s->RelV x v->RelV y u->r x y H Q->
  subscripted slice false v u=operate [v,u] (getItem v u)->wpAny (model X.prog X.w) X.A (subscriptTail value slice v u) (EP X EH B Q) X.xe s
def Mw (X:Cx) (id:String) (r:V->List V->Hp->VK->Prop):Prop:=
 ∀ (EH:Ag) (s:Shared) (B:St) (H:Hp) (x:V) (xs:List V) (v:Value) (us:Af) (Q:VK),Inv X EH B H s->RelV x v->Vals xs us->r x xs H Q->
  wpAny (model X.prog X.w) X.A (call (.builtin id) (v::us)) (EP X EH B Q) X.xe s
section
variable {X:Cx}{a b:Expr}{ta tb:TE}{pos:Pos}
def rb.or {r r':R2}(h:rb X r) (h':rb X r'):rb X (λ x y H Q=>r x y H Q\/r' x y H Q):=by
 intro value slice EH s B H x y v u Q I rx ry q hs
 rcases q with q | q
 ·exact h value slice EH s B H x y v u Q I rx ry q hs
 ·exact h' value slice EH s B H x y v u Q I rx ry q hs
def Ta {r:R2}(hr:rb X r) (ha:PE X a ta) (hb:PE X b tb) (hs:YX b):PE X (.Subscript a b pos) (oG r ta tb):=by
 intro EH s B H Q I h
 exact Subscript_ (ez ha hb I h λ v u s2 x y H2 I2 rx ry q=>hr a b EH s2 B H2 x y v u Q I2 rx ry q (hs _ _))
def bE (K:Ab):R2:=λ x y H Q=>∃ p xs i v,x=.ref p/\y=.int i/\zM K H p xs/\zP xs i=some v/\Q v H
def bC (K:Ab):R2:=λ x y H Q=>∃ p xs i v,x=.ref p/\y=.int i/\zT K H p xs/\zP xs i=some v/\Q v H
def bD:R2:=λ x y H Q=>∃ z i c,x=.str z/\y=.int i/\z.length<=sizeLine/\zP z.cps.toList i=some c/\Q (.str ⟨#[c]⟩) H
def PC:rb X (bE X.K):=by
 intro value slice EH s B H x y v u Q I rx ry h hs
 obtain⟨p,xs,i,z,rfl,rfl,hq,he,q⟩:=h
 cases rx
 obtain⟨t,rfl⟩:=ry
 obtain⟨its,r,pl,hz⟩:=I.list hq
 obtain⟨j,h1,h2,h3,h4,h5⟩:=eB he
 obtain⟨w,ew,G9⟩:=r.get h2
 have hl:=r.length
 have hn:=qA
 have fin:EP X EH B Q w s:=⟨z,H,I,G9,q⟩
 by_cases h0:0<=i
 ·have hj:i.toNat=j:=by
   rw[seqIndex_of h0 h5] at h1
   exact A5 h1
  exact item_listR pl.isList h0 (by lia) (by rw[hj];simpa using ew) fin hs
 ·have hj:(i+(its.toArray.size:Int)).toNat=j:=by
   rw[seqIndex_neg (by lia) h4] at h1
   rw[Ax,<- hl]
   exact A5 h1
  exact subscriptTail_builtinR (x:=w) pl.isList.typeIs slot_list_getitem.lookup
   (wpAny_getItem_list_neg (Q:=λ r s'=>r=w/\EP X EH B Q r s') pl.isList (by lia) (by rw[Ax] <;> lia) (by lia) (by rw[hj];simpa using ew) ⟨rfl,fin⟩) hs
def Pz:rb X (bC X.K):=by
 intro value slice EH s B H x y v u Q I rx ry h hs
 obtain⟨p,xs,i,z,rfl,rfl,hq,he,q⟩:=h
 cases rx
 obtain⟨t,rfl⟩:=ry
 obtain⟨its,r,pl,hz⟩:=I.tuple hq
 obtain⟨j,h1,h2,h3,h4,h5⟩:=eB he
 obtain⟨w,ew,G9⟩:=r.get h2
 have hl:=r.length
 have hn:=qA
 have fin:EP X EH B Q w s:=⟨z,H,I,G9,q⟩
 exact subscriptTail_builtinR (x:=w) pl.typeIs slot_tuple_getitem.lookup
  (getItem_tuple (j:=j) (Q:=λ r s'=>r=w/\EP X EH B Q r s') pl (by lia) (by lia) (by rw[Ax,<- hl];exact h1) (by simpa using ew) ⟨rfl,fin⟩) hs
def P0:rb X bD:=by
 intro value slice EH s B H x y v u Q I rx ry h hs
 obtain⟨z,i,c,rfl,rfl,hz,he,q⟩:=h
 obtain⟨t,rfl⟩:=rx
 obtain⟨t',rfl⟩:=ry
 obtain⟨j,h1,h2,h3,h4,h5⟩:=eB he
 have hl:z.cps.toList.length=z.length:=by simp[Str.length]
 rw[hl] at h1 h4 h5
 have hn:=qA
 exact tail_any (typeIs_str s z t) slot_str_getitem.lookup (getItem_str (c:=c) (by
  have e1:decide (i < -(2 ^ 63:Int))=false:=Kv (by lia)
  have e2:decide (i≥2 ^ 63)=false:=Kv (by lia)
  rw[e1,e2,Bool.or_false]) (by rw[h1];simpa using h2) ⟨.str ⟨#[c]⟩,H,I.tok _,⟨_,rfl⟩,q⟩) hs
def bF (K:Ab):R2:=λ x y H Q=>bE K x y H Q\/bC K x y H Q\/bD x y H Q
def PB:rb X (bF X.K):=PC.or (Pz.or P0)
def QR (its:Af) (n j:Nat) (u:Value):Obj.mapSeq (·.setIfInBounds j u) { cls:=.type "list",data:=.seq its.toArray n }={ cls:=.type "list",data:=.seq (its.set j u).toArray n }:=by
 simp[Obj.mapSeq]
theorem Inv.lst {EH:Ag}{B:St}{H:Hp}{s:Shared}{p:Addr}{xs:List V}(I:Inv X EH B H s) (h:H p=some (.lst xs)):
  ∃ (its:Af) (n:Nat),Vals xs its/\s.heap.get? p=some { cls:=.type "list",data:=.seq its.toArray n }/\xs.length<=sizeLine:=by
 obtain⟨z,its,n,r,e⟩:=I.zC p _ h
 exact⟨its,n,r,e,z⟩
def Inv.QU {EH:Ag}{B:St}{H:Hp}{s:Shared}{p:Addr}{xs ys:List V}{its AH:Af}{n n':Nat}{f:Obj->Obj}(I:Inv X EH B H s) (h:H p=some (.lst xs))
  (ho:s.heap.get? p=some { cls:=.type "list",data:=.seq its.toArray n }) (hf:f { cls:=.type "list",data:=.seq its.toArray n }={ cls:=.type "list",data:=.seq AH.toArray n' }) (r:Vals ys AH) (hz:ys.length<=sizeLine) (t:Nat):
  Inv X EH B (upd H p (.lst ys)) { s with heap:=s.heap.update p f,toks:=t }:=by
 have e:(s.heap.update p f).get? p=some { cls:=.type "list",data:=.seq AH.toArray n' }:=by
  rw[KH f ho (by rw[hf] <;> rfl),hf]
 refine I.write (x:=p) (e:=p) (by rw[h];trivial) (.inl rfl) (λ b u hb q=>(KQ _ _ (Ne.symm hb)).trans q) ⟨_,e⟩ ?_
 exact⟨hz,AH,n',r,e⟩
def V_:V->V->V->Hp->(Hp->Prop)->Prop:=λ o i v H Q=>∃ p xs k j,o=.ref p/\i=.int k/\H p=some (.lst xs)/\wZ xs.length k=some j/\Q (upd H p (.lst (xs.set j v)))
def set_list:YY X V_:=by
 intro EH s B H o i v ov iv u Q I ro ri rv h
 obtain⟨p,xs,k,j,rfl,rfl,hp,hj,q⟩:=h
 cases ro
 obtain⟨t,rfl⟩:=ri
 obtain⟨its,n,r,ho,hz⟩:=I.lst hp
 obtain⟨h1,h2,h3,h4⟩:=Zo hj
 have hl:=r.length
 have hn:=qA
 have I':Inv X EH B (upd H p (.lst (xs.set j v))) { s with heap:=s.heap.update p (Obj.mapSeq (·.setIfInBounds j u)) }:=
  I.QU hp ho (QR its n j u) (r.set rv j) (by rw[Dy];exact hz) s.toks
 by_cases h0:0<=k
 ·have hk:k.toNat=j:=by
   rw[seqIndex_of h0 h4] at h1
   exact A5 h1
  exact PySem.W.ki_setAt ho h0 (by lia) (by rw[Ax,<- hl];exact h4) (by rw[hk];exact⟨_,I',q⟩)
 ·have hk:(k+(its.toArray.size:Int)).toNat=j:=by
   rw[seqIndex_neg (by lia) h3] at h1
   rw[Ax,<- hl]
   exact A5 h1
  exact PySem.W.ki_setBack ho (by lia) (by rw[Ax,<- hl];exact h3) (by lia) (by rw[hk];exact⟨_,I',q⟩)
def Va (lo hi:Option Int) (n:Nat):(sliceBounds lo hi none n).1=((HT.zG n 0 lo:Nat):Int)/\(sliceBounds lo hi none n).2.1=((HT.zG n n hi:Nat):Int)/\(sliceBounds lo hi none n).2.2=1:=by
 refine⟨?_,?_,rfl⟩
 ·cases lo with
  | none=>simp[sliceBounds,HT.zG]
  | some i=>
   simp only[sliceBounds,HT.zG,Option.getD_none,show (1:Int)>0 by decide,if_true]
   by_cases h:i<0
   ·simp only[h,if_true] <;> lia
   ·simp only[h,if_false] <;> lia
 ·cases hi with
  | none=>simp[sliceBounds,HT.zG]
  | some i=>
   simp only[sliceBounds,HT.zG,Option.getD_none,show (1:Int)>0 by decide,if_true]
   by_cases h:i<0
   ·simp only[h,if_true] <;> lia
   ·simp only[h,if_false] <;> lia
def Vb (its:Af) (lo hi:Option Int):slicePick its.toArray lo hi none=((its.drop (HT.zG its.length 0 lo)).take (HT.zG its.length its.length hi-HT.zG its.length 0 lo)).toArray:=by
 obtain⟨h1,h2,h3⟩:=Va lo hi its.toArray.size
 unfold slicePick
 rw[h1,h2,h3]
 simp only[sliceRange_one,pick_run,Ax] <;> rfl
def bB (K:Ab):V->Option Int->Option Int->Hp->VK->Prop:=λ x lo hi H Q=>∃ a xs,x=.ref a/\zM K H a xs/\∀ p,H p=none->Q (.ref p) (upd H p (.lst (tQ xs lo hi)))
def Vf:qc X (bB X.K):=by
 intro EH s B H x v vl vu lo hi sl Q I rx hs pl pu h
 obtain⟨a,xs,rfl,hx,q⟩:=h
 cases rx
 obtain⟨its,r,ht,hz⟩:=I.list hx
 have hlen:=r.length
 refine⟨"list",_,slot_list_getitem.lookup,ht.isList.typeIs,?_⟩
 refine wpAny_getItem_list_slice ht.isList hs pl pu .none (by simp) ?_ (by rw[Ax] <;> lia)
 rw[Vb,<- hlen]
 refine⟨.ref s.heap.objs.size,_,I.laid (t':=s.toks) (o:=.lst (tQ xs lo hi)) (λ b ob q=>Kr _ q) (Ah _) ?_,rfl,q _ (I.zC.fresh (Ah _))⟩
 exact⟨A8 (Yw xs lo hi) hz,_,0,(r.drop (HT.zG xs.length 0 lo)).take (HT.zG xs.length xs.length hi-HT.zG xs.length 0 lo),AF _ rfl⟩
def NV:yA X (.builtin "len") (λ xs H Q=>∃ p ys,xs=[.ref p]/\(zM X.K H p ys\/zT X.K H p ys)/\Q (.int ys.length) H):=by
 intro EH s B H xs us Q I r h
 obtain⟨p,ys,rfl,hq,q⟩:=h
 obtain⟨u,rfl,rx⟩:=vals1 r
 cases rx
 have hn:=qA
 rcases hq with hq | hq
 ·obtain⟨its,r',pl,hz⟩:=I.list hq
  have hlen:=r'.length
  exact Calls.call_len_list pl.isList (by simp only[Ax] <;> lia) ⟨.int ys.length,H,I.tok _,⟨s.toks+1,by rw[Ax,hlen]⟩,q⟩
 ·obtain⟨its,r',pl,hz⟩:=I.tuple hq
  have hlen:=r'.length
  exact len_tuple pl (by simp only[Ax] <;> lia) ⟨.int ys.length,H,I.tok _,⟨s.toks+1,by rw[Ax,hlen]⟩,q⟩
def NU:yA X (.builtin "len") (λ xs H Q=>∃ z,xs=[.str z]/\z.length<=sizeLine/\Q (.int z.length) H):=by
 intro EH s B H xs us Q I r h
 obtain⟨z,rfl,hz,q⟩:=h
 obtain⟨u,rfl,t,rfl⟩:=vals1 r
 have hn:=qA
 exact len_str (by lia) ⟨.int z.length,H,I.tok _,⟨_,rfl⟩,q⟩
def yA.or {f:Value}{r r':List V->Hp->VK->Prop}(h:yA X f r) (h':yA X f r'):yA X f (λ xs H Q=>r xs H Q\/r' xs H Q):=by
 intro EH s B H xs us Q I rs q
 rcases q with q | q
 ·exact h EH s B H xs us Q I rs q
 ·exact h' EH s B H xs us Q I rs q
def NS:yA X (.type "list") (λ xs H Q=>∃ p ys,xs=[.ref p]/\(zM X.K H p ys\/zT X.K H p ys)/\∀ l,H l=none->Q (.ref l) (upd H l (.lst ys))):=by
 intro EH s B H xs us Q I r h
 obtain⟨p,ys,rfl,hq,q⟩:=h
 obtain⟨u,rfl,rx⟩:=vals1 r
 cases rx
 have fin:∀ (its:Af),Vals ys its->ys.length<=sizeLine->∀ (h':Heap) (c':Nat),(∀ b o',s.heap.get? b=some o'->h'.get? b=some o')->
   h'.get? s.heap.objs.size=some { cls:=.type "list",dict:=none,data:=.seq its.toArray c',slots:=#[] }->EP X EH B Q (.ref s.heap.objs.size) { s with heap:=h' }:=λ its r' hz h' c' kp e=>
  ⟨.ref s.heap.objs.size,_,I.laid (t':=s.toks) kp (Ah _) (show yW X.prog X.w _ h' _ (.lst ys) from ⟨hz,its,c',r',e⟩),rfl,q _ (I.zC.fresh (Ah _))⟩
 rcases hq with hq | hq
 ·obtain⟨its,r',pl,hz⟩:=I.list hq
  have hlen:=r'.length
  obtain⟨o,ho,hc,n,hd⟩:=pl.isList
  exact call_list_seq p (.inl rfl) ho hc hd (λ h' c' kp e=>fin its r' hz h' c' kp e) (by simp only[Ax] <;> lia)
 ·obtain⟨its,r',pl,hz⟩:=I.tuple hq
  have hlen:=r'.length
  obtain⟨o,ho,hc,n,hd⟩:=pl
  exact call_list_seq p (.inr rfl) ho hc hd (λ h' c' kp e=>fin its r' hz h' c' kp e) (by simp only[Ax] <;> lia)
def ND:yA X (.type "tuple") (λ xs H Q=>∃ p ys,xs=[.ref p]/\((zM X.K H p ys/\∀ l,H l=none->Q (.ref l) (upd H l (.tup ys)))\/(zT X.K H p ys/\Q (.ref p) H))):=by
 intro EH s B H xs us Q I r h
 obtain⟨p,ys,rfl,h⟩:=h
 obtain⟨u,rfl,rx⟩:=vals1 r
 cases rx
 rcases h with ⟨hq,q⟩ | ⟨hq,q⟩
 ·obtain⟨its,r',pl,hz⟩:=I.list hq
  have hlen:=r'.length
  refine call_tuple_list pl.isList (λ h' kp=>?_) (by simp only[Ax] <;> lia)
  have I1:Inv X EH B H { s with heap:=h' }:=I.kept (t':=s.toks) kp
  have I2:Inv X EH B (upd H h'.objs.size (.tup ys)) { s with heap:=h'.push { cls:=.type "tuple",data:=.seq its.toArray } }:=
   I1.laid (t':=s.toks) (λ b o e=>Kr _ e) (Ah _) (show yW X.prog X.w _ _ _ (.tup ys) from ⟨hz,its,r',IsTup.new _ _⟩)
  exact⟨.ref h'.objs.size,_,I2,rfl,q _ (I1.zC.fresh (Ah _))⟩
 ·obtain⟨its,r',pl,hz⟩:=I.tuple hq
  exact call_tuple_same pl ⟨.ref p,H,I,rfl,q⟩
def cC (K:Ab) (T:String) (x:V) (H:Hp):Prop:=match x with
 | .str _=>T="str"
 | .int _=>T="int"
 | .ref p=>(T="list"/\∃ xs,zM K H p xs)\/(T="tuple"/\∃ o,K.lookup p=some o/\o.cls=.type "tuple"/\o.dict=none)\/
   (T="dict"/\((∃ Aa,H p=some (.dK Aa))\/∃ Aa,H p=some (.dT Aa)))\/(T="set"/\∃ S n,H p=some (.set S n))
 | _=>False
def Wi {EH:Ag}{B:St}{H:Hp}{s:Shared}{T:String}{x:V}{v:Value}(I:Inv X EH B H s) (r:RelV x v) (ty:cC X.K T x H):
  s.TypeIs v T/\∀ a,v=.ref a->∃ ob,s.heap.get? a=some ob/\ob.dict=none:=by
 cases x with
 | str z=>
  obtain⟨t,rfl⟩:=r
  cases (show T="str" from ty)
  exact⟨typeIs_str s z t,λ _ e=>nomatch e⟩
 | int i=>
  obtain⟨t,rfl⟩:=r
  cases (show T="int" from ty)
  exact⟨typeIs_int s i t,λ _ e=>nomatch e⟩
 | ref p=>
  cases r
  rcases ty with ⟨rfl,xs,hq⟩ | ⟨rfl,o,hk,hc,hd⟩ | ⟨rfl,hk⟩ | ⟨rfl,S,n,hk⟩
  ·obtain⟨its,_,pl,_⟩:=I.list hq
   refine⟨pl.isList.typeIs,λ a e=>?_⟩
   cases e
   obtain⟨o,n,e,c,hd,_⟩:=pl
   exact⟨o,e,hd⟩
  ·refine⟨⟨o,I.v8 p o hk,hc⟩,λ a e=>?_⟩
   cases e
   exact⟨o,I.v8 _ o hk,hd⟩
  ·have z:∃ o,s.heap.get? p=some o/\o.ExactDict:=by
    rcases hk with ⟨Aa,hk⟩ | ⟨Aa,hk⟩
    ·obtain⟨_,_,_,_,o,_,_,e,ex,_⟩:=I.zC p _ hk
     exact⟨o,e,ex⟩
    ·obtain⟨_,_,_,_,o,_,_,e,ex,_⟩:=I.zC p _ hk
     exact⟨o,e,ex⟩
   obtain⟨o,e,ex⟩:=z
   refine⟨⟨o,e,ex.1⟩,λ a e2=>?_⟩
   cases e2
   exact⟨o,e,ex.2.1⟩
  ·obtain⟨o,_,_,_,e,ex,_⟩:=I.zC p _ hk
   refine⟨⟨o,e,ex.1⟩,λ a e2=>?_⟩
   cases e2
   exact⟨o,e,ex.2.1⟩
 | _=>exact False.elim ty
def iw (K:Ab) (T:String) (r:V->List V->Hp->VK->Prop) (to:TE) (t:TA):TE:=fun B H Q=>to B H λ x H1=>cC K T x H1/\t B H1 λ xs H2=>r x xs H2 Q
variable {o e:Expr}{es:List Expr}{to:TE}{t:TA}{name:Str}{apos Ak:Pos}{T id:String}{r:V->List V->Hp->VK->Prop}
def bU (pa:PlainAttrs T) (slot:Slot T name id) (Ea:typeOf (.builtin id)=pure (.type "method_descriptor")) (hm:Mw X id r) (ho:PE X o to) (ha:PA X (e::es) t)
  (GI:attributeBase o name X.env (eval o X.env)=eval o X.env:=by rfl)
  (AM:((backTo Ak (starEach (e::es) X.env)).all (λ x=>!x.1)&&(backToKw Ak (keywordEach [] X.env)).all (λ x=>x.1.isSome)
   && decide ((e::es).length+([]:List Keyword).length+(if ([]:List Keyword).isEmpty then 0 else 1)<30))=true:=by rfl)
  (GF:(apos.endLine == Ak.line)=true:=by rfl) (hs:starEach (e::es) X.env=(false,eval e X.env)::starEach es X.env:=by rfl) (Ge:(backTo Ak (starEach es X.env)).any (·.1)=false:=by rfl):
  PE X (.Call (.Attribute o name apos) (e::es) [] Ak) (iw X.K T r to t):=by
 intro EH s B H Q I h
 refine wpAny_Call_method_late GI AM GF rfl (zE (ho EH s B H _ I h) λ v s1 ⟨x,H1,I1,r1,ty,q1⟩=>?_)
 obtain⟨h1,h2⟩:=Wi I1 r1 ty
 refine⟨T,id,pa,slot,Ea,h1,h2,?_⟩
 have hA:=ha Ak EH s1 B H1 _ I1 q1
 rw[hs] at hA ⊢
 refine Calls.callWith_builtin (by show (false||(backTo Ak (starEach es X.env)).any (·.1))=false;rw[Ge] <;> rfl) (Calls.evalArgs_plain ?_)
 exact zE hA λ us s2 ⟨vs,H2,I2,r2,q2⟩=>hm EH s2 B H2 x vs v us Q I2 r1 r2 q2
end
def Y_ (X:Cx) (id:String) (r:V->List V->Hp->VK->Prop):Prop:=
 ∀ (EH:Ag) (s:Shared) (B:St) (H:Hp) (x:V) (xs:List V) (v:Value) (us:Af) (Q:VK),Inv X EH B H s->RelV x v->Vals xs us->r x xs H Q->
  wpAny (model X.prog X.w) X.A (call (.builtin id) (v::us)) (EP X EH B Q) X.xe s
theorem Vals.one:∀ {x:V}{us:Af},Vals [x] us->∃ u,us=[u]/\RelV x u
 | _,_,.cons r .nil=>⟨_,rfl,r⟩
theorem Vals.rep {xs:List V}{us:Af}(h:Vals xs us):∀ k:Nat,Vals (List.replicate k xs).flatten (List.replicate k us).flatten
 | 0=>.nil
 | k+1=>by
  rw[BN,BN,Cf,Cf]
  exact Vals.append h (Vals.rep h k)
section
variable {X:Cx}{EH:Ag}{B:St}{H:Hp}{s:Shared}{l:Addr}{xs ys:List V}
def Inv.aU {its AH:Af}{n:Nat}{f:Array Value->Array Value}{t':Nat}(I:Inv X EH B H s) (hH:H l=some (.lst xs))
  (e:s.heap.get? l=some { cls:=.type "list",data:=.seq its.toArray n }) (hf:f its.toArray=AH.toArray) (hv:Vals ys AH) (hz:ys.length<=sizeLine):
  Inv X EH B (upd H l (.lst ys)) { s with heap:=s.heap.update l (Obj.mapSeq f),toks:=t' }:=by
 have q:=PySem.IsL.update e f
 rw[hf] at q
 refine I.write (x:=l) (e:=l) (by rw[hH];exact trivial) (.inl rfl) (λ b' u hb hu=>(KQ s.heap (Obj.mapSeq f) (Ne.symm hb)).trans hu) ⟨_,q⟩ ?_
 exact⟨hz,AH,_,hv,q⟩
def Inv.QX {its:Af}{t':Nat}(I:Inv X EH B H s) (hv:Vals ys its) (hz:ys.length<=sizeLine):
  Inv X EH B (upd H s.heap.objs.size (.lst ys)) { s with heap:=s.heap.push { cls:=.type "list",data:=.seq its.toArray },toks:=t' }:=
 I.laid (λ _ _ q=>Kr _ q) (Ah _) ⟨hz,its,0,hv,AF _ rfl⟩
theorem Inv.fresh (I:Inv X EH B H s):H s.heap.objs.size=none:=I.zC.fresh (Ah _)
def Inv.gR (I:Inv X EH B H s) (hH:H l=some (.lst xs)):xs.length<=sizeLine/\∃ (its:Af) (n:Nat),Vals xs its/\xs.length=its.length/\s.heap.get? l=some { cls:=.type "list",data:=.seq its.toArray n }:=by
 obtain⟨z,its,n,r,e⟩:=I.zC l _ hH
 exact⟨z,its,n,r,r.length,e⟩
def Q6 {n:Nat}(h:n<=sizeLine):Builtin.List.listTooLong n=false:=by
 unfold Builtin.List.listTooLong
 exact Kv (by lia)
def bL:V->List V->Hp->VK->Prop:=λ x vs H Q=>∃ l xs y,x=.ref l/\vs=[y]/\H l=some (.lst xs)/\xs.length<sizeLine/\Q .zr (upd H l (.lst (xs++[y])))
def aQ:Y_ X "list.append" bL:=by
 intro EH s B H x vs v us Q I rx rv h
 obtain⟨l,xs,y,rfl,rfl,hH,hz,q⟩:=h
 cases rx
 obtain⟨u,rfl,ru⟩:=rv.one
 obtain⟨z,its,n,r,hl,e⟩:=I.gR hH
 refine call_meets F.slot_list_append ⟨_,e,rfl⟩ F.entry_list_append (F.args_list_append_2 _ _) (PySem.list_append l its.toArray n u (by rw[Ax];lia)) ⟨e,?_⟩
 refine⟨.zr,_,I.aU (AH:=its++[u]) hH e (by simp) (r.append (.cons ru .nil)) ?_,rfl,q⟩
 rw[Ck,List.length_singleton]
 lia
def bH:V->List V->Hp->VK->Prop:=λ x vs H Q=>∃ l b xs zs,x=.ref l/\vs=[.ref b]/\H l=some (.lst xs)/\H b=some (.lst zs)/\xs.length+zs.length<=sizeLine/\Q .zr (upd H l (.lst (xs++zs)))
def QM:Y_ X "list.extend" bH:=by
 intro EH s B H x vs v us Q I rx rv h
 obtain⟨l,b,xs,zs,rfl,rfl,hH,hB,hz,q⟩:=h
 cases rx
 obtain⟨u,rfl,ru⟩:=rv.one
 cases ru
 obtain⟨z,its,n,r,hl,e⟩:=I.gR hH
 obtain⟨z2,Fw,n2,r2,Hk,e2⟩:=I.gR hB
 have hsz:its.toArray.size+Fw.toArray.size<=sizeLine:=by rw[Ax,Ax];lia
 have IT:¬ (!its.toArray.isEmpty&&Builtin.List.listTooLong (its.toArray.size+Fw.toArray.size))=true:=by
  rw[Q6 hsz,CM]
  exact BD
 refine call_meets F.slot_list_extend ⟨_,e,rfl⟩ F.entry_list_extend (F.args_list_extend_2 _ _)
  (AutoSeq1.list_extend_list_list_0 l its.toArray n b Fw.toArray n2 IT (by rw[Ax];lia) (by lia)) ⟨e,e2,?_⟩
 refine⟨.zr,_,I.aU (AH:=its++Fw) hH e (by simp) (r.append r2) ?_,rfl,q⟩
 rw[Ck]
 lia
end
end L2
namespace XT
open PySem PySem.W PySem.Calls PyProof.Rows
def PX {P:Params}{h:Heap}:∀ (ns:List Int) (vs:Af),WellAll P h vs (ns.map WData.int)->IntsAre vs ns:=by
 intro ns
 induction ns with
 | nil=>
  intro vs w
  rw[Bb] at w
  cases w
  exact .nil
 | cons n ns ih=>
  intro vs w
  rw[Au] at w
  cases w with
  | cons a b=>
   cases a
   exact .cons _ _ (ih _ b)
def Vn {l:OpenLaw}{n:Nat}(hn:l.most=some n) {P:Params}{h:Heap}{args:List WData}{vals:Af}
  (B8:l.row.toRowW.claim.pre args=true) (D6:WellAll P h vals args):
  ∃ a vs ns,vals=[Value.ref a]/\args=[WData.list (ns.map WData.int)]/\h.get? a=some { cls:=.type "list",data:=.seq vs.toArray }/\IntsAre vs ns/\ns.length<=n:=by
 have DE:WShape.hasAll [] args [.list .int]=true:=(pre_splitW B8).1
 have hc:l.pre.holds [] { args:=args }=true:=(pre_splitW B8).2
 obtain⟨d,r,rfl,h1,h2⟩:=hasAllW_cons DE
 obtain rfl:=hasAllW_nil h2
 obtain⟨xs,rfl,h3⟩:=hasW_list h1
 obtain⟨ns,rfl⟩:=items_int h3
 have hlen:ns.length<=n:=by
  unfold OpenLaw.pre at hc
  have h4:(WTm.not (.lt (.lit (.int (n:Int))) (.len (.arg 0)))).holds [] { args:=[.list (ns.map .int)] }=true:=by
   have h4:=(holds_andW hc).1
   rw[hn] at h4
   exact h4
  have h5:=condW_of h4 (w_not (w_lt w_lit (w_len_list (w_arg rfl))))
  rw[Ay] at h5
  refine Nat.le_of_not_lt λ q=>?_
  have q':(n:Int)<((ns.length:Nat):Int):=by lia
  first
   | (rw[KA q'] at h5;exact absurd h5 (by decide))
   | (simp at h5;lia)
 cases D6 with
 | cons w1 w2=>
  cases w2
  cases w1 with
  | list ho AD=>exact⟨_,_,ns,rfl,rfl,ho,PX ns _ AD,hlen⟩
def U1 (l:OpenLaw) (args:List WData):l.row.toRowW.claim.post args (.bool true) args=true:=
 postW_of (r:=l.row.toRowW) (X:=(true == true))
  (show WShape.has [] (.bool true) .bool=true by first | rfl | decide | simp[WShape.has,WShape.arms,WShape.armsAll])
  (show (WTm.eq .res (.lit (.bool true))).value [] { args:=args,res:=some (.bool true),after:=args }=some (.bool (true == true)) from w_eq_bool (w_res rfl) w_lit) rfl
def Mi {l:OpenLaw}{n:Nat}{q:Program}{loose:List Str}{XP:(Str->Option Value)->Heap->Prop}{YP:World->Heap->Prop}{d:DefRec}
  (hn:l.most=some n) (Di:d.params.defaults=[])
  (call:∀ (w:World) (s₀ s₁:Shared) (mg mb:AG) (fa:Addr) (o:Obj) (pm cd doc:Value) (a:Addr) (vs:Af) (ns:List Int),
   Ground q loose [] XP w s₀ mg mb s₁.heap->YP w s₁.heap->
   s₁.heap.get? fa=some o->o.data=.func (docDef d.name d.params d.body d.scope pm cd doc)->s₁.heap.CodeRec cd d.name->mg d.name=some (.ref fa)->
   s₁.heap.get? a=some { cls:=.type "list",data:=.seq vs.toArray }->IntsAre vs ns->ns.length<=n->s₁.gens=#[]->
   codeAny (model l.prog w) callerA (.call (.ref fa) ⟨[.ref a],[]⟩) (λ r s'=>r=.ok (.ret (.bool true))/\OldK s₁.heap s'.heap/\s'.os=s₁.os/\AllBare s'.gens) s₁):
  WalkO q loose XP YP l.row.toRowW d [] (λ f vs=>PySem.call f vs):=by
 intro w s₀ s₁ mg mb G Y fa o pm cd doc dV kV ho hd Bs hD Dc hg args vals as B8 Dd hrd D6 Er
 obtain rfl:dV=.none:=Dflts.none hD Di
 obtain rfl:kV=.none:=Dflts.noKw hD
 obtain⟨a,vs,ns,rfl,rfl,CB,hints,hlen⟩:=Vn hn B8 D6
 refine enter_call (codeAny_mono (call w s₀ s₁ mg mb fa o pm cd doc a vs ns G Y ho (fd_plain hd) Bs Dc CB hints hlen hg) λ r s' hq=>?_)
 obtain⟨rfl,h2,h3,h4⟩:=hq
 exact⟨.inl ⟨.bool true,.bool true,[],rfl,λ _=>rfl,.bool true,U1 l _,λ _=>⟨List.Pairwise.nil,λ _ hm=>(nomatch hm)⟩⟩,h2,h3,h4⟩
end XT
namespace L2
open PySem PySem.Spec PyProof.Rows
theorem cw:∀ {vs:Af}{ns:List Int},IntsAre vs ns->Vals (ns.map V.int) vs
 | _,_,.nil=>.nil
 | _,_,.cons n t h=>.cons ⟨t,rfl⟩ (cw h)
def jB (H:Hp):Prop:=∀ b,H b=none\/∃ o xs,H b=some (.wb o (.lst xs))
def Pn {P:Program}{w:World}{K:Ab}{mg mb:AG}{CX:uS}{k:Nat}{fa a:Addr}{fd:FuncData}{x:Str}{sp:Sp}{s₁:Shared}{vs:Af}{ns:List Int}
  (KX:K.In s₁.heap) (CC:s₁.heap.Ns mainGlobals mg) (hb:s₁.heap.Ns builtinsNs mb) (hbb:∀ x:Str,x≠"__name__"->mb x=bootBuiltins x) (Es:s₁.heap.NoLimit) (hg:s₁.gens=#[])
  (ha:s₁.heap.get? a=some { cls:=.type "list",data:=.seq vs.toArray }) (hi:IntsAre vs ns) (hl:ns.length<=sizeLine) (hr:yt k callerA)
  (F:∀ base:Heap,K.In base->base.Ns mainGlobals mg->ux P w K mg base CX k fa fd [x] sp) (IY:∀ (s:Shared) (u:Value),BindsTo s fd ⟨[u],[]⟩ [(x,u)])
  (BS:∀ H:Hp,jB H->zM K H a (ns.map V.int)->sp [.ref a] H (λ v _=>v=.bl true) λ _ _ _=>False)
  (Kd:∀ H e s',CX [] H s₁ (λ _ _ _=>False) e s'->False):
  codeAny (model P w) callerA (.call (.ref fa) ⟨[.ref a],[]⟩) (λ r s'=>r=.ok (.ret (.bool true))/\OldK s₁.heap s'.heap/\s'.os=s₁.os/\AllBare s'.gens) s₁:=by
 have rv:=cw hi
 have JM:=hi.length
 have core:∀ H:Hp,jB H->zM K H a (ns.map V.int)->yQ P w H s₁.heap->(∀ b,H b≠none->b=a)->(H a≠none->K.lookup a=none)->
   codeAny (model P w) callerA (.call (.ref fa) ⟨[.ref a],[]⟩) (λ r s'=>r=.ok (.ret (.bool true))/\OldK s₁.heap s'.heap/\s'.os=s₁.os/\AllBare s'.gens) s₁:=by
  intro H hO hS zC hA hK
  have GY:∀ {b:Addr}{o:Obj},s₁.heap.get? b=some o->H b=none->(sN s₁.heap H).get? b=some o:=λ e n=>Oh e n
  have IG:∀ {b:Addr}{o:Obj}{es:Array DictEntry}{ep:Nat},s₁.heap.get? b=some o->o.data=.dict es ep->H b=none:=λ{b o es ep} e d=>by
   cases q:H b with
   | none=>rfl
   | some u=>
    have e':b=a:=hA b (by rw[q];simp)
    subst e'
    rw[ha] at e;cases e
    have d':Data.seq vs.toArray _=Data.dict es ep:=d
    cases d'
  have Jn:∀ {b:Addr}{m:AG},s₁.heap.Ns b m->(sN s₁.heap H).Ns b m:=λ{b m} ⟨o,es,ep,e,d,r⟩=>⟨o,es,ep,GY e (IG e d),d,r⟩
  have hKb:K.In (sN s₁.heap H):=λ b o e=>GY (KX b o e) (by
   cases q:H b with
   | none=>rfl
   | some u=>
    have e':b=a:=hA b (by rw[q];simp)
    subst e'
    rw[hK (by rw[q];simp)] at e;cases e)
  have hM:Mod K mg (sN s₁.heap H):=⟨hKb,Jn CC,⟨mb,Jn hb,hbb⟩,let ⟨mc,h1,h2⟩:=Es;⟨mc,Jn h1,h2⟩⟩
  have e0:jP P w K mg (sN s₁.heap H) callerA [] s₁ H:=⟨rfl,hM,λ b o e=>Q4 e,Nat.le_of_eq (Og _ _),trivial,λ b hb=>absurd (show b∈([]:List Addr) from hb) (by simp),zC,.of_eq hg⟩
  refine codeAny_mono ((F _ hKb (Jn CC)).run callerA [] s₁ H ⟨[.ref a],[]⟩ [.ref a] [.ref a] _ _ hr e0 (IY s₁ (.ref a)) (.cons rfl .nil) (BS H hO hS)) λ r s' h=>?_
  cases r with
  | error e=>exact (Kd H e s' h).elim
  | ok fl=>
   cases fl with
   | ret u=>
    obtain⟨v,H',os,bare,un,Ej,r',q⟩:=h
    have q':v=.bl true:=q
    subst q'
    obtain rfl:u=Value.bool true:=r'
    refine⟨rfl,OldK.of_keep λ b o e=>?_,os,bare⟩
    cases q:H b with
    | none=>exact un.keep b o e q (by intro z;exact absurd (show b∈([]:List Addr) from z) (by simp)) (by simp)
    | some u=>
     rcases hO b with z | ⟨ob,xs,z⟩
     ·rw[q] at z;cases z
     ·have z2:=un.sO b ob _ z
      obtain⟨e1,_⟩:=zC b _ z
      obtain⟨e2,_⟩:=Ej b _ z2
      rw[e] at e1;cases e1
      exact e2
   | _=>exact False.elim h
 cases hk:K.lookup a with
 | some o=>
  have e:=KX a o hk
  rw[ha] at e
  cases e
  refine core (λ _=>none) (λ _=>.inl rfl) (.inr ⟨_,vs.toArray,_,hk,rfl,rfl,rfl,by rw[Ax,JM];exact hl,by simpa using rv⟩) (λ b u z=>by have z':(none:Option HO)=some u:=z;cases z') (λ b z=>absurd rfl z) λ z=>absurd rfl z
 | none=>
  refine core (λ b=>if b=a then some (.wb { cls:=.type "list",data:=.seq vs.toArray } (.lst (ns.map V.int))) else none) (λ b=>?_) (.inl (.inr ⟨{ cls:=.type "list",data:=.seq vs.toArray },if_pos rfl⟩)) (λ b u z=>?_) (λ b z=>?_) λ _=>hk
  ·by_cases hb:b=a
   ·exact .inr ⟨_,_,if_pos hb⟩
   ·exact .inl (if_neg hb)
  ·by_cases hb:b=a
   ·have z':=(if_pos hb).symm.trans z
    cases z'
    subst hb
    exact⟨ha,by rw[Ay];exact hl,vs,_,rv,ha⟩
   ·have z':=(if_neg hb).symm.trans z
    cases z'
  ·by_cases hb:b=a
   ·exact hb
   ·exact absurd (if_neg hb) z
def XZ {l:PySem.W.OpenLaw}{n k:Nat}{q:Program}{loose:List Str}{XP:(Str->Option Value)->Heap->Prop}{YP:World->Heap->Prop}{d:DefRec}{K:Params->Ab}{CX:World->uS}{sp:World->Sp}{x:Str}
  (hn:l.most=some n) (hn2:n<=sizeLine) (Di:d.params.defaults=[]) (hr:yt k callerA)
  (hY:∀ (w:World) (h:Heap),YP w h->(K w.params).In h)
  (F:∀ (w:World) (mg:AG) (fa:Addr) (h:Heap),(K w.params).In h->h.Ns mainGlobals mg->mg d.name=some (.ref fa)->
   ∃ fd:FuncData,(∀ (s:Shared) (u:Value),BindsTo s fd ⟨[u],[]⟩ [(x,u)])/\
    ∀ base:Heap,(K w.params).In base->base.Ns mainGlobals mg->ux l.prog w (K w.params) mg base (CX w) k fa fd [x] (sp w))
  (BS:∀ (w:World) (H:Hp) (a:Addr) (ns:List Int),ns.length<=n->jB H->zM (K w.params) H a (ns.map V.int)->sp w [.ref a] H (λ v _=>v=.bl true) λ _ _ _=>False)
  (Kd:∀ (w:World) (H:Hp) (s:Shared) (e:Value) (s':Shared),CX w [] H s (λ _ _ _=>False) e s'->False):
  PySem.W.WalkO q loose XP YP l.row.toRowW d [] (λ f vs=>PySem.call f vs):=by
 refine XT.Mi hn Di λ w s₀ s₁ mg mb fa o pm cd doc a vs ns G Y ho hd Bs Dc CB hints hlen hg=>?_
 have KX:=hY w _ Y
 obtain⟨fd,hb,hF⟩:=F w mg fa _ KX G.T.g Dc
 exact Pn KX G.T.g G.T.b G.T.builtins G.T.nolimit hg CB hints (A8 hlen hn2) hr hF hb (λ H hO hS=>BS w H a ns hlen hO hS) λ H e s'=>Kd w H s₁ e s'
noncomputable def sR (s:Stmt):Arguments:=match s with
 | .FunctionDef _ a _ _ _ _ _ _ _ _=>a
 | _=>{ posonlyargs:=[],args:=[],vararg:=none,kwonlyargs:=[],kw_defaults:=[],kwarg:=none,defaults:=[] }
noncomputable def vj (s:Stmt):List Stmt:=match s with
 | .FunctionDef _ _ b _ _ _ _ _ _ _=>b
 | _=>[]
noncomputable def zB (s:Stmt):Scope:=match s with
 | .FunctionDef _ _ _ _ _ _ sc _ _ _=>sc
 | _=>{ kind:=.function,names:=[],isGenerator:=false,isCoroutine:=false }
abbrev vq:uS:=λ _ _ _ _ _ _=>False
abbrev E0:XK:=λ _ _ _=>False
def Se {X:Cx}:Passes vq X E0:=λ _ _ _ _ _ _ _ h=>h.elim
structure uO (K:Ab) (x qual:Str) (st:Stmt) (f:Addr) (fd:FuncData):Prop where
 ex:∃ (oc:Value) (od:Option Addr) (kV doc pm:Value) (an:Option Addr) (Ae ct:Value) (Hy:Array (Option Value)),
  fd=PySem.W.fnOf x qual (sR st) (vj st) (zB st) .none kV doc pm an Ae ct/\K.lookup f=some ⟨oc,od,.func fd,Hy⟩/\PySem.W.codeIn K Ae qual=true
 kp:PySem.W.keepIn K (.ref f)=true
section
variable {P:Program}{w:World}{K:Ab}{mg:AG}{base:Heap}
def uO.ok {x qual:Str}{st:Stmt}{f:Addr}{fd:FuncData}{N ps:List Str}{k:Nat}{sp:Sp}(F:uO K x qual st f fd) (S:zU N ps (zB st)) (len:∀ vs H Q E,sp vs H Q E->vs.length=ps.length)
  (FO:∀ (Ae:Value) (A:Around) (outer:List Env) (s:Shared) (H:Hp) (vs:List V) (Q:VK) (E:XK),yt k (A.deeper (envOfC qual (zB st) s.heap.objs.size f Ae))->sp vs H Q E->
   ∃ t,xW (tP vq P w K mg base N qual (zB st) f Ae A outer s H E).rM (vj st) t/\t { nx:=λ _ H'=>Q .zr H',rt:=Q } (start N vs) H):ux P w K mg base vq (k+1) f fd ps sp:=by
 obtain⟨oc,od,kV,doc,pm,an,Ae,ct,Hy,rfl,lk,Bs⟩:=F.ex
 refine OE lk Bs S len λ A outer s H vs Q E hr BS=>?_
 obtain⟨t,h,q⟩:=FO Ae A outer s H vs Q E hr BS
 exact⟨t,h.rM,q⟩
def uO.binds {x qual:Str}{st:Stmt}{f:Addr}{fd:FuncData}{ps:List Str}(F:uO K x qual st f fd)
  (h:∀ (kV doc pm:Value) (an:Option Addr) (Ae ct:Value) (us:Af),us.length=ps.length->bindArgs (PySem.W.fnOf x qual (sR st) (vj st) (zB st) .none kV doc pm an Ae ct) ⟨us,[]⟩=pure (ps.zip us)):Binds K fd ps []:=by
 obtain⟨oc,od,kV,doc,pm,an,Ae,ct,Hy,rfl,lk,Bs⟩:=F.ex
 exact .all (h kV doc pm an Ae ct)
def ZN {x qual:Str}{st:Stmt}{f:Addr}{oc:Value}{od an:Option Addr}{Hy:Array (Option Value)}{kV doc pm Ae ct:Value}(l:K.lookup f=some ⟨oc,od,.func (PySem.W.fnOf x qual (sR st) (vj st) (zB st) .none kV doc pm an Ae ct),Hy⟩)
  (c:PySem.W.codeIn K Ae qual=true) (k:PySem.W.keepIn K (.ref f)=true):uO K x qual st f (PySem.W.fnOf x qual (sR st) (vj st) (zB st) .none kV doc pm an Ae ct):=⟨⟨oc,od,kV,doc,pm,an,Ae,ct,Hy,rfl,l,c⟩,k⟩
end
def fu {A:Around}{k:Nat}(hr:yt k A):A.units+1<cLine:=Nat.lt_of_le_of_lt (Nat.add_le_add_left (by decide:1<=64) _) hr.units
section
variable {X:Cx}
def pv (i:Nat) {x:Str}{pos:Pos}(hN:X.N[i]?=some x:=by rfl) (hv:j6 X.env.scope x:=by first | exact Or.inl rfl | exact Or.inr (Or.inl rfl) | exact Or.inr (Or.inr rfl)) (hd:(x == ("__debug__":Str))=false:=by decide)
  (Bs:(x == ("__classdict__":Str))=false:=by decide):PE X (.Name x pos) (il i):=UP hN hv hd Bs
end
end L2
namespace PySem
theorem fX {env:Env}:∀ (l:List (Str×NameKind)) (acc:List (Str×Addr)),(∀ y∈l,y.2=.free->∃ c,env.cells.lookup y.1=some c)->
  ∃ cl,(forIn l acc (λ(x:Str×NameKind) r=>if (x.2 == NameKind.free)=true then do let a <- cellOf env x.1;pure (ForInStep.yield ((x.1,a)::r)) else pure (ForInStep.yield r)):Sem (List (Str×Addr)))=pure cl/\
   (∀ x c,cl.lookup x=some c->acc.lookup x=some c\/((x,NameKind.free)∈l/\env.cells.lookup x=some c))/\(∀ x,(x,NameKind.free)∈l\/(acc.lookup x).isSome->(cl.lookup x).isSome)
 | [],acc,_=>⟨acc,rfl,λ x c h=>.inl h,λ x h=>by simpa using h⟩
 | (n,k)::l,acc,h=>by
  by_cases hk:k=.free
  ·subst hk
   obtain⟨c,hc⟩:=h (n,.free) Ao rfl
   obtain⟨cl,e1,e2,e3⟩:=fX l ((n,c)::acc) λ y hy=>h y (Av _ hy)
   refine⟨cl,?_,λ x d hx=>?_,λ x hx=>?_⟩
   ·rw[Dx]
    simp only[beq_self_eq_true,if_true,cellOf,hc]
    exact e1
   ·rcases e2 x d hx with q | ⟨q1,q2⟩
    ·rw[Bw] at q
     cases C7:x == n with
     | true=>
      rw[C7] at q
      have:x=n:=by simpa using C7
      subst this
      refine .inr ⟨Ao,?_⟩
      rw[hc];exact q
     | false=>rw[C7] at q;exact .inl q
    ·exact .inr ⟨Av _ q1,q2⟩
   ·refine e3 x ?_
    rcases hx with hx | hx
    ·rcases Aj.mp hx with q | q
     ·have:x=n:=congrArg Prod.fst q
      subst this
      exact .inr (by simp[Bw])
     ·exact .inl q
    ·refine .inr ?_
     rw[Bw]
     cases x == n <;> simp[hx]
  ·have hb:(k == NameKind.free)=false:=by simpa using hk
   obtain⟨cl,e1,e2,e3⟩:=fX l acc λ y hy=>h y (Av _ hy)
   refine⟨cl,?_,λ x d hx=>?_,λ x hx=>?_⟩
   ·rw[Dx]
    simp only[hb,A9,if_false]
    exact e1
   ·rcases e2 x d hx with q | ⟨q1,q2⟩
    ·exact .inl q
    ·exact .inr ⟨Av _ q1,q2⟩
   ·refine e3 x ?_
    rcases hx with hx | hx
    ·rcases Aj.mp hx with q | q
     ·exact absurd (congrArg Prod.snd q).symm hk
     ·exact .inl q
    ·exact .inr hx
def Y0 {scope:Scope}{env:Env}(h:∀ y∈scope.names,y.2=.free->∃ c,env.cells.lookup y.1=some c):
  ∃ cl,closureFor scope env=pure cl/\(∀ x c,cl.lookup x=some c->(x,NameKind.free)∈scope.names/\env.cells.lookup x=some c)/\∀ x,(x,NameKind.free)∈scope.names->(cl.lookup x).isSome:=by
 obtain⟨cl,e1,e2,e3⟩:=fX (env:=env) scope.names [] h
 refine⟨cl,?_,λ x c hx=>?_,λ x hx=>e3 x (.inl hx)⟩
 ·simp only[closureFor]
  rw[e1]
  rfl
 ·rcases e2 x c hx with q | q
  ·simp at q
  ·exact q
theorem aY {env:Env}:∀ {names:List (Str×NameKind)}{x:Str},names.lookup x=some .free->
  (names.map λ(n,k)=>if (k == NameKind.free&&env.scope.kind == .function&&env.kindOf n == some .cell) then (n,NameKind.cell) else (n,k)).lookup x=some .cell\/
  (names.map λ(n,k)=>if (k == NameKind.free&&env.scope.kind == .function&&env.kindOf n == some .cell) then (n,NameKind.cell) else (n,k)).lookup x=some .free
 | [],_,h=>by simp at h
 | (n,k)::r,x,h=>by
  have ih:=@aY env r x
  show List.lookup x ((if (k == NameKind.free&&env.scope.kind == .function&&env.kindOf n == some .cell)=true then (n,NameKind.cell) else (n,k))::_)=_\/List.lookup x ((if (k == NameKind.free&&env.scope.kind == .function&&env.kindOf n == some .cell)=true then (n,NameKind.cell) else (n,k))::_)=_
  cases hx:x == n with
  | true=>
   simp only[Bw,hx] at h
   cases h
   by_cases hc:(NameKind.free == NameKind.free&&env.scope.kind == .function&&env.kindOf n == some .cell)=true
   ·rw[if_pos hc];simp[Bw,hx]
   ·rw[if_neg hc];simp[Bw,hx]
  | false=>
   simp only[Bw,hx] at h
   by_cases hc:(k == NameKind.free&&env.scope.kind == .function&&env.kindOf n == some .cell)=true
   ·rw[if_pos hc];simp only[Bw,hx];exact ih h
   ·rw[if_neg hc];simp only[Bw,hx];exact ih h
theorem bz {env:Env}:∀ {names:List (Str×NameKind)}{x:Str},(∀ y∈names,y.2≠.cell)->
  ((names.map λ(n,k)=>if (k == NameKind.free&&env.scope.kind == .function&&env.kindOf n == some .cell) then (n,NameKind.cell) else (n,k)).lookup x=some .cell\/
  (names.map λ(n,k)=>if (k == NameKind.free&&env.scope.kind == .function&&env.kindOf n == some .cell) then (n,NameKind.cell) else (n,k)).lookup x=some .free)->(x,NameKind.free)∈names
 | [],_,_,h=>by simp at h
 | (n,k)::r,x,hn,h=>by
  have ih:=@bz env r x λ y hy=>hn y (Av _ hy)
  have h':List.lookup x ((if (k == NameKind.free&&env.scope.kind == .function&&env.kindOf n == some .cell)=true then (n,NameKind.cell) else (n,k))::_)=some .cell\/List.lookup x ((if (k == NameKind.free&&env.scope.kind == .function&&env.kindOf n == some .cell)=true then (n,NameKind.cell) else (n,k))::_)=some .free:=h
  have hf:∀ k',((if (k == NameKind.free&&env.scope.kind == .function&&env.kindOf n == some .cell)=true then (n,NameKind.cell) else (n,k)):Str×NameKind)=(n,k')->(k'=.cell\/k'=.free)->k=.free:=by
   intro k' e GH
   by_cases hc:(k == NameKind.free&&env.scope.kind == .function&&env.kindOf n == some .cell)=true
   ·simp only[Be] at hc;simpa using hc.1.1
   ·rw[if_neg hc] at e
    have:k=k':=congrArg Prod.snd e
    subst this
    rcases GH with q | q
    ·exact absurd q (hn (n,k) Ao)
    ·exact q
  cases hx:x == n with
  | true=>
   have C7:x=n:=by simpa using hx
   subst C7
   by_cases hc:(k == NameKind.free&&env.scope.kind == .function&&env.kindOf x == some .cell)=true
   ·simp only[Be] at hc
    have:k=.free:=by simpa using hc.1.1
    subst this;exact Ao
   ·rw[if_neg hc] at h'
    simp only[Bw,beq_self_eq_true] at h'
    rcases h' with q | q
    ·exact absurd (A5 q) (hn (x,k) Ao)
    ·have:=A5 q
     subst this;exact Ao
  | false=>
   refine Av _ (ih ?_)
   by_cases hc:(k == NameKind.free&&env.scope.kind == .function&&env.kindOf n == some .cell)=true
   ·rw[if_pos hc] at h';simp only[Bw,hx] at h';exact h'
   ·rw[if_neg hc] at h';simp only[Bw,hx] at h';exact h'
end PySem
namespace L2
open PySem PySem.Spec PyProof.Rows
noncomputable def vZ (pick:List (Option Nat)) (B:St):St:=pick.map λ o=>o.bind λ i=>(B[i]?).join
noncomputable def yP (X:Cx) (N':List Str) (scope:Scope) (cl:List (Str×Addr)) (C:Addr) (s:Shared) (H:Hp) (ex:List Addr):Cx:=
 { X with N:=N',s₀:=s,H₀:=H,env:=compEnvC scope cl C X.env,outer:=X.stack,stack:=X.stack,ex:=ex,fn:=λ _=>false,pn:=[],xe:=λ _ _=>False }
noncomputable def px (N N':List Str) (pick:List (Option Nat)) (scope:Scope):Bool:=(N'.zip pick).all λ p=>match p.2 with
 | none=>true
 | some j=>decide (N[j]?=some p.1)&&decide (scope.names.lookup p.1=some .free)
structure qV (X:Cx) (N':List Str) (pick:List (Option Nat)) (scope:Scope):Prop where
 kind:scope.kind=.function
 aJ:∀ y∈scope.names,y.2≠.cell
 names:∀ y∈scope.names,y.2=.local->scope.names.lookup y.1=some .local
 free:∀ y∈scope.names,y.2=.free->X.env.scope.names.lookup y.1=some .cell\/X.env.scope.names.lookup y.1=some .free
 len:pick.length=N'.length
 ok:px X.N N' pick scope=true
def px.get {N N':List Str}{pick:List (Option Nat)}{scope:Scope}(h:px N N' pick scope=true) {i j:Nat}{x:Str}(h1:N'[i]?=some x) (h2:pick[i]?=some (some j)):N[j]?=some x/\scope.names.lookup x=some .free:=by
 unfold px at h
 have hm:(x,some j)∈N'.zip pick:=by
  refine Bg (i:=i) ?_
  rw[List.getElem?_zip_eq_some]
  exact⟨h1,h2⟩
 have q:=BQ.mp h _ hm
 simp only[Be,decide_eq_true_eq] at q
 exact q
def vZ.get {pick:List (Option Nat)}{B:St}{i:Nat}{v:V}(h:(vZ pick B)[i]?=some (some v)):∃ j,pick[i]?=some (some j)/\B[j]?=some (some v):=by
 unfold vZ at h
 rw[AA] at h
 cases e:pick[i]? with
 | none=>rw[e] at h;cases h
 | some o=>
  rw[e] at h
  cases o with
  | none=>simp at h
  | some j=>
   refine⟨j,rfl,?_⟩
   simp only[Option.map_some,Option.some.injEq,Bm] at h
   cases q:B[j]? with
   | none=>rw[q] at h;simp at h
   | some w=>rw[q] at h;simp at h;rw[h]
def PF (X:Cx) (ifs:List Expr) (t:TT):Prop:=∀ (EH:Ag) (s:Shared) (B:St) (H:Hp) (Q:Bool->Hp->Prop),Inv X EH B H s->t B H Q->
 wpAny (model X.prog X.w) X.A (forIn ifs true λ c r=>if r=true then do let ok <- isTrue c X.env (eval c X.env);pure (ForInStep.yield ok) else pure (ForInStep.yield r)) (TP X EH B Q) X.xe s
def UN {X:Cx}:PF X [] (λ _ H Q=>Q true H):=λ _ _ _ H _ I h=>wpAny_tests_nil ⟨H,I,h⟩
def UM {X:Cx}{c:Expr}{t:TT}(h:PT X c t):PF X [c] t:=λ EH s B H Q I q=>wpAny_tests_one (h EH s B H Q I q)
def iq (pick:List (Option Nat)) (wi:TI) (g:TG) (tc:TT) (te:TE):TE:=fun B H Q=>wi B H λ J H1=>∀ D,H1 D=none->∃ W:Nat->Nat->St->Hp->Prop,(∃ m,W 0 m (vZ pick B) (upd H1 D (.lst [])))/\
 ∀ i m B H,W i m B H->(J.stop i H/\Q (.ref D) H)\/(J.go i H/\∀ x H',J.qX i H x H'->g x B H' fun B2 H2=>tc B2 H2 λ b H3=>
  if b=true then te B2 H3 λ y H4=>∃ ys m',H4 D=some (.lst ys)/\ys.length<sizeLine/\m'<m/\W (i+1) m' B2 (upd H4 D (.lst (ys++[y]))) else ∃ m',m'<m/\W (i+1) m' B2 H3)
section
variable {X:Cx}{EH:Ag}{B:St}{H:Hp}{s:Shared}{N':List Str}{pick:List (Option Nat)}{scope:Scope}{cl:List (Str×Addr)}{C:Addr}{fp:List Addr}
def PV (S:qV X N' pick scope) (I:Inv X EH B H s) (Bi:∀ b∈fp,vP X EH H b) (An:∀ b∈fp,b<s.heap.objs.size)
  (c1:∀ x c,cl.lookup x=some c->(x,NameKind.free)∈scope.names/\X.env.cells.lookup x=some c) (c2:∀ x,(x,NameKind.free)∈scope.names->(cl.lookup x).isSome)
  {h1:Heap}{m1:AG}{t':Nat}(hC:s.heap.objs.size<C) (old:∀ b o,s.heap.get? b=some o->h1.get? b=some o) (CC:h1.Ns C m1)
  (hD:h1.get? s.heap.objs.size=some { cls:=.type "list",data:=.seq #[] 0 }):
  Inv (yP X N' scope cl C s H fp) [] (vZ pick B) (upd H s.heap.objs.size (.lst [])) { s with heap:=h1,toks:=t' }:=by
 have Kc:H s.heap.objs.size=none:=I.zC.fresh (Ah _)
 have hCn:H C=none:=I.zC.fresh (BE hC)
 have clt:∀ x c,cl.lookup x=some c->c<s.heap.objs.size:=λ x c e=>by
  obtain⟨v,q⟩:=I.cell x c (c1 x c e).2
  exact q.lt
 refine⟨⟨I.ok.mod,S.kind,I.ok.glob,I.ok.blt,BE hC,λ x y c e1 e2=>I.ok.inj x y c (c1 x c e1).2 (c1 y c e2).2,λ x hx=>?_,λ x c hf _=>absurd (show false=true from hf) BD,I.ok.hd,I.ok.frames,.inl rfl,
  λ b hb=>⟨Aw (C2 (An b hb) hC),λ x c e=>(Bi b hb).2.2.2.2.1 x c (c1 x c e).2⟩,I.bs,A8 I.ok.qH I.sz,λ b o e hb=>?_,λ b hb z=>?_,I.stack,I.cH⟩,
  rfl,I.bare,Un.laid old (Ah _) Kc,⟨m1,CC,λ i x v e1 e2 e3=>?_⟩,λ x c e=>?_,?_,λ x c e=>?_,λ p hp=>absurd (show p∈([]:Ag) from hp) (by simp),I.zC.laid old (Ah _) ?_,?_⟩
 ·exact DA.mp (c2 x (bz S.aJ hx))
 ·rcases (Bi b hb).2.2.2.1 with z | z
  ·exact I.ok.nG b o e z
  ·exact absurd (A_ (Ap (I.ok.bs b o e).1) z) (BX _)
 ·rcases Aj.mp (I.iz b z) with q | q
  ·exact (Bi b hb).2.1 q
  ·exact (Bi b hb).2.2.1 q
 ·obtain⟨j,p1,p2⟩:=vZ.get e2
  obtain⟨q1,q2⟩:=px.get S.ok e1 p1
  obtain⟨m0,n0,l0⟩:=I.loc
  have hm:(x,NameKind.free)∈scope.names:=PySem.mem_of_lookup q2
  have hk:X.env.scope.names.lookup x=some .cell\/X.env.scope.names.lookup x=some .free:=S.free _ hm rfl
  obtain⟨u,r,l⟩:=l0 j x v q1 p2 (.inr hk)
  refine⟨u,r,.inr ⟨aY q2,?_⟩⟩
  rcases l with ⟨k,_⟩ | ⟨_,c,e,z⟩
  ·have k':X.env.scope.names.lookup x=some .local:=k
   rcases hk with hk | hk <;> (rw[k'] at hk;cases hk)
  ·obtain⟨c',e'⟩:=DA.mp (c2 x hm)
   have e'':=(c1 x c' e').2
   rw[e] at e'';cases e''
   obtain⟨o,z1,z2⟩:=z
   exact⟨c,e',o,old _ _ z1,z2⟩
 ·obtain⟨v,o,z1,z2⟩:=I.cell x c (c1 x c e).2
  exact⟨v,o,old _ _ z1,z2⟩
 ·show upd H s.heap.objs.size (.lst []) C=none
  rw[yq (BO hC)];exact hCn
 ·show upd H s.heap.objs.size (.lst []) c=none
  rw[yq (Aw (clt x c e))];exact I.tI x c (c1 x c e).2
 ·exact⟨AO _,[],0,.nil,hD⟩
 ·show (vZ pick B).length=N'.length
  unfold vZ
  rw[Ay];exact S.len
def PQ {B':St}{H':Hp}{s':Shared}{oC:Obj}(I:Inv X EH B H s) (Bi:∀ b∈fp,vP X EH H b) (hC:s.heap.objs.size<C)
  (I':Inv (yP X N' scope cl C s H fp) [] B' H' s') (hoC:s'.heap.get? C=some oC):Inv X (EH++[(C,oC)]) B H' s':=by
 have J:Inv X EH B H' s':=I.Ma (ch:=fp) I'.os I'.base I'.zC I'.bare λ b hb=>⟨(Bi b hb).2.2.2.1,(Bi b hb).2.1,(Bi b hb).2.2.2.2.1,(Bi b hb).2.2.2.2.2⟩
 refine J.gr λ p hp=>(AY.mp hp).elim (λ z=>J.pin p (AU _ z)) λ z=>?_
 obtain rfl:p=(C,oC):=AR.mp z
 refine⟨hoC,I'.free,BO (C2 I.lt hC),I.aG (BE hC),λ v hv=>?_⟩
 obtain⟨m,⟨o,es,ep,ho,hd,_⟩,_⟩:=I'.loc
 have F7:s'.heap.get? C=some o:=ho
 rw[hoC] at F7;cases F7
 rw[hd] at hv;cases hv
def Zz {B':St}{H':Hp}{s':Shared}{oC:Obj}{h':Heap}(I:Inv X EH B H s) (hC:s.heap.objs.size<C) (J:Inv X (EH++[(C,oC)]) B' H' s') (hs:Heap.SameBut C s'.heap h'):Inv X EH B' H' { s' with heap:=h' }:=by
 have J':=J.oD
 have hp:=J.pin (C,oC) (AU _ (AU _ (AR.mpr rfl)))
 have lt:∀ c,c<s.heap.objs.size->c≠C:=λ c h=>Aw (C2 h hC)
 refine J'.turned (t':=s'.toks) (it:=C) (λ b o hb e=>hs.extBut b o hb e) hp.2.1 hp.2.2.1 (.inr (A8 I.sz (BE hC))) (λ x c e z=>?_) (λ p hq z=>?_)
 ·obtain⟨v,q⟩:=I.cell x c e
  exact lt c q.lt z
 ·exact lt p.1 (Ap (I.pin p hq).1) z
end
section
variable {X:Cx}{N':List Str}{pick:List (Option Nat)}{scope:Scope}{elt iter tg:Expr}{ifs:List Expr}{pos:Pos}{wi:TI}{g:TG}{tc:TT}{te:TE}
def Ph {EH:Ag}{B:St}{H:Hp}{s:Shared}{it C:Addr}{fp:List Addr}{tn:Nat->Heap->Prop}{J:It}{cl:List (Str×Addr)}{W:Nat->Nat->St->Hp->Prop}{Q:V->Hp->Prop}{R:Result->Shared->Prop}{D:Addr}
  (hc:X.calm=true) (hg:PG (yP X N' scope cl C s H fp) tg g) (hf:PF (yP X N' scope cl C s H fp) ifs tc) (he:PE (yP X N' scope cl C s H fp) elt te)
  (T:Turn X.prog X.w X.K tg J fp it tn) (Bi:∀ b∈fp,vP X EH H b) (He:∀ b∈fp,b≠C/\b∉vA X.stack/\∀ x c,cl.lookup x=some c->c≠b)
  (turn:∀ i m B H,W i m B H->(J.stop i H/\Q (.ref D) H)\/(J.go i H/\∀ x H',J.qX i H x H'->g x B H' fun B2 H2=>tc B2 H2 λ b H3=>
   if b=true then te B2 H3 λ y H4=>∃ ys m',H4 D=some (.lst ys)/\ys.length<sizeLine/\m'<m/\W (i+1) m' B2 (upd H4 D (.lst (ys++[y]))) else ∃ m',m'<m/\W (i+1) m' B2 H3))
  (fin:∀ B' H' s',Inv (yP X N' scope cl C s H fp) [] B' H' s'->Q (.ref D) H'->R (.ok .next) s')
  {m0:Nat}{B0:St}{H0:Hp}{s0:Shared}(I0:Inv (yP X N' scope cl C s H fp) [] B0 H0 s0) (t0:tn 0 s0.heap) (f0:∀ b∈fp,H0 b=none) (w0:W 0 m0 B0 H0):
  codeAny (model X.prog X.w) X.A (.compLoop (.ListComp elt [⟨tg,iter,ifs,0⟩] scope pos) 0 (.ref it) (.ref D) (compEnvC scope cl C X.env)) R s0:=by
 have GK:∀ {H':Hp},(∀ b∈fp,H' b=none)->∀ b∈fp,vP (yP X N' scope cl C s H fp) [] H' b:=λ hn b hb=>⟨hn b hb,(He b hb).1,(He b hb).2.1,.inl hb,(He b hb).2.2,λ p hp=>absurd (show p∈([]:Ag) from hp) (by simp)⟩
 refine codeAny_loop rfl (λ n s'=>∃ i B' H',Inv (yP X N' scope cl C s H fp) [] B' H' s'/\tn i s'.heap/\(∀ b∈fp,H' b=none)/\W i n B' H') (λ n s3 hI=>?_) m0 ⟨0,B0,H0,I0,t0,f0,w0⟩
 obtain⟨i,B3,H3,I3,Iy,Jd,w3⟩:=hI
 show wpAny _ X.A ((compTurn (.ListComp elt [⟨tg,iter,ifs,0⟩] scope pos) 0 (.ref it) (.ref D) (compEnvC scope cl C X.env)).onRaise (λ x=>do noteFrame x (compEnvC scope cl C X.env);theTreesLotGoes x)) _ _ s3
 refine wpAny_noted ?_
 rw[compTurn_list]
 refine JC (wpAny_standAt (JC ?_))
 rcases turn i n B3 H3 w3 with ⟨stop,qn⟩ | ⟨go,step⟩
 ·refine zE (T.done (yP X N' scope cl C s H fp) rfl rfl rfl hc i [] s3 B3 H3 _ I3 (GK Jd) Iy stop) λ r s4 ⟨hr,I4⟩=>?_
  subst hr
  exact Ac (fin B3 H3 s4 I4 qn)
 ·refine zE (T.item (yP X N' scope cl C s H fp) rfl rfl rfl hc i [] s3 B3 H3 _ I3 (GK Jd) Iy go) λ r s4 ⟨u,hr,h4⟩=>?_
  subst hr
  refine JC (zE h4 λ _ s5 ⟨x,H5,I5,r5,y5,HP,Ki⟩=>?_)
  have Kq:=I5.pinned (GK Ki) (T.obj _ _ HP)
  refine JC (Kx (hg _ s5 B3 H5 x u _ Kq r5 (step x H5 y5)) (λ _ s6 ⟨B6,H6,I6,q6⟩=>?_) λ _ _ z=>False.elim z)
  refine JC (Kx (hf _ s6 B6 H6 _ I6 q6) (λ ok s7 ⟨H7,I7,q7⟩=>?_) λ _ _ z=>False.elim z)
  have back:∀ {H8:Hp}{s8:Shared},Inv (yP X N' scope cl C s H fp) ([]++nc fp s5.heap) B6 H8 s8->(∃ m',m'<n/\W (i+1) m' B6 H8)->∃ m,m<n/\∃ i B' H',Inv (yP X N' scope cl C s H fp) [] B' H' s8/\tn i s8.heap/\(∀ b∈fp,H' b=none)/\W i m B' H':=λ{H8 s8} I8 ⟨m',hm,w8⟩=>by
   refine⟨m',hm,i+1,B6,H8,I8.oD,T.keep _ _ _ HP λ b hb o e=>(I8.pin (b,o) (AU _ (AU _ (kP hb e)))).1,λ b hb=>?_,w8⟩
   obtain⟨o,e,d⟩:=T.obj _ _ HP b hb
   exact (I8.pin (b,o) (AU _ (AU _ (kP hb e)))).2.1
  cases ok with
  | false=>
   rw[if_neg BD] at q7
   exact Ac ⟨rfl,back I7 q7⟩
  | true=>
   rw[if_pos rfl] at q7
   refine JC (JC (Kx (he _ s7 B6 H7 _ I7 q7) (λ uy s8 ⟨y,H8,I8,r8,ys,m',e8,z8,hm,w8⟩=>?_) λ _ _ z=>False.elim z))
   refine JC (Kx (aQ (X:=yP X N' scope cl C s H fp) _ s8 B6 H8 (.ref D) [y] (.ref D) [uy] (λ _ H9=>W (i+1) m' B6 H9) I8 rfl (.cons r8 .nil) ⟨D,ys,y,rfl,rfl,e8,z8,w8⟩) (λ _ s9 ⟨_,H9,I9,_,q9⟩=>?_) λ _ _ z=>False.elim z)
   exact Ac (Ac ⟨rfl,back I9 ⟨m',hm,q9⟩⟩)
def Zg {EH:Ag}{B:St}{H:Hp}{s:Shared}{it:Addr}{fp:List Addr}{tn:Nat->Heap->Prop}{J:It}{cl:List (Str×Addr)}{Q:V->Hp->Prop}{E:Ad}{RR:Value->Addr->Result->Shared->Prop}
  (S:qV X N' pick scope) (hc:X.calm=true) (hg:∀ cl C s H fp,PG (yP X N' scope cl C s H fp) tg g) (hf:∀ cl C s H fp,PF (yP X N' scope cl C s H fp) ifs tc) (he:∀ cl C s H fp,PE (yP X N' scope cl C s H fp) elt te)
  (c1:∀ x c,cl.lookup x=some c->(x,NameKind.free)∈scope.names/\X.env.cells.lookup x=some c) (c2:∀ x,(x,NameKind.free)∈scope.names->(cl.lookup x).isSome)
  (I:Inv X EH B H s) (T:Turn X.prog X.w X.K tg J fp it tn) (t0:tn 0 s.heap) (Bi:∀ b∈fp,vP X EH H b)
  (rd:∀ D,H D=none->∃ W:Nat->Nat->St->Hp->Prop,(∃ m,W 0 m (vZ pick B) (upd H D (.lst [])))/\
   ∀ i m B H,W i m B H->(J.stop i H/\Q (.ref D) H)\/(J.go i H/\∀ x H',J.qX i H x H'->g x B H' fun B2 H2=>tc B2 H2 λ b H3=>
    if b=true then te B2 H3 λ y H4=>∃ ys m',H4 D=some (.lst ys)/\ys.length<sizeLine/\m'<m/\W (i+1) m' B2 (upd H4 D (.lst (ys++[y]))) else ∃ m',m'<m/\W (i+1) m' B2 H3))
  (fin:∀ C D oC H' s',s.heap.objs.size<C->Inv X (EH++[(C,oC)]) B H' s'->s'.heap.get? C=some oC->(∃ m,s'.heap.Ns C m)->Q (.ref D) H'->RR (.ref D) C (.ok .next) s'):
  wpAny (model X.prog X.w) X.A (newList []) (λ acc s₃=>wpAny (model X.prog X.w) X.A (newFunctionEnv scope X.env.globals cl [] X.env.qual none .none (some X.env)) (λ Jf s₄=>
   codeAny (model X.prog X.w) X.A (.compStart (.ListComp elt [⟨tg,iter,ifs,0⟩] scope pos) 0 (.ref it) acc { Jf with scope:=relabel scope X.env }) (RR acc Jf.locals) s₄) E s₃) E s:=by
 refine Kz (wpAny_newFunctionEnv S.aJ (by intro y hy;simp at hy) (λ h₁ HZ Hr=>?_) S.kind)
 dsimp only at HZ Hr ⊢
 generalize Kb:s.heap.push { cls:=.type "list",dict:=none,data:=.seq ([]:Af).toArray }=H2 at HZ Hr ⊢
 have hC:H2.objs.size=s.heap.objs.size+1:=by rw[<- Kb,Heap.size_push]
 have An:s.heap.objs.size<H2.objs.size:=by rw[hC];exact Cj _
 have old:∀ b o,s.heap.get? b=some o->h₁.get? b=some o:=λ b o e=>Hr.extBut b o (Aw (C2 (Ap e) An)) (Kr _ (Kb▸Kr _ e))
 have AQ:h₁.get? s.heap.objs.size=some { cls:=.type "list",data:=.seq #[] 0 }:=Hr.extBut _ _ (Aw An) (Kr _ (Kb▸AF _ rfl))
 have Dh:∀ b∈fp,b<s.heap.objs.size:=λ b hb=>by
  obtain⟨o,e,_⟩:=T.obj _ _ t0 b hb
  exact Ap e
 have Kc:H s.heap.objs.size=none:=I.zC.fresh (Ah _)
 obtain⟨W,⟨m0,w0⟩,turn⟩:=rd s.heap.objs.size Kc
 have I0:=PV (t':=s.toks+([]:List (Str×Value)).length) S I Bi Dh c1 c2 An old HZ AQ
 have t1:tn 0 h₁:=T.keep _ _ _ t0 λ b _ o e=>old b o e
 have AV:∀ b∈fp,b≠H2.objs.size/\b∉vA X.stack/\∀ x c,cl.lookup x=some c->c≠b:=λ b hb=>I0.ok.fO b hb |> λ q=>⟨q.1,I0.ok.mf b hb,q.2⟩
 have loop:codeAny (model X.prog X.w) X.A (.compLoop (.ListComp elt [⟨tg,iter,ifs,0⟩] scope pos) 0 (.ref it) (.ref s.heap.objs.size) (compEnvC scope cl H2.objs.size X.env)) (RR (.ref s.heap.objs.size) H2.objs.size) { s with heap:=h₁,toks:=s.toks+([]:List (Str×Value)).length }:=by
  refine Ph (B:=B) hc (hg _ _ _ _ _) (hf _ _ _ _ _) (he _ _ _ _ _) T Bi AV turn (fun B' H' s' I' q=>?_) I0 t1 (λ b hb=>?_) w0
  ·obtain⟨m,hn,_⟩:=I'.loc
   have Jw:s'.heap.Ns H2.objs.size m:=hn
   obtain⟨oC,es,ep,ho,hr⟩:=id Jw
   exact fin _ _ oC H' s' An (PQ I Bi An I' ho) ho ⟨m,Jw⟩ q
  ·show upd H s.heap.objs.size (.lst []) b=none
   rw[yq (Aw (Dh b hb))]
   exact (Bi b hb).1
 exact codeAny_compStart_list loop (T.self _ 0 _ _ _ t1 loop)
def U_ (S:qV X N' pick scope) (hc:X.calm=true) (hi:PI X tg iter wi) (hg:∀ cl C s H fp,PG (yP X N' scope cl C s H fp) tg g) (hf:∀ cl C s H fp,PF (yP X N' scope cl C s H fp) ifs tc) (he:∀ cl C s H fp,PE (yP X N' scope cl C s H fp) elt te)
  (hs:∀ x,foldedSetIterable iter X.env x=pure x:=by intro _;rfl):PE X (.ListComp elt [⟨tg,iter,ifs,0⟩] scope pos) (iq pick wi g tc te):=by
 intro EH s B H Q I h
 obtain⟨cl,Hh,c1,c2⟩:=Y0 (scope:=scope) (env:=X.env) λ y hy hk=>I.ok.has y.1 (S.free y hy hk)
 rw[eval_ListComp]
 refine wpAny_comprehension_free (use:=none) rfl hs Hh S.kind S.names (zE (hi EH s B H _ I h) λ v s1 h1=>zE h1 λ Jr s2 h2=>?_)
 obtain⟨it,fp,tn,J,H2,e,I2,T,Iz,f2,rd⟩:=h2
 subst e
 refine Zg (RR:=λ acc C=>compPost (model X.prog X.w) X.A X.xe none (EP X EH B Q) acc C) S hc hg hf he c1 c2 I2 T Iz f2 rd λ C D oC H' s' hC J' ho hn q=>?_
 obtain⟨m,hn⟩:=hn
 exact⟨m,hn,λ h' G7=>⟨.ref D,H',Zz I2 hC J' G7,rfl,q⟩⟩
def Us {i:Nat}{y:Str}{py BF:Pos}(S:qV X N' pick scope) (hc:X.calm=true) (hi:PI X tg iter wi) (hg:∀ cl C s H fp,PG (yP X N' scope cl C s H fp) tg g) (hf:∀ cl C s H fp,PF (yP X N' scope cl C s H fp) ifs tc) (he:∀ cl C s H fp,PE (yP X N' scope cl C s H fp) elt te)
  (hN:X.N.Nodup) (hy:X.N[i]?=some y) (hx:Loc X.env.scope y)
  (Cv:swapsWith (.ListComp elt [⟨tg,iter,ifs,0⟩] scope pos) (some (.Name y py)) BF.line X.env=pure true:=by rfl)
  (CF:X.fn y=true\/X.env.scope.names.lookup y=some .local:=by first | exact .inl rfl | exact .inr rfl | assumption)
  (hs:∀ x,foldedSetIterable iter X.env x=pure x:=by intro _;rfl):PS X (.Assign [.Name y py] (.ListComp elt [⟨tg,iter,ifs,0⟩] scope pos) BF) (lO (iq pick wi g tc te) (pN i)):=by
 intro EH s B H Q I h
 obtain⟨cl,Hh,c1,c2⟩:=Y0 (scope:=scope) (env:=X.env) λ y hy hk=>I.ok.has y.1 (S.free y hy hk)
 rw[exec_Assign_Name_used _ _ _ _ Cv]
 refine JC (wpAny_standAt (JC ?_))
 show wpAny _ X.A (do let _ <- comprehension (.ListComp elt [⟨tg,iter,ifs,0⟩] scope pos) scope X.env _ (newList []) false (eval iter X.env) (some (assign (.Name y py) X.env))) _ _ s
 refine JC (Kx (wpAny_comprehension_free (use:=some (assign (.Name y py) X.env)) (Q:=λ _ s'=>SP X EH Q .next s') rfl hs Hh S.kind S.names
  (zE (hi EH s B H _ I h) λ v s1 h1=>zE h1 λ Jr s2 h2=>?_)) (λ _ s' hq=>Ac (Ac hq)) λ _ _ e=>e)
 obtain⟨it,fp,tn,J,H2,e,I2,T,Iz,f2,rd⟩:=h2
 subst e
 refine Zg (Q:=λ x H1=>pN i x B H1 Q.nx) (RR:=λ acc C=>compPost (model X.prog X.w) X.A X.xe (some (assign (.Name y py) X.env)) (λ _ s'=>SP X EH Q .next s') acc C) S hc hg hf he c1 c2 I2 T Iz f2 rd λ C D oC H' s' hC J' ho hn q=>?_
 show wpAny _ X.A (assign (.Name y py) X.env (.ref D)) _ _ _
 refine wpAny_assign_Name (iy J' hN hy hx (v:=.ref D) rfl (λ s3 J3=>?_) CF)
 have hp:=(J3.pin (C,oC) (AU _ (AU _ (AR.mpr rfl)))).1
 obtain⟨m,o,es,ep,F7,hr⟩:=hn
 have:o=oC:=A5 (F7.symm.trans ho)
 subst this
 exact⟨m,⟨o,es,ep,hp,hr⟩,λ h' G7=>⟨_,H',Zz I2 hC J3 G7,q⟩⟩
end
end L2
namespace L3
open PySem PySem.Spec L2
open PyProof.Rows hiding St
inductive D where
 | zr | bl (b:Bool) | int (i:Int) | str (x:Str) | tup (ds:List D) | xE (ds:List D) | ref (a:Addr) | err (c f:Str) (d:D)
def oh (K:Ab) (H:Hp) (a:Addr) (xs:List V):Prop:=
 (∃ o,H a=some (.wb o (.lst xs)))\/
  ∃ (o:Obj) (its:Ar) (n:Nat),K.lookup a=some o/\o.cls=.type "list"/\o.dict=none/\o.data=.seq its n/\its.size<=sizeLine/\Vals xs its.toList
def oh.sq {K:Ab}{H:Hp}{a:Addr}{xs:List V}(h:oh K H a xs):zM K H a xs:=by
 rcases h with h | h
 ·exact .inl (.inr h)
 ·exact .inr h
abbrev YA:List Value:=[.type "ValueError",.type "Exception",.type "BaseException",.type "object"]
abbrev aK:List Str:=["__getattribute__","__getattr__","__class__","__setattr__","place","pair","way","times","told","name","row"]
def YZ (K:Ab) (c:Str) (C:Addr) (bm:Af) (N:Addr):Prop:=
 (∃ (q:Str) (bs:Af) (sn:List Str) (sub:Af) (ab:Bool) (col:Option Bool) (dd:Option Addr) (k0 k1 k2 k3 k5:Option Value),K.lookup C=some (excClassObj c q C N bs bm true sn sub ab col dd k0 k1 k2 k3 k5 "ValueError.__new__"))/\
 PySem.W.nsOkIn K N=true/\∀ n∈aK,PySem.W.nsIn K N n=some none
structure MO (K:Ab) (c:Str) (C P N NP:Addr):Prop where
 own:YZ K c C (.ref P::YA) N
 par:YZ K "PurseError" P YA NP
 top:PySem.W.nsIn K mainGlobals c=some (some (.ref C))
 zab:PySem.W.nsIn K mainGlobals "PurseError"=some (some (.ref P))
 zac:PySem.W.nsIn K NP "__init__"=some none
def lA (K:Ab) (c:Str) (C:Addr):Prop:=∃ P N NP,MO K c C P N NP
noncomputable def ownIn (K:Ab) (c:Str) (C:Addr) (bm:Af):Option Addr:=match K.lookup C with
 | some ⟨.type "type",_,.cls cd,sl⟩=>(match cd.mro,sl.toList with
  | .ref C'::bm',[_,_,_,_,some (.builtin n),_]=>if C' == C&&n == "ValueError.__new__"&&!cd.hasDel&&bm' == bm&&cd.hasDict&&cd.name == c&&PySem.W.nsOkIn K cd.ns&&aK.all (λ n=>PySem.W.nsIn K cd.ns n == some none) then some cd.ns else none
  | _,_=>none)
 | _=>none
noncomputable def rm (e C dx:Addr):HO:=.ext λ h=>∃ oe vs,h.get? e=some oe/\oe.cls=.ref C/\oe.dict=some dx/\oe.data=.fields vs
mutual
noncomputable def zg (K:Ab) (H:Hp):D->V->Prop
 | .zr,v=>v=.zr
 | .bl b,v=>v=.bl b
 | .int i,v=>v=.int i
 | .str x,v=>v=.str x
 | .tup ds,v=>∃ a xs,v=.ref a/\zT K H a xs/\zl K H ds xs
 | .xE ds,v=>∃ a xs,v=.ref a/\oh K H a xs/\zl K H ds xs
 | .ref a,v=>v=.ref a
 | .err c f d,v=>∃ e C dx w,v=.ref e/\(lA K c C/\H e=some (rm e C dx)/\H dx=some (.xd [(f,w)]))/\zg K H d w
noncomputable def zl (K:Ab) (H:Hp):List D->List V->Prop
 | [],xs=>xs=[]
 | d::ds,xs=>∃ x r,xs=x::r/\zg K H d x/\zl K H ds r
end
structure Ext (H H':Hp):Prop where
 tup:∀ b xs,H b=some (.tup xs)->H' b=some (.tup xs)
 wb:∀ b o u,H b=some (.wb o u)->H' b=some (.wb o u)
 ext:∀ b φ,H b=some (.ext φ)->H' b=some (.ext φ)
 xd:∀ b fs,H b=some (.xd fs)->H' b=some (.xd fs)
def Ext.refl (H:Hp):Ext H H:=⟨λ _ _ h=>h,λ _ _ _ h=>h,λ _ _ h=>h,λ _ _ h=>h⟩
def Ext.trans {H H1 H2:Hp}(a:Ext H H1) (b:Ext H1 H2):Ext H H2:=⟨λ c xs h=>b.tup c xs (a.tup c xs h),λ c o u h=>b.wb c o u (a.wb c o u h),λ c u h=>b.ext c u (a.ext c u h),λ c u h=>b.xd c u (a.xd c u h)⟩
def Ext.new {H:Hp}{p:Addr}(h:H p=none) (o:HO):Ext H (upd H p o):=
 ⟨λ b xs q=>by rw[yq (t8 q h)];exact q,λ b ob u q=>by rw[yq (t8 q h)];exact q,λ b u q=>by rw[yq (t8 q h)];exact q,λ b u q=>by rw[yq (t8 q h)];exact q⟩
theorem Ext.lst {H:Hp}{p:Addr}{xs:List V}(h:H p=some (.lst xs)) (o:HO):Ext H (upd H p o):=
 ⟨λ b ys q=>by rw[yq (sG q h (by intro z;cases z))];exact q,λ b ob u q=>by rw[yq (sG q h (by intro z;cases z))];exact q,λ b u q=>by rw[yq (sG q h (by intro z;cases z))];exact q,λ b u q=>by rw[yq (sG q h (by intro z;cases z))];exact q⟩
def Ext.lR {K:Ab}{H H':Hp}{a:Addr}{xs:List V}(e:Ext H H') (h:zT K H a xs):zT K H' a xs:=by
 rcases h with (h | ⟨o,h⟩) | h
 ·exact .inl (.inl (e.tup _ _ h))
 ·exact .inl (.inr ⟨o,e.wb _ _ _ h⟩)
 ·exact .inr h
def Ext.lS {K:Ab}{H H':Hp}{a:Addr}{xs:List V}(e:Ext H H') (h:oh K H a xs):oh K H' a xs:=by
 rcases h with ⟨o,h⟩ | h
 ·exact .inl ⟨o,e.wb _ _ _ h⟩
 ·exact .inr h
section
variable {K:Ab}{H H':Hp}
mutual
theorem zg.ext (e:Ext H H'):∀ (d:D) {v:V},zg K H d v->zg K H' d v
 | .zr,v,h=>by simpa only [zg] using h
 | .bl b,v,h=>by simpa only [zg] using h
 | .int i,v,h=>by simpa only [zg] using h
 | .str x,v,h=>by simpa only [zg] using h
 | .ref a,v,h=>by simpa only [zg] using h
 | .err c f d,v,h=>by
  simp only[zg] at h ⊢
  obtain⟨a,C,dx,w,h1,⟨h2,h3,h4⟩,h5⟩:=h
  exact⟨a,C,dx,w,h1,⟨h2,e.ext _ _ h3,e.xd _ _ h4⟩,zg.ext e d h5⟩
 | .tup ds,v,h=>by
  simp only[zg] at h ⊢
  obtain⟨a,xs,h1,h2,h3⟩:=h
  exact⟨a,xs,h1,e.lR h2,zl.ext e ds h3⟩
 | .xE ds,v,h=>by
  simp only[zg] at h ⊢
  obtain⟨a,xs,h1,h2,h3⟩:=h
  exact⟨a,xs,h1,e.lS h2,zl.ext e ds h3⟩
theorem zl.ext (e:Ext H H'):∀ (ds:List D) {xs:List V},zl K H ds xs->zl K H' ds xs
 | [],xs,h=>by simpa only [zl] using h
 | d::ds,xs,h=>by
  simp only[zl] at h ⊢
  obtain⟨x,r,h1,h2,h3⟩:=h
  exact⟨x,r,h1,zg.ext e d h2,zl.ext e ds h3⟩
end
theorem zl.length:∀ {ds:List D}{xs:List V},zl K H ds xs->ds.length=xs.length
 | [],xs,h=>by simp only[zl] at h;subst h;rfl
 | d::ds,xs,h=>by
  simp only[zl] at h
  obtain⟨x,r,h1,_,h3⟩:=h
  subst h1
  simp[zl.length h3]
theorem zl.get:∀ {ds:List D}{xs:List V}{i:Nat}{d:D},zl K H ds xs->ds[i]?=some d->∃ x,xs[i]?=some x/\zg K H d x
 | [],_,i,d,_,e=>by simp at e
 | c::ds,xs,i,d,h,e=>by
  simp only[zl] at h
  obtain⟨x,r,h1,h2,h3⟩:=h
  subst h1
  cases i with
  | zero=>simp at e;subst e;exact⟨x,rfl,h2⟩
  | succ i=>
   obtain⟨y,e1,e2⟩:=zl.get (i:=i) h3 (by simpa using e)
   exact⟨y,by simpa using e1,e2⟩
theorem zl.append:∀ {ds es:List D}{xs ys:List V},zl K H ds xs->zl K H es ys->zl K H (ds++es) (xs++ys)
 | [],es,xs,ys,h,h'=>by simp only[zl] at h;subst h;simpa using h'
 | d::ds,es,xs,ys,h,h'=>by
  simp only[zl] at h
  obtain⟨x,r,h1,h2,h3⟩:=h
  subst h1
  show zl K H (d::(ds++es)) (x::(r++ys))
  simp only[zl]
  exact⟨x,r++ys,rfl,h2,zl.append h3 h'⟩
def zl.nil:zl K H [] []:=by simp only[zl]
def zl.cons {d:D}{ds:List D}{x:V}{xs:List V}(h:zg K H d x) (h':zl K H ds xs):zl K H (d::ds) (x::xs):=by
 simp only[zl];exact⟨x,xs,rfl,h,h'⟩
def zl.snoc {d:D}{ds:List D}{x:V}{xs:List V}(h':zl K H ds xs) (h:zg K H d x):zl K H (ds++[d]) (xs++[x]):=h'.append (.cons h .nil)
theorem zl.ints:∀ {ns:List Int}{xs:List V},zl K H (ns.map D.int) xs->xs=ns.map V.int
 | [],xs,h=>by simpa only [Bb,zl] using h
 | n::ns,xs,h=>by
  rw[Au] at h
  simp only[zl,zg] at h
  obtain⟨x,r,h1,h2,h3⟩:=h
  subst h1 h2
  rw[Au,zl.ints h3]
theorem zl.gI:∀ (ns:List Int),zl K H (ns.map D.int) (ns.map V.int)
 | []=>.nil
 | n::ns=>.cons (by simp only[zg]) (zl.gI ns)
theorem zl.bools:∀ {ns:List Bool}{xs:List V},zl K H (ns.map D.bl) xs->xs=ns.map V.bl
 | [],xs,h=>by simpa only [Bb,zl] using h
 | n::ns,xs,h=>by
  rw[Au] at h
  simp only[zl,zg] at h
  obtain⟨x,r,h1,h2,h3⟩:=h
  subst h1 h2
  rw[Au,zl.bools h3]
end
inductive O where
 | lst (ds:List D)
 | yh (Aa:List (Key×D))
abbrev SS:=Addr->Option O
def yV (K:Ab) (H:Hp):List (Key×D)->List (Key×V)->Prop:=Paired λ p q=>p.1=q.1/\zg K H p.2 q.2
noncomputable def qM (K:Ab) (H:Hp) (a:Addr):O->Prop
 | .lst ds=>∃ xs,H a=some (.lst xs)/\zl K H ds xs
 | .yh Aa=>∃ vs,H a=some (.dK vs)/\yV K H Aa vs
def zJ (K:Ab) (H:Hp) (S:SS):Prop:=∀ a o,S a=some o->qM K H a o
noncomputable def ups (S:SS) (a:Addr) (o:O):SS:=λ b=>if b=a then some o else S b
def rq {S:SS}{a:Addr}{o:O}:ups S a o a=some o:=by unfold ups;rw[if_pos rfl]
def t_ {S:SS}{a b:Addr}{o:O}(h:b≠a):ups S a o b=S b:=by unfold ups;rw[if_neg h]
def Sx (S S':SS):Prop:=∀ b o,S b=some o->S' b=some o
def Sx.refl (S:SS):Sx S S:=λ _ _ h=>h
def Sx.trans {S S1 S2:SS}(a:Sx S S1) (b:Sx S1 S2):Sx S S2:=λ c o h=>b c o (a c o h)
def Sx.new {S:SS}{p:Addr}(h:S p=none) (o:O):Sx S (ups S p o):=λ b u q=>by
 rw[t_ (by intro z;subst z;rw[h] at q;cases q)];exact q
theorem Sx.none {S S':SS}(e:Sx S S') {p:Addr}(h:S' p=Option.none):S p=Option.none:=by
 cases q:S p with
 | none=>rfl
 | some o=>rw[e p o q] at h;cases h
section
variable {K:Ab}{H H':Hp}{S:SS}
def qM.has {a:Addr}{o:O}(h:qM K H a o):H a≠none:=by
 cases o with
 | lst ds=>obtain⟨xs,h,_⟩:=h;rw[h];simp
 | yh Aa=>obtain⟨xs,h,_⟩:=h;rw[h];simp
theorem zJ.none (r:zJ K H S) {p:Addr}(h:H p=Option.none):S p=Option.none:=by
 cases q:S p with
 | none=>rfl
 | some o=>exact absurd h (r p o q).has
theorem yV.ext (e:Ext H H') {Aa:List (Key×D)}{vs:List (Key×V)}(h:yV K H Aa vs):yV K H' Aa vs:=
 Paired.kR h λ p q z=>⟨z.1,zg.ext e p.2 z.2⟩
def qM.keep {a:Addr}{o:O}(e:Ext H H') (k:∀ u,H a=some u->H' a=some u) (h:qM K H a o):qM K H' a o:=by
 cases o with
 | lst ds=>obtain⟨xs,h1,h2⟩:=h;exact⟨xs,k _ h1,zl.ext e ds h2⟩
 | yh Aa=>obtain⟨xs,h1,h2⟩:=h;exact⟨xs,k _ h1,h2.ext e⟩
theorem zJ.keep (e:Ext H H') (k:∀ a u o,S a=some o->H a=some u->H' a=some u) (r:zJ K H S):zJ K H' S:=λ a o h=>(r a o h).keep e λ u q=>k a u o h q
theorem zJ.new {p:Addr}{u:HO}(hp:H p=Option.none) (r:zJ K H S):zJ K (upd H p u) S:=
 r.keep (Ext.new hp u) λ a v o _ q=>by rw[yq (t8 q hp)];exact q
theorem zJ.ups {p:Addr}{u:HO}{o:O}(e:Ext H (upd H p u)) (hn:qM K (upd H p u) p o) (r:zJ K H S):zJ K (upd H p u) (ups S p o):=λ a o' h=>by
 by_cases ha:a=p
 ·subst ha;rw[rq] at h;cases h;exact hn
 ·rw[t_ ha] at h
  exact (r a o' h).keep e λ v q=>by rw[yq ha];exact q
end
abbrev yj:=List (Option D)
def yK (K:Ab) (H:Hp) (Y:yj) (B:St):Prop:=Y.length=B.length/\∀ (i:Nat) (d:D),Y[i]?=some (some d)->∃ v,B[i]?=some (some v)/\zg K H d v
theorem yK.ext {K:Ab}{H H':Hp}{Y:yj}{B:St}(e:Ext H H') (r:yK K H Y B):yK K H' Y B:=⟨r.1,λ i d h=>by
 obtain⟨v,h1,h2⟩:=r.2 i d h
 exact⟨v,h1,zg.ext e d h2⟩⟩
theorem yK.set {K:Ab}{H:Hp}{Y:yj}{B:St}(i:Nat) {d:D}{v:V}(r:yK K H Y B) (h:zg K H d v):yK K H (Y.set i (some d)) (B.set i (some v)):=by
 refine⟨by rw[Dy,Dy];exact r.1,λ j c hc=>?_⟩
 rw[Dw] at hc ⊢
 by_cases hj:i=j
 ·subst hj
  rw[if_pos rfl] at hc ⊢
  by_cases hl:i < Y.length
  ·rw[if_pos hl] at hc
   rw[if_pos (by rw[<- r.1];exact hl)]
   cases hc
   exact⟨v,rfl,h⟩
  ·rw[if_neg hl] at hc;cases hc
 ·rw[if_neg hj] at hc ⊢
  exact r.2 j c hc
abbrev DK:=D->SS->Prop
abbrev zu:=yj->SS->DK->Prop
abbrev y9:=yj->SS->(Bool->SS->Prop)->Prop
abbrev yi:=yj->SS->(List D->SS->Prop)->Prop
def yk (t:zu):Prop:=∀ Y S (Q Q':DK),(∀ d S',Q d S'->Q' d S')->t Y S Q->t Y S Q'
def wU (t:y9):Prop:=∀ Y S (Q Q':Bool->SS->Prop),(∀ d S',Q d S'->Q' d S')->t Y S Q->t Y S Q'
def tX (t:yi):Prop:=∀ Y S (Q Q':List D->SS->Prop),(∀ d S',Q d S'->Q' d S')->t Y S Q->t Y S Q'
def wA (K:Ab) (H:Hp) (Q:VK):DK:=λ d S'=>∀ v H',zg K H' d v->Ext H H'->zJ K H' S'->Q v H'
def mm (K:Ab) (H:Hp) (Q:Bool->Hp->Prop):Bool->SS->Prop:=λ b S'=>∀ H',Ext H H'->zJ K H' S'->Q b H'
def Nj (K:Ab) (H:Hp) (Q:List V->Hp->Prop):List D->SS->Prop:=λ ds S'=>∀ vs H',zl K H' ds vs->Ext H H'->zJ K H' S'->Q vs H'
def vi (K:Ab) (H:Hp) (Q:St->Hp->Prop):yj->SS->Prop:=fun Y S'=>∀ B H',yK K H' Y B->Ext H H'->zJ K H' S'->Q B H'
def wA.ext {K:Ab}{H H':Hp}{Q:VK}(e:Ext H H') {d:D}{S:SS}(h:wA K H Q d S):wA K H' Q d S:=λ v H2 r x q=>h v H2 r (e.trans x) q
def mm.ext {K:Ab}{H H':Hp}{Q:Bool->Hp->Prop}(e:Ext H H') {d:Bool}{S:SS}(h:mm K H Q d S):mm K H' Q d S:=λ H2 x q=>h H2 (e.trans x) q
def vi.ext {K:Ab}{H H':Hp}{Q:St->Hp->Prop}(e:Ext H H') {d:yj}{S:SS}(h:vi K H Q d S):vi K H' Q d S:=λ v H2 r x q=>h v H2 r (e.trans x) q
def zO (K:Ab) (t:zu):TE:=fun B H Q=>∃ Y S,yK K H Y B/\zJ K H S/\t Y S (wA K H Q)
def wx (K:Ab) (t:y9):TT:=fun B H Q=>∃ Y S,yK K H Y B/\zJ K H S/\t Y S (mm K H Q)
def xQ (K:Ab) (t:yi):TA:=fun B H Q=>∃ Y S,yK K H Y B/\zJ K H S/\t Y S (Nj K H Q)
structure PD (X:Cx) (e:Expr) (t:zu):Prop where
 mo:yk t
 pe:PE X e (zO X.K t)
structure xC (X:Cx) (e:Expr) (t:y9):Prop where
 mo:wU t
 pt:PT X e (wx X.K t)
structure xm (X:Cx) (es:List Expr) (t:yi):Prop where
 mo:tX t
 pa:PA X es (xQ X.K t)
def PE.imp {X:Cx}{e:Expr}{t t':TE}(h:PE X e t) (hi:∀ B H Q,t' B H Q->t B H Q):PE X e t':=λ EH s B H Q I q=>h EH s B H Q I (hi B H Q q)
def PT.imp {X:Cx}{e:Expr}{t t':TT}(h:PT X e t) (hi:∀ B H Q,t' B H Q->t B H Q):PT X e t':=λ EH s B H Q I q=>h EH s B H Q I (hi B H Q q)
def PA.imp {X:Cx}{e:List Expr}{t t':TA}(h:PA X e t) (hi:∀ B H Q,t' B H Q->t B H Q):PA X e t':=λ pos EH s B H Q I q=>h pos EH s B H Q I (hi B H Q q)
def PS.imp {X:Cx}{e:Stmt}{t t':TS}(h:PS X e t) (hi:∀ D B H,t' D B H->t D B H):PS X e t':=λ EH s B H Q I q=>h EH s B H Q I (hi Q B H q)
def xW.imp {X:Cx}{e:List Stmt}{t t':TS}(h:xW X e t) (hi:∀ D B H,t' D B H->t D B H):xW X e t':=λ EH s B H Q I q=>h EH s B H Q I (hi Q B H q)
section
variable {X:Cx}{K:Ab}
def zO.go {t:zu}{B:St}{H:Hp}{Q:VK}{Y:yj}{S:SS}{R:DK}(mo:yk t) (r1:yK K H Y B) (r2:zJ K H S) (h:t Y S R) (k:∀ d S' v H',R d S'->zg K H' d v->Ext H H'->zJ K H' S'->Q v H'):zO K t B H Q:=
 ⟨Y,S,r1,r2,mo Y S _ _ (λ d S' q v H' a b c=>k d S' v H' q a b c) h⟩
def wx.go {t:y9}{B:St}{H:Hp}{Q:Bool->Hp->Prop}{Y:yj}{S:SS}{R:Bool->SS->Prop}(mo:wU t) (r1:yK K H Y B) (r2:zJ K H S) (h:t Y S R) (k:∀ d S' H',R d S'->Ext H H'->zJ K H' S'->Q d H'):wx K t B H Q:=
 ⟨Y,S,r1,r2,mo Y S _ _ (λ d S' q H' b c=>k d S' H' q b c) h⟩
def xQ.go {t:yi}{B:St}{H:Hp}{Q:List V->Hp->Prop}{Y:yj}{S:SS}{R:List D->SS->Prop}(mo:tX t) (r1:yK K H Y B) (r2:zJ K H S) (h:t Y S R) (k:∀ d S' v H',R d S'->zl K H' d v->Ext H H'->zJ K H' S'->Q v H'):xQ K t B H Q:=
 ⟨Y,S,r1,r2,mo Y S _ _ (λ d S' q v H' a b c=>k d S' v H' q a b c) h⟩
def y6 (i:Nat):zu:=fun Y S Q=>match Y[i]? with
 | some (some d)=>Q d S
 | _=>False
def dC (d:D):zu:=λ _ S Q=>Q d S
def TC (i:Nat) {x:Str}{pos:Pos}(h:PE X (.Name x pos) (il i)):PD X (.Name x pos) (y6 i):=by
 refine⟨fun Y S Q Q' hq h=>?_,PE.imp h fun B H Q hu=>?_⟩
 ·unfold y6 at h ⊢
  split at h
  ·exact hq _ _ h
  ·exact h
 ·obtain⟨Y,S,r1,r2,h⟩:=hu
  unfold y6 at h
  split at h
  ·rename_i d e
   obtain⟨v,h1,h2⟩:=r1.2 i d e
   exact⟨v,h1,h v H h2 (Ext.refl H) r2⟩
  ·exact h.elim
def dC.mo (d:D):yk (dC d):=λ _ _ _ _ hq h=>hq _ _ h
def pz {e:Expr}{d:D}{v:V}(h:PE X e (tC v)) (r:∀ H,zg X.K H d v):PD X e (dC d):=
 ⟨dC.mo d,PE.imp h λ _ H _ ⟨_,_,_,r2,h⟩=>h v H (r H) (Ext.refl H) r2⟩
def zh {i j pos}:PD X (.Constant (.int i) j pos) (dC (.int i)):=pz Tb λ _=>by simp only[zg]
def wH {i j pos}:PD X (.Constant (.bool i) j pos) (dC (.bl i)):=pz Tn λ _=>by simp only[zg]
def aa {j pos}:PD X (.Constant .none j pos) (dC .zr):=pz UY λ _=>by simp only[zg]
def gw {x j pos}:PD X (.Constant (.str x) j pos) (dC (.str x)):=pz US λ _=>by simp only[zg]
abbrev yD:=D->D->SS->DK->Prop
def xr (f:yD):Prop:=∀ x y S (Q Q':DK),(∀ d S',Q d S'->Q' d S')->f x y S Q->f x y S Q'
def xn (K:Ab) (f:yD) (r:R2):Prop:=∀ x y d e H S Q,zg K H d x->zg K H e y->zJ K H S->f d e S (wA K H Q)->r x y H Q
def yn (f:yD) (ta tb:zu):zu:=fun Y S Q=>ta Y S λ x S1=>tb Y S1 λ y S2=>f x y S2 Q
def yn.mo {f:yD}{ta tb:zu}(hf:xr f) (ha:yk ta) (hb:yk tb):yk (yn f ta tb):=fun Y S Q Q' hq h=>
 ha Y S _ _ (λ x S1 h=>hb Y S1 _ _ (λ y S2 h=>hf x y S2 _ _ hq h) h) h
def lH {f:yD}{r:R2}{ta tb:zu}(hr:xn K f r) (hf:xr f) (ha:yk ta) (hb:yk tb) {B:St}{H:Hp}{Q:VK}(h:zO K (yn f ta tb) B H Q):oG r (zO K ta) (zO K tb) B H Q:=by
 obtain⟨Y,S,r1,r2,h⟩:=h
 refine zO.go ha r1 r2 h λ x S1 v H1 h1 q1 e1 p1=>?_
 refine zO.go hb (r1.ext e1) p1 h1 λ y S2 w H2 h2 q2 e2 p2=>?_
 exact hr v w x y H2 S2 Q (zg.ext e2 x q1) q2 p2 (hf x y S2 _ _ (λ d S' z=>z.ext (e1.trans e2)) h2)
def rJ {a b:Expr}{op:Operator}{pos:Pos}{f:yD}{r:R2}{ta tb:zu}(ho:yc X (binaryOp op) r) (hr:xn X.K f r) (hf:xr f) (ha:PD X a ta) (hb:PD X b tb):PD X (.BinOp a op b pos) (yn f ta tb):=
 ⟨yn.mo hf ha.mo hb.mo,PE.imp (UU ho ha.pe hb.pe) λ _ _ _ h=>lH hr hf ha.mo hb.mo h⟩
def nB {a b:Expr}{op:CmpOp}{pos:Pos}{f:yD}{r:R2}{ta tb:zu}(ho:yc X (compareOp op) r) (hr:xn X.K f r) (hf:xr f) (ha:PD X a ta) (hb:PD X b tb) (hm:behindInMarks op b=false):PD X (.Compare a [op] [b] pos) (yn f ta tb):=
 ⟨yn.mo hf ha.mo hb.mo,PE.imp (Tg ho ha.pe hb.pe hm) λ _ _ _ h=>lH hr hf ha.mo hb.mo h⟩
def vk (t:zu):y9:=fun Y S Q=>t Y S λ x S1=>match x with
 | .bl b=>Q b S1
 | _=>False
def vk.mo {t:zu}(h:yk t):wU (vk t):=fun Y S Q Q' hq q=>h Y S _ _ (λ d S' z=>by
 cases d <;> first
  | exact hq _ _ z
  | exact z) q
def qu {a b:Expr}{op:CmpOp}{pos:Pos}{f:yD}{r:R2}{ta tb:zu}(ho:yc X (compareOp op) r) (hr:xn X.K f r) (hf:xr f) (ha:PD X a ta) (hb:PD X b tb) (hm:behindInMarks op b=false):xC X (.Compare a [op] [b] pos) (vk (yn f ta tb)):=by
 refine⟨vk.mo (yn.mo hf ha.mo hb.mo),PT.imp (Uk ho ha.pe hb.pe hm) fun B H Q h=>?_⟩
 obtain⟨Y,S,r1,r2,h⟩:=h
 refine lH hr hf ha.mo hb.mo ⟨Y,S,r1,r2,yn.mo hf ha.mo hb.mo Y S _ _ (λ d S' z v H' a b c=>?_) h⟩
 cases d with
 | bl k=>simp only[zg] at a;exact⟨k,a,z H' b c⟩
 | _=>exact z.elim
def fI (C:Int->Int->Prop) (g:Int->Int->D):yD:=λ x y S Q=>match x,y with
 | .int i,.int j=>C i j/\Q (g i j) S
 | _,_=>False
def fI.mo {C:Int->Int->Prop}{g:Int->Int->D}:xr (fI C g):=λ x y S Q Q' hq h=>by
 unfold fI at h ⊢
 split at h
 ·exact⟨h.1,hq _ _ h.2⟩
 ·exact h.elim
def xc (g:Int->Int->D):yD:=λ x y S Q=>match x,y with
 | .int i,.int j=>Q (g i j) S
 | _,_=>False
def xc.mo {g:Int->Int->D}:xr (xc g):=λ x y S Q Q' hq h=>by
 unfold xc at h ⊢
 split at h
 ·exact hq _ _ h
 ·exact h.elim
def fI.fits {C:Int->Int->Prop}{g:Int->Int->D}{g':Int->Int->V}(hg:∀ i j H,zg K H (g i j) (g' i j)):xn K (fI C g) (rI C g'):=λ x y d e H S Q h1 h2 h3 h=>by
 unfold fI at h
 split at h
 ·simp only[zg] at h1 h2
  exact⟨_,_,h1,h2,h.1,h.2 _ H (hg _ _ H) (Ext.refl H) h3⟩
 ·exact h.elim
def xc.fits {g:Int->Int->D}{g':Int->Int->V}(hg:∀ i j H,zg K H (g i j) (g' i j)):xn K (xc g) (wW g'):=λ x y d e H S Q h1 h2 h3 h=>by
 unfold xc at h
 split at h
 ·simp only[zg] at h1 h2
  exact⟨_,_,h1,h2,h _ H (hg _ _ H) (Ext.refl H) h3⟩
 ·exact h.elim
variable {a b:Expr}{ta tb:zu}{pos:Pos}
def u7 (ha:PD X a ta) (hb:PD X b tb):PD X (.BinOp a .Sub b pos) (yn (xc λ i j=>.int (i-j)) ta tb):=rJ Sj (xc.fits λ _ _ _=>by simp only[zg]) xc.mo ha hb
def yX (ha:PD X a ta) (hb:PD X b tb):PD X (.BinOp a .Mod b pos) (yn (fI (λ _ j=>0<j) λ i j=>.int (i%j)) ta tb):=rJ Sy (fI.fits λ _ _ _=>by simp only[zg]) fI.mo ha hb
def ua (ha:PD X a ta) (hb:PD X b tb):PD X (.BinOp a .FloorDiv b pos) (yn (fI wq λ i j=>.int (i/j)) ta tb):=rJ SF (fI.fits λ _ _ _=>by simp only[zg]) fI.mo ha hb
def qw (ha:PD X a ta) (hb:PD X b tb):PD X (.BinOp a .Pow b pos) (yn (fI ql λ i j=>.int (i ^ j.toNat)) ta tb):=rJ Sk (fI.fits λ _ _ _=>by simp only[zg]) fI.mo ha hb
abbrev jl:yD:=xc λ i j=>.bl (decide (i<=j))
abbrev fM:yD:=xc λ i j=>.bl (decide (j<i))
abbrev fN:yD:=xc λ i j=>.bl (decide (j<=i))
def fit_le:xn K jl (wW λ i j=>.bl (decide (i<=j))):=xc.fits λ _ _ _=>by simp only[zg]
def OH:xn K fM (wW λ i j=>.bl (decide (j<i))):=xc.fits λ _ _ _=>by simp only[zg]
def OI:xn K fN (wW λ i j=>.bl (decide (j<=i))):=xc.fits λ _ _ _=>by simp only[zg]
def TL (ha:PD X a ta) (hb:PD X b tb):PD X (.Compare a [.LtE] [b] pos) (yn jl ta tb):=nB p7 fit_le xc.mo ha hb (tu _)
def kF (ha:PD X a ta) (hb:PD X b tb):PD X (.Compare a [.GtE] [b] pos) (yn fN ta tb):=nB SD OI xc.mo ha hb (tu _)
def Ts (ha:PD X a ta) (hb:PD X b tb):xC X (.Compare a [.LtE] [b] pos) (vk (yn jl ta tb)):=qu p7 fit_le xc.mo ha hb (tu _)
def bV (ha:PD X a ta) (hb:PD X b tb):xC X (.Compare a [.Gt] [b] pos) (vk (yn fM ta tb)):=qu SA OH xc.mo ha hb (tu _)
end
section
variable {X:Cx}{K:Ab}{a b c:Expr}{ta tb:zu}{pos:Pos}
def my (ta tb:zu):zu:=fun Y S Q=>ta Y S λ x S1=>match x with
 | .bl k=>if k=true then tb Y S1 Q else Q (.bl false) S1
 | _=>False
def mr (ta:zu):zu:=fun Y S Q=>ta Y S λ x S1=>match x with
 | .bl k=>Q (.bl (!k)) S1
 | _=>False
def w_ {c:Prop} [Decidable c] {A B A' B':Prop}(h1:A->A') (h2:B->B') (h:if c then A else B):if c then A' else B':=by
 by_cases q:c
 ·rw[if_pos q] at h ⊢;exact h1 h
 ·rw[if_neg q] at h ⊢;exact h2 h
def my.mo (ha:yk ta) (hb:yk tb):yk (my ta tb):=fun Y S Q Q' hq h=>ha Y S _ _ (λ x S1 z=>by
 cases x <;> first
  | exact w_ (hb Y S1 _ _ hq) (hq _ _) z
  | exact z) h
def mr.mo (ha:yk ta):yk (mr ta):=fun Y S Q Q' hq h=>ha Y S _ _ (λ x S1 z=>by
 cases x <;> first
  | exact hq _ _ z
  | exact z) h
def tm {op} {t:zu}(h:PD X a t):PD X (.BoolOp op [a] pos) t:=⟨h.mo,UW h.pe⟩
variable {EU:List Expr}
def uc (ha:PD X a ta) (hb:PD X (.BoolOp .And (b::EU) pos) tb):PD X (.BoolOp .And (a::b::EU) pos) (my ta tb):=by
 refine⟨my.mo ha.mo hb.mo,PE.imp (Tp ha.pe hb.pe) fun B H Q hu=>?_⟩
 obtain⟨Y,S,r1,r2,h⟩:=hu
 refine zO.go ha.mo r1 r2 h λ x S1 v H1 h1 q1 e1 p1=>?_
 cases x with
 | bl k=>
  simp only[zg] at q1
  refine⟨k,q1,w_ (λ z=>?_) (λ z=>?_) h1⟩
  ·exact zO.go hb.mo (r1.ext e1) p1 z λ y S2 w H2 h2 q2 e2 p2=>h2 w H2 q2 (e1.trans e2) p2
  ·exact z _ H1 (by simp only[zg]) e1 p1
 | _=>exact h1.elim
def TH (ha:PD X a ta):PD X (.UnaryOp .Not a pos) (mr ta):=by
 refine⟨mr.mo ha.mo,PE.imp (UX ha.pe) fun B H Q hu=>?_⟩
 obtain⟨Y,S,r1,r2,h⟩:=hu
 refine zO.go ha.mo r1 r2 h λ x S1 v H1 h1 q1 e1 p1=>?_
 cases x with
 | bl k=>
  simp only[zg] at q1
  exact⟨k,q1,h1 _ H1 (by simp only[zg]) e1 p1⟩
 | _=>exact h1.elim
def mj (t u:y9):y9:=fun Y S Q=>t Y S λ k S1=>if k=true then u Y S1 Q else Q false S1
def mh (t u:y9):y9:=fun Y S Q=>t Y S λ k S1=>if k=true then Q true S1 else u Y S1 Q
def mi (t:y9):y9:=fun Y S Q=>t Y S λ k S1=>Q (!k) S1
variable {t u:y9}
def mj.mo (h:wU t) (h':wU u):wU (mj t u):=fun Y S _ _ hq z=>h Y S _ _ (λ k S1 z=>w_ (h' Y S1 _ _ hq) (hq _ _) z) z
def mh.mo (h:wU t) (h':wU u):wU (mh t u):=fun Y S _ _ hq z=>h Y S _ _ (λ k S1 z=>w_ (hq _ _) (h' Y S1 _ _ hq) z) z
def mi.mo (h:wU t):wU (mi t):=fun Y S _ _ hq z=>h Y S _ _ (λ k S1 z=>hq _ _ z) z
structure wC (X:Cx) (e:Expr) (t:y9):Prop where
 mo:wU t
 pw:PW X e (wx X.K t)
def PW.imp {e:Expr}{t t':TT}(h:PW X e t) (hi:∀ B H Q,t' B H Q->t B H Q):PW X e t':=λ whole EH s B H Q I q=>h whole EH s B H Q I (hi B H Q q)
theorem wC.pt {e:Expr}{t:y9}(h:wC X e t):xC X e t:=⟨h.mo,PW.pt h.pw⟩
def Tq (h:xC X a t):wC X (.BoolOp .And [a] pos) t:=⟨h.mo,Ud h.pt⟩
def rH (h:xC X a t):wC X (.BoolOp .Or [a] pos) t:=⟨h.mo,Ub h.pt⟩
def Tr (ha:xC X a t) (hb:wC X (.BoolOp .And (b::EU) pos) u):wC X (.BoolOp .And (a::b::EU) pos) (mj t u):=by
 refine⟨mj.mo ha.mo hb.mo,PW.imp (Ue ha.pt hb.pw) fun B H Q hu=>?_⟩
 obtain⟨Y,S,r1,r2,h⟩:=hu
 refine wx.go ha.mo r1 r2 h λ k S1 H1 h1 e1 p1=>w_ (λ z=>?_) (λ z=>z H1 e1 p1) h1
 exact wx.go hb.mo (r1.ext e1) p1 z λ y S2 H2 h2 e2 p2=>h2 H2 (e1.trans e2) p2
def tf (ha:xC X a t) (hb:wC X (.BoolOp .Or (b::EU) pos) u):wC X (.BoolOp .Or (a::b::EU) pos) (mh t u):=by
 refine⟨mh.mo ha.mo hb.mo,PW.imp (Uc ha.pt hb.pw) fun B H Q hu=>?_⟩
 obtain⟨Y,S,r1,r2,h⟩:=hu
 refine wx.go ha.mo r1 r2 h λ k S1 H1 h1 e1 p1=>w_ (λ z=>z H1 e1 p1) (λ z=>?_) h1
 exact wx.go hb.mo (r1.ext e1) p1 z λ y S2 H2 h2 e2 p2=>h2 H2 (e1.trans e2) p2
def xG (ha:xC X a t):xC X (.UnaryOp .Not a pos) (mi t):=by
 refine⟨mi.mo ha.mo,PT.imp (Uj ha.pt) fun B H Q hu=>?_⟩
 obtain⟨Y,S,r1,r2,h⟩:=hu
 exact wx.go ha.mo r1 r2 h λ k S1 H1 h1 e1 p1=>h1 H1 e1 p1
def mv (t:y9) (ta tb:zu):zu:=fun Y S Q=>t Y S λ k S1=>if k=true then ta Y S1 Q else tb Y S1 Q
def mv.mo (h:wU t) (ha:yk ta) (hb:yk tb):yk (mv t ta tb):=fun Y S _ _ hq z=>h Y S _ _ (λ k S1 z=>w_ (ha Y S1 _ _ hq) (hb Y S1 _ _ hq) z) z
def TQ (hc:xC X c t) (ha:PD X a ta) (hb:PD X b tb):PD X (.IfExp c a b pos) (mv t ta tb):=by
 refine⟨mv.mo hc.mo ha.mo hb.mo,PE.imp (Tc hc.pt ha.pe hb.pe) fun B H Q hu=>?_⟩
 obtain⟨Y,S,r1,r2,h⟩:=hu
 refine wx.go hc.mo r1 r2 h λ k S1 H1 h1 e1 p1=>w_ (λ z=>?_) (λ z=>?_) h1
 ·exact zO.go ha.mo (r1.ext e1) p1 z λ y S2 w H2 h2 q2 e2 p2=>h2 w H2 q2 (e1.trans e2) p2
 ·exact zO.go hb.mo (r1.ext e1) p1 z λ y S2 w H2 h2 q2 e2 p2=>h2 w H2 q2 (e1.trans e2) p2
def vt (d:D) (S:SS) (Q:Bool->SS->Prop):Prop:=match d with
 | .zr=>Q false S
 | .bl k=>Q k S
 | .int i=>Q (i != 0) S
 | .str x=>x.length<=sizeLine/\Q ((x.length:Int) != 0) S
 | .tup ds=>Q (!ds.isEmpty) S
 | .xE ds=>Q (!ds.isEmpty) S
 | .ref p=>match S p with
  | some (.lst ds)=>Q (!ds.isEmpty) S
  | some (.yh Aa)=>Q (!Aa.isEmpty) S
  | none=>False
 | .err _ _ _=>False
def Yd (ta:zu):y9:=fun Y S Q=>ta Y S λ x S1=>vt x S1 Q
def vt.mo {d:D}{S:SS}{Q Q':Bool->SS->Prop}(hq:∀ k S',Q k S'->Q' k S') (h:vt d S Q):vt d S Q':=by
 cases d with
 | str x=>exact⟨h.1,hq _ _ h.2⟩
 | err _ _ _=>exact h.elim
 | ref p=>
  unfold vt at h ⊢
  dsimp only at h ⊢
  split at h
  ·exact hq _ _ h
  ·exact hq _ _ h
  ·exact h
 | _=>exact hq _ _ h
theorem zl.isEmpty {H:Hp}{ds:List D}{xs:List V}(h:zl K H ds xs):ds.isEmpty=xs.isEmpty:=by
 have:=h.length
 cases ds <;> cases xs <;> simp_all
def Mv {α β:Type}{F:α->β->Prop}{xs:List α}{ys:List β}(h:Paired F xs ys):xs.isEmpty=ys.isEmpty:=by cases h <;> rfl
def vt.fits {H:Hp}{d:D}{v:V}{S:SS}{Q:Bool->Hp->Prop}(r:zg K H d v) (p:zJ K H S) (h:vt d S (mm K H Q)):∃ k,eN K v H k/\Q k H:=by
 cases d with
 | zr=>simp only[zg] at r;subst r;exact⟨false,rfl,h H (.refl H) p⟩
 | bl k=>simp only[zg] at r;subst r;exact⟨k,rfl,h H (.refl H) p⟩
 | int i=>simp only[zg] at r;subst r;exact⟨_,rfl,h H (.refl H) p⟩
 | str x=>simp only[zg] at r;subst r;exact⟨_,⟨h.1,rfl⟩,h.2 H (.refl H) p⟩
 | err _ _ _=>exact h.elim
 | tup ds=>
  simp only[zg] at r
  obtain⟨a,xs,rfl,r1,r2⟩:=r
  exact⟨_,.inr (.inl ⟨xs,r1,by rw[r2.isEmpty]⟩),h H (.refl H) p⟩
 | xE ds=>
  simp only[zg] at r
  obtain⟨a,xs,rfl,r1,r2⟩:=r
  exact⟨_,.inl ⟨xs,r1.sq,by rw[r2.isEmpty]⟩,h H (.refl H) p⟩
 | ref a=>
  simp only[zg] at r
  subst r
  unfold vt at h
  dsimp only at h
  split at h
  ·rename_i ds e
   obtain⟨xs,e1,r2⟩:=p a _ e
   exact⟨_,.inl ⟨xs,zM.of e1,by rw[r2.isEmpty]⟩,h H (.refl H) p⟩
  ·rename_i Aa e
   obtain⟨xs,e1,r2⟩:=p a _ e
   exact⟨_,.inr (.inr ⟨xs,e1,by rw[Mv r2]⟩),h H (.refl H) p⟩
  ·exact h.elim
def xh (ha:PD X a ta) (he:∀ whole,isTrue a X.env whole=(do let v <- whole;standAt a.pos;holding [v] (truthy v)):=by intro _;rfl):xC X a (Yd ta):=by
 refine⟨fun Y S Q Q' hq h=>ha.mo Y S _ _ (λ x S1 z=>vt.mo hq z) h,PT.imp (Ui ha.pe he) fun B H Q hu=>?_⟩
 obtain⟨Y,S,r1,r2,h⟩:=hu
 refine zO.go ha.mo r1 r2 h λ x S1 v H1 h1 q1 e1 p1=>?_
 exact vt.fits q1 p1 (vt.mo (λ k S' z=>z.ext e1) h1)
def jv:yi:=λ _ S Q=>Q [] S
def qD (te:zu) (tr:yi):yi:=fun Y S Q=>te Y S λ x S1=>tr Y S1 λ xs S2=>Q (x::xs) S2
variable {e:Expr}{es:List Expr}{te:zu}{tA:yi}
def qD.mo (h:yk te) (h':tX tA):tX (qD te tA):=fun Y S _ _ hq z=>h Y S _ _ (λ x S1 z=>h' Y S1 _ _ (λ xs S2 z=>hq _ _ z) z) z
def zj:xm X [] jv:=⟨λ _ _ _ _ hq h=>hq _ _ h,PA.imp p0 fun B H Q ⟨_,_,_,r2,h⟩=>h [] H .nil (.refl H) r2⟩
def zc (ha:PD X e te) (hr:xm X es tA) (hs:starEach (e::es) X.env=(false,eval e X.env)::starEach es X.env:=by rfl):xm X (e::es) (qD te tA):=by
 refine⟨qD.mo ha.mo hr.mo,PA.imp (qy ha.pe hr.pa hs) fun B H Q hu=>?_⟩
 obtain⟨Y,S,r1,r2,h⟩:=hu
 refine zO.go ha.mo r1 r2 h λ x S1 v H1 h1 q1 e1 p1=>?_
 refine xQ.go hr.mo (r1.ext e1) p1 h1 λ xs S2 w H2 h2 q2 e2 p2=>?_
 exact h2 (v::w) H2 (.cons (zg.ext e2 x q1) q2) (e1.trans e2) p2
def Yk (t:yi):zu:=fun Y S Q=>t Y S λ ds S1=>ds.length<=sizeLine/\Q (.tup ds) S1
def Yp (t:yi):zu:=fun Y S Q=>t Y S λ ds S1=>ds.length<=sizeLine/\∀ p,S1 p=none->Q (.ref p) (ups S1 p (.lst ds))
def yr {k} (h:xm X es tA):PD X (.Tuple es k pos) (Yk tA):=by
 refine⟨fun Y S _ _ hq z=>h.mo Y S _ _ (λ ds S1 z=>⟨z.1,hq _ _ z.2⟩) z,PE.imp (UR h.pa) fun B H Q hu=>?_⟩
 obtain⟨Y,S,r1,r2,h'⟩:=hu
 refine xQ.go h.mo r1 r2 h' λ ds S1 xs H1 h1 q1 e1 p1=>⟨by rw[<- q1.length];exact h1.1,λ p hp=>?_⟩
 refine h1.2 _ _ ?_ (e1.trans (.new hp _)) (p1.new hp)
 simp only[zg]
 exact⟨p,xs,rfl,zT.of y7,zl.ext (.new hp _) ds q1⟩
def wX (h:xm X es tA):PD X (.List es pos) (Yp tA):=by
 refine⟨fun Y S _ _ hq z=>h.mo Y S _ _ (λ ds S1 z=>⟨z.1,λ p hp=>hq _ _ (z.2 p hp)⟩) z,PE.imp (UZ h.pa) fun B H Q hu=>?_⟩
 obtain⟨Y,S,r1,r2,h'⟩:=hu
 refine xQ.go h.mo r1 r2 h' λ ds S1 xs H1 h1 q1 e1 p1=>⟨by rw[<- q1.length];exact h1.1,λ p hp=>?_⟩
 refine h1.2 p (p1.none hp) _ _ (by simp only[zg]) (e1.trans (.new hp _)) ?_
 exact p1.ups (.new hp _) ⟨xs,y7,zl.ext (.new hp _) ds q1⟩
def w9:yD:=λ x y S Q=>match x,y with
 | .tup ds,.int i=>match zP ds i with
  | some d=>Q d S
  | none=>False
 | .xE ds,.int i=>match zP ds i with
  | some d=>Q d S
  | none=>False
 | .ref p,.int i=>match S p with
  | some (.lst ds)=>match zP ds i with
   | some d=>Q d S
   | none=>False
  | _=>False
 | _,_=>False
def w9.mo:xr w9:=λ x y S Q Q' hq h=>by
 unfold w9 at h ⊢
 split at h
 ·skip
  split at h
  ·exact hq _ _ h
  ·exact h
 ·skip
  split at h
  ·exact hq _ _ h
  ·exact h
 ·skip
  split at h
  ·skip
   split at h
   ·exact hq _ _ h
   ·exact h
  ·exact h.elim
 ·exact h.elim
theorem zl.zP {H:Hp}{ds:List D}{xs:List V}{i:Int}{d:D}(h:zl K H ds xs) (e:L2.zP ds i=some d):∃ x,L2.zP xs i=some x/\zg K H d x:=by
 unfold L2.zP at e ⊢
 rw[h.length] at e
 cases q:wZ xs.length i with
 | none=>rw[q] at e;cases e
 | some j=>
  rw[q] at e
  exact h.get e
def w9.fits:xn K w9 (bF K):=λ x y d e H S Q h1 h2 h3 h=>by
 unfold w9 at h
 split at h
 ·split at h
  ·rename_i q
   simp only[zg] at h1 h2
   obtain⟨a,xs,rfl,r1,r2⟩:=h1
   obtain⟨x',e1,e2⟩:=r2.zP q
   exact .inr (.inl ⟨a,xs,_,x',rfl,h2,r1,e1,h x' H e2 (.refl H) h3⟩)
  ·exact h.elim
 ·split at h
  ·rename_i q
   simp only[zg] at h1 h2
   obtain⟨a,xs,rfl,r1,r2⟩:=h1
   obtain⟨x',e1,e2⟩:=r2.zP q
   exact .inl ⟨a,xs,_,x',rfl,h2,r1.sq,e1,h x' H e2 (.refl H) h3⟩
  ·exact h.elim
 ·split at h
  ·rename_i q0
   split at h
   ·rename_i q
    simp only[zg] at h1 h2
    subst h1
    obtain⟨xs,r1,r2⟩:=h3 _ _ q0
    obtain⟨x',e1,e2⟩:=r2.zP q
    exact .inl ⟨_,xs,_,x',rfl,h2,zM.of r1,e1,h x' H e2 (.refl H) h3⟩
   ·exact h.elim
  ·exact h.elim
 ·exact h.elim
def zx (ha:PD X a ta) (hb:PD X b tb) (hs:YX b:=by exact λ _ _=>rfl):PD X (.Subscript a b pos) (yn w9 ta tb):=
 ⟨yn.mo w9.mo ha.mo hb.mo,PE.imp (Ta PB ha.pe hb.pe hs) λ _ _ _ h=>lH w9.fits w9.mo ha.mo hb.mo h⟩
abbrev xB:=List D->SS->DK->Prop
def vN (f:xB):Prop:=∀ ds S (Q Q':DK),(∀ d S',Q d S'->Q' d S')->f ds S Q->f ds S Q'
def uP (K:Ab) (f:xB) (r:List V->Hp->VK->Prop):Prop:=∀ xs ds H S Q,zl K H ds xs->zJ K H S->f ds S (wA K H Q)->r xs H Q
def x9 (f:xB) (t:yi):zu:=fun Y S Q=>t Y S λ ds S1=>f ds S1 Q
def x9.mo {f:xB}(hf:vN f) (h:tX tA):yk (x9 f tA):=fun Y S _ _ hq z=>h Y S _ _ (λ ds S1 z=>hf ds S1 _ _ hq z) z
def cB {f:xB}{r:List V->Hp->VK->Prop}(hf:vN f) (hr:uP K f r) (h:tX tA) {B:St}{H:Hp}{Q:VK}(hu:zO K (x9 f tA) B H Q):lN r (xQ K tA) B H Q:=by
 obtain⟨Y,S,r1,r2,h'⟩:=hu
 refine xQ.go h r1 r2 h' λ ds S1 xs H1 h1 q1 e1 p1=>?_
 exact hr xs ds H1 S1 Q q1 p1 (hf ds S1 _ _ (λ d S' z=>z.ext e1) h1)
def tp {f:xB}{r:List V->Hp->VK->Prop}{e:Expr}(h:PE X e (lN r (xQ X.K tA))) (hf:vN f) (hr:uP X.K f r) (ha:tX tA):PD X e (x9 f tA):=
 ⟨x9.mo hf ha,PE.imp h λ _ _ _ hu=>cB hf hr ha hu⟩
noncomputable def zQ (d:D) (S:SS):Option (List D):=match d with
 | .tup ds=>some ds
 | .xE ds=>some ds
 | .ref p=>match S p with
  | some (.lst ds)=>some ds
  | _=>none
 | _=>none
theorem zQ.sq {H:Hp}{S:SS}{d:D}{v:V}{ds:List D}(r:zg K H d v) (p:zJ K H S) (e:zQ d S=some ds):∃ a xs,v=.ref a/\(zM K H a xs\/zT K H a xs)/\zl K H ds xs:=by
 unfold zQ at e
 split at e
 ·cases e
  simp only[zg] at r
  obtain⟨a,xs,h1,h2,h3⟩:=r
  exact⟨a,xs,h1,.inr h2,h3⟩
 ·cases e
  simp only[zg] at r
  obtain⟨a,xs,h1,h2,h3⟩:=r
  exact⟨a,xs,h1,.inl h2.sq,h3⟩
 ·split at e
  ·rename_i q
   cases e
   simp only[zg] at r
   subst r
   obtain⟨xs,h1,h2⟩:=p _ _ q
   exact⟨_,xs,rfl,.inl (zM.of h1),h2⟩
  ·cases e
 ·cases e
def zl.one {H:Hp}{d:D}{xs:List V}(h:zl K H [d] xs):∃ x,xs=[x]/\zg K H d x:=by
 simp only[zl] at h
 obtain⟨x,r,rfl,h2,rfl⟩:=h
 exact⟨x,rfl,h2⟩
def zl.two {H:Hp}{d d':D}{xs:List V}(h:zl K H [d,d'] xs):∃ x y,xs=[x,y]/\zg K H d x/\zg K H d' y:=by
 simp only[zl] at h
 obtain⟨x,r,rfl,h2,y,r',rfl,h3,rfl⟩:=h
 exact⟨x,y,rfl,h2,h3⟩
def ui:xB:=λ ds S Q=>match ds with
 | [d]=>match zQ d S with
  | some ds=>Q (.int ds.length) S
  | none=>match d with
   | .str z=>z.length<=sizeLine/\Q (.int z.length) S
   | _=>False
 | _=>False
def ui.mo:vN ui:=λ ds S Q Q' hq h=>by
 unfold ui at h ⊢
 split at h
 ·skip
  split at h
  ·exact hq _ _ h
  ·split at h
   ·exact⟨h.1,hq _ _ h.2⟩
   ·exact h.elim
 ·exact h.elim
abbrev Ua (K:Ab):List V->Hp->VK->Prop:=λ xs H Q=>(∃ p ys,xs=[.ref p]/\(zM K H p ys\/zT K H p ys)/\Q (.int ys.length) H)\/(∃ z,xs=[.str z]/\z.length<=sizeLine/\Q (.int z.length) H)
def ui.fits:uP K ui (Ua K):=λ xs ds H S Q h0 h2 h=>by
 unfold ui at h
 split at h
 ·obtain⟨x,hx,h1⟩:=h0.one;subst hx
  split at h
  ·rename_i e
   obtain⟨a,ys,rfl,q,r⟩:=zQ.sq h1 h2 e
   refine .inl ⟨a,ys,rfl,q,?_⟩
   rw[<- r.length]
   exact h _ H (by simp only[zg]) (.refl H) h2
  ·split at h
   ·simp only[zg] at h1
    subst h1
    exact .inr ⟨_,rfl,h.1,h.2 _ H (by simp only[zg]) (.refl H) h2⟩
   ·exact h.elim
 ·exact h.elim
def uh:xB:=λ ds S Q=>match ds with
 | [d]=>match zQ d S with
  | some ds=>∀ p,S p=none->Q (.ref p) (ups S p (.lst ds))
  | none=>False
 | _=>False
def uh.mo:vN uh:=λ ds S Q Q' hq h=>by
 unfold uh at h ⊢
 split at h
 ·skip
  split at h
  ·exact λ p hp=>hq _ _ (h p hp)
  ·exact h.elim
 ·exact h.elim
def uh.fits:uP K uh (λ xs H Q=>∃ p ys,xs=[.ref p]/\(zM K H p ys\/zT K H p ys)/\∀ l,H l=none->Q (.ref l) (upd H l (.lst ys))):=λ xs ds H S Q h0 h2 h=>by
 unfold uh at h
 split at h
 ·obtain⟨x,hx,h1⟩:=h0.one;subst hx
  split at h
  ·rename_i e
   obtain⟨a,ys,rfl,q,r⟩:=zQ.sq h1 h2 e
   refine⟨a,ys,rfl,q,λ l hl=>?_⟩
   exact h l (h2.none hl) _ _ (by simp only[zg]) (.new hl _) (h2.ups (.new hl _) ⟨ys,y7,zl.ext (.new hl _) _ r⟩)
  ·exact h.elim
 ·exact h.elim
def ug:xB:=λ ds S Q=>match ds with
 | [.tup ds]=>Q (.tup ds) S
 | [.xE ds]=>Q (.tup ds) S
 | [.ref p]=>match S p with
  | some (.lst ds)=>Q (.tup ds) S
  | _=>False
 | _=>False
def ug.mo:vN ug:=λ ds S Q Q' hq h=>by
 unfold ug at h ⊢
 split at h
 ·exact hq _ _ h
 ·exact hq _ _ h
 ·skip
  split at h
  ·exact hq _ _ h
  ·exact h.elim
 ·exact h.elim
def ug.fits:uP K ug (λ xs H Q=>∃ p ys,xs=[.ref p]/\((zM K H p ys/\∀ l,H l=none->Q (.ref l) (upd H l (.tup ys)))\/(zT K H p ys/\Q (.ref p) H))):=λ xs ds H S Q h0 h2 h=>by
 unfold ug at h
 split at h
 ·obtain⟨x,hx,h1⟩:=h0.one;subst hx
  have Jc:=h1
  simp only[zg] at h1
  obtain⟨a,xs,rfl,r1,r2⟩:=h1
  exact⟨a,xs,rfl,.inr ⟨r1,h _ H Jc (.refl H) h2⟩⟩
 ·obtain⟨x,hx,h1⟩:=h0.one;subst hx
  simp only[zg] at h1
  obtain⟨a,xs,rfl,r1,r2⟩:=h1
  refine⟨a,xs,rfl,.inl ⟨r1.sq,λ l hl=>h _ _ ?_ (.new hl _) (h2.new hl)⟩⟩
  simp only[zg]
  exact⟨l,xs,rfl,zT.of y7,zl.ext (.new hl _) _ r2⟩
 ·obtain⟨x,hx,h1⟩:=h0.one;subst hx
  split at h
  ·rename_i e
   simp only[zg] at h1
   subst h1
   obtain⟨xs,r1,r2⟩:=h2 _ _ e
   refine⟨_,xs,rfl,.inl ⟨zM.of r1,λ l hl=>h _ _ ?_ (.new hl _) (h2.new hl)⟩⟩
   simp only[zg]
   exact⟨l,xs,rfl,zT.of y7,zl.ext (.new hl _) _ r2⟩
  ·exact h.elim
 ·exact h.elim
def vD (g:Int->Int->D):xB:=λ ds S Q=>match ds with
 | [.int i,.int j]=>Q (g i j) S
 | _=>False
def vD.mo {g:Int->Int->D}:vN (vD g):=λ ds S Q Q' hq h=>by
 unfold vD at h ⊢
 split at h
 ·exact hq _ _ h
 ·exact h.elim
def vD.fits {g:Int->Int->D}{g':Int->Int->V}(hg:∀ i j H,zg K H (g i j) (g' i j)):uP K (vD g) (λ xs H Q=>∃ i j,xs=[.int i,.int j]/\Q (g' i j) H):=λ xs ds H S Q h0 h2 h=>by
 unfold vD at h
 split at h
 ·obtain⟨x,y,hx,h1,h3⟩:=h0.two;subst hx
  simp only[zg] at h1 h3
  subst h1 h3
  exact⟨_,_,rfl,h _ H (hg _ _ H) (.refl H) h2⟩
 ·exact h.elim
def zal:yD:=λ x y S Q=>match x,y with
 | .ref p,.ref q=>match S p,S q with
  | some (.lst ds),some (.lst es)=>ds.length+es.length<=sizeLine/\∀ r,S r=none->Q (.ref r) (ups S r (.lst (ds++es)))
  | _,_=>False
 | _,_=>False
def rZ (to te:zu):zu:=fun Y S Q=>to Y S λ x S1=>match x with
 | .ref p=>(∃ ds,S1 p=some (.lst ds))/\te Y S1 λ y S2=>match S2 p with
  | some (.lst ds)=>ds.length<sizeLine/\Q .zr (ups S2 p (.lst (ds++[y])))
  | _=>False
 | _=>False
def rZ.mo {to te:zu}(h:yk to) (h':yk te):yk (rZ to te):=fun Y S Q Q' hq z=>h Y S _ _ (λ x S1 z=>by
 cases x with
 | ref p=>
  refine⟨z.1,h' Y S1 _ _ (λ y S2 w=>?_) z.2⟩
  split at w
  ·exact⟨w.1,hq _ _ w.2⟩
  ·exact w.elim
 | _=>exact z) z
def Sb {o e:Expr}{to te:zu}{e0:Expr}(Eg:PE X e0 (iw X.K "list" bL (zO X.K to) (ir (zO X.K te) ip))) (h:yk to) (h':yk te):PD X e0 (rZ to te):=by
 refine⟨rZ.mo h h',PE.imp Eg fun B H Q hu=>?_⟩
 obtain⟨Y,S,r1,r2,z⟩:=hu
 refine zO.go h r1 r2 z λ x S1 v H1 h1 q1 e1 p1=>?_
 cases x with
 | ref p=>
  obtain⟨⟨ds,hd⟩,h1⟩:=h1
  simp only[zg] at q1
  subst q1
  obtain⟨xs,g1,g2⟩:=p1 _ _ hd
  refine⟨.inl ⟨rfl,xs,zM.of g1⟩,?_⟩
  refine zO.go h' (r1.ext e1) p1 h1 λ y S2 w H2 h2 q2 e2 p2=>?_
  split at h2
  ·rename_i Hl e3
   obtain⟨Fi,g3,g4⟩:=p2 _ _ e3
   refine⟨p,Fi,w,rfl,rfl,g3,by rw[<- g4.length];exact h2.1,?_⟩
   have e4:Ext H2 (upd H2 p (.lst (Fi++[w]))):=.lst g3 _
   exact h2.2 _ _ (by simp only[zg]) ((e1.trans e2).trans e4) (p2.ups e4 ⟨_,y7,zl.ext e4 _ (g4.snoc q2)⟩)
  ·exact h2.elim
 | _=>exact h1.elim
end
structure qj where
 nx:yj->SS->Prop
 rt:DK
 bk:yj->SS->Prop:=λ _ _=>False
 ct:yj->SS->Prop:=λ _ _=>False
abbrev yI:=qj->yj->SS->Prop
structure qj.Le (E E':qj):Prop where
 nx:∀ Y S,E.nx Y S->E'.nx Y S
 rt:∀ d S,E.rt d S->E'.rt d S
 bk:∀ Y S,E.bk Y S->E'.bk Y S
 ct:∀ Y S,E.ct Y S->E'.ct Y S
def tW (t:yI):Prop:=∀ E E' Y S,qj.Le E E'->t E Y S->t E' Y S
def tM (K:Ab) (H:Hp) (D:Ends):qj:=⟨vi K H D.nx,wA K H D.rt,vi K H D.bk,vi K H D.ct⟩
theorem tM.ext {K:Ab}{H H':Hp}{D:Ends}(e:Ext H H'):(tM K H D).Le (tM K H' D):=⟨λ _ _ h=>vi.ext e h,λ _ _ h=>wA.ext e h,λ _ _ h=>vi.ext e h,λ _ _ h=>vi.ext e h⟩
def c6 (K:Ab) (t:yI):TS:=λ D B H=>∃ Y S,yK K H Y B/\zJ K H S/\t (tM K H D) Y S
structure vL (X:Cx) (st:Stmt) (t:yI):Prop where
 mo:tW t
 ps:PS X st (c6 X.K t)
structure uw (X:Cx) (st:List Stmt) (t:yI):Prop where
 mo:tW t
 ps:xW X st (c6 X.K t)
section
variable {X:Cx}{K:Ab}{st:Stmt}{EU:List Stmt}{t u:yI}{pos:Pos}{e:Expr}{te:zu}
def Ym:yI:=λ E Y S=>E.nx Y S
def mq (t u:yI):yI:=λ E Y S=>t { E with nx:=u E } Y S
def mq.mo (h:tW t) (h':tW u):tW (mq t u):=λ E E' Y S hE z=>h { E with nx:=u E } { E' with nx:=u E' } Y S ⟨fun Y S q=>h' E E' Y S hE q,hE.rt,hE.bk,hE.ct⟩ z
def yM:uw X [] Ym:=⟨λ _ _ _ _ hE h=>hE.nx _ _ h,xW.imp Uo λ D B H ⟨Y,S,r1,r2,h⟩=>h B H r1 (.refl H) r2⟩
def zw (h:vL X st t):uw X [st] t:=⟨h.mo,Um h.ps⟩
def zy (h:vL X st t) (h':uw X EU u):uw X (st::EU) (mq t u):=by
 refine⟨mq.mo h.mo h'.mo,xW.imp (Uq h.ps h'.ps) λ D B H hu=>?_⟩
 obtain⟨Y,S,r1,r2,z⟩:=hu
 refine⟨Y,S,r1,r2,h.mo { tM X.K H D with nx:=u (tM X.K H D) } _ Y S ⟨fun Y' S' q B' H' q1 q2 q3=>?_,λ _ _ q=>q,λ _ _ q=>q,λ _ _ q=>q⟩ z⟩
 exact⟨Y',S',q1,q3,h'.mo _ _ Y' S' (tM.ext q2) q⟩
def jw (te:zu):yI:=λ E Y S=>te Y S λ _ S1=>E.nx Y S1
def wz (he:PD X e te) (hs:swapsWith e none pos.line X.env=pure false:=by rfl):vL X (.Expr e pos) (jw te):=by
 refine⟨λ E E' Y S hE z=>he.mo Y S _ _ (λ _ _ q=>hE.nx _ _ q) z,PS.imp (Ux he.pe hs) λ D B H hu=>?_⟩
 obtain⟨Y,S,r1,r2,z⟩:=hu
 exact zO.go he.mo r1 r2 z λ x S1 v H1 h1 q1 e1 p1=>h1 B H1 (r1.ext e1) e1 p1
def fU (te:zu):yI:=λ E Y S=>te Y S E.rt
def zI (he:PD X e te):vL X (.Return (some e) pos) (fU te):=by
 refine⟨λ E E' Y S hE z=>he.mo Y S _ _ (λ _ _ q=>hE.rt _ _ q) z,PS.imp (Uu he.pe) λ D B H hu=>?_⟩
 obtain⟨Y,S,r1,r2,z⟩:=hu
 exact zO.go he.mo r1 r2 z λ x S1 v H1 h1 q1 e1 p1=>h1 v H1 q1 e1 p1
def Yr (c:y9) (t u:yI):yI:=λ E Y S=>c Y S λ k S1=>if k=true then t E Y S1 else u E Y S1
def yN {c:Expr}{p q:List Stmt}{tc:y9}(hc:xC X c tc) (h:uw X p t) (h':uw X q u):vL X (.If c p q pos) (Yr tc t u):=by
 refine⟨λ E E' Y S hE z=>hc.mo Y S _ _ (λ k S1 z=>w_ (h.mo _ _ Y S1 hE) (h'.mo _ _ Y S1 hE) z) z,PS.imp (Uv hc.pt h.ps h'.ps) λ D B H hu=>?_⟩
 obtain⟨Y,S,r1,r2,z⟩:=hu
 refine wx.go hc.mo r1 r2 z λ k S1 H1 h1 e1 p1=>w_ (λ z=>?_) (λ z=>?_) h1
 ·exact⟨Y,S1,r1.ext e1,p1,h.mo _ _ Y S1 (tM.ext e1) z⟩
 ·exact⟨Y,S1,r1.ext e1,p1,h'.mo _ _ Y S1 (tM.ext e1) z⟩
abbrev xA:=D->yj->SS->(yj->SS->Prop)->Prop
abbrev wQ:=List D->yj->SS->(yj->SS->Prop)->Prop
def jI (t:xA):Prop:=∀ d Y S (Q Q':yj->SS->Prop),(∀ Y S,Q Y S->Q' Y S)->t d Y S Q->t d Y S Q'
def Xb (t:wQ):Prop:=∀ d Y S (Q Q':yj->SS->Prop),(∀ Y S,Q Y S->Q' Y S)->t d Y S Q->t d Y S Q'
def lI (K:Ab) (t:xA):TG:=λ v B H Q=>∃ d Y S,zg K H d v/\yK K H Y B/\zJ K H S/\t d Y S (vi K H Q)
def c9 (K:Ab) (t:wQ):sX:=λ v B H Q=>∃ d Y S,zl K H d v/\yK K H Y B/\zJ K H S/\t d Y S (vi K H Q)
structure qd (X:Cx) (e:Expr) (t:xA):Prop where
 mo:jI t
 pg:PG X e (lI X.K t)
structure j9 (X:Cx) (es:List Expr) (t:wQ):Prop where
 mo:Xb t
 pg:tV X es (c9 X.K t)
def PG.imp {e:Expr}{t t':TG}(h:PG X e t) (hi:∀ v B H Q,t' v B H Q->t v B H Q):PG X e t':=λ EH s B H v w Q I r q=>h EH s B H v w Q I r (hi v B H Q q)
def tV.imp {e:List Expr}{t t':sX}(h:tV X e t) (hi:∀ v B H Q,t' v B H Q->t v B H Q):tV X e t':=λ EH s B H v w Q I r q=>h EH s B H v w Q I r (hi v B H Q q)
def hName (i:Nat):xA:=λ d Y S Q=>Q (Y.set i (some d)) S
def TB {e:Expr}{i:Nat}(h:PG X e (pN i)):qd X e (hName i):=
 ⟨λ _ _ _ _ _ hq z=>hq _ _ z,PG.imp h λ v B H Q ⟨d,Y,S,r1,r2,r3,z⟩=>z _ H (r2.set i r1) (.refl H) r3⟩
def fy:wQ:=λ ds Y S Q=>ds=[]/\Q Y S
def f6 (t:xA) (u:wQ):wQ:=λ ds Y S Q=>match ds with
 | d::r=>t d Y S fun Y' S'=>u r Y' S' Q
 | []=>False
def nk:j9 X [] fy:=by
 refine⟨λ _ _ _ _ _ hq z=>⟨z.1,hq _ _ z.2⟩,tV.imp UH λ v B H Q hu=>?_⟩
 obtain⟨d,Y,S,r1,r2,r3,z1,z2⟩:=hu
 subst z1
 simp only[zl] at r1
 exact⟨r1,z2 B H r2 (.refl H) r3⟩
def u6 {e:Expr}{es:List Expr}{t:xA}{u:wQ}(h:qd X e t) (h':j9 X es u) (hs:(assignEach (e::es) X.env).map (·.2)=assign e X.env::(assignEach es X.env).map (·.2):=by rfl):j9 X (e::es) (f6 t u):=by
 refine⟨λ ds Y S Q Q' hq z=>?_,tV.imp (UI h.pg h'.pg hs) λ v B H Q hu=>?_⟩
 ·cases ds with
  | nil=>exact z
  | cons d r=>exact h.mo d Y S _ _ (fun Y' S' z=>h'.mo r Y' S' _ _ hq z) z
 ·obtain⟨ds,Y,S,r1,r2,r3,z⟩:=hu
  cases ds with
  | nil=>exact z.elim
  | cons d r=>
   simp only[zl] at r1
   obtain⟨x,xs,rfl,q1,q2⟩:=r1
   refine⟨x,xs,rfl,d,Y,S,q1,r2,r3,h.mo d Y S _ _ (fun Y' S' z B' H' g1 g2 g3=>?_) z⟩
   exact⟨r,Y',S',zl.ext g2 r q2,g1,g3,h'.mo r Y' S' _ _ (fun Y2 S2 z2=>vi.ext g2 z2) z⟩
def je (n:Nat) (t:wQ):xA:=λ d Y S Q=>match d with
 | .tup ds=>ds.length=n/\t ds Y S Q
 | _=>False
def T9 {e:Expr}{n:Nat}{t:wQ}(h:PG X e (ZM X.K n (c9 X.K t))) (hm:Xb t):qd X e (je n t):=by
 refine⟨λ d Y S Q Q' hq z=>?_,PG.imp h λ v B H Q hu=>?_⟩
 ·cases d with
  | tup ds=>exact⟨z.1,hm ds Y S _ _ hq z.2⟩
  | _=>exact z
 ·obtain⟨d,Y,S,r1,r2,r3,z⟩:=hu
  cases d with
  | tup ds=>
   simp only[zg] at r1
   obtain⟨a,xs,rfl,q1,q2⟩:=r1
   exact⟨a,xs,rfl,q1,by rw[<- q2.length];exact z.1,ds,Y,S,q2,r2,r3,z.2⟩
  | _=>exact z.elim
def tN (te:zu) (g:xA):yI:=λ E Y S=>te Y S λ x S1=>g x Y S1 E.nx
def tN.mo {g:xA}(h:yk te) (h':jI g):tW (tN te g):=λ E E' Y S hE z=>h Y S _ _ (λ x S1 q=>h' x Y S1 _ _ (fun Y S q=>hE.nx _ _ q) q) z
def Tw {e0:Stmt}{i:Nat}(h:PS X e0 (lO (zO X.K te) (pN i))) (hm:yk te):vL X e0 (tN te (hName i)):=by
 refine⟨tN.mo hm λ _ _ _ _ _ hq z=>hq _ _ z,PS.imp h λ D B H hu=>?_⟩
 obtain⟨Y,S,r1,r2,z⟩:=hu
 refine zO.go hm r1 r2 z λ x S1 v H1 h1 q1 e1 p1=>?_
 exact h1 _ H1 ((r1.ext e1).set i q1) e1 p1
end
structure o5 where
 items:List D
 keep:SS->Prop
abbrev wj:=yj->SS->(o5->SS->Prop)->Prop
def jH (t:wj):Prop:=∀ Y S (Q Q':o5->SS->Prop),(∀ I S',Q I S'->Q' I S')->t Y S Q->t Y S Q'
def m_ (K:Ab) (H1:Hp) (J:It) (I:o5):Prop:=∀ (i:Nat) (H:Hp) (S:SS),Ext H1 H->zJ K H S->I.keep S->
 (∀ d,I.items[i]?=some d->J.go i H/\∀ x H',J.qX i H x H'->Ext H H'/\zJ K H' S/\zg K H' d x)/\(I.items.length<=i->J.stop i H)
def Nk (K:Ab) (H:Hp) (R:It->Hp->Prop):o5->SS->Prop:=λ I S1=>∀ J H1,Ext H H1->zJ K H1 S1->m_ K H1 J I->R J H1
def wF (K:Ab) (t:wj):TI:=fun B H R=>∃ Y S,yK K H Y B/\zJ K H S/\t Y S (Nk K H R)
structure uN (X:Cx) (tg iter:Expr) (t:wj):Prop where
 mo:jH t
 pi:PI X tg iter (wF X.K t)
def PI.imp {X:Cx}{tg e:Expr}{t t':TI}(h:PI X tg e t) (hi:∀ B H Q,t' B H Q->t B H Q):PI X tg e t':=λ EH s B H Q I q=>h EH s B H Q I (hi B H Q q)
section
variable {X:Cx}{K:Ab}{tg e:Expr}{pos:Pos}
theorem zl.at {H:Hp}{ds:List D}{xs:List V}{i:Nat}{d:D}{x:V}(r:zl K H ds xs) (h1:ds[i]?=some d) (h2:xs[i]?=some x):zg K H d x:=by
 obtain⟨y,e1,e2⟩:=r.get h1
 rw[h2] at e1;cases e1;exact e2
noncomputable def ve (lo:Int) (n:Nat):List D:=(List.range n).map λ(k:Nat)=>D.int (lo+(k:Int))
def VX {lo:Int}{n i:Nat}{d:D}(h:(ve lo n)[i]?=some d):i<n/\d=.int (lo+(i:Int)):=by
 unfold ve at h
 rw[AA] at h
 cases q:(List.range n)[i]? with
 | none=>rw[q] at h;cases h
 | some j=>
  rw[q] at h
  obtain⟨h1,h2⟩:=AL.mp q
  rw[BR] at h1
  rw[Dv] at h2
  subst h2
  cases h
  exact⟨h1,rfl⟩
def VW (lo:Int) (n:Nat):(ve lo n).length=n:=by unfold ve;rw[Ay,BR]
def m_.range {H1:Hp}{lo:Int}{n:Nat}:m_ K H1 (mZ lo n) ⟨ve lo n,λ _=>True⟩:=λ i H S _ x2 _=>by
 refine⟨λ d hd=>?_,λ hl=>by rw[show (o5.mk (ve lo n) λ _=>True).items=ve lo n from rfl,VW] at hl;exact hl⟩
 obtain⟨h1,rfl⟩:=VX hd
 refine⟨h1,λ x H' q=>?_⟩
 obtain⟨rfl,rfl⟩:=q
 exact⟨.refl _,x2,by simp only[zg]⟩
def fk (t:yi):wj:=fun Y S R=>t Y S λ ds S1=>match ds with
 | [.int j]=>(-(2 ^ 62)<=j/\j<2 ^ 62)/\R ⟨ve 0 j.toNat,λ _=>True⟩ S1
 | _=>False
def fj (t:yi):wj:=fun Y S R=>t Y S λ ds S1=>match ds with
 | [.int i,.int j]=>(-(2 ^ 62)<=i/\i<2 ^ 62/\-(2 ^ 62)<=j/\j<2 ^ 62)/\R ⟨ve i (j-i).toNat,λ _=>True⟩ S1
 | _=>False
variable {tA:yi}
def T7 (h:PI X tg e (ZD (xQ X.K tA))) (hm:tX tA):uN X tg e (fk tA):=by
 refine⟨fun Y S Q Q' hq z=>hm Y S _ _ (λ ds S1 z=>?_) z,PI.imp h fun B H R hu=>?_⟩
 ·split at z
  ·exact⟨z.1,hq _ _ z.2⟩
  ·exact z.elim
 ·obtain⟨Y,S,r1,r2,z⟩:=hu
  refine xQ.go hm r1 r2 z λ ds S1 xs H1 h1 q1 e1 p1=>?_
  split at h1
  ·obtain⟨x,rfl,q⟩:=q1.one
   simp only[zg] at q
   subst q
   exact⟨_,rfl,h1.1.1,h1.1.2,h1.2 _ H1 e1 p1 .range⟩
  ·exact h1.elim
def T6 (h:PI X tg e (ZC (xQ X.K tA))) (hm:tX tA):uN X tg e (fj tA):=by
 refine⟨fun Y S Q Q' hq z=>hm Y S _ _ (λ ds S1 z=>?_) z,PI.imp h fun B H R hu=>?_⟩
 ·split at z
  ·exact⟨z.1,hq _ _ z.2⟩
  ·exact z.elim
 ·obtain⟨Y,S,r1,r2,z⟩:=hu
  refine xQ.go hm r1 r2 z λ ds S1 xs H1 h1 q1 e1 p1=>?_
  split at h1
  ·obtain⟨x,y,rfl,q,q'⟩:=q1.two
   simp only[zg] at q q'
   subst q q'
   exact⟨_,_,rfl,h1.1,h1.2 _ H1 e1 p1 .range⟩
  ·exact h1.elim
def mx (ti:wj) (g:xA) (tb:yI):yI:=λ E Y S=>ti Y S λ I S1=>∃ W:Nat->yj->SS->Prop,W 0 Y S1/\(∀ i Y S,W i Y S->I.keep S)/\
 (∀ i d Y S,I.items[i]?=some d->W i Y S->g d Y S fun Y2 S2=>tb { E with nx:=W (i+1),ct:=W (i+1),bk:=E.nx } Y2 S2)/\∀ Y S,W I.items.length Y S->E.nx Y S
def mx.mo {ti:wj}{g:xA}{tb:yI}(hi:jH ti) (hg:jI g) (hb:tW tb):tW (mx ti g tb):=λ E E' Y S hE z=>hi Y S _ _ (λ I S1 ⟨W,w0,wk,ws,wd⟩=>by
 refine⟨W,w0,wk,λ i d Y S hd hw=>hg d Y S _ _ (fun Y2 S2 z=>hb { E with nx:=W (i+1),ct:=W (i+1),bk:=E.nx } { E' with nx:=W (i+1),ct:=W (i+1),bk:=E'.nx } Y2 S2 ⟨λ _ _ q=>q,hE.rt,hE.nx,λ _ _ q=>q⟩ z) (ws i d Y S hd hw),fun Y S q=>hE.nx _ _ (wd Y S q)⟩) z
def xR {iter:Expr}{body:List Stmt}{ti:wj}{g:xA}{tb:yI}(hp:PassesOwn (model X.prog X.w) X.A X.env X.xe) (hc:X.calm=true) (hi:uN X tg iter ti) (hg:qd X tg g) (hb:uw X body tb)
  (hs:∀ x,foldedSetIterable iter X.env x=pure x:=by intro _;rfl):vL X (.For tg iter body [] pos) (mx ti g tb):=by
 refine⟨mx.mo hi.mo hg.mo hb.mo,PS.imp (Uw hp hc hi.pi hg.pg hb.ps hs) λ D B H hu=>?_⟩
 obtain⟨Y,S,r1,r2,z⟩:=hu
 refine⟨Y,S,r1,r2,hi.mo Y S _ _ (λ I S1 hW J H1 e1 p1 rep=>?_) z⟩
 obtain⟨W,w0,wk,ws,wd⟩:=hW
 refine⟨λ i m B H2=>m=I.items.length-i/\i<=I.items.length/\Ext H1 H2/\∃ Y S,yK X.K H2 Y B/\zJ X.K H2 S/\W i Y S,⟨_,rfl,AO _,.refl _,Y,S1,r1.ext e1,p1,w0⟩,?_⟩
 rintro i m B2 H2 ⟨rfl,GJ,x2,Y2,S2,q1,q2,w2⟩
 obtain⟨g1,g2⟩:=rep i H2 S2 x2 q2 (wk i Y2 S2 w2)
 by_cases hl:i<I.items.length
 ·have hd:I.items[i]?=some I.items[i]:=by simp[hl]
  obtain⟨go,yl⟩:=g1 _ hd
  refine .inr ⟨go,fun B' H'=>Ext H1 H'/\∃ Y S,yK X.K H' Y B'/\zJ X.K H' S/\W (i+1) Y S,fun B' H' q=>⟨_,by lia,rfl,hl,q⟩,λ x H3 hy=>?_⟩
  obtain⟨x3,p3,d3⟩:=yl x H3 hy
  refine⟨_,Y2,S2,d3,q1.ext x3,p3,hg.mo _ Y2 S2 _ _ (fun Y4 S4 z4 B4 H4 a1 a2 a3=>?_) (ws i _ Y2 S2 hd w2)⟩
  refine⟨Y4,S4,a1,a3,hb.mo _ _ Y4 S4 ⟨fun Y5 S5 w5 B5 H5 b1 b2 b3=>⟨((x2.trans x3).trans a2).trans b2,Y5,S5,b1,b3,w5⟩,λ _ _ q=>wA.ext (((e1.trans x2).trans x3).trans a2) q,λ _ _ q=>vi.ext (((e1.trans x2).trans x3).trans a2) q,fun Y5 S5 w5 B5 H5 b1 b2 b3=>⟨((x2.trans x3).trans a2).trans b2,Y5,S5,b1,b3,w5⟩⟩ z4⟩
 ·have e:i=I.items.length:=by lia
  subst e
  exact .inl ⟨g2 (Ah _),wd Y2 S2 w2 B2 H2 q1 (e1.trans x2) q2⟩
abbrev sY:=List D->SS->DK->Prop
def eR (sp:sY):Prop:=∀ ds S (Q Q':DK),(∀ d S',Q d S'->Q' d S')->sp ds S Q->sp ds S Q'
def sa (K:Ab) (sp:sY):Sp:=λ vs H Q _=>∃ ds S,zl K H ds vs/\zJ K H S/\sp ds S (wA K H Q)
def jy (sp:sY) (t:yi):zu:=fun Y S Q=>t Y S λ ds S1=>sp ds S1 Q
def T_ {sp:sY}{E:XK}{e:Expr}(h:PE X e (cG (sa X.K sp) [] E (xQ X.K tA))) (hs:eR sp) (hm:tX tA):PD X e (jy sp tA):=by
 refine⟨fun Y S Q Q' hq z=>hm Y S _ _ (λ ds S1 z=>hs ds S1 _ _ hq z) z,PE.imp h fun B H Q hu=>?_⟩
 obtain⟨Y,S,r1,r2,z⟩:=hu
 refine xQ.go hm r1 r2 z λ ds S1 xs H1 h1 q1 e1 p1=>?_
 rw[C5]
 exact⟨ds,S1,q1,p1,hs ds S1 _ _ (λ d S' q=>wA.ext e1 q) h1⟩
noncomputable def sf (N:List Str) (ds:List D):yj:=ds.map some++List.replicate (N.length-ds.length) none
def yK.init {H:Hp}{N:List Str}{ds:List D}{vs:List V}(r:zl K H ds vs):yK K H (sf N ds) (start N vs):=by
 have hl:=r.length
 refine⟨by unfold sf L2.start;simp[hl],λ i d h=>?_⟩
 unfold sf at h
 have hi:i<ds.length:=by
  rcases Bk i ds.length with q | q
  ·exact q
  ·rw[Ci (by simpa using q),Dz] at h
   split at h <;> cases h
 rw[Cg (by simpa using hi),AA] at h
 cases q:ds[i]? with
 | none=>rw[q] at h;cases h
 | some d'=>
  rw[q] at h
  cases h
  obtain⟨x,e1,e2⟩:=r.get q
  refine⟨x,?_,e2⟩
  unfold L2.start
  rw[Cg (by simpa using by lia),AA,e1]
  rfl
def O9 {P:Program}{w:World}{K:Ab}{mg:AG}{base:Heap}{x qual:Str}{st:Stmt}{f:Addr}{fd:FuncData}{N ps:List Str}{k:Nat}{sp:sY}(F:uO K x qual st f fd) (Sc:zU N ps (zB st))
  (len:∀ ds S Q,sp ds S Q->ds.length=ps.length)
  (FO:∀ (Ae:Value) (A:Around) (outer:List Env) (s:Shared) (H:Hp) (E:XK),yt k (A.deeper (envOfC qual (zB st) s.heap.objs.size f Ae))->
   ∃ t,uw (tP vq P w K mg base N qual (zB st) f Ae A outer s H E).rM (vj st) t/\∀ ds S Q,sp ds S Q->t { nx:=λ _ S'=>Q .zr S',rt:=Q } (sf N ds) S):ux P w K mg base vq (k+1) f fd ps (sa K sp):=by
 refine F.ok Sc (λ vs H Q E h=>?_) λ Ae A outer s H vs Q E hr h=>?_
 ·obtain⟨ds,S,r1,_,z⟩:=h
  rw[<- r1.length];exact len _ _ _ z
 ·obtain⟨ds,S,r1,r2,z⟩:=h
  obtain⟨t,ht,hq⟩:=FO Ae A outer s H E hr
  refine⟨_,ht.ps,sf N ds,S,.init r1,r2,ht.mo { nx:=λ _ S'=>wA K H Q .zr S',rt:=wA K H Q } _ _ _ ⟨fun Y S' q B' H' _ b c=>q .zr H' (by simp only[zg]) b c,λ _ _ q=>q,λ _ _ q=>False.elim q,λ _ _ q=>False.elim q⟩ (hq ds S _ z)⟩
noncomputable def v_ (pick:List (Option Nat)) (Y:yj):yj:=pick.map λ o=>o.bind λ i=>(Y[i]?).join
theorem yK.pick {H:Hp}{Y:yj}{B:St}(r:yK K H Y B) (pick:List (Option Nat)):yK K H (v_ pick Y) (vZ pick B):=by
 refine⟨by unfold v_ vZ;simp,λ i d h=>?_⟩
 unfold v_ at h
 rw[AA] at h
 cases q:pick[i]? with
 | none=>rw[q] at h;cases h
 | some o=>
  rw[q] at h
  cases o with
  | none=>simp at h
  | some j=>
   simp only[Option.map_some,Bm,Option.some.injEq] at h
   have hj:Y[j]?=some (some d):=by
    cases q2:Y[j]? with
    | none=>rw[q2] at h;cases h
    | some o2=>rw[q2] at h;simp only[Option.join_some] at h;rw[h]
   obtain⟨v,e1,e2⟩:=r.2 j d hj
   refine⟨v,?_,e2⟩
   unfold vZ
   rw[AA,q]
   simp[e1]
def qK (Y Y':yj):Prop:=Y.length=Y'.length/\∀ (i:Nat) d,Y[i]?=some (some d)->Y'[i]?=some (some d)
def qK.rep {H:Hp}{Y Y':yj}{B:St}(h:qK Y Y') (r:yK K H Y' B):yK K H Y B:=⟨h.1.trans r.1,λ i d q=>r.2 i d (h.2 i d q)⟩
structure jA (X:Cx) (ifs:List Expr) (t:y9):Prop where
 mo:wU t
 pf:PF X ifs (wx X.K t)
def PF.imp {ifs:List Expr}{t t':TT}(h:PF X ifs t) (hi:∀ B H Q,t' B H Q->t B H Q):PF X ifs t':=λ EH s B H Q I q=>h EH s B H Q I (hi B H Q q)
def Yc:y9:=λ _ S Q=>Q true S
def xS:jA X [] Yc:=⟨λ _ _ _ _ hq z=>hq _ _ z,PF.imp UN λ _ H _ ⟨_,_,_,r2,z⟩=>z H (.refl H) r2⟩
def nr {c:Expr}{t:y9}(h:xC X c t):jA X [c] t:=⟨h.mo,UM h.pt⟩
end
end L3
namespace L2
open PySem PySem.Spec PyProof.Rows
def Ob (K:Ab) (tl:TE):TI:=fun B H R=>tl B H λ x H1=>∃ a,x=.ref a/\(((∃ xs,zM K H1 a xs)/\R (Xe K a) H1)\/((∃ xs,zT K H1 a xs)/\R (Xd K a) H1))
def UB {X:Cx}{tg l:Expr}{tl:TE}(hl:PE X l tl):PI X tg l (Ob X.K tl):=by
 intro EH s B H R I h
 refine zE (hl EH s B H _ I h) λ v s1 ⟨x,H1,I1,r1,a,hx,q1⟩=>?_
 subst hx
 cases r1
 have new:∀ b∈[s1.heap.objs.size],vP X EH H1 b:=λ b hb=>by
  obtain rfl:b=s1.heap.objs.size:=AR.mp hb
  exact I1.ma (Ah _) (I1.zC.fresh (Ah _))
 rcases q1 with ⟨⟨xs,hq⟩,q⟩ | ⟨⟨xs,hq⟩,q⟩
 ·obtain⟨its,_,pl,_⟩:=I1.list hq
  exact KN pl.isList ⟨_,_,_,_,H1,rfl,I1.kept (t':=s1.toks) λ b o eo=>Kr _ eo,Wo a _,⟨_,AF _ rfl,rfl,rfl⟩,new,q⟩
 ·obtain⟨its,_,pt,_⟩:=I1.tuple hq
  exact wpAny_pyIter_tuple (show s1.heap.IsTuple a its.toArray from pt) ⟨_,_,_,_,H1,rfl,I1.kept (t':=s1.toks) λ b o eo=>Kr _ eo,Wl a _,⟨_,AF _ rfl,rfl,rfl⟩,new,q⟩
def range_all (bs:List Bool):(List.range bs.length).all (λ i=>bs.getD i true)=bs.all id:=by
 rw[Bn,BQ,BQ]
 constructor
 ·intro h b hb
  obtain⟨i,hi,rfl⟩:=BW.mp hb
  have:=h i (Az.mpr hi)
  simpa [hi] using this
 ·intro h i hi
  have GJ:=Az.mp hi
  have:=h bs[i] (Cu GJ)
  simpa [GJ] using this
def range_any (bs:List Bool):(List.range bs.length).any (λ i=>bs.getD i true)=bs.any id:=by
 rw[Bn,A6,A6]
 constructor
 ·rintro⟨i,hi,h⟩
  have GJ:=Az.mp hi
  exact⟨bs[i],Cu GJ,by simpa [GJ] using h⟩
 ·rintro⟨b,hb,h⟩
  obtain⟨i,hi,rfl⟩:=BW.mp hb
  exact⟨i,Az.mpr hi,by simpa [hi] using h⟩
def Y9 {bs:List Bool}{its:Af}(r:Vals (bs.map V.bl) its) {i:Nat}{v:Value}(h:its.toArray[i]?=some v):v=.bool (bs.getD i true):=by
 have hl:=r.length
 rw[Ay] at hl
 have h':its[i]?=some v:=by simpa using h
 have hi:i<bs.length:=by
  rw[hl]
  rcases Bk i its.length with q | q
  ·exact q
  ·rw[D1 q] at h';cases h'
 obtain⟨u,e1,e2⟩:=r.get (i:=i) (x:=.bl bs[i]) (by simp[hi])
 rw[h'] at e1;cases e1
 have:v=.bool bs[i]:=e2
 rw[this]
 simp[hi]
section
variable {X:Cx}
def NZ (hc:X.calm=true):yA X (.builtin "all") (λ xs H Q=>∃ p,∃ bs:List Bool,xs=[.ref p]/\zM X.K H p (bs.map V.bl)/\Q (.bl (bs.all id)) H):=by
 intro EH s B H xs us Q I r h
 obtain⟨p,bs,rfl,hq,q⟩:=h
 obtain⟨u,rfl,ru⟩:=vals1 r
 cases ru
 obtain⟨its,rv,pl,hz⟩:=I.list hq
 have hl:=rv.length
 rw[Ay] at hl
 have An:p<s.heap.objs.size:=by obtain⟨o,n,e,_⟩:=pl;exact Ap e
 refine call_all_walk (KN pl.isList ?_)
 refine⟨s.heap.objs.size,_,_,_,_,_,λ i=>bs.getD i true,rfl,Walks.list (A:=X.A.in1) (I.ok.hd hc) s.heap.objs.size p (Aw An) its.toArray,⟨⟨_,AF _ rfl,rfl,rfl⟩,pl.isList.push _⟩,λ i v s' Q' E' hv JY=>?_,λ h' tk hk=>?_⟩
 ·rw[Y9 rv hv]
  exact KG JY
 ·have e:(List.range its.toArray.size).all (λ i=>bs.getD i true)=bs.all id:=by rw[Ax,<- hl,range_all]
  rw[e]
  exact⟨.bl _,H,I.kept (t':=tk) λ b o eo=>hk b o (by simpa using Aw (Ap eo)) (Kr _ eo),rfl,q⟩
def NY (hc:X.calm=true):yA X (.builtin "any") (λ xs H Q=>∃ p,∃ bs:List Bool,xs=[.ref p]/\zM X.K H p (bs.map V.bl)/\Q (.bl (bs.any id)) H):=by
 intro EH s B H xs us Q I r h
 obtain⟨p,bs,rfl,hq,q⟩:=h
 obtain⟨u,rfl,ru⟩:=vals1 r
 cases ru
 obtain⟨its,rv,pl,hz⟩:=I.list hq
 have hl:=rv.length
 rw[Ay] at hl
 have An:p<s.heap.objs.size:=by obtain⟨o,n,e,_⟩:=pl;exact Ap e
 refine call_any_walk (KN pl.isList ?_)
 refine⟨s.heap.objs.size,_,_,_,_,_,λ i=>bs.getD i true,rfl,Walks.list (A:=X.A.in1) (I.ok.hd hc) s.heap.objs.size p (Aw An) its.toArray,⟨⟨_,AF _ rfl,rfl,rfl⟩,pl.isList.push _⟩,λ i v s' Q' E' hv JY=>?_,λ h' tk hk=>?_⟩
 ·rw[Y9 rv hv]
  exact KG JY
 ·have e:(List.range its.toArray.size).any (λ i=>bs.getD i true)=bs.any id:=by rw[Ax,<- hl,range_any]
  rw[e]
  exact⟨.bl _,H,I.kept (t':=tk) λ b o eo=>hk b o (by simpa using Aw (Ap eo)) (Kr _ eo),rfl,q⟩
end
end L2
namespace L3
open PySem PySem.Spec L2
open PyProof.Rows hiding St
structure Bt (mg:AG):Prop where
 len:mg "len"=none
 range:mg "range"=none
 any:mg "any"=none
 all:mg "all"=none
 sorted:mg "sorted"=none
 isinstance:mg "isinstance"=none
 bool:mg "bool"=none
 int:mg "int"=none
 str:mg "str"=none
 list:mg "list"=none
 tuple:mg "tuple"=none
 max:mg "max"=none
 min:mg "min"=none
section
variable {X:Cx}{a e:Expr}{es:List Expr}{te:zu}{pos p:Pos}
def xk {N':List Str}{pick:List (Option Nat)}{scope esc:Scope}{N:List Str}(hE:X.env.scope=esc:=by rfl) (hN:X.N=N:=by rfl) (h1:scope.kind=.function:=by rfl) (h2:scope.names.all (λ y=>decide (y.2≠.cell))=true:=by decide +kernel)
  (h3:scope.names.all (λ y=>!decide (y.2=.local)||decide (scope.names.lookup y.1=some .local))=true:=by decide +kernel)
  (h4:scope.names.all (λ y=>!decide (y.2=.free)||(decide (esc.names.lookup y.1=some .cell)||decide (esc.names.lookup y.1=some .free)))=true:=by decide +kernel)
  (h5:pick.length=N'.length:=by rfl) (h6:px N N' pick scope=true:=by decide +kernel):qV X N' pick scope:=by
 refine⟨h1,λ y hy=>?_,λ y hy hl=>?_,λ y hy hf=>?_,h5,by rw[hN];exact h6⟩
 ·exact of_decide_eq_true (BQ.mp h2 y hy)
 ·have:=BQ.mp h3 y hy
  rw[KA hl] at this
  simpa using this
 ·have:=BQ.mp h4 y hy
  rw[KA hf] at this
  rw[hE]
  simpa using this
def zY (i:Nat) {x:Str}(hN:X.N.Nodup) (hi:X.N[i]?=some x:=by rfl) (hx:Loc X.env.scope x:=by first | exact Or.inl rfl | exact Or.inr rfl) (hf:X.fn x=true\/X.env.scope.names.lookup x=some .local:=by first | exact .inl rfl | exact .inr rfl):qd X (.Name x pos) (hName i):=
 TB (UL hN hi hx hf)
def nq {k:Nat}{t:wQ}{n:Nat}(h:j9 X es t) (hc:X.calm=true:=by rfl) (hn:(assignEach es X.env).length=n:=by rfl) (AV:(assignEach es X.env).findIdx? (·.1)=none:=by rfl):qd X (.Tuple es k pos) (je n t):=
 T9 (UJ hc h.pg hn AV) h.mo
def zZ (i:Nat) {x:Str}{pos':Pos}(hN:X.N.Nodup) (he:PD X e te) (hi:X.N[i]?=some x:=by rfl) (hx:Loc X.env.scope x:=by first | exact Or.inl rfl | exact Or.inr rfl) (hs:swapsWith e (some (.Name x pos')) pos.line X.env=pure false:=by rfl)
  (hf:X.fn x=true\/X.env.scope.names.lookup x=some .local:=by first | exact .inl rfl | exact .inr rfl):vL X (.Assign [.Name x pos'] e pos) (tN te (hName i)):=
 Tw (Ut hN hi hx he.pe hs hf) he.mo
def fh (te:zu):wj:=fun Y S R=>te Y S λ x S1=>match x with
 | .tup ds=>R ⟨ds,λ _=>True⟩ S1
 | .xE ds=>R ⟨ds,λ _=>True⟩ S1
 | .ref p=>match S1 p with
  | some (.lst ds)=>R ⟨ds,λ S=>S p=some (.lst ds)⟩ S1
  | _=>False
 | _=>False
def yT {tg:Expr}(h:PD X e te):uN X tg e (fh te):=by
 refine⟨fun Y S Q Q' hq z=>h.mo Y S _ _ (λ x S1 z=>?_) z,?_⟩
 ·cases x with
  | ref p=>
   dsimp only at z ⊢
   split at z
   ·exact hq _ _ z
   ·exact z.elim
  | xE ds=>exact hq _ _ z
  | tup ds=>exact hq _ _ z
  | _=>exact z
 ·refine PI.imp (UB h.pe) fun B H R hu=>?_
  obtain⟨Y,S,r1,r2,z⟩:=hu
  refine zO.go h.mo r1 r2 z λ x S1 v H1 h1 q1 e1 p1=>?_
  cases x with
  | tup ds=>
   simp only[zg] at q1
   obtain⟨a,xs,rfl,g1,g2⟩:=q1
   refine⟨a,rfl,.inr ⟨⟨xs,g1⟩,h1 _ H1 e1 p1 λ i H2 S2 x1 x2 _=>⟨λ d hd=>?_,λ hl=>⟨xs,x1.lR g1,by rw[<- g2.length];exact hl⟩⟩⟩⟩
   obtain⟨y,hy,_⟩:=g2.get hd
   refine⟨⟨xs,y,x1.lR g1,hy⟩,λ x H' q=>?_⟩
   obtain⟨rfl,q⟩:=q
   exact⟨.refl _,x2,(zl.ext x1 ds g2).at hd (q xs (x1.lR g1))⟩
  | ref p=>
   dsimp only at h1
   split at h1
   ·rename_i ds e2
    simp only[zg] at q1
    subst q1
    obtain⟨xs0,g1,_⟩:=p1 _ _ e2
    refine⟨p,rfl,.inl ⟨⟨xs0,zM.of g1⟩,h1 _ H1 e1 p1 λ i H2 S2 x1 x2 hk=>?_⟩⟩
    obtain⟨xs,g3,g4⟩:=x2 _ _ hk
    refine⟨λ d hd=>?_,λ hl=>⟨xs,zM.of g3,by rw[<- g4.length];exact hl⟩⟩
    obtain⟨y,hy,_⟩:=g4.get hd
    refine⟨⟨xs,y,zM.of g3,hy⟩,λ x H' q=>?_⟩
    obtain⟨rfl,q⟩:=q
    exact⟨.refl _,x2,g4.at hd (q xs (zM.of g3))⟩
   ·exact h1.elim
  | xE ds=>
   simp only[zg] at q1
   obtain⟨a,xs,rfl,g1,g2⟩:=q1
   refine⟨a,rfl,.inl ⟨⟨xs,g1.sq⟩,h1 _ H1 e1 p1 λ i H2 S2 x1 x2 _=>⟨λ d hd=>?_,λ hl=>⟨xs,(x1.lS g1).sq,by rw[<- g2.length];exact hl⟩⟩⟩⟩
   obtain⟨y,hy,_⟩:=g2.get hd
   refine⟨⟨xs,y,(x1.lS g1).sq,hy⟩,λ x H' q=>?_⟩
   obtain⟨rfl,q⟩:=q
   exact⟨.refl _,x2,(zl.ext x1 ds g2).at hd (q xs (x1.lS g1).sq)⟩
  | _=>exact h1.elim
end
end L3
namespace L4
open PySem PySem.W PyProof.Rows
noncomputable def yx {α:Type}(n:Nat) (lt:Nat->Nat->Bool):KasT α->(α->Prop)->Prop
 | .ret a,Q=>Q a
 | .ask i j k,Q=>i<n/\j<n/\yx n lt (k (lt i j)) Q
theorem yx.mono {α:Type}{n:Nat}{lt:Nat->Nat->Bool}{Q Q':α->Prop}(hq:∀ a,Q a->Q' a):∀ {t:KasT α},yx n lt t Q->yx n lt t Q'
 | .ret _,h=>hq _ h
 | .ask _ _ _,h=>⟨h.1,h.2.1,yx.mono hq h.2.2⟩
theorem yx.bind {α β:Type}{n:Nat}{lt:Nat->Nat->Bool}{f:α->KasT β}{Q:β->Prop}:∀ {t:KasT α},yx n lt t (λ a=>yx n lt (f a) Q)->yx n lt (t.bind f) Q
 | .ret _,h=>h
 | .ask _ _ _,h=>⟨h.1,h.2.1,yx.bind h.2.2⟩
section
variable {n:Nat}{lt:Nat->Nat->Bool}
def Le (lt:Nat->Nat->Bool) (a b:Nat):Prop:=lt b a=false
structure Ord (lt:Nat->Nat->Bool):Prop where
 tr:∀ a b c,Le lt a b->Le lt b c->Le lt a c
 as:∀ a b,lt a b=true->Le lt a b
def Ord.refl (o:Ord lt) (a:Nat):Le lt a a:=by
 cases h:lt a a with
 | false=>exact h
 | true=>exact o.as a a h
def xq (n:Nat) (p:Array Nat):Prop:=p.Perm (List.range n).toArray
theorem xq.size {p:Array Nat}(h:xq n p):p.size=n:=by rw[Array.Perm.size_eq h];simp
def xq.below {p:Array Nat}(h:xq n p) {i:Nat}(hi:i<n):p.getD i 0<n:=by
 have hs:=h.size
 have hm:p.getD i 0∈p:=by
  rw[Du,Bf (by lia)]
  exact Array.getElem_mem (by lia)
 have:p.getD i 0∈(List.range n).toArray:=(Array.Perm.mem_iff h).mp hm
 simpa using this
def nZ {p q:Array Nat}{i j:Nat}(h:p[i]?=q[j]?):p.getD i 0=q.getD j 0:=by rw[Du,Du,h]
def vo (lt:Nat->Nat->Bool) (p:Array Nat) (k:Nat):Prop:=∀ i j,i<=j->j<k->Le lt (p.getD i 0) (p.getD j 0)
def tZ (lt:Nat->Nat->Bool) (p:Array Nat) (k:Nat):Prop:=∀ i j,i<=j->j<k->Le lt (p.getD j 0) (p.getD i 0)
def vo.next (o:Ord lt) {p:Array Nat}{k:Nat}(h:vo lt p k) (hk:1<=k) (hl:Le lt (p.getD (k-1) 0) (p.getD k 0)):vo lt p (k+1):=λ i j A4 hj=>by
 by_cases Ew:j<k
 ·exact h i j A4 Ew
 ·have e:j=k:=by lia
  subst e
  by_cases hi:i=j
  ·subst hi;exact o.refl _
  ·exact o.tr _ _ _ (h i (j-1) (by lia) (by lia)) hl
def tZ.next (o:Ord lt) {p:Array Nat}{k:Nat}(h:tZ lt p k) (hk:1<=k) (hl:Le lt (p.getD k 0) (p.getD (k-1) 0)):tZ lt p (k+1):=λ i j A4 hj=>by
 by_cases Ew:j<k
 ·exact h i j A4 Ew
 ·have e:j=k:=by lia
  subst e
  by_cases hi:i=j
  ·subst hi;exact o.refl _
  ·exact o.tr _ _ _ hl (h i (j-1) (by lia) (by lia))
theorem eE (o:Ord lt) {p:Array Nat}(hp:xq n p):∀ (f a:Nat),1<=a->a+f<=n->vo lt p a->
  yx n lt (kas_asc p f a) λ m=>a<=m/\m<=a+f/\vo lt p m/\(m=a+f\/lt (p.getD m 0) (p.getD (m-1) 0)=true)
 | 0,a,_,_,hs=>⟨Ah _,Ah _,hs,.inl rfl⟩
 | f+1,a,h1,h2,hs=>by
  refine⟨hp.below (by lia),hp.below (by lia),?_⟩
  cases c:lt (p.getD a 0) (p.getD (a-1) 0) with
  | true=>exact⟨Ah _,by lia,hs,.inr c⟩
  | false=>
   refine yx.mono ?_ (eE o hp f (a+1) (by lia) (by lia) (hs.next o h1 c))
   rintro m ⟨g1,g2,g3,g4⟩
   exact⟨by lia,by lia,g3,g4.imp (λ e=>by lia) id⟩
def oX {p:Array Nat}(hp:xq n p) (i j:Nat):xq n (kas_rev p i j):=Array.Perm.trans (mirror_perm _ _ _ _) hp
def oY {p:Array Nat}(hp:xq n p) {i j:Nat}(hj:j<=n) (k:Nat):(kas_rev p i j).getD k 0=if i<=k/\k<j then p.getD (i+j-1-k) 0 else p.getD k 0:=by
 have e:=getElem?_mirror_all (xs:=p) (i:=i) (j:=j) (by rw[hp.size];exact hj) k
 split
 ·rename_i h;rw[if_pos h] at e;exact nZ e
 ·rename_i h;rw[if_neg h] at e;exact nZ e
def rev_eq (o:Ord lt) {p:Array Nat}(hp:xq n p) {i j:Nat}(hj:j<=n) (he:∀ a b,i<=a->a<j->i<=b->b<j->Le lt (p.getD a 0) (p.getD b 0)) (k:Nat):
  Le lt ((kas_rev p i j).getD k 0) (p.getD k 0)/\Le lt (p.getD k 0) ((kas_rev p i j).getD k 0):=by
 rw[oY hp hj]
 split
 ·rename_i h;exact⟨he _ _ (by lia) (by lia) h.1 h.2,he _ _ h.1 h.2 (by lia) (by lia)⟩
 ·exact⟨o.refl _,o.refl _⟩
def tZ.of_eq (o:Ord lt) {p q:Array Nat}{k:Nat}(h:tZ lt p k) (e:∀ k,Le lt (q.getD k 0) (p.getD k 0)/\Le lt (p.getD k 0) (q.getD k 0)):tZ lt q k:=λ i j A4 hj=>
 o.tr _ _ _ (e j).1 (o.tr _ _ _ (h i j A4 hj) (e i).2)
def di (lt:Nat->Nat->Bool) (p:Array Nat) (m q:Nat):Prop:=∀ a b,m-(q+1)<=a->a<m->m-(q+1)<=b->b<m->Le lt (p.getD a 0) (p.getD b 0)
theorem jr (o:Ord lt):∀ (f:Nat) (p:Array Nat) (m q:Nat),xq n p->1<=m->m+f<=n->tZ lt p m->q+1<=m->di lt p m q->
  yx n lt (kas_desc f p m q) λ r=>xq n r.1/\m<=r.2.1/\r.2.1<=m+f/\tZ lt r.1 r.2.1/\r.2.2+1<=r.2.1/\di lt r.1 r.2.1 r.2.2
 | 0,p,m,q,hp,_,_,hd,hq,hb=>⟨hp,Ah _,Ah _,hd,hq,hb⟩
 | f+1,p,m,q,hp,h1,h2,hd,hq,hb=>by
  have one:∀ p':Array Nat,di lt p' (m+1) 0:=λ p' a b a1 a2 b1 b2=>by
   have:a=b:=by lia
   subst this;exact o.refl _
  refine⟨hp.below (by lia),hp.below (by lia),?_⟩
  cases c:lt (p.getD m 0) (p.getD (m-1) 0) with
  | true=>
   dsimp only
   rw[if_pos rfl]
   have hl:=o.as _ _ c
   by_cases h0:q>0
   ·rw[if_pos h0]
    have e:=rev_eq o hp (i:=m-(q+1)) (j:=m) (by lia) hb
    have G0:=oX hp (m-(q+1)) m
    refine yx.mono ?_ (jr o f _ (m+1) 0 G0 (by lia) (by lia) ((hd.of_eq o e).next o h1 (o.tr _ _ _ (e m).1 (o.tr _ _ _ hl (e (m-1)).2))) (by lia) (one _))
    rintro r ⟨a1,a2,a3,a4⟩
    exact⟨a1,by lia,by lia,a4⟩
   ·rw[if_neg h0]
    refine yx.mono ?_ (jr o f _ (m+1) 0 hp (by lia) (by lia) (hd.next o h1 hl) (by lia) (one _))
    rintro r ⟨a1,a2,a3,a4⟩
    exact⟨a1,by lia,by lia,a4⟩
  | false=>
   dsimp only
   rw[if_neg BD]
   refine⟨hp.below (by lia),hp.below (by lia),?_⟩
   cases d:lt (p.getD (m-1) 0) (p.getD m 0) with
   | true=>exact⟨hp,Ah _,(by show m<=m+(f+1);lia),hd,hq,hb⟩
   | false=>
    dsimp only
    rw[if_neg BD]
    refine yx.mono ?_ (jr o f _ (m+1) (q+1) hp (by lia) (by lia) (hd.next o h1 d) (by lia) λ a b a1 a2 b1 b2=>?_)
    ·rintro r ⟨a1,a2,a3,a4⟩
     exact⟨a1,by lia,by lia,a4⟩
    ·by_cases ha:a=m
     ·by_cases HI:b=m
      ·subst ha;subst HI;exact o.refl _
      ·subst ha;exact o.tr _ _ _ d (hb (a-1) b (by lia) (by lia) (by lia) (by lia))
     ·by_cases HI:b=m
      ·subst HI;exact o.tr _ _ _ (hb a (b-1) (by lia) (by lia) (by lia) (by lia)) c
      ·exact hb a b (by lia) (by lia) (by lia) (by lia)
def cE (o:Ord lt) {p:Array Nat}{m:Nat}(hp:xq n p) (h1:1<=m) (h2:m<=n) (hd:tZ lt p m):yx n lt (kas_tail3 m n p) λ r=>xq n r.2/\r.1<=n/\vo lt r.2 r.1:=by
 refine yx.bind (yx.mono ?_ (eE o (oX hp 0 m) (n-m) m h1 (by lia) λ i j A4 hj=>?_))
 ·rintro k ⟨a1,a2,a3,_⟩
  exact⟨oX hp 0 m,by lia,a3⟩
 ·rw[oY hp h2,oY hp h2,if_pos ⟨AO _,by lia⟩,if_pos ⟨AO _,hj⟩]
  exact hd _ _ (by lia) (by lia)
def Yi (o:Ord lt) {p:Array Nat}{m:Nat}(hp:xq n p) (h1:1<=m) (h2:m<n) (hd:tZ lt p m) (hl:lt (p.getD m 0) (p.getD (m-1) 0)=true):yx n lt (kas_descPart m n p) λ r=>xq n r.2/\r.1<=n/\vo lt r.2 r.1:=by
 refine yx.bind (yx.mono ?_ (jr o (n-(m+1)) p (m+1) 0 hp (by lia) (by lia) (hd.next o h1 (o.as _ _ hl)) (by lia) λ a b a1 a2 b1 b2=>?_))
 ·rintro⟨p',m',q'⟩ ⟨a1,a2,a3,a4,a5,a6⟩
  dsimp only at a1 a2 a3 a4 a5 a6 ⊢
  by_cases h0:q'>0
  ·rw[if_pos h0]
   exact cE o (oX a1 _ _) (by lia) (by lia) (a4.of_eq o (rev_eq o a1 (i:=m'-(q' + 1)) (j:=m') (by lia) a6))
  ·rw[if_neg h0]
   exact cE o a1 (by lia) (by lia) a4
 ·have:a=b:=by lia
  subst this;exact o.refl _
def N2 (o:Ord lt) {p:Array Nat}(hp:xq n p) (h1:1<=n):yx n lt (kas_count n p) λ r=>xq n r.2/\r.1<=n/\vo lt r.2 r.1:=by
 refine yx.bind (yx.mono ?_ (eE o hp (n-1) 1 (Ah _) (by lia) λ i j A4 hj=>?_))
 ·rintro m ⟨a1,a2,a3,a4⟩
  by_cases hm:m=n
  ·rw[if_pos (by simp[hm])]
   exact⟨hp,by lia,a3⟩
  ·rw[if_neg (by simp[hm])]
   have hl:lt (p.getD m 0) (p.getD (m-1) 0)=true:=a4.resolve_left (by lia)
   by_cases h2:m>1
   ·rw[if_pos h2]
    refine⟨hp.below (by lia),hp.below (by lia),?_⟩
    cases c:lt (p.getD 0 0) (p.getD (m-1) 0) with
    | true=>exact⟨hp,by lia,a3⟩
    | false=>
     dsimp only
     rw[if_neg BD]
     have all:∀ a b,0<=a->a<m->0<=b->b<m->Le lt (p.getD a 0) (p.getD b 0):=λ a b _ ha _ hb=>
      o.tr _ _ _ (a3 a (m-1) (by lia) (by lia)) (o.tr _ _ _ c (a3 0 b (by lia) hb))
     have e:=rev_eq o hp (i:=0) (j:=m) (by lia) all
     refine Yi o (oX hp 0 m) (by lia) (by lia) (λ i j A4 hj=>o.tr _ _ _ (e j).1 (o.tr _ _ _ (all _ _ (AO _) hj (AO _) (by lia)) (e i).2)) ?_
     rw[oY hp (by lia),oY hp (by lia),if_neg (by lia),if_pos (by lia)]
     cases q:lt (p.getD m 0) (p.getD (0+m-1-(m-1)) 0) with
     | true=>rfl
     | false=>
      have:=o.tr _ _ _ (all (m-1) (0+m-1-(m-1)) (AO _) (by lia) (AO _) (by lia)) q
      unfold Le at this
      rw[this] at hl;cases hl
   ·rw[if_neg h2]
    have e:m=1:=by lia
    subst e
    refine Yi o hp (Ah _) (by lia) (λ i j A4 hj=>?_) hl
    have:i=j:=by lia
    subst this;exact o.refl _
 ·have:i=j:=by lia
  subst this;exact o.refl _
theorem gp {p:Array Nat}{k:Nat}(hp:xq n p) (hk:k<n) (hs:vo lt p k) (o:Ord lt):∀ (f l r:Nat),r-l<=f->l<=r->r<=k->(∀ i,i<l->Le lt (p.getD i 0) (p.getD k 0))->(∀ i,r<=i->i<k->lt (p.getD k 0) (p.getD i 0)=true)->
  yx n lt (kas_place p k f l r) λ m=>m<=k/\(∀ i,i<m->Le lt (p.getD i 0) (p.getD k 0))/\(∀ i,m<=i->i<k->lt (p.getD k 0) (p.getD i 0)=true)
 | 0,l,r,h0,h1,h2,ha,hb=>by
  have:l=r:=by lia
  subst this
  exact⟨h2,ha,hb⟩
 | f+1,l,r,h0,h1,h2,ha,hb=>by
  unfold kas_place
  by_cases BU:l≥r
  ·rw[if_pos BU]
   have:l=r:=by lia
   subst this
   exact⟨h2,ha,hb⟩
  ·rw[if_neg BU]
   refine⟨hp.below hk,hp.below (by lia),?_⟩
   cases c:lt (p.getD k 0) (p.getD ((l+r)/2) 0) with
   | true=>
    dsimp only
    rw[if_pos rfl]
    refine gp hp hk hs o f l ((l+r)/2) (by lia) (by lia) (by lia) ha λ i hi DH=>?_
    cases q:lt (p.getD k 0) (p.getD i 0) with
    | true=>rfl
    | false=>
     have:=o.tr _ _ _ (hs ((l+r)/2) i hi DH) q
     unfold Le at this
     rw[this] at c;cases c
   | false=>
    dsimp only
    rw[if_neg BD]
    refine gp hp hk hs o f ((l+r)/2+1) r (by lia) (by lia) h2 (λ i hi=>?_) hb
    exact o.tr _ _ _ (hs i ((l+r)/2) (by lia) (by lia)) c
theorem YJ (o:Ord lt):∀ (f:Nat) (p:Array Nat) (k:Nat),xq n p->k+f=n->vo lt p k->yx n lt (kas_bin f p k) λ r=>xq n r/\vo lt r n
 | 0,p,k,hp,h1,hs=>by
  have:k=n:=by lia
  subst this
  exact⟨hp,hs⟩
 | f+1,p,k,hp,h1,hs=>by
  refine yx.bind (yx.mono ?_ (gp hp (by lia) hs o k 0 k (by lia) (AO _) (Ah _) (λ i hi=>absurd hi (Nat.not_lt_zero _)) λ i hi DH=>absurd DH (by lia)))
  rintro l ⟨a1,a2,a3⟩
  refine YJ o f _ (k+1) (Array.Perm.trans (bubble_perm _ _ _) hp) (by lia) λ i j A4 hj=>?_
  have ev:∀ x,(bubble p k (k-l)).getD x 0=if x=l then p.getD k 0 else if l<x/\x<=k then p.getD (x-1) 0 else p.getD x 0:=λ x=>by
   have e:=getElem?_bubble (xs:=p) (src:=k) (by rw[hp.size];lia) (k-l) (by lia) x
   rw[show k-(k-l)=l by lia] at e
   split
   ·rename_i h;rw[if_pos h] at e;exact nZ e
   ·rename_i h
    rw[if_neg h] at e
    split
    ·rename_i h';rw[if_pos h'] at e;exact nZ e
    ·rename_i h';rw[if_neg h'] at e;exact nZ e
  rw[ev i,ev j]
  by_cases hi:i=l
  ·rw[if_pos hi]
   by_cases GX:j=l
   ·rw[if_pos GX];exact o.refl _
   ·rw[if_neg GX,if_pos ⟨by lia,by lia⟩]
    exact o.as _ _ (a3 (j-1) (by lia) (by lia))
  ·rw[if_neg hi]
   by_cases GX:j=l
   ·rw[if_pos GX,if_neg (by lia)]
    exact a2 i (by lia)
   ·rw[if_neg GX]
    by_cases hi2:l<i/\i<=k
    ·rw[if_pos hi2,if_pos ⟨by lia,by lia⟩]
     exact hs _ _ (by lia) (by lia)
    ·rw[if_neg hi2]
     by_cases hj2:l<j/\j<=k
     ·rw[if_pos hj2]
      exact hs _ _ (by lia) (by lia)
     ·rw[if_neg hj2]
      exact hs _ _ A4 (by lia)
def WX (o:Ord lt) (h1:1<=n):yx n lt (kas_sort n) λ r=>xq n r/\vo lt r n:=by
 have hp:xq n (List.range n).toArray:=Array.Perm.refl _
 refine yx.bind (yx.mono ?_ (N2 o hp h1))
 rintro⟨m,p⟩ ⟨a1,a2,a3⟩
 dsimp only at a1 a2 a3 ⊢
 by_cases hm:m<n
 ·rw[if_pos hm]
  refine YJ o _ p (max m 1) a1 (by lia) ?_
  by_cases h0:m=0
  ·subst h0
   intro i j A4 hj
   have:i=j:=by lia
   subst this;exact o.refl _
  ·rw[show max m 1=m by lia];exact a3
 ·rw[if_neg hm]
  have:m=n:=by lia
  subst this
  exact⟨a1,a3⟩
end
end L4
namespace L4
open PySem PySem.W PySem.Calls PyProof.Rows
section
variable {prog:Program}{w:World}{A:Around}{E:Ad}{s:Shared}
def Core (prog:Program) (w:World) (A:Around) (E:Ad) (vs:Af) (Out:Array Value->Prop) (s6:Shared):Prop:=
 wpAny (model prog w) A (keyKind' vs.toArray) (fun κ s'=>s'=s6/\wpAny (model prog w) A ((sortRuns').run (SortSt.mk' κ (vs.toArray.zip vs.toArray) #[] 7 none))
  (λ r Hn=>Hn=s6/\failedOf r.2=none/\Out ((arrOf r.2).map (·.2))/\(arrOf r.2).size=vs.length) E s') E s6
def gW {a:Addr}{vs:Af}{n:Nat}{P:PySem.Fin->Shared->Prop}{Out:Array Value->Prop}(ho:s.heap.get? a=some (seqObj "list" vs.toArray n)) (hz:vs.length<=sizeLine)
  (core:2<=vs.length->∀ s6:Shared,(∀ b o,b≠a->s.heap.get? b=some o->s6.heap.get? b=some o)->Core prog w A E vs Out s6) (short:vs.length<2->Out vs.toArray)
  (fin:∀ out:Array Value,Out out->out.size=vs.length->P (.done (.ret .none)) { s with heap:=sortedHeap s.heap a vs out }):
  wpAny (model prog w) A (Builtin.«list.sort» ⟨[.ref a],[]⟩) P E s:=by
 have ha:a<s.heap.objs.size:=Ap ho
 obtain⟨e1,g1⟩:∃ e1,(s.heap.update a (Obj.mapSeq λ _=>#[])).get? a=some (seqObj "list" #[] e1):=⟨_,get?_update_seq ho (λ _=>#[])⟩
 have Jt:vs.toArray.size<=sizeLine:=by rw[Ax];exact hz
 have g6:(((s.heap.update a (Obj.mapSeq λ _=>#[])).push (seqObj "tuple" vs.toArray 0)).push (seqObj "list" #[] 0)).get? a=some (seqObj "list" #[] e1):=Kr _ (Kr _ g1)
 have keep:∀ b o,b≠a->s.heap.get? b=some o->(((s.heap.update a (Obj.mapSeq λ _=>#[])).push (seqObj "tuple" vs.toArray 0)).push (seqObj "list" #[] 0)).get? b=some o:=
  λ b o hb e=>Kr _ (Kr _ (by rw[Heap.get?_update_ne _ _ _ _ hb];exact e))
 rw[list_sort_plain]
 refine JC (listItems_at ho rfl (JC (listUpdate_at ho rfl (JC (seqEpoch_at g1 rfl (JC (wpAny_newTuple (JC (wpAny_newList (Kt ?_))) (by simpa using hz))))) Jt (AO _))))
 by_cases h2:vs.toArray.size<2
 ·rw[if_pos h2,if_pos h2]
  have e2:(arrOf (SortSt.mk' general' (vs.toArray.zip vs.toArray) #[] 7 none)).map (·.2)=vs.toArray:=by
   show (vs.toArray.zip vs.toArray).map (·.2)=vs.toArray
   apply Array.ext (by simp)
   intro i h1 h2
   simp
  refine JC (Ac ?_)
  dsimp only
  rw[StateT.run_pure]
  refine JC (Ac ?_)
  dsimp only
  refine JC (seqEpoch_at g6 rfl (JC (listUpdate_at g6 rfl ?_ (AO _) ?_)))
  ·simp only[bne_self_eq_false,A9,if_false]
   have q:=fin _ (e2▸short (by simpa using h2)) (by rw[e2];simp)
   exact Ac q
  ·show (((arrOf (SortSt.mk' general' (vs.toArray.zip vs.toArray) #[] 7 none)).map (·.2))).size<=sizeLine+1
   rw[e2];lia
 ·rw[if_neg h2,if_neg h2]
  have Ke:2<=vs.length:=by simpa using h2
  refine JC (Kx (core Ke _ keep) (fun κ s7 ⟨hs,h7⟩=>?_) λ _ _ z=>z)
  subst hs
  refine JC (Kx h7 (λ r s8 ⟨hs,hf,B9,hsz⟩=>?_) λ _ _ z=>z)
  subst hs
  obtain⟨⟨⟩,st⟩:=r
  refine JC (seqEpoch_at g6 rfl (JC (listUpdate_at g6 rfl ?_ (AO _) ?_)))
  ·have G3:failedOf st=none:=hf
   rw[G3]
   simp only[bne_self_eq_false,A9,if_false]
   exact Ac (fin _ B9 (by rw[C1];exact hsz))
  ·show ((arrOf st).map (·.2)).size<=sizeLine+1
   rw[C1]
   have:(arrOf st).size=vs.length:=hsz
   lia
def WW {l:Addr}{vs:Af}{Q:Ad}{Out:Array Value->Prop}(hl:s.heap.IsList l vs.toArray) (hz:vs.length<=sizeLine)
  (core:2<=vs.length->∀ s6:Shared,(∀ b o,s.heap.get? b=some o->s6.heap.get? b=some o)->Core prog w A.in1.in1 E vs Out s6) (short:vs.length<2->Out vs.toArray)
  (fin:∀ out:Array Value,Out out->out.size=vs.length->Q (.ref (s.heap.objs.size+1)) { s with heap:=sortedAll s.heap vs out }):
  wpAny (model prog w) A (call (.builtin "sorted") [.ref l]) Q E s:=by
 have hsz:((s.heap.push (seqObj "list" #[] 0)).update s.heap.objs.size (Obj.mapSeq (·++vs.toArray))).objs.size=s.heap.objs.size+1:=by
  rw[Heap.size_update,size_push']
 have HA:(((s.heap.push (seqObj "list" #[] 0)).update s.heap.objs.size (Obj.mapSeq (·++vs.toArray))).push (seqObj "list" vs.toArray 0)).get? (s.heap.objs.size+1)=some (seqObj "list" vs.toArray 0):=hsz▸AF _ rfl
 have keep:∀ b o,s.heap.get? b=some o->(((s.heap.push (seqObj "list" #[] 0)).update s.heap.objs.size (Obj.mapSeq (·++vs.toArray))).push (seqObj "list" vs.toArray 0)).get? b=some o:=λ b o q=>
  Kr _ (by rw[Heap.get?_update_ne _ _ _ _ (Aw (Ap q))];exact Kr _ q)
 refine Calls.call_function_entry kind_sorted plain_sorted entry_sorted (args_sorted1 _) ?_
 unfold Builtin.«sorted»
 refine JC (m:=checkCount "sorted" 1 1 _) (Ac (JC (collect_list hl (JC (wpAny_newList ?_ hz)) hz)))
 show wpAny _ _ _ _ _ { s with heap:=((s.heap.push (seqObj "list" #[] 0)).update s.heap.objs.size (Obj.mapSeq (·++vs.toArray))).push (seqObj "list" vs.toArray 0) }
 rw[hsz]
 refine JC (Kt (Kw slot_list_sort ⟨_,HA,rfl⟩ entry_list_sort (gW HA hz (λ h2 s6 k=>core h2 s6 λ b o q=>k b o ?_ (keep b o q)) short λ out h1 h2=>⟨_,rfl,?_⟩) (args_list_sort _)))
 ·exact Aw (Bv (Ap q))
 ·exact Ac ⟨_,rfl,fin out h1 h2⟩
end
end L4
namespace L4
open PySem PySem.W PySem.Calls PyProof.Rows L2
theorem gZ:∀ a b:List Int,HT.lexLt a b=true->HT.lexLt b a=false
 | [],[],h=>by cases h
 | [],_::_,_=>rfl
 | _::_,[],h=>by cases h
 | x::a,y::b,h=>by
  rw[HT.tF] at h ⊢
  by_cases e:x=y
  ·subst e;rw[if_pos rfl] at h ⊢;exact gZ a b h
  ·rw[if_neg e] at h;rw[if_neg (Ne.symm e)]
   have:=of_decide_eq_true h
   exact Kv (by lia)
theorem g_:∀ a b:List Int,HT.lexLt a b=false->HT.lexLt b a=false->a=b
 | [],[],_,_=>rfl
 | [],_::_,h,_=>by cases h
 | _::_,[],_,h=>by cases h
 | x::a,y::b,h,h'=>by
  rw[HT.tF] at h h'
  by_cases e:x=y
  ·subst e;rw[if_pos rfl] at h h';rw[g_ a b h h']
  ·rw[if_neg e] at h;rw[if_neg (Ne.symm e)] at h'
   have h1:=of_decide_eq_false h
   have h2:=of_decide_eq_false h'
   lia
theorem gY:∀ a b c:List Int,HT.lexLt b a=false->HT.lexLt c b=false->HT.lexLt c a=false
 | [],[],[],_,_=>rfl
 | [],[],_::_,_,h=>h
 | [],_::_,[],_,h=>by cases h
 | [],_::_,_::_,_,_=>rfl
 | _::_,[],_,h,_=>by cases h
 | _::_,_::_,[],_,h=>by cases h
 | x::a,y::b,z::c,h,h'=>by
  rw[HT.tF] at h h' ⊢
  by_cases e1:y=x
  ·subst e1
   rw[if_pos rfl] at h
   by_cases e2:z=y
   ·subst e2;rw[if_pos rfl] at h' ⊢;exact gY a b c h h'
   ·rw[if_neg e2] at h' ⊢;exact h'
  ·rw[if_neg e1] at h
   have h1:=of_decide_eq_false h
   by_cases e2:z=y
   ·subst e2;rw[if_neg e1];exact h
   ·rw[if_neg e2] at h'
    have h2:=of_decide_eq_false h'
    rw[if_neg (by lia)]
    exact Kv (by lia)
theorem gu {α:Type}{r:α->α->Prop}(an:∀ a b,r a b->r b a->a=b):∀ {l₁ l₂:List α},l₁.Perm l₂->l₁.Pairwise r->l₂.Pairwise r->l₁=l₂
 | [],l₂,h,_,_=>(List.nil_perm.mp h).symm
 | a::l₁,[],h,_,_=>absurd (List.perm_nil.mp h) (by simp)
 | a::l₁,b::l₂,h,h1,h2=>by
  have CI:a=b:=by
   have ha:a∈b::l₂:=h.mem_iff.mp Ao
   have hb:b∈a::l₁:=h.mem_iff.mpr Ao
   rcases Aj.mp ha with e | ha
   ·exact e
   ·rcases Aj.mp hb with e | hb
    ·exact e.symm
    ·exact an _ _ (List.rel_of_pairwise_cons h1 hb) (List.rel_of_pairwise_cons h2 ha)
  subst CI
  rw[gu an (List.Perm.cons_inv h) (Ba.mp h1).2 (Ba.mp h2).2]
def xD (rows:List (List Int)):List (List Int):=rows.mergeSort λ a b=>!HT.lexLt b a
def uX (rows:List (List Int)):(xD rows).Perm rows:=List.mergeSort_perm _ _
def lU (rows:List (List Int)):(xD rows).Pairwise λ a b=>HT.lexLt b a=false:=by
 have:=List.pairwise_mergeSort (le:=λ a b:List Int=>!HT.lexLt b a) (λ a b c h1 h2=>by simp at h1 h2 ⊢;exact gY a b c h1 h2)
  (λ a b=>by
   cases h:HT.lexLt b a with
   | false=>simp
   | true=>simp[gZ b a h]) rows
 exact this.imp λ h=>by simpa using h
def i0 {rows out:List (List Int)}(hp:out.Perm rows) (hs:out.Pairwise λ a b=>HT.lexLt b a=false):out=xD rows:=
 gu (λ a b h1 h2=>g_ a b h2 h1) (hp.trans (uX rows).symm) hs (lU rows)
def oU (rows:List (List Int)) (i j:Nat):Bool:=HT.lexLt (rows.getD i []) (rows.getD j [])
def VL (rows:List (List Int)):Ord (oU rows):=⟨λ _ _ _ h1 h2=>gY _ _ _ h1 h2,λ _ _ h=>gZ _ _ h⟩
section
variable {prog:Program}{w:World}{A:Around}{E:Ad}{s:Shared}{Q:Bool->Shared->Prop}
theorem Zk {b:Bool}:∀ (ns ms:List Int) (us ws:Af) (i:Nat),IntsAre us ns->IntsAre ws ms->Q (HT.lexLt ns ms) s->KatLex prog w A b (decide (ns.length<ms.length)) Q (us.zip ws) i s
 | [],[],_,_,_,.nil,.nil,h=>kat_nil (by simpa [HT.lexLt] using h)
 | [],_::_,_,_,_,.nil,.cons _ _ _,h=>kat_nil (by simpa [HT.lexLt] using h)
 | _::_,[],_,_,_,.cons _ _ _,.nil,h=>kat_nil (by simpa [HT.lexLt] using h)
 | n::ns,m::ms,_,_,i,.cons _ t hu,.cons _ u hw,h=>by
  rw[HT.tF] at h
  refine kat_cons (SeqAt.EqAt.int_int n t m u prog w _ _ (kat_go (λ e=>kat_yes ?_) λ e=>kat_no ?_))
  ·have e':n=m:=by simpa using e
   rw[if_pos e'] at h
   rw[show decide ((n::ns).length<(m::ms).length)=decide (ns.length<ms.length) by simp]
   exact Zk ns ms _ _ (i+1) hu hw h
  ·have e':¬ n=m:=by simpa using e
   rw[if_neg e'] at h
   cases b&&i == 0 with
   | true=>exact kat_lt_int h
   | false=>exact kat_one _ _ (lt_int h)
def sZ (h:Heap):List Value->List (List Int)->Prop:=Paired λ v r=>r≠[]/\∃ b o its n,v=.ref b/\h.get? b=some o/\o.cls=.type "tuple"/\o.data=.seq its n/\IntsAre its.toList r
theorem sZ.ZS {h:Heap}:∀ {vs:Af}{rows:List (List Int)},sZ h vs rows->∃ fs,KatTups h vs fs/\fs.length=vs.length/\∀ v∈fs,∃ n t,v=Value.int n t
 | _,_,.nil=>⟨[],KatTups.nil,rfl,λ _ hv=>absurd hv (by simp)⟩
 | _,_,.cons ⟨Am,b,o,its,n,hv,ho,hc,hd,hi⟩ r=>by
  obtain⟨fs,h1,h2,h3⟩:=sZ.ZS r
  subst hv
  obtain⟨its⟩:=its
  cases hi with
  | nil=>exact absurd rfl Am
  | cons k t _=>exact⟨.int k t::fs,KatTups.cons ho hc hd rfl h1,by simp[h2],λ v hv=>(Aj.mp hv).elim (λ e=>⟨k,t,e⟩) (h3 v)⟩
theorem Paired.at' {α β:Type}{F:α->β->Prop}:∀ {l₁:List α}{l₂:List β}{i:Nat},Paired F l₁ l₂->i<l₁.length->∀ (d:α) (e:β),F (l₁.getD i d) (l₂.getD i e)
 | _,_,_,.nil,h,_,_=>absurd h (by simp)
 | _,_,0,.cons r _,_,_,_=>r
 | _,_,i+1,.cons _ t,h,d,e=>by simpa using Paired.at' (i:=i) t (by simpa using h) d e
def sZ.ask {vs:Af}{rows:List (List Int)}{b:Bool}(r:sZ s.heap vs rows) {i j:Nat}(hi:i<vs.length) (hj:j<vs.length) {C:Bool->Shared->Prop}(h:C (oU rows i j) s):kas_ask prog w A (tuples' b) vs i j C s:=by
 obtain⟨_,b1,o1,its1,n1,e1,g1,_,d1,q1⟩:=Paired.at' r hi Value.none []
 obtain⟨_,b2,o2,Fw,n2,e2,g2,_,d2,q2⟩:=Paired.at' r hj Value.none []
 unfold kas_ask
 rw[e1,e2]
 refine kat_lt g1 d1 g2 d2 ?_
 have l1:=q1.length
 have l2:=q2.length
 rw[Bl] at l1 l2
 rw[l1,l2]
 exact Zk _ _ _ _ 0 q1 q2 h
theorem cp {α:Type}{n:Nat}{lt:Nat->Nat->Bool}{cmp:Nat->Nat->(Bool->Shared->Prop)->Shared->Prop}{Q:α->Shared->Prop}(hc:∀ i j C,i<n->j<n->C (lt i j) s->cmp i j C s):∀ {t:KasT α},yx n lt t (λ a=>Q a s)->t.kasWp cmp Q s
 | .ret _,h=>h
 | .ask i j _,h=>hc i j _ h.1 h.2.1 (cp hc h.2.2)
def mX (vs:Af) (rows:List (List Int)) (out:Ar):Prop:=
 ∃ idx:List Nat,idx.Perm (List.range vs.length)/\out.toList=idx.map (λ i=>vs.getD i Value.none)/\(idx.map λ i=>rows.getD i []).Pairwise λ a b=>HT.lexLt b a=false
def WS {rows:List (List Int)}{p:Array Nat}{n:Nat}(hn:p.size=n) (h:vo (oU rows) p n):(p.toList.map λ i=>rows.getD i []).Pairwise λ a b=>HT.lexLt b a=false:=by
 rw[BM,Ce]
 intro i j hi hj A4
 have:=h i j (BE A4) (by rw[<- hn];simpa using hj)
 simp only[Bl] at hi hj
 unfold Le oU at this
 simpa [Du,hi,hj] using this
def fV {vs:Af}{rows:List (List Int)}(r:sZ s.heap vs rows) (h2:2<=vs.length) (Gu:vs.length<64):Core prog w A E vs (mX vs rows) s:=by
 obtain⟨fs,t,hl,hf⟩:=r.ZS
 unfold Core
 refine kat_kind (T:=.type "int") t (by lia) (λ v hv=>?_) rfl ⟨rfl,?_⟩
 ·obtain⟨n,t,rfl⟩:=hf v hv
  exact Looks.of_pure rfl
 ·refine kat_run (ks:=vs) (Q:=λ st Hn=>Hn=s/\failedOf st=none/\mX vs rows ((arrOf st).map (·.2))/\(arrOf st).size=vs.length) (G:=λ p Hn=>Hn=s/\xq vs.length p/\vo (oU rows) p vs.length) rfl h2 Gu (λ p st s' hs ha Ez hg=>?_) ?_
  ·obtain⟨h1,h3,h4⟩:=hg
   refine⟨h1,Ez,⟨p.toList,?_,?_,WS hs h4⟩,by rw[ha,C1];exact hs⟩
   ·have:=Array.Perm.toList h3
    simpa using this
   ·rw[kat_snds rfl ha]
  ·exact cp (λ i j C hi hj hC=>r.ask hi hj hC) (yx.mono (λ p hp=>⟨rfl,hp⟩) (WX (VL rows) (by lia)))
end
section
variable {X:Cx}
def NI:yA X (.builtin "sorted") (λ xs H Q=>∃ p ys,∃ rows:List (List Int),xs=[.ref p]/\zM X.K H p ys/\Paired (λ v r=>r≠[]/\∃ b,v=V.ref b/\zT X.K H b (r.map V.int)) ys rows/\rows.length<64/\
  ∀ (l:Addr) (idx:List Nat),H l=none->idx.Perm (List.range ys.length)->(idx.map λ i=>rows.getD i []).Pairwise (λ a b=>HT.lexLt b a=false)->Q (.ref l) (upd H l (.lst (idx.map λ i=>ys.getD i .zr)))):=by
 intro EH s B H xs us Q I r h
 obtain⟨p,ys,rows,rfl,hq,hr,Gu,q⟩:=h
 obtain⟨u,rfl,ru⟩:=vals1 r
 cases ru
 obtain⟨its,rv,pl,hz⟩:=I.list hq
 have hl:=rv.length
 have BU:ys.length=rows.length:=Paired.length hr
 have F5:∀ h6:Heap,(∀ b o,s.heap.get? b=some o->h6.get? b=some o)->sZ h6 its rows:=λ h6 k=>by
  clear q hz hl BU Gu hq pl r
  induction hr generalizing its with
  | nil=>cases rv;exact .nil
  | cons g t ih=>
   cases rv with
   | cons r1 r2=>
    refine .cons ?_ (ih _ r2)
    obtain⟨Am,b,rfl,hb⟩:=g
    cases r1
    obtain⟨Fw,G5,⟨o,e,hc,n,hd⟩,_⟩:=I.tuple hb
    exact⟨Am,b,o,_,n,rfl,k _ _ e,hc,hd,by simpa using intsAre_of G5⟩
 refine WW (Out:=mX its rows) pl.isList (by rw[<- hl];exact hz) (λ h2 s6 k=>fV (F5 _ k) h2 (by lia)) (λ h1=>?_) λ out ho hs=>?_
 ·refine⟨List.range its.length,.refl _,?_,?_⟩
  ·refine BC (by simp) λ i h1 h2=>?_
   simp at h1
   simp[h1]
  ·rw[BM,Ce]
   intro i j hi hj A4
   simp at hi hj
   lia
 ·obtain⟨idx,g1,g2,g3⟩:=ho
  obtain⟨e,ho⟩:=sortedAll_at s.heap its out
  have Bo:H (s.heap.objs.size+1)=none:=I.zC.fresh (C0 _)
  have HJ:idx.Perm (List.range ys.length):=by rw[hl];exact g1
  refine⟨.ref (s.heap.objs.size+1),_,I.laid (t':=s.toks) (o:=.lst (idx.map λ i=>ys.getD i .zr)) (λ b o q=>sortedAll_old q) (C0 _) ?_,rfl,q _ idx Bo HJ g3⟩
  refine⟨by rw[Ay,HJ.length_eq,BR];exact hz,out.toList,e,?_,by simpa using ho⟩
  rw[g2]
  have An:∀ i∈idx,i<ys.length:=λ i hi=>by simpa using HJ.mem_iff.mp hi
  clear g1 HJ g2 g3 q
  induction idx with
  | nil=>exact .nil
  | cons i idx ih=>
   refine .cons ?_ (ih λ j hj=>An j (Av _ hj))
   have hi:=An i Ao
   obtain⟨u,e1,e2⟩:=rv.get (i:=i) (x:=ys[i]) (by simp[hi])
   have e3:its.getD i Value.none=u:=by simp[e1]
   have e4:ys.getD i .zr=ys[i]:=by simp[hi]
   show RelV (ys.getD i .zr) (its.getD i Value.none)
   rw[e3,e4];exact e2
end
end L4
namespace L2
open PySem PySem.Spec PyProof.Rows
noncomputable def xI (ty T:String):Bool:=ty == T||(ty == "bool"&&T == "int")
def lK (ty T:String):Bool:=PySem.W.kitMeta T&&decide ((fastBuiltinMro ty).map (λ l=>l.contains (Value.type T))=some (xI ty T))
def Wj:(["NoneType","bool","int","str","tuple","list","dict"].all λ ty=>["int","bool","tuple","list","str"].all λ T=>lK ty T)=true:=by decide +kernel
def Pp {K:Ab}{ty T:String}(h:lK ty T=true):PySem.W.kitOne K (.type ty) (.type T)=some (xI ty T):=by
 unfold lK at h
 rw[Be] at h
 unfold PySem.W.kitOne
 split
 ·rename_i e
  have e':ty=T:=by have:=eq_of_beq e;injection this
  subst e'
  simp[xI]
 ·show (if PySem.W.kitMeta T=true then PySem.W.subIn K (.type ty) (.type T) else none)=_
  rw[if_pos h.1]
  exact of_decide_eq_true h.2
noncomputable def YV (K:Ab) (H:Hp):V->String->Prop
 | .zr,t=>t="NoneType"
 | .bl _,t=>t="bool"
 | .int _,t=>t="int"
 | .str _,t=>t="str"
 | .ref a,t=>(t="tuple"/\∃ xs,zT K H a xs)\/(t="list"/\∃ xs,zM K H a xs)\/(t="dict"/\∃ Aa,H a=some (.dK Aa))
 | _,_=>False
def NX {X:Cx}:yA X (.builtin "isinstance") (λ xs H Q=>∃ x T ty,xs=[x,.ty T]/\YV X.K H x ty/\lK ty T=true/\Q (.bl (xI ty T)) H):=by
 intro EH s B H xs us Q I r h
 obtain⟨x,T,ty,rfl,hx,hT,q⟩:=h
 obtain⟨u,c,rfl,ru,rc⟩:=vals2 r
 cases (show c=Value.type T from rc)
 have e:PySem.W.kitOne X.K (.type ty) (.type T)=some (xI ty T):=Pp hT
 have fin:∀ tk,EP X EH B Q (.bool (xI ty T)) { s with toks:=tk }:=λ tk=>⟨.bl _,H,I.tok tk,rfl,q⟩
 cases x with
 | zr=>cases (show u=Value.none from ru);cases (show ty=_ from hx);exact PySem.W.kia_one PySem.W.kitx_none I.v8 True.intro e (λ z=>nomatch z) fin
 | bl y=>cases (show u=Value.bool y from ru);cases (show ty=_ from hx);exact PySem.W.kia_one PySem.W.kitx_bool I.v8 True.intro e (λ z=>nomatch z) fin
 | int i=>obtain⟨t,rfl⟩:=(show ∃ t,u=Value.int i t from ru);cases (show ty=_ from hx);exact PySem.W.kia_one PySem.W.kitx_int I.v8 True.intro e (λ z=>nomatch z) fin
 | str y=>obtain⟨t,rfl⟩:=(show ∃ t,u=Value.str y t from ru);cases (show ty=_ from hx);exact PySem.W.kia_one PySem.W.kitx_str I.v8 True.intro e (λ z=>nomatch z) fin
 | ref a=>
  cases (show u=Value.ref a from ru)
  rcases hx with ⟨rfl,ys,hq⟩ | ⟨rfl,ys,hq⟩ | ⟨rfl,Aa,hq⟩
  ·obtain⟨its,_,⟨o,h1,h2,_⟩,_⟩:=I.tuple hq
   exact PySem.W.kia_one PySem.W.kitx_tuple I.v8 ⟨o,h1,h2⟩ e (λ z=>nomatch z) fin
  ·obtain⟨its,_,⟨o,n,h1,h2,_⟩,_⟩:=I.list hq
   exact PySem.W.kia_one PySem.W.kitx_list I.v8 ⟨o,h1,h2⟩ e (λ z=>nomatch z) fin
  ·obtain⟨_,_,vs,_,p⟩:=(show yW X.prog X.w H s.heap a (.dK Aa) from I.zC a _ hq)
   obtain⟨o,es,ep,h1,h2,_⟩:=p
   exact PySem.W.kia_one PySem.W.kitx_dict I.v8 ⟨o,h1,h2.1⟩ e (λ z=>nomatch z) fin
 | _=>exact hx.elim
end L2
namespace L3
open PySem PySem.Spec L2
open PyProof.Rows hiding St
section
variable {X:Cx}{K:Ab}{a b e:Expr}{es:List Expr}{te:zu}{tA:yi}{pos p q:Pos}
def wY (hm:X.mg "len"=none) (ha:xm X (e::es) tA) (hg:Gl X "len":=by rfl) (he:starEach (e::es) X.env=(false,eval e X.env)::starEach es X.env:=by rfl) (Aq:(backTo pos (starEach es X.env)).any (·.1)=false:=by rfl):PD X (.Call (.Name "len" p) (e::es) [] pos) (x9 ui tA):=
 tp (u_ (NV.or NU) hg hm PySem.boot_len ha.pa (by decide) (by decide) he Aq) ui.mo ui.fits ha.mo
def ny (hm:X.mg "list"=none) (ha:xm X (e::es) tA) (hg:Gl X "list":=by rfl) (he:starEach (e::es) X.env=(false,eval e X.env)::starEach es X.env:=by rfl) (Aq:(backTo pos (starEach es X.env)).any (·.1)=false:=by rfl):PD X (.Call (.Name "list" p) (e::es) [] pos) (x9 uh tA):=
 tp (nh NS hg hm PyProof.Rows.boot_list ha.pa (by decide) (by decide) he Aq) uh.mo uh.fits ha.mo
def qv (hm:X.mg "tuple"=none) (ha:xm X (e::es) tA) (hg:Gl X "tuple":=by rfl) (he:starEach (e::es) X.env=(false,eval e X.env)::starEach es X.env:=by rfl) (Aq:(backTo pos (starEach es X.env)).any (·.1)=false:=by rfl):PD X (.Call (.Name "tuple" p) (e::es) [] pos) (x9 ug tA):=
 tp (nh ND hg hm PyProof.Rows.boot_tuple ha.pa (by decide) (by decide) he Aq) ug.mo ug.fits ha.mo
abbrev ZU:xB:=vD λ i j=>.int (if j>i then j else i)
abbrev ZT:xB:=vD λ i j=>.int (if j<i then j else i)
def nv (hm:X.mg "max"=none) (ha:xm X (e::es) tA) (hc:X.calm=true:=by rfl) (hg:Gl X "max":=by rfl) (he:starEach (e::es) X.env=(false,eval e X.env)::starEach es X.env:=by rfl) (Aq:(backTo pos (starEach es X.env)).any (·.1)=false:=by rfl):PD X (.Call (.Name "max" p) (e::es) [] pos) (x9 ZU tA):=
 tp (u_ (NR hc) hg hm boot_max ha.pa (by decide) (by decide) he Aq) vD.mo (vD.fits λ _ _ _=>by simp only[zg]) ha.mo
def kC (hm:X.mg "min"=none) (ha:xm X (e::es) tA) (hc:X.calm=true:=by rfl) (hg:Gl X "min":=by rfl) (he:starEach (e::es) X.env=(false,eval e X.env)::starEach es X.env:=by rfl) (Aq:(backTo pos (starEach es X.env)).any (·.1)=false:=by rfl):PD X (.Call (.Name "min" p) (e::es) [] pos) (x9 ZT tA):=
 tp (u_ (NQ hc) hg hm boot_min ha.pa (by decide) (by decide) he Aq) vD.mo (vD.fits λ _ _ _=>by simp only[zg]) ha.mo
noncomputable def xY (r:List Int):D:=.tup (r.map D.int)
theorem oT {H:Hp}:∀ {rows:List (List Int)}{ys:List V},zl K H (rows.map xY) ys->(∀ r∈rows,r≠[])->Paired (λ v r=>r≠[]/\∃ b,v=V.ref b/\zT K H b (r.map V.int)) ys rows
 | [],ys,h,_=>by simp only[Bb,zl] at h;subst h;exact .nil
 | r::rows,ys,h,hn=>by
  rw[Au] at h
  simp only[zl,xY,zg] at h
  obtain⟨x,Jh,rfl,⟨a,xs,rfl,g1,g2⟩,h3⟩:=h
  rw[g2.ints] at g1
  exact .cons ⟨hn r Ao,a,rfl,g1⟩ (oT h3 λ r' hr=>hn r' (Av _ hr))
def aR {α:Type}{rows:List α}{d:α}{idx:List Nat}(h:idx.Perm (List.range rows.length)):(idx.map λ i=>rows.getD i d).Perm rows:=by
 refine (h.map _).trans ?_
 have:(List.range rows.length).map (λ i=>rows.getD i d)=rows:=by
  refine BC (by simp) λ i h1 h2=>?_
  simp[h2]
 rw[this]
theorem zl.perm {H:Hp}{rows:List (List Int)}{ys:List V}(h:zl K H (rows.map xY) ys):∀ {idx:List Nat},(∀ i∈idx,i<rows.length)->zl K H ((idx.map λ i=>rows.getD i []).map xY) (idx.map λ i=>ys.getD i .zr)
 | [],_=>.nil
 | i::idx,hi=>by
  have h1:=hi i Ao
  obtain⟨x,e1,e2⟩:=h.get (i:=i) (d:=xY rows[i]) (by simp[h1])
  refine .cons ?_ (zl.perm h λ j hj=>hi j (Av _ hj))
  have e3:ys.getD i .zr=x:=by simp[e1]
  have e4:rows.getD i []=rows[i]:=by simp[h1]
  show zg K H (xY (rows.getD i [])) (ys.getD i .zr)
  rw[e3,e4];exact e2
def tj {tg:Expr}(hm:X.mg "range"=none) (ha:xm X [a] tA) (hg:Gl X "range":=by rfl) (hs:starEach [a] X.env=[(false,eval a X.env)]:=by rfl):uN X tg (.Call (.Name "range" p) [a] [] pos) (fk tA):=T7 (UE hg hm ha.pa hs) ha.mo
def T5 {tg:Expr}(hm:X.mg "range"=none) (ha:xm X [a,b] tA) (hg:Gl X "range":=by rfl) (hs:starEach [a,b] X.env=[(false,eval a X.env),(false,eval b X.env)]:=by rfl) (GD:starEach [b] X.env=[(false,eval b X.env)]:=by rfl):uN X tg (.Call (.Name "range" p) [a,b] [] pos) (fj tA):=T6 (UD hg hm ha.pa hs GD) ha.mo
noncomputable def r9 (d:D) (S:SS):Option String:=match d with
 | .zr=>some "NoneType"
 | .bl _=>some "bool"
 | .int _=>some "int"
 | .str _=>some "str"
 | .tup _=>some "tuple"
 | .xE _=>some "list"
 | .ref p=>match S p with
  | some (.lst _)=>some "list"
  | some (.yh _)=>some "dict"
  | none=>none
 | .err _ _ _=>none
def pR (T:String) (te:zu):zu:=fun Y S Q=>te Y S λ x S1=>match r9 x S1 with
 | some ty=>Q (.bl (xI ty T)) S1
 | none=>False
def r9.ok {H:Hp}{d:D}{v:V}{S:SS}{ty:String}(r:zg K H d v) (p:zJ K H S) (h:r9 d S=some ty):YV K H v ty/\ty∈["NoneType","bool","int","str","tuple","list","dict"]:=by
 cases d with
 | err _ _ _=>cases h
 | tup ds=>
  simp only[zg] at r
  obtain⟨a,xs,rfl,g1,_⟩:=r
  cases h
  exact⟨.inl ⟨rfl,xs,g1⟩,by simp⟩
 | xE ds=>
  simp only[zg] at r
  obtain⟨a,xs,rfl,g1,_⟩:=r
  cases h
  exact⟨.inr (.inl ⟨rfl,xs,g1.sq⟩),by simp⟩
 | ref a=>
  simp only[zg] at r
  subst r
  unfold r9 at h
  dsimp only at h
  split at h
  ·rename_i e
   cases h
   obtain⟨xs,g1,_⟩:=p _ _ e
   exact⟨.inr (.inl ⟨rfl,xs,zM.of g1⟩),by simp⟩
  ·rename_i e
   cases h
   obtain⟨xs,g1,_⟩:=p _ _ e
   exact⟨.inr (.inr ⟨rfl,xs,g1⟩),by simp⟩
  ·cases h
 | _=>simp only[zg] at r;subst r;cases h;exact⟨rfl,by simp⟩
def kD {T:String}{x:Str}(hT:T∈["int","bool","tuple","list","str"]) (hm:X.mg "isinstance"=none) (Hs:X.mg x=none) (hv:bootBuiltins x=some (.type T)) (G2:Gl X x) (hn:x≠"__name__") (hd:(x == ("__debug__":Str))=false) (he:PD X e te) (hg:Gl X "isinstance":=by rfl)
  (h1:starEach (e::[.Name x q]) X.env=(false,eval e X.env)::starEach [.Name x q] X.env:=by rfl) (h2:(backTo pos (starEach [.Name x q] X.env)).any (·.1)=false:=by rfl) (h3:starEach [.Name x q] X.env=(false,eval (.Name x q) X.env)::starEach [] X.env:=by rfl):
  PD X (.Call (.Name "isinstance" p) [e,.Name x q] [] pos) (pR T te):=by
 refine⟨fun Y S Q Q' hq z=>he.mo Y S _ _ (λ y S1 z=>?_) z,PE.imp (u_ NX hg hm boot_isinstance (qy he.pe (qy (Tj (v:=.ty T) G2 Hs hv rfl hn hd) p0 h3) h1) (by decide) (by decide) h1 h2) fun B H Q hu=>?_⟩
 ·split at z
  ·exact hq _ _ z
  ·exact z
 ·obtain⟨Y,S,r1,r2,z⟩:=hu
  refine zO.go he.mo r1 r2 z λ y S1 v H1 z1 q1 e1 p1=>?_
  split at z1
  ·rename_i ty ht
   obtain⟨g1,g2⟩:=r9.ok q1 p1 ht
   refine⟨v,T,ty,rfl,g1,?_,z1 _ H1 (by simp only[zg]) e1 p1⟩
   exact BQ.mp (BQ.mp Wj ty g2) T hT
  ·exact z1.elim
def ag (T:Bt X.mg) (he:PD X e te) (hg:Gl X "isinstance":=by rfl) (G2:Gl X "bool":=by rfl) (h1:starEach (e::[.Name "bool" q]) X.env=(false,eval e X.env)::starEach [.Name "bool" q] X.env:=by rfl) (h2:(backTo pos (starEach [.Name "bool" q] X.env)).any (·.1)=false:=by rfl) (h3:starEach [.Name "bool" q] X.env=(false,eval (.Name "bool" q) X.env)::starEach [] X.env:=by rfl):
  PD X (.Call (.Name "isinstance" p) [e,.Name "bool" q] [] pos) (pR "bool" te):=kD (by simp) T.isinstance T.bool PyProof.Rows.boot_bool G2 (by decide) (by decide) he hg h1 h2 h3
def af (T:Bt X.mg) (he:PD X e te) (hg:Gl X "isinstance":=by rfl) (G2:Gl X "int":=by rfl) (h1:starEach (e::[.Name "int" q]) X.env=(false,eval e X.env)::starEach [.Name "int" q] X.env:=by rfl) (h2:(backTo pos (starEach [.Name "int" q] X.env)).any (·.1)=false:=by rfl) (h3:starEach [.Name "int" q] X.env=(false,eval (.Name "int" q) X.env)::starEach [] X.env:=by rfl):
  PD X (.Call (.Name "isinstance" p) [e,.Name "int" q] [] pos) (pR "int" te):=kD (by simp) T.isinstance T.int PyProof.Rows.boot_int G2 (by decide) (by decide) he hg h1 h2 h3
def qx (T:Bt X.mg) (he:PD X e te) (hg:Gl X "isinstance":=by rfl) (G2:Gl X "tuple":=by rfl) (h1:starEach (e::[.Name "tuple" q]) X.env=(false,eval e X.env)::starEach [.Name "tuple" q] X.env:=by rfl) (h2:(backTo pos (starEach [.Name "tuple" q] X.env)).any (·.1)=false:=by rfl) (h3:starEach [.Name "tuple" q] X.env=(false,eval (.Name "tuple" q) X.env)::starEach [] X.env:=by rfl):
  PD X (.Call (.Name "isinstance" p) [e,.Name "tuple" q] [] pos) (pR "tuple" te):=kD (by simp) T.isinstance T.tuple PyProof.Rows.boot_tuple G2 (by decide) (by decide) he hg h1 h2 h3
def tq {o:Expr}{to:zu}{apos Ak:Pos}(ho:PD X o to) (he:PD X e te)
  (GI:attributeBase o "append" X.env (eval o X.env)=eval o X.env:=by rfl)
  (AM:((backTo Ak (starEach [e] X.env)).all (λ x=>!x.1)&&(backToKw Ak (keywordEach [] X.env)).all (λ x=>x.1.isSome)
   && decide ([e].length+([]:List Keyword).length+(if ([]:List Keyword).isEmpty then 0 else 1)<30))=true:=by rfl)
  (GF:(apos.endLine == Ak.line)=true:=by rfl) (hs:starEach [e] X.env=(false,eval e X.env)::starEach [] X.env:=by rfl) (Ge:(backTo Ak (starEach [] X.env)).any (·.1)=false:=by rfl):
  PD X (.Call (.Attribute o "append" apos) [e] [] Ak) (rZ to te):=
 Sb (o:=o) (e:=e) (bU PySem.F.plainAttrs_list PySem.F.slot_list_append PySem.F.type_list_append aQ ho.pe (qy he.pe p0 hs) GI AM GF hs Ge) ho.mo he.mo
structure FD (P:Program) (w:World) (K:Ab) (mg:AG) (base:Heap) (x:Str) (k:Nat) (ps:List Str) (sp:sY):Prop where
 ex:∃ (f:Addr) (fd:FuncData),ux P w K mg base vq k f fd ps (sa K sp)/\mg x=some (.ref f)/\PySem.W.keepIn K (.ref f)=true/\Binds K fd ps []
 mo:eR sp
def TZ {x:Str}{k:Nat}{ps:List Str}{sp:sY}(F:FD X.prog X.w X.K X.mg X.base x k ps sp) (hr:yt k X.A) (ha:xm X (e::es) tA) (hg:Gl X x:=by rfl) (Cc:(x == ("__debug__":Str))=false:=by decide)
  (he:starEach (e::es) X.env=(false,eval e X.env)::starEach es X.env:=by rfl) (Aq:(backTo pos (starEach es X.env)).any (·.1)=false:=by rfl):PD X (.Call (.Name x p) (e::es) [] pos) (jy sp tA):=by
 obtain⟨⟨f,fd,h1,h2,h3,h4⟩,hm⟩:=F
 exact T_ (E:=E0) (Ti h1 hr hg h2 h3 h4 .nil Se ha.pa Cc he Aq) hm ha.mo
end
def OO {S:SS}{p:Addr}{ds:List D}{Q:DK}(e:S p=some (.lst ds)) (h:Q (.tup ds) S):ug [.ref p] S Q:=by
 unfold ug;dsimp only;rw[e];exact h
def OP {S:SS}{d:D}{ds:List D}{Q:DK}(e:zQ d S=some ds) (h:∀ p,S p=none->Q (.ref p) (ups S p (.lst ds))):uh [d] S Q:=by
 unfold uh;dsimp only;rw[e];exact h
def OQ {S:SS}{d:D}{ds:List D}{Q:DK}(e:zQ d S=some ds) (h:Q (.int ds.length) S):ui [d] S Q:=by
 unfold ui;dsimp only;rw[e];exact h
def Ws {S:SS}{p:Addr}{ds:List D}{Q:Bool->SS->Prop}(e:S p=some (.lst ds)) (h:Q (!ds.isEmpty) S):vt (.ref p) S Q:=by
 unfold vt;dsimp only;rw[e];exact h
def OU {S:SS}{p:Addr}{ds:List D}{i:Int}{d:D}{Q:DK}(e:S p=some (.lst ds)) (e2:L2.zP ds i=some d) (h:Q d S):w9 (.ref p) (.int i) S Q:=by
 unfold w9;dsimp only;rw[e];dsimp only;rw[e2];exact h
def OS {S:SS}{ds:List D}{i:Int}{d:D}{Q:DK}(e2:L2.zP ds i=some d) (h:Q d S):w9 (.tup ds) (.int i) S Q:=by
 unfold w9;dsimp only;rw[e2];exact h
def OT {S:SS}{ds:List D}{i:Int}{d:D}{Q:DK}(e2:L2.zP ds i=some d) (h:Q d S):w9 (.xE ds) (.int i) S Q:=by
 unfold w9;dsimp only;rw[e2];exact h
inductive T where
 | zr | bl (b:Bool) | int (i:Int) | str (x:Str) | tup (ts:List T) | lst (ts:List T) | xf | err (c f:Str) (t:T)
mutual
noncomputable def eqT:T->T->Bool
 | .zr,.zr=>true
 | .bl a,.bl b=>a == b
 | .bl a,.int b=>(if a then 1 else 0) == b
 | .int a,.bl b=>a == (if b then 1 else 0)
 | .int a,.int b=>a == b
 | .str a,.str b=>a == b
 | .tup a,.tup b=>x8 a b
 | .lst a,.lst b=>x8 a b
 | .xf,.xf=>true
 | .err a b t,.err c d u=>a == c&&(b == d&&eqT t u)
 | _,_=>false
noncomputable def x8:List T->List T->Bool
 | [],[]=>true
 | a::as,b::bs=>eqT a b&&x8 as bs
 | _,_=>false
end
mutual
noncomputable def dep:T->Nat
 | .tup ts=>1+xK ts
 | .lst ts=>1+xK ts
 | .xf=>cLine
 | .err _ _ _=>cLine
 | _=>0
noncomputable def xK:List T->Nat
 | []=>0
 | t::ts=>max (dep t) (xK ts)
end
noncomputable def gC:List T->Bool
 | []=>true
 | .int _::ts=>gC ts
 | _=>false
def SN (ns:List Int):gC (ns.map T.int)=true:=by
 induction ns with
 | nil=>rfl
 | cons n ns ih=>exact ih
mutual
noncomputable def Sn (S:SS):T->D->Prop
 | .zr,d=>d=.zr
 | .bl b,d=>d=.bl b
 | .int i,d=>d=.int i
 | .str x,d=>d=.str x
 | .tup ts,d=>∃ ds,d=.tup ds/\zk S ts ds
 | .lst ts,d=>∃ ds,((d=.xE ds/\gC ts=true)\/∃ a,d=.ref a/\S a=some (.lst ds))/\zk S ts ds
 | .xf,d=>∃ a Aa,(d=.ref a/\Aa=[])/\S a=some (.yh Aa)
 | .err c f t,d=>∃ x,d=.err c f x/\Sn S t x
noncomputable def zk (S:SS):List T->List D->Prop
 | [],ds=>ds=[]
 | t::ts,ds=>∃ c cs,ds=c::cs/\Sn S t c/\zk S ts cs
end
mutual
theorem fQ:∀ t:T,eqT t t=true
 | .zr=>by simp[eqT]
 | .bl b=>by simp[eqT]
 | .int i=>by simp[eqT]
 | .str x=>by simp[eqT]
 | .tup ts=>by simp only[eqT];exact jn ts
 | .lst ts=>by simp only[eqT];exact jn ts
 | .xf=>by simp[eqT]
 | .err _ _ t=>by simp[eqT,fQ t]
theorem jn:∀ ts:List T,x8 ts ts=true
 | []=>by simp[x8]
 | t::ts=>by simp only[x8,fQ t,jn ts,Dt]
end
theorem fP:∀ ts us:List T,x8 ts us=((List.range (min ts.length us.length)).all (λ j=>eqT (ts.getD j .zr) (us.getD j .zr))&&ts.length == us.length)
 | [],[]=>by simp[x8]
 | [],_::_=>by simp[x8]
 | _::_,[]=>by simp[x8]
 | t::ts,u::us=>by
  simp only[x8,fP ts us,AX]
  rw[show min (ts.length+1) (us.length+1)=min ts.length us.length+1 by lia,CZ,List.all_cons,List.all_map]
  have:(ts.length+1 == us.length+1)=(ts.length == us.length):=by rw[Bn];simp
  rw[this,Bool.and_assoc]
  rfl
theorem zk.length {S:SS}:∀ {ts:List T}{ds:List D},zk S ts ds->ts.length=ds.length
 | [],ds,h=>by simp only[zk] at h;subst h;rfl
 | t::ts,ds,h=>by
  simp only[zk] at h
  obtain⟨c,cs,rfl,_,h2⟩:=h
  simp[zk.length h2]
section
variable {X:Cx}{EH:Ag}{B:St}{H:Hp}{s:Shared}{S:SS}
def Zw (I:Inv X EH B H s) {a:Addr}{xs ys:List V}(h1:zT X.K H a xs) (h2:zM X.K H a ys):False:=by
 obtain⟨_,_,⟨o,e,c,_⟩,_⟩:=I.tuple h1
 obtain⟨_,_,⟨o',n,e',c',_⟩,_⟩:=I.list h2
 rw[e] at e';cases e'
 rw[c] at c'
 injection c' with q
 exact absurd q (by decide)
def Sn.tD (p:zJ X.K H S) {ts:List T}{d:D}{x:V}(h:Sn S (.lst ts) d) (r:zg X.K H d x):∃ a xs ds,x=.ref a/\zM X.K H a xs/\zl X.K H ds xs/\zk S ts ds:=by
 simp only[Sn] at h
 obtain⟨ds,⟨h,_⟩ | ⟨a,h,e⟩,h2⟩:=h
 ·subst h
  simp only[zg] at r
  obtain⟨a,xs,rfl,g1,g2⟩:=r
  exact⟨a,xs,ds,rfl,g1.sq,g2,h2⟩
 ·subst h
  simp only[zg] at r
  obtain⟨xs,g1,g2⟩:=p _ _ e
  exact⟨a,xs,ds,r,zM.of g1,g2,h2⟩
def Sn.uV {ts:List T}{d:D}{x:V}(h:Sn S (.tup ts) d) (r:zg X.K H d x):∃ a xs ds,x=.ref a/\zT X.K H a xs/\zl X.K H ds xs/\zk S ts ds:=by
 simp only[Sn] at h
 obtain⟨ds,rfl,h2⟩:=h
 simp only[zg] at r
 obtain⟨a,xs,rfl,g1,g2⟩:=r
 exact⟨a,xs,ds,rfl,g1,g2,h2⟩
def Sn.rX (p:zJ X.K H S) {d:D}{x:V}(h:Sn S .xf d) (r:zg X.K H d x):∃ a vs,x=.ref a/\H a=some (.dK vs):=by
 simp only[Sn] at h
 obtain⟨a,Aa,⟨rfl,_⟩,e⟩:=h
 simp only[zg] at r
 obtain⟨xs,g1,g2⟩:=p _ _ e
 exact⟨a,xs,r,g1⟩
def Z5 (I:Inv X EH B H s) {a:Addr}{vs:List (Key×V)}(h:H a=some (.dK vs)):∃ o,s.heap.get? a=some o/\o.cls=.type "dict":=by
 obtain⟨_,_,_,_,o,_,_,e,c⟩:=(show yW X.prog X.w H s.heap a (.dK vs) from I.zC a _ h)
 exact⟨o,e,c.1.1⟩
def Zy (I:Inv X EH B H s) {a:Addr}{xs:List V}{vs:List (Key×V)}(h1:zT X.K H a xs) (h2:H a=some (.dK vs)):False:=by
 obtain⟨_,_,⟨o,e,c,_⟩,_⟩:=I.tuple h1
 obtain⟨o',e',c'⟩:=Z5 I h2
 rw[e] at e';cases e'
 rw[c] at c'
 injection c' with q
 exact absurd q (by decide)
def Z4 (I:Inv X EH B H s) {a:Addr}{xs:List V}{vs:List (Key×V)}(h1:zM X.K H a xs) (h2:H a=some (.dK vs)):False:=by
 obtain⟨_,_,⟨o,n,e,c,_⟩,_⟩:=I.list h1
 obtain⟨o',e',c'⟩:=Z5 I h2
 rw[e] at e';cases e'
 rw[c] at c'
 injection c' with q
 exact absurd q (by decide)
theorem Sn.flat {t:T}{d:D}{x:V}(h:Sn S t d) (r:zg X.K H d x):match t with
  | .zr=>x=.zr
  | .bl b=>x=.bl b
  | .int i=>x=.int i
  | .str y=>x=.str y
  | _=>True:=by
 cases t <;> first
  | trivial
  | (simp only[Sn] at h;subst h;simpa only [zg] using r)
def Sn.sQ {c f:Str}{t:T}{d:D}{x:V}(h:Sn S (.err c f t) d) (r:zg X.K H d x):∃ e C dx w y,x=.ref e/\(lA X.K c C/\H e=some (rm e C dx)/\H dx=some (.xd [(f,w)]))/\Sn S t y/\zg X.K H y w:=by
 simp only[Sn] at h
 obtain⟨y,rfl,h⟩:=h
 simp only[zg] at r
 obtain⟨e,C,dx,w,r1,r2,r3⟩:=r
 exact⟨e,C,dx,w,y,r1,r2,h,r3⟩
def kY (I:Inv X EH B H s) {e C dx:Addr}(h:H e=some (rm e C dx)):∃ oe vs,s.heap.get? e=some oe/\oe.cls=.ref C/\oe.dict=some dx/\oe.data=.fields vs:=(show yW X.prog X.w H s.heap e (rm e C dx) from I.zC e _ h).1
def Zx (I:Inv X EH B H s) {a C dx:Addr}{xs:List V}(h1:zT X.K H a xs) (h2:H a=some (rm a C dx)):False:=by
 obtain⟨_,_,⟨o,e,c,_⟩,_⟩:=I.tuple h1
 obtain⟨o',_,e',c',_⟩:=kY I h2
 rw[e] at e';cases e'
 rw[c] at c';cases c'
def Z2 (I:Inv X EH B H s) {a C dx:Addr}{xs:List V}(h1:zM X.K H a xs) (h2:H a=some (rm a C dx)):False:=by
 obtain⟨_,_,⟨o,n,e,c,_⟩,_⟩:=I.list h1
 obtain⟨o',_,e',c',_⟩:=kY I h2
 rw[e] at e';cases e'
 rw[c] at c';cases c'
def Z6 (I:Inv X EH B H s) {a C dx:Addr}{vs:List (Key×V)}(h1:H a=some (.dK vs)) (h2:H a=some (rm a C dx)):False:=by
 rw[h1] at h2;cases h2
def PU (I:Inv X EH B H s) {e C dx C' Km:Addr}(h1:H e=some (rm e C dx)) (h2:H e=some (rm e C' Km)):C=C'/\dx=Km:=by
 obtain⟨o,_,e1,c1,d1,_⟩:=kY I h1
 obtain⟨o',_,e2,c2,d2,_⟩:=kY I h2
 rw[e1] at e2;cases e2
 rw[c1] at c2;rw[d1] at d2
 cases c2;cases d2
 exact⟨rfl,rfl⟩
def lA.inj {K:Ab}{c c':Str}{C:Addr}(h1:lA K c C) (h2:lA K c' C):c=c':=by
 obtain⟨_,_,_,⟨⟨⟨_,_,_,_,_,_,_,_,_,_,_,_,a⟩,_⟩,_,_,_,_⟩⟩:=h1
 obtain⟨_,_,_,⟨⟨⟨_,_,_,_,_,_,_,_,_,_,_,_,b⟩,_⟩,_,_,_,_⟩⟩:=h2
 rw[a] at b
 cases b;rfl
mutual
theorem lJ (I:Inv X EH B H s) (p:zJ X.K H S):∀ (t u:T) {d e:D}{x:V},Sn S t d->Sn S u e->zg X.K H d x->zg X.K H e x->t=u
 | .tup ts,u,d,e,x,h1,h2,r1,r2=>by
  obtain⟨a,xs,ds,rfl,g1,g2,g3⟩:=h1.uV r1
  cases u with
  | xf=>obtain⟨_,_,q,g⟩:=h2.rX p r2;cases q;exact (Zy I g1 g).elim
  | err _ _ _=>obtain⟨_,_,_,_,_,q,g,_⟩:=h2.sQ r2;cases q;exact (Zx I g1 g.2.1).elim
  | tup us=>
   obtain⟨a',Fi,Hl,q,k1,k2,k3⟩:=h2.uV r2
   cases q
   have:=I.ij g1 k1
   subst this
   rw[ig I p ts us g3 k3 g2 k2]
  | lst us=>
   obtain⟨a',Fi,Hl,q,k1,k2,k3⟩:=h2.tD p r2
   cases q
   exact (Zw I g1 k1).elim
  | _=>exact nomatch h2.flat r2
 | .lst ts,u,d,e,x,h1,h2,r1,r2=>by
  obtain⟨a,xs,ds,rfl,g1,g2,g3⟩:=h1.tD p r1
  cases u with
  | xf=>obtain⟨_,_,q,g⟩:=h2.rX p r2;cases q;exact (Z4 I g1 g).elim
  | err _ _ _=>obtain⟨_,_,_,_,_,q,g,_⟩:=h2.sQ r2;cases q;exact (Z2 I g1 g.2.1).elim
  | lst us=>
   obtain⟨a',Fi,Hl,q,k1,k2,k3⟩:=h2.tD p r2
   cases q
   have:=I.gX g1 k1
   subst this
   rw[ig I p ts us g3 k3 g2 k2]
  | tup us=>
   obtain⟨a',Fi,Hl,q,k1,k2,k3⟩:=h2.uV r2
   cases q
   exact (Zw I k1 g1).elim
  | _=>exact nomatch h2.flat r2
 | .zr,u,d,e,x,h1,h2,r1,r2=>by
  have q:=h1.flat r1
  subst q
  cases u with
  | xf=>obtain⟨_,_,q,g⟩:=h2.rX p r2;cases q
  | err _ _ _=>obtain⟨_,_,_,_,_,q,_⟩:=h2.sQ r2;cases q
  | zr=>rfl
  | tup us=>obtain⟨_,_,_,q,_⟩:=h2.uV r2;cases q
  | lst us=>obtain⟨_,_,_,q,_⟩:=h2.tD p r2;cases q
  | _=>exact nomatch h2.flat r2
 | .bl b,u,d,e,x,h1,h2,r1,r2=>by
  have q:=h1.flat r1
  subst q
  cases u with
  | xf=>obtain⟨_,_,q,g⟩:=h2.rX p r2;cases q
  | err _ _ _=>obtain⟨_,_,_,_,_,q,_⟩:=h2.sQ r2;cases q
  | bl _=>have q:=h2.flat r2;cases q;rfl
  | tup us=>obtain⟨_,_,_,q,_⟩:=h2.uV r2;cases q
  | lst us=>obtain⟨_,_,_,q,_⟩:=h2.tD p r2;cases q
  | _=>exact nomatch h2.flat r2
 | .int b,u,d,e,x,h1,h2,r1,r2=>by
  have q:=h1.flat r1
  subst q
  cases u with
  | xf=>obtain⟨_,_,q,g⟩:=h2.rX p r2;cases q
  | err _ _ _=>obtain⟨_,_,_,_,_,q,_⟩:=h2.sQ r2;cases q
  | int _=>have q:=h2.flat r2;cases q;rfl
  | tup us=>obtain⟨_,_,_,q,_⟩:=h2.uV r2;cases q
  | lst us=>obtain⟨_,_,_,q,_⟩:=h2.tD p r2;cases q
  | _=>exact nomatch h2.flat r2
 | .str b,u,d,e,x,h1,h2,r1,r2=>by
  have q:=h1.flat r1
  subst q
  cases u with
  | xf=>obtain⟨_,_,q,g⟩:=h2.rX p r2;cases q
  | err _ _ _=>obtain⟨_,_,_,_,_,q,_⟩:=h2.sQ r2;cases q
  | str _=>have q:=h2.flat r2;cases q;rfl
  | tup us=>obtain⟨_,_,_,q,_⟩:=h2.uV r2;cases q
  | lst us=>obtain⟨_,_,_,q,_⟩:=h2.tD p r2;cases q
  | _=>exact nomatch h2.flat r2
 | .err c f t,u,d,e,x,h1,h2,r1,r2=>by
  obtain⟨a,C,dx,w,y,rfl,⟨g1,g2,g3⟩,g4,g5⟩:=h1.sQ r1
  cases u with
  | err c' f' t'=>
   obtain⟨a',C',Km,w',y',q,⟨k1,k2,k3⟩,k4,k5⟩:=h2.sQ r2
   cases q
   obtain⟨rfl,rfl⟩:=PU I g2 k2
   rw[g3] at k3;cases k3
   cases g1.inj k1
   rw[lJ I p t t' g4 k4 g5 k5]
  | xf=>obtain⟨_,_,q,g⟩:=h2.rX p r2;cases q;exact (Z6 I g g2).elim
  | tup us=>obtain⟨_,_,_,q,k1,_⟩:=h2.uV r2;cases q;exact (Zx I k1 g2).elim
  | lst us=>obtain⟨_,_,_,q,k1,_⟩:=h2.tD p r2;cases q;exact (Z2 I k1 g2).elim
  | _=>exact nomatch h2.flat r2
 | .xf,u,d,e,x,h1,h2,r1,r2=>by
  obtain⟨a,vs,rfl,g⟩:=h1.rX p r1
  cases u with
  | xf=>rfl
  | err _ _ _=>obtain⟨_,_,_,_,_,q,g',_⟩:=h2.sQ r2;cases q;exact (Z6 I g g'.2.1).elim
  | tup us=>obtain⟨_,_,_,q,g1,_⟩:=h2.uV r2;cases q;exact (Zy I g1 g).elim
  | lst us=>obtain⟨_,_,_,q,g1,_⟩:=h2.tD p r2;cases q;exact (Z4 I g1 g).elim
  | _=>exact nomatch h2.flat r2
theorem ig (I:Inv X EH B H s) (p:zJ X.K H S):∀ (ts us:List T) {ds es:List D}{xs:List V},zk S ts ds->zk S us es->zl X.K H ds xs->zl X.K H es xs->ts=us
 | [],us,ds,es,xs,h1,h2,r1,r2=>by
  have e:=h1.length.trans (r1.length.trans (r2.length.symm.trans h2.length.symm))
  cases us with
  | nil=>rfl
  | cons _ _=>simp at e
 | t::ts,[],ds,es,xs,h1,h2,r1,r2=>by
  have e:=h1.length.trans (r1.length.trans (r2.length.symm.trans h2.length.symm))
  simp at e
 | t::ts,u::us,ds,es,xs,h1,h2,r1,r2=>by
  simp only[zk] at h1 h2
  obtain⟨c,cs,rfl,a1,a2⟩:=h1
  obtain⟨c',cs',rfl,b1,b2⟩:=h2
  simp only[zl] at r1 r2
  obtain⟨y,ys,rfl,g1,g2⟩:=r1
  obtain⟨y',Jh,q,k1,k2⟩:=r2
  cases q
  rw[lJ I p t u a1 b1 g1 k1,ig I p ts us a2 b2 g2 k2]
end
def zk.get {ts:List T}{ds:List D}(h:zk S ts ds):∀ {j:Nat},j<ts.length->∃ c,ds[j]?=some c/\Sn S (ts.getD j .zr) c:=by
 induction ts generalizing ds with
 | nil=>intro j hj;simp at hj
 | cons t ts ih=>
  intro j hj
  simp only[zk] at h
  obtain⟨c,cs,rfl,h1,h2⟩:=h
  cases j with
  | zero=>exact⟨c,rfl,h1⟩
  | succ j=>
   obtain⟨c',e,h3⟩:=ih h2 (j:=j) (by simpa using hj)
   exact⟨c',by simpa using e,by simpa using h3⟩
theorem jt:∀ {ts:List T}{j:Nat},j<ts.length->dep (ts.getD j .zr)<=xK ts
 | [],j,h=>by simp at h
 | t::ts,0,_=>by simp only[xK,List.getD_cons_zero];lia
 | t::ts,j+1,h=>by
  have:=jt (ts:=ts) (j:=j) (by simpa using h)
  simp only[xK,List.getD_cons_succ];lia
inductive qL (K:Ab) (H:Hp) (S:SS) (s:Shared):T->Value->Prop
 | zr:qL K H S s .zr .none
 | bl {b:Bool}:qL K H S s (.bl b) (.bool b)
 | int {i:Int}{k:Tok}:qL K H S s (.int i) (.int i k)
 | str {i:Str}{k:Tok}:qL K H S s (.str i) (.str i k)
 | tup {ts:List T}{ds:List D}{xs:List V}{us:Af}{l:Addr}(g:zk S ts ds) (r:zl K H ds xs) (v:Vals xs us) (h:s.heap.IsTuple l us.toArray):qL K H S s (.tup ts) (.ref l)
 | lst {ts:List T}{ds:List D}{xs:List V}{us:Af}{l:Addr}(g:zk S ts ds) (r:zl K H ds xs) (v:Vals xs us) (h:s.heap.IsList l us.toArray):qL K H S s (.lst ts) (.ref l)
def cW (I:Inv X EH B H s) (p:zJ X.K H S) {t:T}{d:D}{x:V}{a:Value}(h:Sn S t d) (r:zg X.K H d x) (v:RelV x a) (z:dep t<cLine):qL X.K H S s t a:=by
 cases t with
 | zr=>have q:=h.flat r;subst q;cases v;exact .zr
 | bl _=>have q:=h.flat r;subst q;cases v;exact .bl
 | int _=>have q:=h.flat r;subst q;obtain⟨_,rfl⟩:=v;exact .int
 | str _=>have q:=h.flat r;subst q;obtain⟨_,rfl⟩:=v;exact .str
 | tup _=>obtain⟨l,xs,ds,rfl,g,r,q⟩:=h.uV r;cases v;obtain⟨_,w,i,_⟩:=I.tuple g;exact .tup q r w i
 | lst _=>obtain⟨l,xs,ds,rfl,g,r,q⟩:=h.tD p r;cases v;obtain⟨_,w,i,_⟩:=I.list g;exact .lst q r w i.isList
 | _=>simp only[dep] at z;lia
abbrev J3 (A:Around) (s:Shared) (a b:Value) (k:Bool):Prop:=SeqAt.EqAt A s a b k/\SeqAt.RcAt A s a b k/\SeqAt.RcNeAt A s a b (!k)
def Ml (I:Inv X EH B H s) (p:zJ X.K H S):∀ (n:Nat) (t u:T) {A:Around}{d e:D}{x y:V}{a b:Value},dep t<n->A.units+dep t<cLine->A.units+dep u<cLine->Sn S t d->Sn S u e->zg X.K H d x->zg X.K H e y->RelV x a->RelV y b->J3 A s a b (eqT t u):=by
 intro n
 induction n with
 | zero=>intros;lia
 | succ n ih=>
  intro t u A d e x y a b hn hu Ij h1 h2 r1 r2 v1 v2
  have hq:a=b->t=u:=λ z=>by subst z;have:=v1.inj v2;subst this;exact lJ I p t u h1 h2 r1 r2
  have c1:=cW I p h1 r1 v1 (by lia)
  have c2:=cW I p h2 r2 v2 (by lia)
  clear h1 h2 r1 r2 v1 v2
  have hA:A.units<cLine:=by lia
  have el:∀ {ts us:List T}{ds Hl:List D}{xs Fi:List V}{is Ii:Af},1+xK ts<n+1->A.units+(1+xK ts)<cLine->A.units+(1+xK us)<cLine->zk S ts ds->zk S us Hl->zl X.K H ds xs->zl X.K H Hl Fi->Vals xs is->Vals Fi Ii->is.toArray.size=ts.length/\Ii.toArray.size=us.length/\
    ∀ (j:Nat) (h1:j<is.toArray.size) (h2:j<Ii.toArray.size),SeqAt.EqAt A.in1 s is.toArray[j] Ii.toArray[j] (eqT (ts.getD j .zr) (us.getD j .zr)):=by
   intro ts us ds Hl xs Fi is Ii a1 a2 a3 g1 g2 r1 r2 v1 v2
   have e1:is.toArray.size=ts.length:=by rw[Ax,<- v1.length,<- r1.length,<- g1.length]
   have e2:Ii.toArray.size=us.length:=by rw[Ax,<- v2.length,<- r2.length,<- g2.length]
   refine⟨e1,e2,λ j h1 h2=>?_⟩
   obtain⟨_,k1,s1⟩:=g1.get (e1▸h1)
   obtain⟨_,k2,s2⟩:=g2.get (e2▸h2)
   obtain⟨_,f1,q1⟩:=r1.get k1
   obtain⟨_,f2,q2⟩:=r2.get k2
   obtain⟨w1,o1,m1⟩:=v1.get f1
   obtain⟨w2,o2,m2⟩:=v2.get f2
   have y1:=jt (e1▸h1)
   have y2:=jt (e2▸h2)
   obtain⟨_,z1⟩:=AL.mp o1
   obtain⟨_,z2⟩:=AL.mp o2
   rw[List.getElem_toArray,List.getElem_toArray,z1,z2]
   exact (ih _ _ (A:=A.in1) (by lia) (by show A.units+1+_<_;lia) (by show A.units+1+_<_;lia) s1 s2 q1 q2 m1 m2).1
  have en:∀ {l l':Addr}{ts us:List T},(Value.ref l=.ref l'->ts=us)->SeqAt.RcAt A s (.ref l) (.ref l') (x8 ts us)/\SeqAt.RcNeAt A s (.ref l) (.ref l') (!x8 ts us)->J3 A s (.ref l) (.ref l') (x8 ts us):=λ{l l' ts us} h q=>by
   refine⟨?_,q⟩
   by_cases z:l=l'
   ·subst z
    rw[h rfl,jn]
    exact .same _
   ·exact .of_refs z q.1
  cases c1 <;> cases c2 <;> simp only[eqT,CN,CO]
  ·exact⟨.same _,.none_none,.none_none⟩
  ·exact⟨.none_bool _,.none_bool _,.none_bool _⟩
  ·exact⟨.none_int _ _,.none_int _ _,.none_int _ _⟩
  ·exact⟨.none_str _ _,.none_str _ _,.none_str _ _⟩
  ·exact⟨.none_tuple ‹_› hA,.none_tuple ‹_› hA,.none_tuple ‹_› hA⟩
  ·exact⟨.none_list ‹_› hA,.none_list ‹_› hA,.none_list ‹_› hA⟩
  ·exact⟨.bool_none _,.bool_none _,.bool_none _⟩
  ·exact⟨.bool_bool _ _,.bool_bool _ _,.bool_bool _ _⟩
  ·exact⟨.bool_int _ _ _,.bool_int _ _ _,.bool_int _ _ _⟩
  ·exact⟨.bool_str _ _ _,.bool_str _ _ _,.bool_str _ _ _⟩
  ·exact⟨.bool_tuple _ ‹_› hA,.bool_tuple _ ‹_› hA,.bool_tuple _ ‹_› hA⟩
  ·exact⟨.bool_list _ ‹_› hA,.bool_list _ ‹_› hA,.bool_list _ ‹_› hA⟩
  ·exact⟨.int_none _ _,.int_none _ _,.int_none _ _⟩
  ·exact⟨.int_bool _ _ _,.int_bool _ _ _,.int_bool _ _ _⟩
  ·exact⟨.int_int _ _ _ _,.int_int _ _ _ _,.int_int _ _ _ _⟩
  ·exact⟨.int_str _ _ _ _,.int_str _ _ _ _,.int_str _ _ _ _⟩
  ·exact⟨.int_tuple _ _ ‹_› hA,.int_tuple _ _ ‹_› hA,.int_tuple _ _ ‹_› hA⟩
  ·exact⟨.int_list _ _ ‹_› hA,.int_list _ _ ‹_› hA,.int_list _ _ ‹_› hA⟩
  ·exact⟨.str_none _ _,.str_none _ _,.str_none _ _⟩
  ·exact⟨.str_bool _ _ _,.str_bool _ _ _,.str_bool _ _ _⟩
  ·exact⟨.str_int _ _ _ _,.str_int _ _ _ _,.str_int _ _ _ _⟩
  ·exact⟨.str_str _ _ _ _,.str_str _ _ _ _,.str_str _ _ _ _⟩
  ·exact⟨.str_tuple _ _ ‹_› hA,.str_tuple _ _ ‹_› hA,.str_tuple _ _ ‹_› hA⟩
  ·exact⟨.str_list _ _ ‹_› hA,.str_list _ _ ‹_› hA,.str_list _ _ ‹_› hA⟩
  ·exact⟨.tuple_none ‹_› hA,.tuple_none ‹_› hA,.tuple_none ‹_› hA⟩
  ·exact⟨.tuple_bool _ ‹_› hA,.tuple_bool _ ‹_› hA,.tuple_bool _ ‹_› hA⟩
  ·exact⟨.tuple_int _ _ ‹_› hA,.tuple_int _ _ ‹_› hA,.tuple_int _ _ ‹_› hA⟩
  ·exact⟨.tuple_str _ _ ‹_› hA,.tuple_str _ _ ‹_› hA,.tuple_str _ _ ‹_› hA⟩
  ·rename_i g1 r1 v1 k1 _ _ _ _ _ g2 r2 v2 k2
   simp only[dep] at hn hu Ij
   obtain⟨e1,e2,q⟩:=el hn hu Ij g1 g2 r1 r2 v1 v2
   refine en (λ z=>by cases hq z;rfl) ?_
   rw[fP,<- e1,<- e2]
   exact⟨.tuples k1 k2 hA q,.tuples k1 k2 hA q⟩
  ·exact⟨.tuple_list ‹_› ‹_› hA,.tuple_list ‹_› ‹_› hA,.tuple_list ‹_› ‹_› hA⟩
  ·exact⟨.list_none ‹_› hA,.list_none ‹_› hA,.list_none ‹_› hA⟩
  ·exact⟨.list_bool _ ‹_› hA,.list_bool _ ‹_› hA,.list_bool _ ‹_› hA⟩
  ·exact⟨.list_int _ _ ‹_› hA,.list_int _ _ ‹_› hA,.list_int _ _ ‹_› hA⟩
  ·exact⟨.list_str _ _ ‹_› hA,.list_str _ _ ‹_› hA,.list_str _ _ ‹_› hA⟩
  ·exact⟨.list_tuple ‹_› ‹_› hA,.list_tuple ‹_› ‹_› hA,.list_tuple ‹_› ‹_› hA⟩
  ·rename_i i1 _ g1 r1 v1 k1 _ _ _ i2 _ g2 r2 v2 k2
   simp only[dep] at hn hu Ij
   obtain⟨e1,e2,q⟩:=el hn hu Ij g1 g2 r1 r2 v1 v2
   refine en (λ z=>by cases hq z;rfl) ?_
   rw[fP,<- e1,<- e2]
   by_cases z:i1.toArray.size=i2.toArray.size
   ·rw[<- z,Nat.min_self,beq_self_eq_true,Bool.and_true]
    exact⟨.lists k1 k2 z hA q,.lists k1 k2 z hA q⟩
   ·rw[beq_eq_false_iff_ne.mpr z,CM]
    have z':=bne_iff_ne.mpr z
    exact⟨.lists_lengths k1 k2 z' hA,.lists_lengths k1 k2 z' hA⟩
def eI (I:Inv X EH B H s) (p:zJ X.K H S) (t u:T) {A:Around}{d e:D}{x y:V}{a b:Value}(hu:A.units+dep t<cLine) (Ij:A.units+dep u<cLine) (h1:Sn S t d) (h2:Sn S u e) (r1:zg X.K H d x) (r2:zg X.K H e y) (v1:RelV x a) (v2:RelV y b):J3 A s a b (eqT t u):=Ml I p _ t u (Cj _) hu Ij h1 h2 r1 r2 v1 v2
end
def gm (K:Ab) (neg:Bool):R2:=λ x y H Q=>∃ S d e t u,zg K H d x/\zg K H e y/\zJ K H S/\Sn S t d/\Sn S u e/\dep t<=60/\dep u<=60/\Q (.bl (cond neg (!eqT t u) (eqT t u))) H
def vh (neg:Bool):yD:=λ x y S Q=>∃ t u,Sn S t x/\Sn S u y/\dep t<=60/\dep u<=60/\Q (.bl (cond neg (!eqT t u) (eqT t u))) S
def vh.mo {neg:Bool}:xr (vh neg):=λ _ _ _ _ _ hq ⟨t,u,a,b,c,d,h⟩=>⟨t,u,a,b,c,d,hq _ _ h⟩
def vh.fits {K:Ab}{neg:Bool}:xn K (vh neg) (gm K neg):=λ x y d e H S Q h1 h2 h3 ⟨t,u,a,b,c,c',h⟩=>⟨S,d,e,t,u,h1,h2,h3,a,b,c,c',h _ H (by simp only[zg]) (.refl H) h3⟩
section
variable {X:Cx}{a b:Expr}{ta tb:zu}{pos:Pos}
def ar (hu:X.A.units+64<cLine):yc X (compareOp .Eq) (gm X.K false):=by
 intro EH s B H x y v u Q I rx ry h
 obtain⟨S,d,e,t,u',a1,a2,a3,a4,a5,a6,a7,q⟩:=h
 exact (eI I a3 t u' (A:=X.A) (by lia) (by lia) a4 a5 a1 a2 rx ry).2.1 X.prog X.w X.xe _ ⟨.bl _,H,I,rfl,q⟩
def So (hu:X.A.units+64<cLine):yc X (compareOp .NotEq) (gm X.K true):=by
 intro EH s B H x y v u Q I rx ry h
 obtain⟨S,d,e,t,u',a1,a2,a3,a4,a5,a6,a7,q⟩:=h
 exact (eI I a3 t u' (A:=X.A) (by lia) (by lia) a4 a5 a1 a2 rx ry).2.2 X.prog X.w X.xe _ ⟨.bl _,H,I,rfl,q⟩
def gz {k:Nat}(hr:yt k X.A) (ha:PD X a ta) (hb:PD X b tb):PD X (.Compare a [.Eq] [b] pos) (yn (vh false) ta tb):=nB (ar hr.units) vh.fits vh.mo ha hb (tu _)
def sC {k:Nat}(hr:yt k X.A) (ha:PD X a ta) (hb:PD X b tb):xC X (.Compare a [.Eq] [b] pos) (vk (yn (vh false) ta tb)):=qu (ar hr.units) vh.fits vh.mo ha hb (tu _)
def ni {k:Nat}(hr:yt k X.A) (ha:PD X a ta) (hb:PD X b tb):xC X (.Compare a [.NotEq] [b] pos) (vk (yn (vh true) ta tb)):=qu (So hr.units) vh.fits vh.mo ha hb (tu _)
def bG (K:Ab) (neg:Bool):R2:=λ x y H Q=>∃ S d e u ts ds,zg K H d x/\zg K H e y/\zJ K H S/\Sn S u d/\zQ e S=some ds/\zk S ts ds/\dep u<=60/\xK ts<=60/\Q (.bl (cond neg (!(ts.any λ t=>eqT t u)) (ts.any λ t=>eqT t u))) H
def uI (neg:Bool):yD:=λ x y S Q=>∃ u ts ds,Sn S u x/\zQ y S=some ds/\zk S ts ds/\dep u<=60/\xK ts<=60/\Q (.bl (cond neg (!(ts.any λ t=>eqT t u)) (ts.any λ t=>eqT t u))) S
def uI.mo {neg:Bool}:xr (uI neg):=λ _ _ _ _ _ hq ⟨u,ts,ds,a,b,c,d,e,h⟩=>⟨u,ts,ds,a,b,c,d,e,hq _ _ h⟩
def uI.fits {K:Ab}{neg:Bool}:xn K (uI neg) (bG K neg):=λ x y d e H S Q h1 h2 h3 ⟨u,ts,ds,a,b,c,c',c2,h⟩=>⟨S,d,e,u,ts,ds,h1,h2,h3,a,b,c,c',c2,h _ H (by simp only[zg]) (.refl H) h3⟩
open Classical in
def tT (its:Af) (ts:List T) (u:T) (v:Value):Bool:=if h:∃ j,its[j]?=some v then eqT (ts.getD (Classical.choose h) .zr) u else false
def eF {EH:Ag}{B:St}{H:Hp}{s:Shared}{S:SS}(I:Inv X EH B H s) (p:zJ X.K H S) {ts:List T}{ds:List D}{xs:List V}{its:Af}(h1:zk S ts ds) (h2:zl X.K H ds xs) (h3:Vals xs its) (u:T) {j:Nat}{v:Value}(hj:its[j]?=some v):
  tT its ts u v=eqT (ts.getD j .zr) u:=by
 have h:∃ j,its[j]?=some v:=⟨j,hj⟩
 unfold tT
 rw[dif_pos h]
 have hc:=Classical.choose_spec h
 have lt:∀ i,its[i]?=some v->i<ts.length:=λ i hi=>by
  rw[h1.length,h2.length,h3.length]
  exact (AL.mp hi).1
 obtain⟨c1,e1,s1⟩:=h1.get (lt _ hc)
 obtain⟨c2,e2,s2⟩:=h1.get (lt _ hj)
 obtain⟨x1,f1,r1⟩:=h2.get e1
 obtain⟨x2,f2,r2⟩:=h2.get e2
 obtain⟨v1,g1,q1⟩:=h3.get f1
 obtain⟨v2,g2,q2⟩:=h3.get f2
 rw[hc] at g1;cases g1
 rw[hj] at g2;cases g2
 have hx:=q1.inj q2
 subst hx
 rw[lJ I p _ _ s1 s2 r1 r2]
def YS {EH:Ag}{B:St}{H:Hp}{s:Shared}{S:SS}(I:Inv X EH B H s) (p:zJ X.K H S) {ts:List T}{ds:List D}{xs:List V}{its:Af}(h1:zk S ts ds) (h2:zl X.K H ds xs) (h3:Vals xs its) (u:T):its.any (tT its ts u)=ts.any λ t=>eqT t u:=by
 have hl:ts.length=its.length:=by rw[h1.length,h2.length,h3.length]
 rw[Bn,A6,A6]
 constructor
 ·rintro⟨v,hv,h⟩
  obtain⟨j,hj,rfl⟩:=BW.mp hv
  rw[eF I p h1 h2 h3 u (j:=j) (by simp[hj])] at h
  have GX:j<ts.length:=by lia
  exact⟨ts[j],Cu GX,by simpa [GX] using h⟩
 ·rintro⟨t,ht,h⟩
  obtain⟨j,hj,rfl⟩:=BW.mp ht
  have GX:j<its.length:=by lia
  exact⟨its[j],Cu GX,by rw[eF I p h1 h2 h3 u (j:=j) (by simp[GX])];simpa [hj] using h⟩
def YT {EH:Ag}{B:St}{H:Hp}{s:Shared}{S:SS}(I:Inv X EH B H s) (p:zJ X.K H S) {ts:List T}{ds:List D}{xs:List V}{its:Af}(h1:zk S ts ds) (h2:zl X.K H ds xs) (h3:Vals xs its) {u:T}{d:D}{x:V}{v:Value}(hu:Sn S u d) (hd:zg X.K H d x) (hx:RelV x v) {A:Around}(b1:A.units+xK ts<cLine) (b2:A.units+dep u<cLine) {y:Value}(hy:y∈its):
  SeqAt.EqAt A s y v (tT its ts u y):=by
 obtain⟨j,hj,rfl⟩:=BW.mp hy
 have hjt:j<ts.length:=by rw[h1.length,h2.length,h3.length];exact hj
 rw[eF I p h1 h2 h3 u (j:=j) (by simp[hj])]
 obtain⟨c1,e1,s1⟩:=h1.get hjt
 obtain⟨x1,f1,r1⟩:=h2.get e1
 obtain⟨v1,g1,q1⟩:=h3.get f1
 have:its[j]=v1:=by
  have:=AL.mp g1
  exact this.2
 rw[this]
 have:=jt hjt
 exact (eI I p _ u (A:=A) (by lia) b2 s1 hu r1 hd q1 hx).1
def aq (hu:X.A.units+64<cLine):yc X (compareOp .In) (bG X.K false):=by
 intro EH s B H x y v w Q I rx ry h
 obtain⟨S,d,e,u,ts,ds,a1,a2,a3,a4,a5,a6,a7,a8,q⟩:=h
 obtain⟨l,xs,rfl,g1,g2⟩:=zQ.sq a2 a3 a5
 cases ry
 rcases g1 with g1 | g1
 ·obtain⟨its,w1,pl,_⟩:=I.list g1
  refine SeqAt.in_listAt (tT its ts u) pl.isList (λ y hy=>YT I a3 a6 g2 w1 a4 a1 rx (A:=X.A.in1) (by show X.A.units+1+_<_;lia) (by show X.A.units+1+_<_;lia) (by simpa using hy)) ⟨.bl _,H,I,rfl,?_⟩
  rw[show its.toArray.any (tT its ts u)=its.any (tT its ts u) by simp,YS I a3 a6 g2 w1]
  exact q
 ·obtain⟨its,w1,pt,_⟩:=I.tuple g1
  refine SeqAt.in_tupleAt (tT its ts u) pt (λ y hy=>YT I a3 a6 g2 w1 a4 a1 rx (A:=X.A.in1) (by show X.A.units+1+_<_;lia) (by show X.A.units+1+_<_;lia) (by simpa using hy)) ⟨.bl _,H,I,rfl,?_⟩
  rw[show its.toArray.any (tT its ts u)=its.any (tT its ts u) by simp,YS I a3 a6 g2 w1]
  exact q
def ah {k:Nat}(hr:yt k X.A) (ha:PD X a ta) (hb:PD X b tb) (hm:behindInMarks .In b=false:=by rfl):PD X (.Compare a [.In] [b] pos) (yn (uI false) ta tb):=nB (aq hr.units) uI.fits uI.mo ha hb hm
def Tu {k:Nat}(hr:yt k X.A) (ha:PD X a ta) (hb:PD X b tb) (hm:behindInMarks .In b=false:=by rfl):xC X (.Compare a [.In] [b] pos) (vk (yn (uI false) ta tb)):=qu (aq hr.units) uI.fits uI.mo ha hb hm
end
end L3
namespace L2
open PySem PySem.Spec PyProof.Rows
section
variable {κ:Type}[DecidableEq κ]
noncomputable def wu (Aa:List (κ × V)) (k:κ):Option V:=(Aa.find? λ kv=>decide (kv.1=k)).map (·.2)
noncomputable def putK (Aa:List (κ × V)) (k:κ) (v:V):List (κ × V):=
 if (Aa.any λ kv=>decide (kv.1=k))=true then Aa.map (λ kv=>if kv.1=k then (kv.1,v) else kv) else Aa++[(k,v)]
def ic {p:κ × V}{r:List (κ × V)}{k:κ}(e:p.1=k):wu (p::r) k=some p.2:=by simp[wu,Cq,e]
def ie {p:κ × V}{r:List (κ × V)}{k:κ}(e:¬ p.1=k):wu (p::r) k=wu r k:=by simp[wu,Cq,e]
theorem cx (k:κ):∀ Aa:List (κ × V),(Aa.any λ kv=>decide (kv.1=k))=(wu Aa k).isSome
 | []=>rfl
 | p::r=>by
  rw[Bu]
  by_cases e:p.1=k
  ·simp only[ic e,KA e,Bool.true_or,Option.isSome_some]
  ·rw[ie e,Kv e,Bool.false_or];exact cx k r
def Za (Aa:List (κ × V)) (k:κ) (v:V):(putK Aa k v).length<=Aa.length+1:=by
 unfold putK
 split
 ·rw[Ay];lia
 ·rw[Ck,AX,C3];lia
def uu.PJ {o:Option V}{u:Option Value}(r:uu o u):o.isSome=u.isSome:=by
 cases o with
 | none=>cases u with
  | none=>rfl
  | some _=>exact (show False from r).elim
 | some _=>cases u with
  | none=>exact (show False from r).elim
  | some _=>rfl
theorem uu.getD {o:Option V}{u:Option Value}{d:V}{d':Value}(r:uu o u) (rd:RelV d d'):RelV (o.getD d) (u.getD d'):=by
 cases o with
 | none=>cases u with
  | none=>exact rd
  | some _=>exact (show False from r).elim
 | some _=>cases u with
  | none=>exact (show False from r).elim
  | some _=>exact r
def KV.val {Aa:List (κ × V)}{vs:List (κ × Value)}(r:KV Aa vs) (k:κ):uu (wu Aa k) (valueAt vs k):=by
 unfold KV at r
 induction r with
 | nil=>exact True.intro
 | @cons p q ps qs h t ih=>
  obtain⟨h1,h2⟩:=h
  by_cases e:p.1=k
  ·have e':q.1=k:=h1.symm.trans e
   have b:valueAt (q::qs) k=some q.2:=by simp[valueAt,Cq,e']
   rw[ic e,b];exact h2
  ·have e':¬ q.1=k:=λ z=>e (h1.trans z)
   have b:valueAt (q::qs) k=valueAt qs k:=by simp[valueAt,Cq,e']
   rw[ie e,b];exact ih
theorem KV.any {Aa:List (κ × V)}{vs:List (κ × Value)}(r:KV Aa vs) (k:κ):(Aa.any λ kv=>decide (kv.1=k))=vs.any λ kv=>decide (kv.1=k):=by
 unfold KV at r
 induction r with
 | nil=>rfl
 | cons h t ih=>rw[Bu,Bu,ih,h.1]
def KV.uZ {Aa:List (κ × V)}{vs:List (κ × Value)}(r:KV Aa vs) (k:κ) {y:V}{u:Value}(ry:RelV y u):
  KV (Aa.map λ kv=>if kv.1=k then (kv.1,y) else kv) (vs.map λ kv=>if kv.1=k then (kv.1,u) else kv):=by
 unfold KV at r ⊢
 induction r with
 | nil=>exact .nil
 | @cons p q ps qs h t ih=>
  rw[Au,Au]
  refine .cons ?_ ih
  obtain⟨h1,h2⟩:=h
  by_cases e:p.1=k
  ·rw[if_pos e,if_pos (h1.symm.trans e)];exact⟨h1,ry⟩
  ·rw[if_neg e,if_neg (λ z=>e (h1.trans z))];exact⟨h1,h2⟩
def KV.put {Aa:List (κ × V)}{vs:List (κ × Value)}(r:KV Aa vs) (k:κ) {y:V}{u:Value}(ry:RelV y u):KV (putK Aa k y) (stored vs k u):=by
 unfold putK stored
 rw[r.any k]
 by_cases e:(vs.any λ kv=>decide (kv.1=k))=true
 ·rw[if_pos e,if_pos e];exact r.uZ k ry
 ·rw[if_neg e,if_neg e];exact Paired.snoc r ⟨rfl,ry⟩
theorem KV.length {Aa:List (κ × V)}{vs:List (κ × Value)}(r:KV Aa vs):Aa.length=vs.length:=Paired.length r
end
def kU {P:Program}{w:World}{k:Key}{u:Value}(r:RelV (kV k) u):(wK P w).is k u=true:=by
 cases k with
 | inl i=>obtain⟨t,e⟩:=(show ∃ t,u=Value.int i t from r);subst e;exact QO P w i t
 | inr x=>obtain⟨t,e⟩:=(show ∃ t,u=Value.str x t from r);subst e;exact QN P w x t
theorem Zs {P:Program}{w:World}:∀ {ks:List Key}{us:Af},Vals (ks.map kV) us->ItemsAre (wK P w) ks us
 | [],_,r=>by rw[Bb] at r;cases r;exact .nil
 | k::ks,_,r=>by
  rw[Au] at r
  cases r with
  | cons h t=>exact .cons (kU h) (Zs t)
abbrev KT (H:Hp):List (List Key×V)->List (List Key×Addr×Value)->Prop:=Paired λ p q=>p.1=q.1/\H q.2.1=some (.tup (p.1.map kV))/\RelV p.2 q.2.2
def KT.val {H:Hp}{Aa:List (List Key×V)}{xs:List (List Key×Addr×Value)}(r:KT H Aa xs) (k:List Key):uu (wu Aa k) ((atKey xs k).map (·.2)):=by
 induction r with
 | nil=>exact True.intro
 | @cons p q ps qs h t ih=>
  obtain⟨h1,_,h2⟩:=h
  by_cases e:p.1=k
  ·have e':q.1=k:=h1.symm.trans e
   have b:atKey (q::qs) k=some q.2:=by simp[atKey,Cq,e']
   rw[ic e,b];exact h2
  ·have e':¬ q.1=k:=λ z=>e (h1.trans z)
   have b:atKey (q::qs) k=atKey qs k:=by simp[atKey,Cq,e']
   rw[ie e,b];exact ih
def KT.uZ {H:Hp}{Aa:List (List Key×V)}{xs:List (List Key×Addr×Value)}(r:KT H Aa xs) (k:List Key) {y:V}{u:Value}(ry:RelV y u):
  KT H (Aa.map λ kv=>if kv.1=k then (kv.1,y) else kv) (xs.map (putAt k u)):=by
 induction r with
 | nil=>exact .nil
 | @cons p q ps qs h t ih=>
  rw[Au,Au]
  refine .cons ?_ ih
  obtain⟨h1,h2,h3⟩:=h
  unfold putAt
  by_cases e:p.1=k
  ·rw[if_pos e,if_pos (h1.symm.trans e)];exact⟨h1,h2,ry⟩
  ·rw[if_neg e,if_neg (λ z=>e (h1.trans z))];exact⟨h1,h2,h3⟩
def KT.put {H:Hp}{Aa:List (List Key×V)}{xs:List (List Key×Addr×Value)}(r:KT H Aa xs) (k:List Key) {b:Addr}{y:V}{u:Value}(hb:H b=some (.tup (k.map kV))) (ry:RelV y u):
  KT H (putK Aa k y) (storedH xs k b u):=by
 have e:(Aa.any λ kv=>decide (kv.1=k))=(atKey xs k).isSome:=by
  rw[cx,(r.val k).PJ,Option.isSome_map]
 unfold putK storedH
 rw[e]
 by_cases q:(atKey xs k).isSome=true
 ·rw[if_pos q,if_pos q];exact r.uZ k ry
 ·rw[if_neg q,if_neg q];exact Paired.snoc r ⟨rfl,hb,ry⟩
def KT.keeps {H H':Hp}{Aa:List (List Key×V)}{xs:List (List Key×Addr×Value)}(r:KT H Aa xs) (ht:∀ b ys,H b=some (.tup ys)->H' b=some (.tup ys)):KT H' Aa xs:=
 Paired.kR r λ _ _ z=>⟨z.1,ht _ _ z.2.1,z.2.2⟩
section
variable {P:Program}{w:World}{H:Hp}{h:Heap}{a:Addr}
def b6 {u:HO}(ok:yQ P w H h) (e:Rd H a u):yW P w H h a u:=e.ok ok
def pQ {Aa:List (Key×V)}(ok:yQ P w H h) (e:Rd H a (.dK Aa)):Aa.length<=sizeLine/\(a == sysModules)=false/\∃ vs,KV Aa vs/\h.DictOf (wK P w) a vs:=
 show yW P w H h a (.dK Aa) from b6 ok e
def Nl {Aa:List (Key×V)}(ok:yQ P w H h) (e:H a=some (.dK Aa)):Aa.length<=sizeLine/\(a == sysModules)=false/\∃ vs,KV Aa vs/\h.DictOf (wK P w) a vs:=pQ ok (.inl e)
def kT {ks:List Key}(ok:yQ P w H h) (e:H a=some (.tup (ks.map kV))):(tupleKind (wK P w)).is h ks a:=by
 obtain⟨_,its,r,o,h1,h2,n,h3⟩:=(show yW P w H h a (.tup (ks.map kV)) from ok a _ e)
 exact⟨o,its.toArray,n,h1,h2,h3,by simpa using Zs r⟩
def ml {Aa:List (List Key×V)}(ok:yQ P w H h) (e:Rd H a (.dT Aa)):Aa.length<=sizeLine/\(a == sysModules)=false/\
  ∃ xs,KT H Aa xs/\h.DictOfH (tupleKind (wK P w)) a xs:=by
 obtain⟨z,y,xs,r,o,es,ep,h1,h2,h3,h4,h5⟩:=(show yW P w H h a (.dT Aa) from b6 ok e)
 refine⟨z,y,xs,r,o,es,ep,h1,h2,h3,h4,λ x hx=>?_,h5⟩
 have all:∀ {l:List (List Key×V)}{m:List (List Key×Addr×Value)},KT H l m->∀ x∈m,(tupleKind (wK P w)).is h x.1 x.2.1:=by
  intro l m q
  induction q with
  | nil=>intro x hx;exact nomatch hx
  | @cons p q ps qs hq t ih=>
   intro x hx
   rcases Aj.mp hx with e | hx
   ·subst e
    exact kT ok (by rw[<- hq.1];exact hq.2.1)
   ·exact ih x hx
 exact all r x hx
def Ng {Aa:List (List Key×V)}(ok:yQ P w H h) (e:H a=some (.dT Aa)):Aa.length<=sizeLine/\(a == sysModules)=false/\
  ∃ xs,KT H Aa xs/\h.DictOfH (tupleKind (wK P w)) a xs:=ml ok (.inl e)
end
def rn (H:Hp) (a:Addr) (y:V) (r:Option V):Prop:=
 (∃ Aa k,Rd H a (.dK Aa)/\y=kV k/\r=wu Aa k)\/∃ Aa k b,Rd H a (.dT Aa)/\y=.ref b/\H b=some (.tup (k.map kV))/\r=wu Aa k
def lC (H:Hp) (a:Addr) (y v:V) (H':Hp):Prop:=
 (∃ Aa k,H a=some (.dK Aa)/\y=kV k/\Aa.length<sizeLine/\H'=upd H a (.dK (putK Aa k v)))\/
 ∃ Aa k b,H a=some (.dT Aa)/\y=.ref b/\H b=some (.tup (k.map kV))/\Aa.length<sizeLine/\H'=upd H a (.dT (putK Aa k v))
theorem rn.k {H:Hp}{a:Addr}{Aa:List (Key×V)}{k:Key}(e:H a=some (.dK Aa)):rn H a (kV k) (wu Aa k):=.inl ⟨Aa,k,.inl e,rfl,rfl⟩
theorem lC.k {H:Hp}{a:Addr}{Aa:List (Key×V)}{k:Key}{v:V}(e:H a=some (.dK Aa)) (hl:Aa.length<sizeLine):lC H a (kV k) v (upd H a (.dK (putK Aa k v))):=.inl ⟨Aa,k,e,rfl,hl,rfl⟩
section
variable {X:Cx}{EH:Ag}{B:St}{H:Hp}{s:Shared}{a:Addr}{y v:V}{u r:Value}{o:Option V}{A:Around}{E:Ad}
def Inv.big (I:Inv X EH B H s):sysModules<s.heap.objs.size:=by
 have h:mainGlobals<s.heap.objs.size:=(I.mod.glob.keeps I.bk).lt
 exact C2 (by decide) h
def Nv {Q:Ad}(hu:A.units+1<cLine) (I:Inv X EH B H s) (g:rn H a y (some v)) (ry:RelV y u) (h:∀ w' s',Inv X EH B H s'->RelV v w'->Q w' s'):
  wpAny (model X.prog X.w) A (getItem (.ref a) u) Q E s:=by
 rcases g with ⟨Aa,k,e,ey,l⟩ | ⟨Aa,k,b,e,ey,eb,l⟩
 ·subst ey
  obtain⟨z,hd,vs,rel,dd⟩:=pQ I.zC e
  obtain⟨w',hw,G9⟩:=uu.some_of (v:=v) (o:=valueAt vs k) (by rw[l];exact rel.val k)
  exact wpAny_getItem_of (kU ry) dd.mapOf hw (h w' _ (I.tok _) G9)
 ·subst ey
  cases (show u=Value.ref b from ry)
  obtain⟨z,hd,xs,rel,dd⟩:=ml I.zC e
  obtain⟨w',hw,G9⟩:=uu.some_of (v:=v) (o:=(atKey xs k).map (·.2)) (by rw[l];exact rel.val k)
  obtain⟨p,hp,pJ⟩:=AE.mp hw
  refine wpAny_getItem_heap (tupleKind_room_in1 hu) (kT I.zC eb) dd hp ?_
  rw[pJ]
  exact h w' _ (I.tok _) G9
def Yj {h':Heap}{t':Nat}{ob:HO}(I:Inv X EH B H s) (mu:mY (H a)) (hs:Heap.SameBut a s.heap h') (he:∃ q,h'.get? a=some q) (new:yW X.prog X.w (upd H a ob) h' a ob):
  Inv X EH B (upd H a ob) { s with heap:=h',toks:=t' }:=
 I.write (x:=a) (e:=a) mu (.inl rfl) (λ b q hb z=>(hs.2 b hb).trans z) he new
def Nm {P:Program}{w:World}{H':Hp}{h':Heap}{Aa:List (Key×V)}{vs:List (Key×Value)}(z:Aa.length<=sizeLine) (hd:(a == sysModules)=false) (rel:KV Aa vs) (dd:h'.DictOf (wK P w) a vs):
  yW P w H' h' a (.dK Aa):=⟨z,hd,vs,rel,dd⟩
def Nt {H':Hp}{Q:Unit->Shared->Prop}(hu:A.units+1<cLine) (I:Inv X EH B H s) (g:lC H a y v H') (ry:RelV y u) (rv:RelV v r) (h:∀ s',Inv X EH B H' s'->Q () s'):
  wpAny (model X.prog X.w) A (setItem (.ref a) u r) Q E s:=by
 rcases g with ⟨Aa,k,e,ey,l,eH⟩ | ⟨Aa,k,b,e,ey,eb,l,eH⟩
 ·subst ey eH
  obtain⟨z,hd,vs,rel,dd⟩:=Nl I.zC e
  have hz:vs.length<=sizeLine:=by rw[<- rel.length];exact z
  have hl:(putK Aa k v).length<=sizeLine:=by have:=Za Aa k v;lia
  refine wpAny_setItem_pairs (hsz:=hz) (kU ry) dd λ h' Jz hs=>h _ ?_
  have he:∃ q,h'.get? a=some q:=let ⟨q,_,_,hq,_⟩:=Jz;⟨q,hq⟩
  exact Yj I (by rw[e];exact True.intro) hs he (Nm hl hd (rel.put k rv) Jz)
 ·subst ey eH
  cases (show u=Value.ref b from ry)
  obtain⟨z,hd,xs,rel,dd⟩:=Ng I.zC e
  have hz:xs.length<=sizeLine:=by rw[<- Paired.length rel];exact z
  have hl:(putK Aa k v).length<=sizeLine:=by have:=Za Aa k v;lia
  refine wpAny_setItem_heap (hsz:=hz) (tupleKind_room_in1 hu) (kT I.zC eb) dd λ h' Jz hs=>h _ ?_
  obtain⟨q,es,ep,hq,h2,h3,h4,_,h5⟩:=Jz
  refine Yj I (by rw[e];exact True.intro) hs ⟨q,hq⟩ ⟨hl,hd,_,(rel.put k eb rv).keeps λ c ys ec=>?_,q,es,ep,hq,h2,h3,h4,h5⟩
  rw[yq (sG ec e (λ z=>nomatch z))]
  exact ec
end
section
variable {X:Cx}{EH:Ag}{B:St}{H:Hp}{s:Shared}{a:Addr}{Aa:List (Key×V)}{A:Around}{E:Ad}
def Nu {Q:Ad}(I:Inv X EH B H s) (e:Rd H a (.dK Aa)) (h:∀ t s',Inv X EH B H s'->Q (.int Aa.length t) s'):wpAny (model X.prog X.w) A (call (.builtin "len") [.ref a]) Q E s:=by
 obtain⟨z,hd,vs,rel,dd⟩:=pQ I.zC e
 refine call_len_dict hd dd (by rw[<- rel.length];rw[sizeLine_eq] at z;lia) ?_
 rw[<- rel.length]
 exact h _ _ (I.tok _)
end
def eQ (i:Expr):Prop:=∀ ov iv,subscripted i false ov iv=operate [ov,iv] (getItem ov iv)
def WK {prog:Program}{w:World}{A:Around}{E:Ad}{s:Shared}{env:Env}{value slice:Expr}{pos:Pos}{T id:String}{Q:Ad}
  (hl:typeLookup (.type T) "__getitem__"=pure (some (.builtin id))) (hs:eQ slice)
  (h:wpAny (model prog w) A (eval value env) (λ o s₁=>wpAny (model prog w) A (eval slice env) (λ i s₂=>s₂.TypeIs o T/\wpAny (model prog w) A (getItem o i) Q E s₂) E s₁) E s):
  wpAny (model prog w) A (eval (.Subscript value slice pos) env) Q E s:=by
 refine Subscript_ (Kx h (λ o s₁ h₁=>Kx h₁ (λ i s₂ h₂=>?_) λ _ _ x=>x) λ _ _ x=>x)
 obtain⟨hT,h₂⟩:=h₂
 unfold subscriptTail
 refine JC ?_
 rw[getitemInPython_of_ne hT.not_modules]
 refine JC (wpAny_specialOf hT hl ?_)
 have fin:wpAny (model prog w) A (subscripted slice false o i) (λ r s₃=>wpAny (model prog w) A (letTemporaryGo value o r >>= λ _=>pure r) Q E s₃) E s₂:=by
  rw[hs o i]
  exact wpAny_operating (Kx h₂ (λ r s₃ h₃=>JC (wpAny_letTemporaryGo (Ac h₃))) λ _ _ x=>x)
 first
  | exact Ac (JC fin)
  | exact JC (Ac (JC fin))
  | exact JC fin
def Np {X:Cx}{EH:Ag}{B:St}{H:Hp}{s:Shared}{a:Addr}{y:V}{o:Option V}(I:Inv X EH B H s) (g:rn H a y o):s.TypeIs (.ref a) "dict":=by
 rcases g with ⟨Aa,k,e,_,_⟩ | ⟨Aa,k,b,e,_,_,_⟩
 ·obtain⟨_,_,vs,_,dd⟩:=pQ I.zC e
  exact dd.typeIs
 ·obtain⟨_,_,xs,_,dd⟩:=ml I.zC e
  exact dd.typeIs
def WH (td ty:TE):TE:=fun B H Q=>td B H λ x H1=>ty B H1 λ y H2=>∃ a v,x=.ref a/\rn H2 a y (some v)/\Q v H2
def VF (td ty tv:TE):TS:=λ D B H=>tv B H λ v H1=>td B H1 λ x H2=>ty B H2 λ y H3=>∃ a H4,x=.ref a/\lC H3 a y v H4/\D.nx B H4
section
variable {X:Cx}{o i value:Expr}{pos pos':Pos}{td ty tv:TE}
def Tf (hu:X.A.units+1<cLine) (ho:PE X o td) (hi:PE X i ty) (hs:eQ i):PE X (.Subscript o i pos) (WH td ty):=by
 intro EH s B H Q I h
 refine WK PySem.F.slot_dict_getitem.lookup hs (zE (ho EH s B H _ I h) λ u s1 ⟨x,H1,I1,rx,q1⟩=>zE (hi EH s1 B H1 _ I1 q1) λ iv s2 ⟨y,H2,I2,ry,a,v,ex,g,q2⟩=>?_)
 subst ex
 obtain rfl:u=Value.ref a:=rx
 exact⟨Np I2 g,Nv hu I2 g ry λ w' s3 I3 G9=>⟨v,H2,I3,G9,q2⟩⟩
def Uy (hu:X.A.units+1<cLine) (ho:PE X o td) (hi:PE X i ty) (hv:PE X value tv) (hs:swapsWith value (some (.Subscript o i pos')) pos.line X.env=pure false):
  PS X (.Assign [.Subscript o i pos'] value pos) (VF td ty tv):=by
 intro EH s B H D I h
 refine wpAny_Assign_Subscript (zE (hv EH s B H _ I h) λ r s1 ⟨v,H1,I1,rv,q1⟩=>zE (ho EH s1 B H1 _ I1 q1) λ u s2 ⟨x,H2,I2,rx,q2⟩=>zE (hi EH s2 B H2 _ I2 q2) λ iv s3 ⟨y,H3,I3,ry,a,H4,ex,g,q3⟩=>?_) hs
 subst ex
 obtain rfl:u=Value.ref a:=rx
 exact Nt hu I3 g ry rv λ s4 I4=>⟨B,H4,I4,q3⟩
end
def Nn {P:Program}{w:World}{H:Hp}(h:Heap) (hb:sysModules<h.objs.size):yW P w H (h.push { cls:=.type "dict",data:=.dict #[] }) h.objs.size (.dK []):=
 ⟨AO _,beq_eq_false_iff_ne.mpr (Ne.symm (Aw hb)),[],.nil,Heap.DictOf.new h⟩
def WE:TE:=λ _ H Q=>∀ p,H p=none->Q (.ref p) (upd H p (.dK []))
section
variable {X:Cx}{pos:Pos}
def Td:PE X (.Dict [] [] pos) WE:=λ EH s B H Q I h=>
 wpAny_Dict_empty ⟨.ref s.heap.objs.size,_,I.laid (a:=s.heap.objs.size) (o:=.dK []) (t':=s.toks) (λ _ _ q=>Kr _ q) (Ah _) (Nn s.heap I.big),rfl,h _ (I.zC.fresh (Ah _))⟩
end
structure M2 (X:Cx) (o:Expr) (m:Str) (apos:Pos) (e f:Expr) (Ak:Pos):Prop where
 base:attributeBase o m X.env (eval o X.env)=eval o X.env
 md:((backTo Ak (starEach [e,f] X.env)).all (λ x=>!x.1)&&(backToKw Ak (keywordEach [] X.env)).all (λ x=>x.1.isSome)
  && decide (([e,f]:List Expr).length+([]:List Keyword).length+(if ([]:List Keyword).isEmpty then 0 else 1)<30))=true
 line:(apos.endLine == Ak.line)=true
 trees:backTo Ak (starEach [e,f] X.env)=[(false,eval e X.env),(false,eval f X.env)]
def Xg (H:Hp) (a:Addr):Prop:=(∃ Aa,Rd H a (.dK Aa))\/∃ Aa,Rd H a (.dT Aa)
def PN {X:Cx}{EH:Ag}{B:St}{H:Hp}{s:Shared}{a:Addr}(I:Inv X EH B H s) (d:Xg H a):
  s.TypeIs (.ref a) "dict"/\(∀ b,Value.ref a=.ref b->∃ ob,s.heap.get? b=some ob/\ob.dict=none)/\(a == sysModules)=false:=by
 rcases d with ⟨Aa,e⟩ | ⟨Aa,e⟩
 ·obtain⟨_,hd,vs,_,dd⟩:=pQ I.zC e
  refine⟨dd.typeIs,λ b q=>?_,hd⟩
  cases q
  obtain⟨ob,_,_,h1,h2,_⟩:=dd
  exact⟨ob,h1,h2.2.1⟩
 ·obtain⟨_,hd,xs,_,dd⟩:=ml I.zC e
  refine⟨dd.typeIs,λ b q=>?_,hd⟩
  cases q
  obtain⟨ob,_,_,h1,h2,_⟩:=dd
  exact⟨ob,h1,h2.2.1⟩
section
variable {X:Cx}{EH:Ag}{B:St}{H:Hp}{s:Shared}{a:Addr}{y d:V}{u r:Value}{o:Option V}{A:Around}{E:Ad}
def Nw {Q:Ad}(hu:A.units+1<cLine) (I:Inv X EH B H s) (g:rn H a y o) (ry:RelV y u) (rd:RelV d r) (h:∀ w' s',Inv X EH B H s'->RelV (o.getD d) w'->Q w' s'):
  wpAny (model X.prog X.w) A (call (.builtin "dict.get") [.ref a,u,r]) Q E s:=by
 rcases g with ⟨Aa,k,e,ey,l⟩ | ⟨Aa,k,b,e,ey,eb,l⟩
 ·subst ey
  obtain⟨z,hd,vs,rel,dd⟩:=pQ I.zC e
  refine call_meetsIn PySem.F.slot_dict_get dd.typeIs PySem.F.entry_dict_get (PySem.F.args_dict_get_3 _ _ _) (meets_dict_get_default (wK X.prog X.w) a (kU ry) hd r) ⟨_,dd.mapOf,h _ _ (I.tok _) ?_⟩
  rw[l]
  exact (rel.val k).getD rd
 ·subst ey
  cases (show u=Value.ref b from ry)
  obtain⟨z,hd,xs,rel,dd⟩:=ml I.zC e
  refine call_meetsIn PySem.F.slot_dict_get dd.typeIs PySem.F.entry_dict_get (PySem.F.args_dict_get_3 _ _ _) (meetsH_dict_get_default (tupleKind (wK X.prog X.w)) a b hd r) ⟨tupleKind_room_in1 hu,k,xs,kT I.zC eb,dd,h _ _ (I.tok _) ?_⟩
  rw[l]
  exact (rel.val k).getD rd
end
def WG (td ty tx:TE):TE:=fun B H Q=>td B H λ x H1=>∃ a,x=.ref a/\Xg H1 a/\ty B H1 λ y H2=>tx B H2 λ z H3=>∃ o,rn H3 a y o/\Q (o.getD z) H3
section
variable {X:Cx}{o e f:Expr}{apos Ak:Pos}{td ty tx:TE}
def Te (hu:X.A.units+1<cLine) (ho:PE X o td) (he:PE X e ty) (hf:PE X f tx) (m:M2 X o "get" apos e f Ak):PE X (.Call (.Attribute o "get" apos) [e,f] [] Ak) (WG td ty tx):=by
 intro EH s B H Q I h
 refine wpAny_Call_method m.base m.md m.line PySem.F.plainAttrs_dict PySem.F.slot_dict_get PySem.F.type_dict_get (zE (ho EH s B H _ I h) λ u s1 ⟨x,H1,I1,rx,a,ex,d,q1⟩=>?_)
 subst ex
 obtain rfl:u=Value.ref a:=rx
 obtain⟨t1,t2,_⟩:=PN I1 d
 refine⟨t1,t2,?_⟩
 rw[m.trees]
 refine Calls.callWith_builtin rfl (Calls.evalArgs_plain (Calls.spliced_cons (zE (he EH s1 B H1 _ I1 q1) λ iv s2 ⟨y,H2,I2,ry,q2⟩=>
  Calls.spliced_cons (zE (hf EH s2 B H2 _ I2 q2) λ fv s3 ⟨z,H3,I3,rz,ov,g,q3⟩=>Calls.spliced_nil ?_))))
 exact Nw hu I3 g ry rz λ w' s4 I4 G9=>⟨_,H3,I4,G9,q3⟩
end
end L2
namespace L3
open PySem PySem.Spec L2
open PyProof.Rows hiding St
noncomputable def vS (Aa:List (Key×D)) (k:Key):Option D:=(Aa.find? λ kv=>decide (kv.1=k)).map (·.2)
noncomputable def putD (Aa:List (Key×D)) (k:Key) (v:D):List (Key×D):=
 if (Aa.any λ kv=>decide (kv.1=k))=true then Aa.map (λ kv=>if kv.1=k then (kv.1,v) else kv) else Aa++[(k,v)]
section
variable {K:Ab}{H:Hp}
theorem yV.val:∀ {Aa:List (Key×D)}{vs:List (Key×V)},yV K H Aa vs->∀ k,(vS Aa k=none/\wu vs k=none)\/∃ d v,vS Aa k=some d/\wu vs k=some v/\zg K H d v
 | _,_,.nil,k=>.inl ⟨rfl,rfl⟩
 | (a,d)::Aa,(b,v)::vs,.cons ⟨e,r⟩ t,k=>by
  have e':a=b:=e
  subst e'
  by_cases h:a=k
  ·subst h
   exact .inr ⟨d,v,by simp[vS],by simp[wu],r⟩
  ·rcases yV.val t k with ⟨h1,h2⟩ | ⟨d',v',h1,h2,h3⟩
   ·exact .inl ⟨by simpa [vS,h] using h1,by simpa [wu,h] using h2⟩
   ·exact .inr ⟨d',v',by simpa [vS,h] using h1,by simpa [wu,h] using h2,h3⟩
theorem yV.any {Aa:List (Key×D)}{vs:List (Key×V)}(h:yV K H Aa vs) (k:Key):(Aa.any λ kv=>decide (kv.1=k))=vs.any λ kv=>decide (kv.1=k):=by
 induction h with
 | nil=>rfl
 | cons r _ ih=>rw[Bu,Bu,ih,r.1]
def yV.len {Aa:List (Key×D)}{vs:List (Key×V)}(h:yV K H Aa vs):Aa.length=vs.length:=Paired.length h
theorem yV.uZ {k:Key}{d:D}{v:V}(r:zg K H d v):∀ {Aa:List (Key×D)}{vs:List (Key×V)},yV K H Aa vs->yV K H (Aa.map λ kv=>if kv.1=k then (kv.1,d) else kv) (vs.map λ kv=>if kv.1=k then (kv.1,v) else kv)
 | _,_,.nil=>.nil
 | (a1,a2)::_,(b1,b2)::_,.cons ⟨e,q⟩ t=>by
  have e':a1=b1:=e
  subst e'
  refine .cons ?_ (yV.uZ r t)
  by_cases hk:a1=k
  ·simp[hk,r]
  ·simpa [hk] using q
theorem yV.snoc {k:Key}{d:D}{v:V}(r:zg K H d v):∀ {Aa:List (Key×D)}{vs:List (Key×V)},yV K H Aa vs->yV K H (Aa++[(k,d)]) (vs++[(k,v)])
 | _,_,.nil=>.cons ⟨rfl,r⟩ .nil
 | _,_,.cons q t=>.cons q (yV.snoc r t)
def yV.put {Aa:List (Key×D)}{vs:List (Key×V)}(h:yV K H Aa vs) (k:Key) {d:D}{v:V}(r:zg K H d v):yV K H (putD Aa k d) (putK vs k v):=by
 unfold putD putK
 rw[h.any k]
 split
 ·exact yV.uZ r h
 ·exact yV.snoc r h
end
section
variable {X:Cx}{o i e f v:Expr}{td ty tx tv:zu}{pos pos' apos Ak:Pos}
def Ys:zu:=λ _ S Q=>∀ p,S p=none->Q (.ref p) (ups S p (.yh []))
def TV:PD X (.Dict [] [] pos) Ys:=by
 refine⟨λ _ _ _ _ hq z p hp=>hq _ _ (z p hp),PE.imp Td fun B H Q hu p hp=>?_⟩
 obtain⟨Y,S,r1,r2,z⟩:=hu
 exact z p (r2.none hp) _ _ (by simp only[zg]) (.new hp _) (r2.ups (.new hp _) ⟨[],y7,.nil⟩)
def Yv (td ty:zu):zu:=fun Y S Q=>td Y S λ x S1=>ty Y S1 λ y S2=>∃ p Aa k d,x=.ref p/\y=.int k/\S2 p=some (.yh Aa)/\vS Aa (.inl k)=some d/\Q d S2
def ai {k:Nat}(hr:yt k X.A) (ho:PD X o td) (hi:PD X i ty) (hs:eQ i:=by exact λ _ _=>rfl):PD X (.Subscript o i pos) (Yv td ty):=by
 refine⟨fun Y S Q Q' hq z=>ho.mo Y S _ _ (λ x S1 z=>hi.mo Y S1 _ _ (λ y S2 ⟨p,Aa,k,d,a,b,c,e,h⟩=>⟨p,Aa,k,d,a,b,c,e,hq _ _ h⟩) z) z,PE.imp (Tf (fu hr) ho.pe hi.pe hs) fun B H Q hu=>?_⟩
 obtain⟨Y,S,r1,r2,z⟩:=hu
 refine zO.go ho.mo r1 r2 z λ x S1 w H1 h1 q1 e1 p1=>?_
 refine zO.go hi.mo (r1.ext e1) p1 h1 λ y S2 w2 H2 h2 q2 e2 p2=>?_
 obtain⟨p,Aa,k,d,rfl,rfl,c1,c2,h⟩:=h2
 simp only[zg] at q1 q2
 subst q1 q2
 obtain⟨vs,g1,g2⟩:=p2 _ _ c1
 rcases yV.val g2 (.inl k) with ⟨n1,_⟩ | ⟨d',v',n1,n2,n3⟩
 ·rw[c2] at n1;cases n1
 ·rw[c2] at n1;cases n1
  exact⟨p,v',rfl,n2▸rn.k (k:=Sum.inl k) g1,h v' H2 n3 (e1.trans e2) p2⟩
def Yu (td ty tx:zu):zu:=fun Y S Q=>td Y S λ x S1=>∃ p,x=.ref p/\(∃ Aa,S1 p=some (.yh Aa))/\ty Y S1 λ y S2=>tx Y S2 λ z S3=>∃ k Aa,y=.int k/\S3 p=some (.yh Aa)/\Q ((vS Aa (.inl k)).getD z) S3
def TX {k:Nat}(hr:yt k X.A) (ho:PD X o td) (he:PD X e ty) (hf:PD X f tx) (m:M2 X o "get" apos e f Ak:=by exact⟨rfl,rfl,rfl,rfl⟩):PD X (.Call (.Attribute o "get" apos) [e,f] [] Ak) (Yu td ty tx):=by
 refine⟨fun Y S Q Q' hq z=>ho.mo Y S _ _ (λ x S1 ⟨p,a,b,z⟩=>⟨p,a,b,he.mo Y S1 _ _ (λ y S2 z=>hf.mo Y S2 _ _ (λ w S3 ⟨k,Aa,a,b,h⟩=>⟨k,Aa,a,b,hq _ _ h⟩) z) z⟩) z,PE.imp (Te (fu hr) ho.pe he.pe hf.pe m) fun B H Q hu=>?_⟩
 obtain⟨Y,S,r1,r2,z⟩:=hu
 refine zO.go ho.mo r1 r2 z λ x S1 w H1 h1 q1 e1 p1=>?_
 obtain⟨p,rfl,⟨kvs0,c0⟩,h1⟩:=h1
 simp only[zg] at q1
 subst q1
 obtain⟨vs0,g0,_⟩:=p1 _ _ c0
 refine⟨p,rfl,.inl ⟨vs0,.inl g0⟩,?_⟩
 refine zO.go he.mo (r1.ext e1) p1 h1 λ y S2 w2 H2 h2 q2 e2 p2=>?_
 refine zO.go hf.mo ((r1.ext e1).ext e2) p2 h2 λ y3 S3 w3 H3 h3 q3 e3 p3=>?_
 obtain⟨k,Aa,rfl,c1,h⟩:=h3
 simp only[zg] at q2
 subst q2
 obtain⟨vs,g1,g2⟩:=p3 _ _ c1
 refine⟨wu vs (.inl k),rn.k (k:=Sum.inl k) g1,?_⟩
 rcases yV.val g2 (.inl k) with ⟨n1,n2⟩ | ⟨d',v',n1,n2,n3⟩
 ·rw[n1] at h;rw[n2]
  exact h _ H3 q3 ((e1.trans e2).trans e3) p3
 ·rw[n1] at h;rw[n2]
  exact h _ H3 n3 ((e1.trans e2).trans e3) p3
def Yt (td ty tv:zu):yI:=λ E Y S=>tv Y S λ v S1=>td Y S1 λ x S2=>ty Y S2 λ y S3=>∃ p Aa k,x=.ref p/\y=.int k/\S3 p=some (.yh Aa)/\Aa.length<sizeLine/\E.nx Y (ups S3 p (.yh (putD Aa (.inl k) v)))
theorem Ext.dK {H:Hp}{p:Addr}{Aa:List (Key×V)}(h:H p=some (.dK Aa)) (o:HO):Ext H (upd H p o):=
 ⟨λ b ys q=>by rw[yq (sG q h (by intro z;cases z))];exact q,λ b ob u q=>by rw[yq (sG q h (by intro z;cases z))];exact q,λ b u q=>by rw[yq (sG q h (by intro z;cases z))];exact q,λ b u q=>by rw[yq (sG q h (by intro z;cases z))];exact q⟩
def Tz {k:Nat}(hr:yt k X.A) (ho:PD X o td) (hi:PD X i ty) (hv:PD X v tv) (hs:swapsWith v (some (.Subscript o i pos')) pos.line X.env=pure false:=by rfl):vL X (.Assign [.Subscript o i pos'] v pos) (Yt td ty tv):=by
 refine⟨λ E E' Y S hE z=>hv.mo Y S _ _ (λ w S1 z=>ho.mo Y S1 _ _ (λ x S2 z=>hi.mo Y S2 _ _ (λ y S3 ⟨p,Aa,k,a,b,c,d,h⟩=>⟨p,Aa,k,a,b,c,d,hE.nx _ _ h⟩) z) z) z,PS.imp (Uy (fu hr) ho.pe hi.pe hv.pe hs) λ D B H hu=>?_⟩
 obtain⟨Y,S,r1,r2,z⟩:=hu
 refine zO.go hv.mo r1 r2 z λ w S1 w1 H1 h1 q1 e1 p1=>?_
 refine zO.go ho.mo (r1.ext e1) p1 h1 λ x S2 w2 H2 h2 q2 e2 p2=>?_
 refine zO.go hi.mo ((r1.ext e1).ext e2) p2 h2 λ y S3 w3 H3 h3 q3 e3 p3=>?_
 obtain⟨p,Aa,k,rfl,rfl,c1,c2,h⟩:=h3
 simp only[zg] at q2 q3
 subst q2 q3
 obtain⟨vs,g1,g2⟩:=p3 _ _ c1
 have e4:Ext H3 (upd H3 p (.dK (putK vs (.inl k) w1))):=.dK g1 _
 refine⟨p,_,rfl,lC.k (k:=Sum.inl k) g1 (by rw[<- g2.len];exact c2),?_⟩
 exact h B _ ((((r1.ext e1).ext e2).ext e3).ext e4) (((e1.trans e2).trans e3).trans e4) (p3.ups e4 ⟨_,y7,(yV.put g2 _ (zg.ext (e2.trans e3) w q1)).ext e4⟩)
def NW:yA X (.builtin "len") (λ xs H Q=>∃ p Aa,xs=[.ref p]/\H p=some (.dK Aa)/\Q (.int Aa.length) H):=by
 intro EH s B H xs us Q I r h
 obtain⟨p,Aa,rfl,e,q⟩:=h
 obtain⟨u,rfl,ru⟩:=vals1 r
 cases ru
 exact Nu I (.inl e) λ t s' I'=>⟨.int _,H,I',⟨_,rfl⟩,q⟩
def ZV:xB:=λ ds S Q=>∃ p Aa,ds=[.ref p]/\S p=some (.yh Aa)/\Q (.int Aa.length) S
def TU {es:List Expr}{tA:yi}{p:Pos}(hm:X.mg "len"=none) (ha:xm X (e::es) tA) (hg:Gl X "len":=by rfl) (he:starEach (e::es) X.env=(false,eval e X.env)::starEach es X.env:=by rfl) (Aq:(backTo pos (starEach es X.env)).any (·.1)=false:=by rfl):PD X (.Call (.Name "len" p) (e::es) [] pos) (x9 ZV tA):=
 tp (u_ NW hg hm PySem.boot_len ha.pa (by decide) (by decide) he Aq) (λ _ _ _ _ hq ⟨p,Aa,a,b,h⟩=>⟨p,Aa,a,b,hq _ _ h⟩) (λ xs ds H S Q h0 h2 ⟨p,Aa,a,b,h⟩=>by
  subst a
  obtain⟨x,rfl,h1⟩:=h0.one
  simp only[zg] at h1
  subst h1
  obtain⟨vs,g1,g2⟩:=h2 _ _ b
  refine⟨p,vs,rfl,g1,?_⟩
  rw[<- g2.len]
  exact h _ H (by simp only[zg]) (.refl H) h2) ha.mo
end
end L3
namespace L3
open PySem L2
section
variable {S S':SS}
mutual
theorem Sn.sx (h:Sx S S'):∀ (t:T) {d:D},Sn S t d->Sn S' t d
 | .zr,d,q=>by simpa only [Sn] using q
 | .bl b,d,q=>by simpa only [Sn] using q
 | .int i,d,q=>by simpa only [Sn] using q
 | .str x,d,q=>by simpa only [Sn] using q
 | .tup ts,d,q=>by
  simp only[Sn] at q ⊢
  obtain⟨ds,q1,q2⟩:=q
  exact⟨ds,q1,zk.sx h ts q2⟩
 | .lst ts,d,q=>by
  simp only[Sn] at q ⊢
  obtain⟨ds,q1,q2⟩:=q
  refine⟨ds,?_,zk.sx h ts q2⟩
  rcases q1 with q1 | ⟨a,q1,q3⟩
  ·exact .inl q1
  ·exact .inr ⟨a,q1,h _ _ q3⟩
 | .err _ _ t,d,q=>by
  simp only[Sn] at q ⊢
  obtain⟨x,q1,q2⟩:=q
  exact⟨x,q1,Sn.sx h t q2⟩
 | .xf,d,q=>by
  simp only[Sn] at q ⊢
  obtain⟨a,Aa,q1,q2⟩:=q
  exact⟨a,Aa,q1,h _ _ q2⟩
theorem zk.sx (h:Sx S S'):∀ (ts:List T) {ds:List D},zk S ts ds->zk S' ts ds
 | [],ds,q=>by simpa only [zk] using q
 | t::ts,ds,q=>by
  simp only[zk] at q ⊢
  obtain⟨c,cs,q1,q2,q3⟩:=q
  exact⟨c,cs,q1,Sn.sx h t q2,zk.sx h ts q3⟩
end
def zk.nil:zk S [] []:=by simp only[zk]
def zk.cons {t:T}{ts:List T}{d:D}{ds:List D}(h:Sn S t d) (h':zk S ts ds):zk S (t::ts) (d::ds):=by
 simp only[zk];exact⟨d,ds,rfl,h,h'⟩
theorem zk.append:∀ {ts us:List T}{ds es:List D},zk S ts ds->zk S us es->zk S (ts++us) (ds++es)
 | [],us,ds,es,h,h'=>by simp only[zk] at h;subst h;simpa using h'
 | t::ts,us,ds,es,h,h'=>by
  simp only[zk] at h
  obtain⟨c,cs,rfl,h1,h2⟩:=h
  exact zk.cons h1 (zk.append h2 h')
theorem zk.fF:∀ {ts:List T}{ds:List D}{i:Nat}{t:T},zk S ts ds->ts[i]?=some t->∃ d,ds[i]?=some d/\Sn S t d
 | [],_,i,t,_,e=>by simp at e
 | u::ts,ds,i,t,h,e=>by
  simp only[zk] at h
  obtain⟨c,cs,rfl,h1,h2⟩:=h
  cases i with
  | zero=>simp at e;subst e;exact⟨c,rfl,h1⟩
  | succ i=>
   obtain⟨y,e1,e2⟩:=zk.fF (i:=i) h2 (by simpa using e)
   exact⟨y,by simpa using e1,e2⟩
theorem zk.fH:∀ {ts:List T}{ds:List D}{i:Nat}{d:D},zk S ts ds->ds[i]?=some d->∃ t,ts[i]?=some t/\Sn S t d
 | [],ds,i,t,h,e=>by simp only[zk] at h;subst h;simp at e
 | u::ts,ds,i,t,h,e=>by
  simp only[zk] at h
  obtain⟨c,cs,rfl,h1,h2⟩:=h
  cases i with
  | zero=>simp at e;subst e;exact⟨u,rfl,h1⟩
  | succ i=>
   obtain⟨y,e1,e2⟩:=zk.fH (i:=i) h2 (by simpa using e)
   exact⟨y,by simpa using e1,e2⟩
def zk.len {ts:List T}{ds:List D}(h:zk S ts ds):ds.length=ts.length:=(L3.zk.length h).symm
theorem zk.at {ts:List T}{ds:List D}{i:Int}{t:T}(h:zk S ts ds) (e:L2.zP ts i=some t):∃ d,L2.zP ds i=some d/\Sn S t d:=by
 unfold L2.zP at e ⊢
 rw[h.len]
 cases q:L2.wZ ts.length i with
 | none=>rw[q] at e;cases e
 | some j=>
  rw[q] at e
  exact h.fF e
theorem zk.cY:∀ {ts:List T}{ds:List D}{t:T}{d:D}(i:Nat),zk S ts ds->Sn S t d->zk S (ts.set i t) (ds.set i d)
 | [],ds,t,d,i,h,_=>by simp only[zk] at h;subst h;simpa using zk.nil
 | u::ts,ds,t,d,0,h,hd=>by
  simp only[zk] at h
  obtain⟨c,cs,rfl,h1,h2⟩:=h
  exact zk.cons hd h2
 | u::ts,ds,t,d,i+1,h,hd=>by
  simp only[zk] at h
  obtain⟨c,cs,rfl,h1,h2⟩:=h
  exact zk.cons h1 (zk.cY i h2 hd)
theorem zk.take':∀ {ts:List T}{ds:List D}(n:Nat),zk S ts ds->zk S (ts.take n) (ds.take n)
 | ts,ds,0,h=>by simpa using zk.nil
 | [],ds,n+1,h=>by simp only[zk] at h;subst h;simpa using zk.nil
 | t::ts,ds,n+1,h=>by
  simp only[zk] at h
  obtain⟨c,cs,rfl,h1,h2⟩:=h
  exact zk.cons h1 (zk.take' n h2)
theorem zk.drop':∀ {ts:List T}{ds:List D}(n:Nat),zk S ts ds->zk S (ts.drop n) (ds.drop n)
 | ts,ds,0,h=>h
 | [],ds,n+1,h=>by simp only[zk] at h;subst h;simpa using zk.nil
 | t::ts,ds,n+1,h=>by
  simp only[zk] at h
  obtain⟨c,cs,rfl,h1,h2⟩:=h
  exact zk.drop' n h2
def zk.empty {ts:List T}{ds:List D}(h:zk S ts ds):ds.isEmpty=ts.isEmpty:=by
 have:=h.len
 cases ds <;> cases ts <;> simp_all
theorem zk.YD:∀ {bs:List Bool}{ds:List D},zk S (bs.map T.bl) ds->ds=bs.map D.bl
 | [],ds,h=>by simpa only [Bb,zk] using h
 | b::bs,ds,h=>by
  rw[Au] at h
  simp only[zk,Sn] at h
  obtain⟨c,cs,rfl,rfl,h3⟩:=h
  rw[zk.YD h3];rfl
end
end L3
namespace L5
open PySem L2 L3
noncomputable def zR (S:SS) (Z:Addr->Prop):SS:=open Classical in λ a=>if Z a then none else S a
section
variable {S S':SS}{Z Z':Addr->Prop}{a p:Addr}
def uf (h:¬ Z a):zR S Z a=S a:=if_neg h
def fx (h:Z a):zR S Z a=none:=if_pos h
def tG {o:O}(h:zR S Z a=some o):¬ Z a/\S a=some o:=by
 by_cases z:Z a
 ·rw[fx z] at h;cases h
 ·rw[uf z] at h;exact⟨z,h⟩
def jd (S:SS) (Z:Addr->Prop):Sx (zR S Z) S:=λ _ _ h=>(tG h).2
def wN (h:Sx S S'):Sx (zR S Z) (zR S' Z):=λ b o q=>by
 obtain⟨q1,q2⟩:=tG q
 rw[uf q1];exact h _ _ q2
def tH (h:∀ a,Z' a->Z a):Sx (zR S Z) (zR S Z'):=λ b o q=>by
 obtain⟨q1,q2⟩:=tG q
 rw[uf (λ z=>q1 (h _ z))];exact q2
def pK (h:Sx S S') (hp:S p=none):Sx (zR S Z) (zR S' λ a=>Z a\/a=p):=λ b o q=>by
 obtain⟨q1,q2⟩:=tG q
 rw[uf]
 ·exact h _ _ q2
 ·rintro (z | z)
  ·exact q1 z
  ·subst z;rw[hp] at q2;cases q2
def Oe {o:O}(h:Z p):zR (ups S p o) Z=zR S Z:=by
 funext b
 by_cases z:Z b
 ·rw[fx z,fx z]
 ·rw[uf z,uf z,t_ (λ e=>z (by rw[e];exact h))]
end
inductive C where
 | lst (ts:List T) | yh (Aa:List (Key×T))
noncomputable def yz (S:SS):List (Key×T)->List (Key×D)->Prop
 | [],l=>l=[]
 | (k,t)::r,l=>∃ d m,l=(k,d)::m/\Sn S t d/\yz S r m
theorem yz.sx {S S':SS}(h:Sx S S'):∀ {a:List (Key×T)}{b:List (Key×D)},yz S a b->yz S' a b
 | [],_,q=>q
 | (k,t)::r,_,q=>by
  obtain⟨d,m,q1,q2,q3⟩:=q
  exact⟨d,m,q1,Sn.sx h t q2,yz.sx h q3⟩
noncomputable def tU (S:SS):C->O->Prop
 | .lst ts,.lst ds=>zk S ts ds
 | .yh a,.yh b=>yz S a b
 | _,_=>False
theorem tU.sx {S S':SS}(h:Sx S S'):∀ {c:C}{o:O},tU S c o->tU S' c o
 | .lst ts,.lst ds,q=>zk.sx h ts q
 | .yh a,.yh b,q=>yz.sx h q
inductive W where
 | im (t:T) | own (c:C)
abbrev Ev:=List (Option W)
structure ER (S:SS) (Z:Addr->Prop) (Y:yj) (J:Ev):Prop where
 zd:∀ a,Z a->S a≠none
 im:∀ (i:Nat) t,J[i]?=some (some (.im t))->∃ d,Y[i]?=some (some d)/\Sn (zR S Z) t d
 ow:∀ (i:Nat) c,J[i]?=some (some (.own c))->∃ p o,Y[i]?=some (some (.ref p))/\S p=some o/\tU (zR S Z) c o/\Z p
def Vw (S:SS) (Z:Addr->Prop) (y:T) (d:D):Prop:=Sn (zR S Z) y d\/∃ ts p ds,y=.lst ts/\d=.ref p/\S p=some (.lst ds)/\zk (zR S Z) ts ds/\Z p
abbrev Rk:=SS->SS->(Addr->Prop)->T->D->Prop
def YW:Rk:=λ _ S' Z y d=>Vw S' Z y d
def xO:Rk:=λ _ S' Z y d=>Sn (zR S' Z) y d
def zF:Rk:=λ S S' Z y d=>Sn (zR S' Z) y d/\∀ ts,y=.lst ts->∃ p ds,d=.ref p/\S p=none/\S' p=some (.lst ds)/\zk (zR S' λ a=>Z a\/a=p) ts ds
class Cl (R:Rk):Prop where
 cl:∀ {S S1 S':SS}{Z:Addr->Prop}{y:T}{d:D},Sx S S1->R S1 S' Z y d->R S S' Z y d
 of:∀ {S S':SS}{Z:Addr->Prop}{y:T}{d:D},(∀ ts,y≠.lst ts)->Sn (zR S' Z) y d->R S S' Z y d
instance:Cl YW:=⟨λ _ h=>h,λ _ h=>.inl h⟩
instance:Cl xO:=⟨λ _ h=>h,λ _ h=>h⟩
instance:Cl zF:=⟨λ s h=>⟨h.1,λ ts e=>by
 obtain⟨p,ds,h1,h2,h3⟩:=h.2 ts e
 exact⟨p,ds,h1,s.none h2,h3⟩⟩,λ n h=>⟨h,λ ts e=>absurd e (n ts)⟩⟩
section
variable {S S':SS}{Z:Addr->Prop}{Y:yj}{J:Ev}{y:T}{d:D}
def ER.grow (h:ER S Z Y J) (s:Sx S S'):ER S' Z Y J:=
 ⟨λ a z q=>h.zd a z (s.none q),λ i t e=>by
  obtain⟨d,h1,h2⟩:=h.im i t e
  exact⟨d,h1,Sn.sx (wN s) t h2⟩,λ i ts e=>by
  obtain⟨p,ds,h1,h2,h3,h4⟩:=h.ow i ts e
  exact⟨p,ds,h1,s _ _ h2,tU.sx (wN s) h3,h4⟩⟩
def Vw.grow (h:Vw S Z y d) (s:Sx S S'):Vw S' Z y d:=by
 rcases h with h | ⟨ts,p,ds,h1,h2,h3,h4,h5⟩
 ·exact .inl (Sn.sx (wN s) y h)
 ·exact .inr ⟨ts,p,ds,h1,h2,s _ _ h3,zk.sx (wN s) ts h4,h5⟩
def Vw.sn (h:Vw S Z y d):Sn S y d:=by
 rcases h with h | ⟨ts,p,ds,rfl,rfl,h3,h4,_⟩
 ·exact Sn.sx (jd S Z) y h
 ·simp only[Sn]
  exact⟨ds,.inr ⟨p,rfl,h3⟩,zk.sx (jd S Z) ts h4⟩
theorem Vw.zr (h:Vw S Z .zr d):d=.zr:=by
 rcases h with h | ⟨_,_,_,h,_⟩
 ·simpa only [Sn] using h
 ·cases h
theorem Vw.bl {b:Bool}(h:Vw S Z (.bl b) d):d=.bl b:=by
 rcases h with h | ⟨_,_,_,h,_⟩
 ·simpa only [Sn] using h
 ·cases h
theorem Vw.int {b:Int}(h:Vw S Z (.int b) d):d=.int b:=by
 rcases h with h | ⟨_,_,_,h,_⟩
 ·simpa only [Sn] using h
 ·cases h
theorem Vw.str {b:Str}(h:Vw S Z (.str b) d):d=.str b:=by
 rcases h with h | ⟨_,_,_,h,_⟩
 ·simpa only [Sn] using h
 ·cases h
theorem Vw.tup {ts:List T}(h:Vw S Z (.tup ts) d):∃ ds,d=.tup ds/\zk (zR S Z) ts ds:=by
 rcases h with h | ⟨_,_,_,h,_⟩
 ·simpa only [Sn] using h
 ·cases h
theorem Vw.lst {ts:List T}(h:Vw S Z (.lst ts) d):∃ ds,(d=.xE ds\/∃ a,d=.ref a/\S a=some (.lst ds))/\zk (zR S Z) ts ds:=by
 rcases h with h | ⟨us,p,ds,h1,h2,h3,h4,_⟩
 ·simp only[Sn] at h
  obtain⟨ds,h1,h2⟩:=h
  refine⟨ds,?_,h2⟩
  rcases h1 with h1 | ⟨a,h1,h3⟩
  ·exact .inl h1.1
  ·exact .inr ⟨a,h1,(tG h3).2⟩
 ·cases h1
  exact⟨ds,.inr ⟨p,h2,h3⟩,h4⟩
noncomputable def xX:T->Option (List T)
 | .tup ts=>some ts
 | .lst ts=>some ts
 | _=>none
@[simp] theorem Vl (ts:List T):xX (.tup ts)=some ts:=rfl
@[simp] theorem cZ (ts:List T):xX (.lst ts)=some ts:=rfl
def Vw.seq {ts:List T}(h:Vw S Z y d) (e:xX y=some ts):∃ ds,zQ d S=some ds/\zk (zR S Z) ts ds:=by
 cases y with
 | tup us=>cases e;obtain⟨ds,rfl,h2⟩:=h.tup;exact⟨ds,rfl,h2⟩
 | lst us=>
  cases e
  obtain⟨ds,h1 | ⟨a,rfl,h1⟩,h2⟩:=h.lst
  ·subst h1;exact⟨ds,rfl,h2⟩
  ·exact⟨ds,by unfold zQ;dsimp only;rw[h1],h2⟩
 | _=>cases e
theorem Vw.xf (h:Vw S Z .xf d):∃ a Aa,(d=.ref a/\Aa=[])/\S a=some (.yh Aa):=by
 rcases h with h | ⟨_,_,_,h,_⟩
 ·simp only[Sn] at h
  obtain⟨a,Aa,h1,h2⟩:=h
  exact⟨a,Aa,h1,(tG h2).2⟩
 ·cases h
def cQ:Sn S .zr .zr:=by simp only[Sn]
def wV {b:Bool}:Sn S (.bl b) (.bl b):=by simp only[Sn]
def wy {i:Int}:Sn S (.int i) (.int i):=by simp only[Sn]
def cP {x:Str}:Sn S (.str x) (.str x):=by simp only[Sn]
def qp {ts:List T}{ds:List D}(h:zk S ts ds):Sn S (.tup ts) (.tup ds):=by simp only[Sn];exact⟨ds,rfl,h⟩
def su {ts:List T}{ds:List D}{p:Addr}(hz:∀ a,Z a->S a≠none) (hp:S p=none) (h:zk (zR S Z) ts ds):zF S (ups S p (.lst ds)) Z (.lst ts) (.ref p):=by
 have nz:¬ Z p:=λ z=>hz p z hp
 have s:Sx S (ups S p (.lst ds)):=.new hp _
 refine⟨?_,λ us e=>?_⟩
 ·simp only[Sn]
  exact⟨ds,.inr ⟨p,rfl,by rw[uf nz,rq]⟩,zk.sx (wN s) ts h⟩
 ·cases e
  exact⟨p,ds,rfl,hp,rq,zk.sx (pK s hp) ts h⟩
end
def xx (R:Rk) (f:Ev->Option T) (t:zu):Prop:=∀ S Z Y J y Q,ER S Z Y J->f J=some y->(∀ d S',Sx S S'->R S S' Z y d->Q d S')->t Y S Q
abbrev vM:=xx xO
abbrev yv:=xx YW
abbrev xy:=xx zF
def xx.imp {R R':Rk}{f:Ev->Option T}{t:zu}(h:xx R f t) (i:∀ S S' Z y d,R S S' Z y d->R' S S' Z y d):xx R' f t:=λ S Z Y J y Q hE e hq=>h S Z Y J y Q hE e λ d S' s r=>hq d S' s (i _ _ _ _ _ r)
def xx.er {f:Ev->Option T}{t:zu}(h:vM f t):yv f t:=h.imp λ _ _ _ _ _ r=>.inl r
def xx.fe {f:Ev->Option T}{t:zu}(h:xy f t):vM f t:=h.imp λ _ _ _ _ _ r=>r.1
def xx.fr {f:Ev->Option T}{t:zu}(h:xy f t):yv f t:=h.fe.er
@[simp] noncomputable def zp (i:Nat):Ev->Option T:=fun J=>match J[i]? with
 | some (some (.im t))=>some t
 | _=>none
@[simp] noncomputable def zf (i:Nat):Ev->Option T:=fun J=>match J[i]? with
 | some (some (.im t))=>some t
 | some (some (.own (.lst ts)))=>some (.lst ts)
 | _=>none
@[simp] noncomputable def cS (t:T):Ev->Option T:=λ _=>some t
@[simp] abbrev cI (i:Int):Ev->Option T:=cS (.int i)
def a9 (i:Nat):vM (zp i) (y6 i):=λ S Z Y J y Q hE e hq=>by
 unfold zp at e
 split at e
 ·rename_i t h
  cases e
  obtain⟨d,h1,h2⟩:=hE.im i _ h
  unfold y6;rw[h1]
  exact hq d S (.refl S) h2
 ·cases e
def vy (i:Nat):yv (zf i) (y6 i):=λ S Z Y J y Q hE e hq=>by
 unfold zf at e
 split at e
 ·rename_i t h
  cases e
  obtain⟨d,h1,h2⟩:=hE.im i _ h
  unfold y6;rw[h1]
  exact hq d S (.refl S) (.inl h2)
 ·rename_i ts h
  cases e
  obtain⟨p,o,h1,h2,h3,h4⟩:=hE.ow i _ h
  unfold y6;rw[h1]
  cases o with
  | yh _=>exact h3.elim
  | lst ds=>exact hq _ S (.refl S) (.inr ⟨ts,p,ds,rfl,rfl,h2,h3,h4⟩)
 ·cases e
def xi (i:Int):xy (cS (.int i)) (dC (.int i)):=λ S Z Y J y Q hE e hq=>by cases e;exact hq _ S (.refl S) (Cl.of (λ _=>nofun) wy)
def Qu (i:Bool):xy (cS (.bl i)) (dC (.bl i)):=λ S Z Y J y Q hE e hq=>by cases e;exact hq _ S (.refl S) (Cl.of (λ _=>nofun) wV)
def R3 (i:Str):xy (cS (.str i)) (dC (.str i)):=λ S Z Y J y Q hE e hq=>by cases e;exact hq _ S (.refl S) (Cl.of (λ _=>nofun) cP)
def RB:xy (cS .zr) (dC .zr):=λ S Z Y J y Q hE e hq=>by cases e;exact hq _ S (.refl S) (Cl.of (λ _=>nofun) cQ)
@[simp] noncomputable def ze (f:T->T->Option T) (fa fb:Ev->Option T):Ev->Option T:=fun J=>(fa J).bind λ x=>(fb J).bind λ y=>f x y
def Good2 (R:Rk) (f:T->T->Option T) (g:yD):Prop:=∀ S Z x y z d e Q,(∀ a,Z a->S a≠none)->Vw S Z x d->Vw S Z y e->f x y=some z->(∀ c S',Sx S S'->R S S' Z z c->Q c S')->g d e S Q
def wI {R:Rk} [Cl R] {f:T->T->Option T}{g:yD}{fa fb:Ev->Option T}{ta tb:zu}(hg:Good2 R f g) (ha:yv fa ta) (hb:yv fb tb):xx R (ze f fa fb) (yn g ta tb):=λ S Z Y J y Q hE e hq=>by
 unfold ze at e
 obtain⟨x,e1,e⟩:=Ai.mp e
 obtain⟨z,e2,e⟩:=Ai.mp e
 refine ha S Z Y J x _ hE e1 λ d S1 s1 r1=>?_
 refine hb S1 Z Y J z _ (hE.grow s1) e2 λ d2 S2 s2 r2=>?_
 exact hg S2 Z x z y d d2 Q ((hE.grow (s1.trans s2)).zd) (Vw.grow r1 s2) r2 e λ c S' s r=>hq c S' ((s1.trans s2).trans s) (Cl.cl (s1.trans s2) r)
@[simp] noncomputable def i2 (g:Int->Int->T):T->T->Option T
 | .int i,.int j=>some (g i j)
 | _,_=>none
instance {i j:Int}:Decidable (vQ i j):=by unfold vQ;infer_instance
instance {i j:Int}:Decidable (wq i j):=by unfold wq;infer_instance
instance {i j:Int}:Decidable (ql i j):=by unfold ql;infer_instance
@[simp] noncomputable def qC (C:Int->Int->Prop) [∀ i j,Decidable (C i j)] (g:Int->Int->T):T->T->Option T
 | .int i,.int j=>if C i j then some (g i j) else none
 | _,_=>none
def jf {g:Int->Int->T}{g':Int->Int->D}(h:∀ i j S,Sn S (g i j) (g' i j)) (n:∀ i j ts,g i j≠.lst ts):Good2 zF (i2 g) (xc g'):=λ S Z x y z d e Q hz hx hy ef hq=>by
 unfold i2 at ef
 split at ef
 ·cases ef
  cases hx.int;cases hy.int
  exact hq _ S (.refl S) (Cl.of (n _ _) (h _ _ _))
 ·cases ef
def nY {C:Int->Int->Prop} [∀ i j,Decidable (C i j)] {g:Int->Int->T}{g':Int->Int->D}(h:∀ i j S,Sn S (g i j) (g' i j)) (n:∀ i j ts,g i j≠.lst ts):Good2 zF (qC C g) (fI C g'):=λ S Z x y z d e Q hz hx hy ef hq=>by
 unfold qC at ef
 split at ef
 ·split at ef
  ·rename_i hh
   cases ef
   cases hx.int;cases hy.int
   exact⟨hh,hq _ S (.refl S) (Cl.of (n _ _) (h _ _ _))⟩
  ·cases ef
 ·cases ef
@[simp] def vU:T->T->Option T:=i2 λ i j=>.int (i-j)
@[simp] def y4:T->T->Option T:=qC (λ _ j=>0<j) λ i j=>.int (i%j)
@[simp] def vB:T->T->Option T:=qC wq λ i j=>.int (i/j)
@[simp] def xF:T->T->Option T:=qC ql λ i j=>.int (i ^ j.toNat)
@[simp] def sI:T->T->Option T:=i2 λ i j=>.bl (decide (i<=j))
@[simp] def f7:T->T->Option T:=i2 λ i j=>.bl (decide (j<i))
@[simp] def n_:T->T->Option T:=i2 λ i j=>.bl (decide (j<=i))
section
variable {fa fb:Ev->Option T}{ta tb:zu}
def R0 (ha:yv fa ta) (hb:yv fb tb):xy (ze vU fa fb) (yn (xc λ i j=>.int (i-j)) ta tb):=wI (jf (λ _ _ _=>wy) λ _ _ _=>nofun) ha hb
def nF (ha:yv fa ta) (hb:yv fb tb):xy (ze y4 fa fb) (yn (fI (λ _ j=>0<j) λ i j=>.int (i%j)) ta tb):=wI (nY (λ _ _ _=>wy) λ _ _ _=>nofun) ha hb
def Qd (ha:yv fa ta) (hb:yv fb tb):xy (ze vB fa fb) (yn (fI wq λ i j=>.int (i/j)) ta tb):=wI (nY (λ _ _ _=>wy) λ _ _ _=>nofun) ha hb
def rL (ha:yv fa ta) (hb:yv fb tb):xy (ze xF fa fb) (yn (fI ql λ i j=>.int (i ^ j.toNat)) ta tb):=wI (nY (λ _ _ _=>wy) λ _ _ _=>nofun) ha hb
end
def z_ (neg:Bool):T->T->Option T:=λ x y=>if dep x<=60/\dep y<=60 then some (.bl (cond neg (!eqT x y) (eqT x y))) else none
def uB (neg:Bool):T->T->Option T:=λ x y=>match xX y with
 | some ts=>if dep x<=60/\xK ts<=60 then some (.bl (cond neg (!(ts.any λ t=>eqT t x)) (ts.any λ t=>eqT t x))) else none
 | none=>none
def ZH {neg:Bool}:Good2 zF (z_ neg) (vh neg):=λ S Z x y z d e Q hz hx hy ef hq=>by
 unfold z_ at ef
 split at ef
 ·rename_i h
  cases ef
  exact⟨x,y,hx.sn,hy.sn,h.1,h.2,hq _ S (.refl S) (Cl.of (λ _=>nofun) wV)⟩
 ·cases ef
def O2 {neg:Bool}:Good2 zF (uB neg) (uI neg):=λ S Z x y z d e Q hz hx hy ef hq=>by
 unfold uB at ef
 split at ef
 ·rename_i ts ht
  split at ef
  ·rename_i h
   cases ef
   obtain⟨ds,h1,h2⟩:=hy.seq ht
   exact⟨x,ts,ds,hx.sn,h1,zk.sx (jd S Z) ts h2,h.1,h.2,hq _ S (.refl S) (Cl.of (λ _=>nofun) wV)⟩
  ·cases ef
 ·cases ef
@[simp] def zo:T->T->Option T:=λ x y=>match xX x,y with
 | some ts,.int i=>L2.zP ts i
 | _,_=>none
def ZF:Good2 xO zo w9:=λ S Z x y z d e Q hz hx hy ef hq=>by
 unfold zo at ef
 split at ef
 ·rename_i ts i ht
  cases hy.int
  obtain⟨ds,h1,h2⟩:=hx.seq ht
  obtain⟨c,h3,h4⟩:=h2.at ef
  unfold zQ at h1
  split at h1
  ·cases h1;exact OS h3 (hq c S (.refl S) h4)
  ·cases h1;exact OT h3 (hq c S (.refl S) h4)
  ·split at h1
   ·rename_i q
    cases h1
    exact OU q h3 (hq c S (.refl S) h4)
   ·cases h1
  ·cases h1
 ·cases ef
@[simp] noncomputable def yo:T->T->Option T
 | .int i,.int j=>some (.int (i+j))
 | .str i,.str j=>if i.length+j.length<=sizeLine then some (.str (i++j)) else none
 | .lst ts,.lst us=>if ts.length+us.length<=sizeLine then some (.lst (ts++us)) else none
 | .tup ts,.tup us=>if ts.length+us.length<=sizeLine then some (.tup (ts++us)) else none
 | _,_=>none
def uj:yD:=λ x y S Q=>match x,y with
 | .int i,.int j=>Q (.int (i+j)) S
 | .str i,.str j=>i.length+j.length<=sizeLine/\Q (.str (i++j)) S
 | .tup ds,.tup es=>ds.length+es.length<=sizeLine/\Q (.tup (ds++es)) S
 | .zr,_=>False
 | .bl _,_=>False
 | .int _,_=>False
 | .str _,_=>False
 | .tup _,_=>False
 | x,y=>match zQ x S,zQ y S with
  | some ds,some es=>(∀ ts,y≠.tup ts)/\ds.length+es.length<=sizeLine/\∀ r,S r=none->Q (.ref r) (ups S r (.lst (ds++es)))
  | _,_=>False
def good_add:Good2 zF yo uj:=λ S Z x y z d e Q hz hx hy ef hq=>by
 unfold yo at ef
 split at ef
 ·cases ef;cases hx.int;cases hy.int
  exact hq _ S (.refl S) (Cl.of (λ _=>nofun) wy)
 ·split at ef
  ·rename_i h
   cases ef;cases hx.str;cases hy.str
   exact⟨h,hq _ S (.refl S) (Cl.of (λ _=>nofun) cP)⟩
  ·cases ef
 ·split at ef
  ·rename_i h
   cases ef
   obtain⟨ds,h1,h2⟩:=hx.seq rfl
   obtain⟨es,h3,h4⟩:=hy.seq rfl
   have nt:∀ ts,e≠.tup ts:=by
    obtain⟨_,q | ⟨_,q,_⟩,_⟩:=hy.lst <;> subst q <;> exact λ _=>nofun
   have key:(∀ ts,e≠.tup ts)/\ds.length+es.length<=sizeLine/\∀ r,S r=none->Q (.ref r) (ups S r (.lst (ds++es))):=
    ⟨nt,by rw[h2.len,h4.len];exact h,λ r hr=>hq _ _ (.new hr _) (su hz hr (h2.append h4))⟩
   obtain⟨_,q | ⟨a,q,_⟩,_⟩:=hx.lst
   ·subst q;unfold uj;dsimp only;rw[h1,h3];exact key
   ·subst q;unfold uj;dsimp only;rw[h1,h3];exact key
  ·cases ef
 ·split at ef
  ·rename_i h
   cases ef
   obtain⟨ds,rfl,h2⟩:=hx.tup
   obtain⟨es,rfl,h4⟩:=hy.tup
   exact⟨by rw[h2.len,h4.len];exact h,hq _ S (.refl S) (Cl.of (λ _=>nofun) (qp (h2.append h4)))⟩
  ·cases ef
 ·cases ef
def vc (f:Ev->Option Bool) (t:y9):Prop:=∀ S Z Y J y Q,ER S Z Y J->f J=some y->(∀ S',Sx S S'->Q y S')->t Y S Q
@[simp] noncomputable def yE (f:Ev->Option T):Ev->Option Bool:=fun J=>(f J).bind λ x=>match x with
 | .bl b=>some b
 | _=>none
@[simp] noncomputable def rA:T->Option Bool
 | .zr=>some false
 | .bl b=>some b
 | .int i=>some (i != 0)
 | .str x=>if x.length<=sizeLine then some ((x.length:Int) != 0) else none
 | .tup ts=>some (!ts.isEmpty)
 | .lst ts=>some (!ts.isEmpty)
 | .xf=>none
 | .err _ _ _=>none
@[simp] def yw (f:Ev->Option T):Ev->Option Bool:=fun J=>(f J).bind rA
@[simp] noncomputable def Ye (f g:Ev->Option Bool):Ev->Option Bool:=fun J=>(f J).bind λ b=>if b=true then g J else some false
@[simp] noncomputable def uJ (f g:Ev->Option Bool):Ev->Option Bool:=fun J=>(f J).bind λ b=>if b=true then some true else g J
@[simp] noncomputable def xv (f:Ev->Option Bool):Ev->Option Bool:=fun J=>(f J).map (!·)
section
variable {f g:Ev->Option T}{t u:zu}{fb gb:Ev->Option Bool}{tb ub:y9}{R:Rk}
def aA (h:yv f t):vc (yE f) (vk t):=λ S Z Y J y Q hE e hq=>by
 obtain⟨x,e1,e2⟩:=Ai.mp e
 refine h S Z Y J x _ hE e1 λ d S1 s1 r1=>?_
 split at e2
 ·cases e2
  cases Vw.bl r1
  exact hq S1 s1
 ·cases e2
def Rz (h:yv f t):vc (yw f) (Yd t):=λ S Z Y J y Q hE e hq=>by
 obtain⟨x,e1,e2⟩:=Ai.mp e
 refine h S Z Y J x _ hE e1 λ d S1 s1 r1=>?_
 cases x with
 | zr=>cases Vw.zr r1;cases e2;exact hq S1 s1
 | bl b=>cases Vw.bl r1;cases e2;exact hq S1 s1
 | int b=>cases Vw.int r1;cases e2;exact hq S1 s1
 | str b=>
  cases Vw.str r1
  simp only[rA] at e2
  split at e2
  ·rename_i hh
   cases e2;exact⟨hh,hq S1 s1⟩
  ·cases e2
 | tup ts=>
  obtain⟨ds,rfl,h2⟩:=Vw.tup r1
  cases e2
  show Q (!ds.isEmpty) S1
  rw[h2.empty];exact hq S1 s1
 | lst ts=>
  obtain⟨ds,rfl | ⟨a,rfl,h1⟩,h2⟩:=Vw.lst r1
  ·cases e2
   show Q (!ds.isEmpty) S1
   rw[h2.empty];exact hq S1 s1
  ·cases e2
   refine Ws h1 ?_
   rw[h2.empty];exact hq S1 s1
 | _=>cases e2
def Qi (h:vc fb tb) (h':vc gb ub):vc (Ye fb gb) (mj tb ub):=λ S Z Y J y Q hE e hq=>by
 obtain⟨b,e1,e2⟩:=Ai.mp e
 refine h S Z Y J b _ hE e1 λ S1 s1=>?_
 split at e2
 ·rename_i hb;rw[if_pos hb]
  exact h' S1 Z Y J y _ (hE.grow s1) e2 λ S2 s2=>hq S2 (s1.trans s2)
 ·rename_i hb;rw[if_neg hb];cases e2;exact hq S1 s1
def Qe (h:vc fb tb) (h':vc gb ub):vc (uJ fb gb) (mh tb ub):=λ S Z Y J y Q hE e hq=>by
 obtain⟨b,e1,e2⟩:=Ai.mp e
 refine h S Z Y J b _ hE e1 λ S1 s1=>?_
 split at e2
 ·rename_i hb;rw[if_pos hb];cases e2;exact hq S1 s1
 ·rename_i hb;rw[if_neg hb]
  exact h' S1 Z Y J y _ (hE.grow s1) e2 λ S2 s2=>hq S2 (s1.trans s2)
def Qg (h:vc fb tb):vc (xv fb) (mi tb):=λ S Z Y J y Q hE e hq=>by
 unfold xv at e
 obtain⟨b,e1,rfl⟩:=AE.mp e
 exact h S Z Y J b _ hE e1 λ S1 s1=>hq S1 s1
@[simp] noncomputable def vI (f g:Ev->Option T):Ev->Option T:=fun J=>(f J).bind λ x=>match x with
 | .bl k=>if k=true then g J else some (.bl false)
 | _=>none
@[simp] noncomputable def aF (f:Ev->Option T):Ev->Option T:=fun J=>(f J).bind λ x=>match x with
 | .bl k=>some (.bl (!k))
 | _=>none
@[simp] noncomputable def ZA (c:Ev->Option Bool) (f g:Ev->Option T):Ev->Option T:=fun J=>(c J).bind λ b=>if b=true then f J else g J
def Q2 [Cl R] (h:yv f t) (h':xx R g u):xx R (vI f g) (my t u):=λ S Z Y J y Q hE e hq=>by
 obtain⟨x,e1,e2⟩:=Ai.mp e
 refine h S Z Y J x _ hE e1 λ d S1 s1 r1=>?_
 split at e2
 ·cases Vw.bl r1
  split at e2
  ·rename_i hb
   dsimp only;rw[if_pos hb]
   exact h' S1 Z Y J y _ (hE.grow s1) e2 λ d S2 s2 r2=>hq d S2 (s1.trans s2) (Cl.cl s1 r2)
  ·rename_i hb
   dsimp only;rw[if_neg hb]
   cases e2
   exact hq _ S1 s1 (Cl.of (λ _=>nofun) wV)
 ·cases e2
def RA [Cl R] (h:yv f t):xx R (aF f) (mr t):=λ S Z Y J y Q hE e hq=>by
 obtain⟨x,e1,e2⟩:=Ai.mp e
 refine h S Z Y J x _ hE e1 λ d S1 s1 r1=>?_
 split at e2
 ·cases Vw.bl r1
  cases e2
  exact hq _ S1 s1 (Cl.of (λ _=>nofun) wV)
 ·cases e2
def Qa [Cl R] (hc:vc fb tb) (h:xx R f t) (h':xx R g u):xx R (ZA fb f g) (mv tb t u):=λ S Z Y J y Q hE e hq=>by
 obtain⟨b,e1,e2⟩:=Ai.mp e
 refine hc S Z Y J b _ hE e1 λ S1 s1=>?_
 split at e2
 ·rename_i hb;rw[if_pos hb]
  exact h S1 Z Y J y _ (hE.grow s1) e2 λ d S2 s2 r2=>hq d S2 (s1.trans s2) (Cl.cl s1 r2)
 ·rename_i hb;rw[if_neg hb]
  exact h' S1 Z Y J y _ (hE.grow s1) e2 λ d S2 s2 r2=>hq d S2 (s1.trans s2) (Cl.cl s1 r2)
end
noncomputable def og (S:SS) (Z:Addr->Prop):List T->List D->Prop
 | [],ds=>ds=[]
 | t::ts,ds=>∃ c cs,ds=c::cs/\Vw S Z t c/\og S Z ts cs
def ra (f:Ev->Option (List T)) (t:yi):Prop:=∀ S Z Y J ys Q,ER S Z Y J->f J=some ys->(∀ ds S',Sx S S'->og S' Z ys ds->Q ds S')->t Y S Q
def oj (f:Ev->Option (List T)) (t:yi):Prop:=∀ S Z Y J ys Q,ER S Z Y J->f J=some ys->(∀ ds S',Sx S S'->zk (zR S' Z) ys ds->Q ds S')->t Y S Q
@[simp] noncomputable def zi:Ev->Option (List T):=λ _=>some []
@[simp] noncomputable def zb (f:Ev->Option T) (g:Ev->Option (List T)):Ev->Option (List T):=fun J=>(f J).bind λ x=>(g J).bind λ xs=>some (x::xs)
section
variable {f:Ev->Option T}{g:Ev->Option (List T)}{t:zu}{u:yi}
def kK:ra zi jv:=λ S Z Y J y Q hE e hq=>by cases e;exact hq [] S (.refl S) rfl
def az:oj zi jv:=λ S Z Y J y Q hE e hq=>by cases e;exact hq [] S (.refl S) .nil
def kL (h:yv f t) (h':ra g u):ra (zb f g) (qD t u):=λ S Z Y J y Q hE e hq=>by
 obtain⟨x,e1,e0⟩:=Ai.mp e
 obtain⟨xs,e2,e3⟩:=Ai.mp e0
 cases e3
 refine h S Z Y J x _ hE e1 λ d S1 s1 r1=>?_
 refine h' S1 Z Y J xs _ (hE.grow s1) e2 λ ds S2 s2 r2=>?_
 exact hq _ S2 (s1.trans s2) ⟨d,ds,rfl,Vw.grow r1 s2,r2⟩
def Ru (h:vM f t) (h':oj g u):oj (zb f g) (qD t u):=λ S Z Y J y Q hE e hq=>by
 obtain⟨x,e1,e0⟩:=Ai.mp e
 obtain⟨xs,e2,e3⟩:=Ai.mp e0
 cases e3
 refine h S Z Y J x _ hE e1 λ d S1 s1 r1=>?_
 refine h' S1 Z Y J xs _ (hE.grow s1) e2 λ ds S2 s2 r2=>?_
 exact hq _ S2 (s1.trans s2) (.cons (Sn.sx (wN s2) x r1) r2)
@[simp] noncomputable def tupS (g:Ev->Option (List T)):Ev->Option T:=fun J=>(g J).bind λ xs=>if xs.length<=sizeLine then some (.tup xs) else none
@[simp] noncomputable def wL (g:Ev->Option (List T)):Ev->Option T:=fun J=>(g J).bind λ xs=>if xs.length<=sizeLine then some (.lst xs) else none
def Rx (h:oj g u):xy (tupS g) (Yk u):=λ S Z Y J y Q hE e hq=>by
 obtain⟨xs,e1,e2⟩:=Ai.mp e
 split at e2
 ·rename_i hl
  cases e2
  refine h S Z Y J xs _ hE e1 λ ds S1 s1 r1=>⟨by rw[r1.len];exact hl,hq _ S1 s1 (Cl.of (λ _=>nofun) (qp r1))⟩
 ·cases e2
def aB (h:oj g u):xy (wL g) (Yp u):=λ S Z Y J y Q hE e hq=>by
 obtain⟨xs,e1,e2⟩:=Ai.mp e
 split at e2
 ·rename_i hl
  cases e2
  refine h S Z Y J xs _ hE e1 λ ds S1 s1 r1=>⟨by rw[r1.len];exact hl,λ p hp=>hq _ _ (s1.trans (.new hp _)) (Cl.cl s1 (su (hE.grow s1).zd hp r1))⟩
 ·cases e2
end
@[simp] noncomputable def zq (F:List T->Option T) (g:Ev->Option (List T)):Ev->Option T:=fun J=>(g J).bind F
def vO (R:Rk) (F:List T->Option T) (f:xB):Prop:=∀ S Z ys z ds Q,(∀ a,Z a->S a≠none)->og S Z ys ds->F ys=some z->(∀ c S',Sx S S'->R S S' Z z c->Q c S')->f ds S Q
def aE {R:Rk} [Cl R] {F:List T->Option T}{f:xB}{g:Ev->Option (List T)}{u:yi}(hf:vO R F f) (h:ra g u):xx R (zq F g) (x9 f u):=λ S Z Y J y Q hE e hq=>by
 obtain⟨xs,e1,e2⟩:=Ai.mp e
 refine h S Z Y J xs _ hE e1 λ ds S1 s1 r1=>?_
 exact hf S1 Z xs y ds Q (hE.grow s1).zd r1 e2 λ c S' s r=>hq c S' (s1.trans s) (Cl.cl s1 r)
@[simp] noncomputable def xt:List T->Option T
 | [.str z]=>if z.length<=sizeLine then some (.int z.length) else none
 | [y]=>(xX y).map λ ts=>.int ts.length
 | _=>none
def vR {S:SS}{Z:Addr->Prop}{y:T}{ds:List D}(h:og S Z [y] ds):∃ d,ds=[d]/\Vw S Z y d:=by
 obtain⟨c,cs,rfl,h1,h2⟩:=h
 cases h2
 exact⟨c,rfl,h1⟩
def ia {S:SS}{Z:Addr->Prop}{y z:T}{ds:List D}(h:og S Z [y,z] ds):∃ d e,ds=[d,e]/\Vw S Z y d/\Vw S Z z e:=by
 obtain⟨c,cs,rfl,h1,c2,cs2,rfl,h2,h3⟩:=h
 cases h3
 exact⟨c,c2,rfl,h1,h2⟩
def O0:vO zF xt ui:=λ S Z ys z ds Q hz hv e hq=>by
 unfold xt at e
 split at e
 ·obtain⟨d,rfl,h1⟩:=vR hv
  split at e
  ·rename_i hl
   cases e
   cases h1.str
   exact⟨hl,hq _ S (.refl S) (Cl.of (λ _=>nofun) wy)⟩
  ·cases e
 ·obtain⟨d,rfl,h1⟩:=vR hv
  obtain⟨ts,e1,rfl⟩:=AE.mp e
  obtain⟨es,h2,h3⟩:=h1.seq e1
  refine OQ h2 ?_
  rw[h3.len]
  exact hq _ S (.refl S) (Cl.of (λ _=>nofun) wy)
 ·cases e
@[simp] noncomputable def listS:List T->Option T
 | [y]=>(xX y).map .lst
 | _=>none
def Oz:vO zF listS uh:=λ S Z ys z ds Q hz hv e hq=>by
 unfold listS at e
 split at e
 ·obtain⟨d,rfl,h1⟩:=vR hv
  obtain⟨ts,e1,rfl⟩:=AE.mp e
  obtain⟨es,h2,h3⟩:=h1.seq e1
  exact OP h2 λ p hp=>hq _ _ (.new hp _) (su hz hp h3)
 ·cases e
@[simp] noncomputable def sd:List T->Option T
 | [y]=>(xX y).map .tup
 | _=>none
def Oo:vO zF sd ug:=λ S Z ys z ds Q hz hv e hq=>by
 unfold sd at e
 split at e
 ·rename_i y
  obtain⟨d,rfl,h1⟩:=vR hv
  obtain⟨ts,e1,rfl⟩:=AE.mp e
  obtain⟨es,h2,h3⟩:=h1.seq e1
  have k:Q (.tup es) S:=hq _ S (.refl S) (Cl.of (λ _=>nofun) (qp h3))
  unfold zQ at h2
  split at h2
  ·cases h2;exact k
  ·cases h2;exact k
  ·split at h2
   ·rename_i q
    cases h2;exact OO q k
   ·cases h2
  ·cases h2
 ·cases e
@[simp] noncomputable def pG (g:Int->Int->Int):List T->Option T
 | [.int i,.int j]=>some (.int (g i j))
 | _=>none
def ZG {g:Int->Int->Int}:vO zF (pG g) (vD λ i j=>.int (g i j)):=λ S Z ys z ds Q hz hv e hq=>by
 unfold pG at e
 split at e
 ·obtain⟨d,d',rfl,h1,h2⟩:=ia hv
  cases e;cases h1.int;cases h2.int
  exact hq _ S (.refl S) (Cl.of (λ _=>nofun) wy)
 ·cases e
@[simp] def pC:List T->Option T:=pG λ i j=>if j>i then j else i
@[simp] def nK:List T->Option T:=pG λ i j=>if j<i then j else i
noncomputable def vm:List T->Option (List Bool)
 | []=>some []
 | .bl b::ts=>(vm ts).map (b::·)
 | _::_=>none
theorem YB:∀ {ts:List T}{bs:List Bool},vm ts=some bs->ts=bs.map T.bl
 | [],bs,h=>by cases h;rfl
 | .bl b::ts,bs,h=>by
  unfold vm at h
  obtain⟨cs,h1,rfl⟩:=AE.mp h
  rw[Au,<- YB h1]
 | .zr::ts,bs,h=>by cases h
 | .int _::ts,bs,h=>by cases h
 | .str _::ts,bs,h=>by cases h
 | .tup _::ts,bs,h=>by cases h
 | .lst _::ts,bs,h=>by cases h
def YC (bs:List Bool):vm (bs.map T.bl)=some bs:=by
 induction bs with
 | nil=>rfl
 | cons b bs ih=>rw[Au];unfold vm;rw[ih];rfl
@[simp] noncomputable def wO (g:List Bool->Bool):List T->Option T
 | [.lst ts]=>(vm ts).map λ bs=>.bl (g bs)
 | _=>none
def vE (g:List Bool->Bool):xB:=λ ds S Q=>match ds with
 | [.tup _]=>False
 | [d]=>∃ bs:List Bool,zQ d S=some (bs.map D.bl)/\Q (.bl (g bs)) S
 | _=>False
def O3 {g:List Bool->Bool}:vO zF (wO g) (vE g):=λ S Z ys z ds Q hz hv e hq=>by
 unfold wO at e
 split at e
 ·obtain⟨d,rfl,h1⟩:=vR hv
  obtain⟨bs,e1,rfl⟩:=AE.mp e
  cases YB e1
  obtain⟨es,h2,h3⟩:=h1.seq rfl
  cases h3.YD
  have key:∃ bs:List Bool,zQ d S=some (bs.map D.bl)/\Q (.bl (g bs)) S:=⟨bs,h2,hq _ S (.refl S) (Cl.of (λ _=>nofun) wV)⟩
  obtain⟨_,q | ⟨a,q,_⟩,_⟩:=h1.lst
  ·subst q;exact key
  ·subst q;exact key
 ·cases e
structure FR (S0:SS) (Z0:Addr->Prop) (S:SS) (Z:Addr->Prop) (Y:yj) (J:Ev):Prop where
 er:ER S Z Y J
 len:Y.length=J.length
 sx:Sx S0 S
 z0:∀ a,Z0 a->S0 a≠none
 zz:∀ a,Z0 a->Z a
 zn:∀ a,Z a->Z0 a\/S0 a=none
 fr:∀ (i:Nat) ts p,J[i]?=some (some (.own ts))->Y[i]?=some (some (.ref p))->S0 p=none
 dj:∀ (i j:Nat) ts us p,i≠j->J[i]?=some (some (.own ts))->J[j]?=some (some (.own us))->Y[i]?=some (some (.ref p))->Y[j]?=some (some (.ref p))->False
def yL {α:Type}{l:List α}{i j:Nat}{a b:α}(h:(l.set i a)[j]?=some b):(i=j/\i<l.length/\b=a)\/(i≠j/\l[j]?=some b):=by
 rw[Dw] at h
 by_cases e:i=j
 ·subst e
  rw[if_pos rfl] at h
  by_cases hl:i<l.length
  ·rw[if_pos hl] at h;cases h;exact .inl ⟨rfl,hl,rfl⟩
  ·rw[if_neg hl] at h;cases h
 ·rw[if_neg e] at h;exact .inr ⟨e,h⟩
def vb {α:Type}{l:List α}{i j:Nat}{a:α}(h:i≠j):(l.set i a)[j]?=l[j]?:=by rw[Dw,if_neg h]
def pL {α:Type}{l:List α}{i:Nat}{a:α}(h:i<l.length):(l.set i a)[i]?=some a:=by rw[Dw,if_pos rfl,if_pos h]
section
variable {S0 S S':SS}{Z0 Z:Addr->Prop}{Y:yj}{J:Ev}{y:T}{d:D}
theorem FR.grow (h:FR S0 Z0 S Z Y J) (s:Sx S S'):FR S0 Z0 S' Z Y J:=⟨h.er.grow s,h.len,h.sx.trans s,h.z0,h.zz,h.zn,h.fr,h.dj⟩
def FR.oH (h:FR S0 Z0 S Z Y J) (i:Nat) (r:Sn (zR S Z) y d):FR S0 Z0 S Z (Y.set i (some d)) (J.set i (some (.im y))):=by
 refine⟨⟨h.er.zd,λ j t e=>?_,λ j ts e=>?_⟩,by simp[h.len],h.sx,h.z0,h.zz,h.zn,λ j ts p e e'=>?_,λ j k ts us p n e1 e2 e3 e4=>?_⟩
 ·rcases yL e with ⟨rfl,hl,e⟩ | ⟨n,e⟩
  ·cases e;exact⟨d,pL (by rw[h.len];exact hl),r⟩
  ·rw[vb n];exact h.er.im j t e
 ·rcases yL e with ⟨rfl,hl,e⟩ | ⟨n,e⟩
  ·cases e
  ·rw[vb n];exact h.er.ow j ts e
 ·rcases yL e with ⟨rfl,hl,e⟩ | ⟨n,e⟩
  ·cases e
  ·rw[vb n] at e';exact h.fr j ts p e e'
 ·rcases yL e1 with ⟨rfl,hl,e⟩ | ⟨n1,e1⟩
  ·cases e
  rcases yL e2 with ⟨rfl,hl,e⟩ | ⟨n2,e2⟩
  ·cases e
  rw[vb n1] at e3;rw[vb n2] at e4
  exact h.dj j k ts us p n e1 e2 e3 e4
def FR.cX {ts:C}{ds:O}{p:Addr}(h:FR S0 Z0 S Z Y J) (s:Sx S S') (i:Nat) (hp:S p=none) (hd:S' p=some ds) (r:tU (zR S' λ a=>Z a\/a=p) ts ds):
  FR S0 Z0 S' (λ a=>Z a\/a=p) (Y.set i (some (.ref p))) (J.set i (some (.own ts))):=by
 have np:∀ (j:Nat) us q,J[j]?=some (some (.own us))->Y[j]?=some (some (.ref q))->q≠p:=λ j us q e e' z=>by
  subst z
  obtain⟨p',Hl,h1,h2,_⟩:=h.er.ow j us e
  rw[e'] at h1;cases h1;rw[hp] at h2;cases h2
 refine⟨⟨λ a z=>?_,λ j t e=>?_,λ j us e=>?_⟩,by simp[h.len],h.sx.trans s,h.z0,λ a z=>.inl (h.zz a z),λ a z=>z.elim (h.zn a) (λ q=>.inr (by subst q;exact h.sx.none hp)),λ j us q e e'=>?_,λ j k us vs q n e1 e2 e3 e4=>?_⟩
 ·rcases z with z | rfl
  ·exact λ q=>h.er.zd a z (s.none q)
  ·rw[hd];nofun
 ·rcases yL e with ⟨rfl,hl,e⟩ | ⟨n,e⟩
  ·cases e
  ·rw[vb n]
   obtain⟨d,h1,h2⟩:=h.er.im j t e
   exact⟨d,h1,Sn.sx (pK s hp) t h2⟩
 ·rcases yL e with ⟨rfl,hl,e⟩ | ⟨n,e⟩
  ·cases e;exact⟨p,ds,pL (by rw[h.len];exact hl),hd,r,.inr rfl⟩
  ·rw[vb n]
   obtain⟨q,es,h1,h2,h3,h4⟩:=h.er.ow j us e
   exact⟨q,es,h1,s _ _ h2,tU.sx (pK s hp) h3,.inl h4⟩
 ·rcases yL e with ⟨rfl,hl,e⟩ | ⟨n,e⟩
  ·rw[pL (by rw[h.len];exact hl)] at e';cases e';exact h.sx.none hp
  ·rw[vb n] at e';exact h.fr j us q e e'
 ·rcases yL e1 with ⟨rfl,hl,e⟩ | ⟨n1,e1⟩
  ·rcases yL e2 with ⟨rfl,_,_⟩ | ⟨n2,e2⟩
   ·exact n rfl
   ·rw[pL (by rw[h.len];exact hl)] at e3;cases e3
    rw[vb n2] at e4
    exact np k vs p e2 e4 rfl
  ·rcases yL e2 with ⟨rfl,hl,_⟩ | ⟨n2,e2⟩
   ·rw[pL (by rw[h.len];exact hl)] at e4;cases e4
    rw[vb n1] at e3
    exact np j us p e1 e3 rfl
   ·rw[vb n1] at e3;rw[vb n2] at e4
    exact h.dj j k us vs q n e1 e2 e3 e4
def FR.forget (h:FR S0 Z0 S Z Y J) (i:Nat):FR S0 Z0 S Z Y (J.set i none):=by
 refine⟨⟨h.er.zd,λ j t e=>?_,λ j ts e=>?_⟩,by simp[h.len],h.sx,h.z0,h.zz,h.zn,λ j ts p e e'=>?_,λ j k ts us p n e1 e2 e3 e4=>?_⟩
 ·rcases yL e with ⟨rfl,hl,e⟩ | ⟨n,e⟩
  ·cases e
  ·exact h.er.im j t e
 ·rcases yL e with ⟨rfl,hl,e⟩ | ⟨n,e⟩
  ·cases e
  ·exact h.er.ow j ts e
 ·rcases yL e with ⟨rfl,hl,e⟩ | ⟨n,e⟩
  ·cases e
  ·exact h.fr j ts p e e'
 ·rcases yL e1 with ⟨rfl,hl,e⟩ | ⟨n1,e1⟩
  ·cases e
  rcases yL e2 with ⟨rfl,hl,e⟩ | ⟨n2,e2⟩
  ·cases e
  exact h.dj j k ts us p n e1 e2 e3 e4
@[simp] noncomputable def yu (is:List Nat) (J:Ev):Ev:=is.foldl (fun J i=>J.set i none) J
theorem FR.yu:∀ (is:List Nat) {J:Ev},FR S0 Z0 S Z Y J->FR S0 Z0 S Z Y (yu is J)
 | [],_,h=>h
 | i::is,_,h=>FR.yu is (h.forget i)
def FR.freeze {ts:List T}{p:Addr}(h:FR S0 Z0 S Z Y J) (i:Nat) (e:J[i]?=some (some (.own (.lst ts)))) (ed:Y[i]?=some (some (.ref p))):
  FR S0 Z0 S (λ a=>Z a/\a≠p) Y (J.set i (some (.im (.lst ts))))/\Sn (zR S λ a=>Z a/\a≠p) (.lst ts) (.ref p):=by
 obtain⟨p',o,h1,h2,h3,h4⟩:=h.er.ow i _ e
 rw[ed] at h1;cases h1
 obtain⟨ds,rfl⟩:∃ ds,o=.lst ds:=by
  cases o with
  | lst ds=>exact⟨ds,rfl⟩
  | yh _=>exact h3.elim
 replace h3:zk (zR S Z) ts ds:=h3
 have hS:Sn (zR S λ a=>Z a/\a≠p) (.lst ts) (.ref p):=by
  simp only[Sn]
  exact⟨ds,.inr ⟨p,rfl,by rw[uf (λ z=>z.2 rfl)];exact h2⟩,zk.sx (tH λ a z=>z.1) ts h3⟩
 refine⟨?_,hS⟩
 refine⟨⟨λ a z=>h.er.zd a z.1,λ j t e'=>?_,λ j us e'=>?_⟩,by simp[h.len],h.sx,h.z0,λ a z=>⟨h.zz a z,λ q=>?_⟩,λ a z=>h.zn a z.1,λ j us q e' Je=>?_,λ j k us vs q n e1 e2 e3 e4=>?_⟩
 ·rcases yL e' with ⟨rfl,hl,e'⟩ | ⟨n,e'⟩
  ·cases e';exact⟨_,ed,hS⟩
  ·obtain⟨d,g1,g2⟩:=h.er.im j t e'
   exact⟨d,g1,Sn.sx (tH λ a z=>z.1) t g2⟩
 ·rcases yL e' with ⟨rfl,hl,e'⟩ | ⟨n,e'⟩
  ·cases e'
  ·obtain⟨q,es,g1,g2,g3,g4⟩:=h.er.ow j us e'
   exact⟨q,es,g1,g2,tU.sx (tH λ a z=>z.1) g3,g4,λ z=>by subst z;exact h.dj i j _ us q n e e' ed g1⟩
 ·subst q;exact h.z0 a z (h.fr i _ a e ed)
 ·rcases yL e' with ⟨rfl,hl,e'⟩ | ⟨n,e'⟩
  ·cases e'
  ·exact h.fr j us q e' Je
 ·rcases yL e1 with ⟨rfl,hl,e⟩ | ⟨n1,e1⟩
  ·cases e
  rcases yL e2 with ⟨rfl,hl,e⟩ | ⟨n2,e2⟩
  ·cases e
  exact h.dj j k us vs q n e1 e2 e3 e4
def FR.mut {ts us:C}{es:O}{p:Addr}(h:FR S0 Z0 S Z Y J) (i:Nat) (e:J[i]?=some (some (.own ts))) (ed:Y[i]?=some (some (.ref p))) (r:tU (zR S Z) us es):
  FR S0 Z0 (ups S p es) Z Y (J.set i (some (.own us))):=by
 obtain⟨p',ds,h1,h2,h3,h4⟩:=h.er.ow i ts e
 rw[ed] at h1;cases h1
 have hh:zR (ups S p es) Z=zR S Z:=Oe h4
 have DF:=h.fr i ts p e ed
 refine⟨⟨λ a z=>?_,λ j t e'=>?_,λ j vs e'=>?_⟩,by simp[h.len],λ b o q=>?_,h.z0,h.zz,h.zn,λ j vs q e' Je=>?_,λ j k vs ws q n e1 e2 e3 e4=>?_⟩
 ·by_cases hp:a=p
  ·subst hp;rw[rq];nofun
  ·rw[t_ hp];exact h.er.zd a z
 ·rw[hh]
  rcases yL e' with ⟨rfl,hl,e'⟩ | ⟨n,e'⟩
  ·cases e'
  ·exact h.er.im j t e'
 ·rw[hh]
  rcases yL e' with ⟨rfl,hl,e'⟩ | ⟨n,e'⟩
  ·cases e';exact⟨p,es,ed,rq,r,h4⟩
  ·obtain⟨q,F8,g1,g2,g3,g4⟩:=h.er.ow j vs e'
   refine⟨q,F8,g1,?_,g3,g4⟩
   rw[t_ (λ z=>by subst z;exact h.dj i j ts vs q n e e' ed g1)];exact g2
 ·rw[t_ (λ z=>by subst z;rw[DF] at q;cases q)];exact h.sx b o q
 ·rcases yL e' with ⟨rfl,hl,_⟩ | ⟨n,e'⟩
  ·rw[ed] at Je;cases Je;exact DF
  ·exact h.fr j vs q e' Je
 ·rcases yL e1 with ⟨rfl,hl,_⟩ | ⟨n1,e1⟩
  ·rcases yL e2 with ⟨rfl,hl,_⟩ | ⟨n2,e2⟩
   ·exact n rfl
   ·exact h.dj _ k ts ws q n e e2 e3 e4
  ·rcases yL e2 with ⟨rfl,hl,_⟩ | ⟨n2,e2⟩
   ·exact h.dj j _ vs ts q n e1 e e3 e4
   ·exact h.dj j k vs ws q n e1 e2 e3 e4
noncomputable def gh (S0 S:SS) (Z:Addr->Prop):SS:=open Classical in λ a=>if S0 a=none/\Z a then none else S a
def ku {a:Addr}(h:¬ (S0 a=none/\Z a)):gh S0 S Z a=S a:=if_neg h
def gg {a:Addr}(h:S0 a=none/\Z a):gh S0 S Z a=none:=if_pos h
def FR.rebase (h:FR S0 Z0 S Z Y J):∃ S1,Sx S0 S1/\FR S1 Z0 S Z Y J/\Sx (zR S Z) S1:=by
 refine⟨gh S0 S Z,λ b o q=>?_,⟨h.er,h.len,λ b o q=>?_,λ a z=>?_,h.zz,λ a z=>?_,λ i ts p e ed=>?_,h.dj⟩,λ b o q=>?_⟩
 ·rw[ku (λ z=>by rw[z.1] at q;cases q)];exact h.sx _ _ q
 ·by_cases w:S0 b=none/\Z b
  ·rw[gg w] at q;cases q
  ·rw[ku w] at q;exact q
 ·rw[ku (λ q=>h.z0 a z q.1)]
  exact h.er.zd a (h.zz a z)
 ·rcases h.zn a z with w | w
  ·exact .inl w
  ·exact .inr (gg ⟨w,z⟩)
 ·obtain⟨p',ds,h1,h2,h3,h4⟩:=h.er.ow i ts e
  rw[ed] at h1;cases h1
  exact gg ⟨h.fr i ts p e ed,h4⟩
 ·obtain⟨q1,q2⟩:=tG q
  rw[ku (λ z=>q1 z.2)];exact q2
def FR.back {S1:SS}(h:FR S1 Z0 S Z Y J) (s:Sx S0 S1) (z0:∀ a,Z0 a->S0 a≠none):FR S0 Z0 S Z Y J:=⟨h.er,h.len,s.trans h.sx,z0,h.zz,λ a z=>(h.zn a z).imp id s.none,λ i ts p e ed=>s.none (h.fr i ts p e ed),h.dj⟩
def FR.Vm {S1:SS}{Z1:Addr->Prop}(h:FR S0 Z0 S Z Y J) (b:Sx (zR S1 Z1) S0) (zz:∀ a,Z0 a->Z1 a):Sx (zR S1 Z1) (zR S Z):=λ a o q=>by
 have q0:=b _ _ q
 obtain⟨q1,q2⟩:=tG q
 rw[uf]
 ·exact h.sx _ _ q0
 ·intro z
  rcases h.zn a z with w | w
  ·exact q1 (zz a w)
  ·rw[w] at q0;cases q0
end
inductive Out where
 | nx (J:Ev) | rt (t:T) | bk (J:Ev) | ct (J:Ev)
abbrev Sm:=Ev->Option Out
def Mu (R:Rk) (S0:SS) (Z0:Addr->Prop) (o:Out) (E:qj):Prop:=match o with
 | .nx J=>∀ S Z Y,FR S0 Z0 S Z Y J->E.nx Y S
 | .bk J=>∀ S Z Y,FR S0 Z0 S Z Y J->E.bk Y S
 | .ct J=>∀ S Z Y,FR S0 Z0 S Z Y J->E.ct Y S
 | .rt y=>∀ d S,Sx S0 S->R S0 S Z0 y d->E.rt d S
def yy (R:Rk) (g:Sm) (t:yI):Prop:=∀ S0 Z0 S Z Y J o E,FR S0 Z0 S Z Y J->g J=some o->Mu R S0 Z0 o E->t E Y S
class Lo (R:Rk):Prop extends Cl R where
 lo:∀ {S0 S S':SS}{Z0 Z:Addr->Prop}{y:T}{d:D},Sx S0 S->(∀ a,Z0 a->Z a)->R S S' Z y d->R S0 S' Z0 y d
instance:Lo xO:=⟨λ _ z h=>Sn.sx (tH z) _ h⟩
instance:Lo zF:=⟨λ s z h=>⟨Sn.sx (tH z) _ h.1,λ ts e=>by
 obtain⟨p,ds,h1,h2,h3,h4⟩:=h.2 ts e
 exact⟨p,ds,h1,s.none h2,h3,zk.sx (tH λ a q=>q.imp (z a) id) ts h4⟩⟩⟩
@[simp] noncomputable def zv (g h:Sm):Sm:=fun J=>(g J).bind λ o=>match o with
 | .nx J'=>h J'
 | o=>some o
@[simp] noncomputable def yF:Sm:=fun J=>some (.nx J)
@[simp] noncomputable def yb (i:Nat) (f:Ev->Option T):Sm:=fun J=>(f J).map λ y=>.nx (J.set i (some (.im y)))
@[simp] noncomputable def uq (i:Nat) (f:Ev->Option T):Sm:=fun J=>(f J).bind λ y=>match y with
 | .lst ts=>some (.nx (J.set i (some (.own (.lst ts)))))
 | y=>some (.nx (J.set i (some (.im y))))
@[simp] noncomputable def pP (f:Ev->Option T):Sm:=fun J=>(f J).map λ _=>.nx J
@[simp] noncomputable def retS (f:Ev->Option T):Sm:=fun J=>(f J).map .rt
@[simp] noncomputable def rG (i:Nat):Sm:=fun J=>match J[i]? with
 | some (some (.own (.lst ts)))=>some (.rt (.lst ts))
 | _=>none
@[simp] noncomputable def yG (c:Ev->Option Bool) (g h:Sm):Sm:=fun J=>(c J).bind λ b=>if b=true then g J else h J
@[simp] noncomputable def fK (i:Nat) (J:Ev):Ev:=match J[i]? with
 | some (some (.own (.lst ts)))=>J.set i (some (.im (.lst ts)))
 | _=>J
@[simp] def fJ (i:Nat) (g:Sm):Sm:=fun J=>g (fK i J)
section
variable {R:Rk}{g h:Sm}{t u:yI}{f:Ev->Option T}{te:zu}
def sF (hg:yy R g t) (hh:yy R h u):yy R (zv g h) (mq t u):=λ S0 Z0 S Z Y J o E F e P=>by
 obtain⟨o1,e1,e2⟩:=Ai.mp e
 refine hg S0 Z0 S Z Y J o1 { E with nx:=u E } F e1 ?_
 cases o1 with
 | nx J1=>exact λ S1 Z1 Y1 F1=>hh S0 Z0 S1 Z1 Y1 J1 o E F1 e2 P
 | rt y=>cases e2;exact P
 | bk y=>cases e2;exact P
 | ct y=>cases e2;exact P
def aw:yy R yF Ym:=λ S0 Z0 S Z Y J o E F e P=>by cases e;exact P S Z Y F
def nE (i:Nat) (hf:vM f te):yy R (yb i f) (tN te (hName i)):=λ S0 Z0 S Z Y J o E F e P=>by
 obtain⟨y,e1,rfl⟩:=AE.mp e
 exact hf S Z Y J y _ F.er e1 λ d S1 s1 r1=>P S1 Z _ ((F.grow s1).oH i r1)
def ay (i:Nat) (hf:xy f te):yy R (uq i f) (tN te (hName i)):=λ S0 Z0 S Z Y J o E F e P=>by
 obtain⟨y,e1,e2⟩:=Ai.mp e
 refine hf S Z Y J y _ F.er e1 λ d S1 s1 r1=>?_
 cases y with
 | lst ts=>
  cases e2
  obtain⟨p,ds,rfl,h1,h2,h3⟩:=r1.2 ts rfl
  exact P S1 _ _ (F.cX (ts:=.lst ts) (ds:=.lst ds) s1 i h1 h2 h3)
 | _=>cases e2;exact P S1 Z _ ((F.grow s1).oH i r1.1)
def SY (hf:yv f te):yy R (pP f) (jw te):=λ S0 Z0 S Z Y J o E F e P=>by
 obtain⟨y,e1,rfl⟩:=AE.mp e
 exact hf S Z Y J y _ F.er e1 λ d S1 s1 r1=>P S1 Z _ (F.grow s1)
def SR [Lo R] (hf:xx R f te):yy R (retS f) (fU te):=λ S0 Z0 S Z Y J o E F e P=>by
 obtain⟨y,e1,rfl⟩:=AE.mp e
 exact hf S Z Y J y _ F.er e1 λ d S1 s1 r1=>P d S1 (F.sx.trans s1) (Lo.lo F.sx F.zz r1)
def kJ (i:Nat):yy zF (rG i) (fU (y6 i)):=λ S0 Z0 S Z Y J o E F e P=>by
 unfold rG at e
 split at e
 ·rename_i ts h
  cases e
  obtain⟨p,ob,h1,h2,h3,h4⟩:=F.er.ow i _ h
  obtain⟨ds,rfl⟩:∃ ds,ob=.lst ds:=by
   cases ob with
   | lst ds=>exact⟨ds,rfl⟩
   | yh _=>exact h3.elim
  replace h3:zk (zR S Z) ts ds:=h3
  have hn:=F.fr i _ p h h1
  have nz:¬ Z0 p:=λ z=>F.z0 p z hn
  show y6 i Y S E.rt
  unfold y6;rw[h1]
  refine P _ S F.sx ⟨?_,λ us e=>?_⟩
  ·simp only[Sn]
   exact⟨ds,.inr ⟨p,rfl,by rw[uf nz];exact h2⟩,zk.sx (tH F.zz) ts h3⟩
  ·cases e
   exact⟨p,ds,rfl,hn,h2,zk.sx (tH λ a q=>q.elim (F.zz a) λ q=>q▸h4) ts h3⟩
 ·cases e
def yy.fv (h:yy zF g t):yy xO g t:=λ S0 Z0 S Z Y J o E F e P=>by
 refine h S0 Z0 S Z Y J o E F e ?_
 cases o with
 | rt y=>exact λ d S s r=>P d S s r.1
 | _=>exact P
def ax {c:Ev->Option Bool}{tc:y9}(hc:vc c tc) (hg:yy R g t) (hh:yy R h u):yy R (yG c g h) (Yr tc t u):=λ S0 Z0 S Z Y J o E F e P=>by
 obtain⟨b,e1,e2⟩:=Ai.mp e
 refine hc S Z Y J b _ F.er e1 λ S1 s1=>?_
 split at e2
 ·rename_i hb;rw[if_pos hb];exact hg S0 Z0 S1 Z Y J o E (F.grow s1) e2 P
 ·rename_i hb;rw[if_neg hb];exact hh S0 Z0 S1 Z Y J o E (F.grow s1) e2 P
def FR.fz {S0 S:SS}{Z0 Z:Addr->Prop}{Y:yj}{J:Ev}(F:FR S0 Z0 S Z Y J) (i:Nat):∃ Z',FR S0 Z0 S Z' Y (fK i J):=by
 unfold fK
 split
 ·rename_i ts h
  obtain⟨p,ds,h1,_⟩:=F.er.ow i _ h
  exact⟨_,(F.freeze i h h1).1⟩
 ·exact⟨Z,F⟩
def SW (i:Nat) (hg:yy R g t):yy R (fJ i g) t:=λ S0 Z0 S Z Y J o E F e P=>by
 obtain⟨Z',F'⟩:=F.fz i
 exact hg S0 Z0 S Z' Y _ o E F' e P
def jD (g:T->Ev->Option Ev) (t:xA):Prop:=∀ S0 Z0 S Z Y J J' y d Q,FR S0 Z0 S Z Y J->Sn (zR S Z) y d->g y J=some J'->(∀ Y',FR S0 Z0 S Z Y' J'->Q Y' S)->t d Y S Q
def jC (g:List T->Ev->Option Ev) (t:wQ):Prop:=∀ S0 Z0 S Z Y J J' ys ds Q,FR S0 Z0 S Z Y J->zk (zR S Z) ys ds->g ys J=some J'->(∀ Y',FR S0 Z0 S Z Y' J'->Q Y' S)->t ds Y S Q
@[simp] noncomputable def zA (i:Nat):T->Ev->Option Ev:=λ y J=>some (J.set i (some (.im y)))
@[simp] noncomputable def tw:List T->Ev->Option Ev
 | [],J=>some J
 | _::_,_=>none
@[simp] noncomputable def xM (g:T->Ev->Option Ev) (h:List T->Ev->Option Ev):List T->Ev->Option Ev
 | y::ys,J=>(g y J).bind fun J'=>h ys J'
 | [],_=>none
@[simp] noncomputable def vT (n:Nat) (g:List T->Ev->Option Ev):T->Ev->Option Ev
 | .tup ys,J=>if ys.length=n then g ys J else none
 | _,_=>none
def gG (i:Nat):jD (zA i) (hName i):=λ S0 Z0 S Z Y J J' y d Q F r e hq=>by cases e;exact hq _ (F.oH i r)
def Rj:jC tw fy:=λ S0 Z0 S Z Y J J' ys ds Q F r e hq=>by
 cases ys with
 | nil=>simp only[zk] at r;subst r;cases e;exact⟨rfl,hq _ F⟩
 | cons _ _=>cases e
def Rl {g:T->Ev->Option Ev}{h:List T->Ev->Option Ev}{t:xA}{u:wQ}(hg:jD g t) (hh:jC h u):jC (xM g h) (f6 t u):=λ S0 Z0 S Z Y J J' ys ds Q F r e hq=>by
 cases ys with
 | nil=>cases e
 | cons y ys=>
  simp only[zk] at r
  obtain⟨c,cs,rfl,r1,r2⟩:=r
  obtain⟨J1,e1,e2⟩:=Ai.mp e
  exact hg S0 Z0 S Z Y J J1 y c _ F r1 e1 fun Y1 F1=>hh S0 Z0 S Z Y1 J1 J' ys cs Q F1 r2 e2 hq
def Rm {n:Nat}{g:List T->Ev->Option Ev}{t:wQ}(hg:jC g t):jD (vT n g) (je n t):=λ S0 Z0 S Z Y J J' y d Q F r e hq=>by
 cases y with
 | tup ys=>
  simp only[Sn] at r
  obtain⟨ds,rfl,r⟩:=r
  simp only[vT] at e
  split at e
  ·rename_i hl
   exact⟨by rw[r.len];exact hl,hg S0 Z0 S Z Y J J' ys ds Q F r e hq⟩
  ·cases e
 | _=>cases e
def s_ (free:Bool) (f:Ev->Option (List T)) (ti:wj):Prop:=∀ S Z Y J ts Q,ER S Z Y J->f J=some ts->(∀ I S',Sx S S'->zk (zR S' Z) ts I.items->(∀ Ig,Sx (if free=true then zR S' Z else S') Ig->I.keep Ig)->Q I S')->ti Y S Q
@[simp] def y8 (f:Ev->Option T):Ev->Option (List T):=fun J=>(f J).bind xX
def Rc {f:Ev->Option T}{te:zu}(hf:yv f te):s_ false (y8 f) (fh te):=λ S Z Y J ts Q hE e hq=>by
 obtain⟨y,e1,e2⟩:=Ai.mp e
 refine hf S Z Y J y _ hE e1 λ d S1 s1 r1=>?_
 cases y with
 | tup us=>
  cases e2
  obtain⟨ds,rfl,h2⟩:=Vw.tup r1
  exact hq _ S1 s1 h2 λ _ _=>trivial
 | lst us=>
  cases e2
  obtain⟨ds,rfl | ⟨a,rfl,h1⟩,h2⟩:=Vw.lst r1
  ·exact hq _ S1 s1 h2 λ _ _=>trivial
  ·dsimp only;rw[h1]
   exact hq ⟨ds,_⟩ S1 s1 h2 λ Ig s=>s _ _ h1
 | _=>cases e2
def Rf {f:Ev->Option T}{te:zu}(hf:vM f te):s_ true (y8 f) (fh te):=λ S Z Y J ts Q hE e hq=>by
 obtain⟨y,e1,e2⟩:=Ai.mp e
 refine hf S Z Y J y _ hE e1 λ d S1 s1 r1=>?_
 cases y with
 | tup us=>
  cases e2
  obtain⟨ds,rfl,h2⟩:=Vw.tup (.inl r1)
  exact hq _ S1 s1 h2 λ _ _=>trivial
 | lst us=>
  cases e2
  have r2:=r1
  unfold xO at r2
  simp only[Sn] at r2
  obtain⟨ds,⟨rfl,_⟩ | ⟨a,rfl,h1⟩,h2⟩:=r2
  ·exact hq _ S1 s1 h2 λ _ _=>trivial
  ·dsimp only;rw[(tG h1).2]
   exact hq ⟨ds,_⟩ S1 s1 h2 λ Ig s=>s _ _ h1
 | _=>cases e2
noncomputable def rangeT (lo:Int) (n:Nat):List T:=(List.range n).map λ(k:Nat)=>T.int (lo+(k:Int))
def i4 {S:SS}(lo:Int) (n:Nat):zk S (rangeT lo n) (ve lo n):=by
 unfold rangeT ve
 induction List.range n with
 | nil=>exact .nil
 | cons k l ih=>exact .cons wy ih
noncomputable def inR (j:Int):Bool:=decide (-100000000<=j)&&decide (j<=100000000)
def k_ {j:Int}:inR j=true↔-100000000<=j/\j<=100000000:=by simp[inR]
def ja {j:Int}(h:inR j=true):-(2 ^ 62)<=j/\j<2 ^ 62:=by have:=k_.mp h;lia
noncomputable def xZ:List T->Option (List T)
 | [.int j]=>if inR j=true then some (rangeT 0 j.toNat) else none
 | _=>none
noncomputable def oW:List T->Option (List T)
 | [.int i,.int j]=>if inR i=true/\inR j=true then some (rangeT i (j-i).toNat) else none
 | _=>none
@[simp] noncomputable def xa (F:List T->Option (List T)) (g:Ev->Option (List T)):Ev->Option (List T):=fun J=>(g J).bind F
def gF {b:Bool}{g:Ev->Option (List T)}{tA:yi}(h:ra g tA):s_ b (xa xZ g) (fk tA):=λ S Z Y J ts Q hE e hq=>by
 obtain⟨ys,e1,e2⟩:=Ai.mp e
 refine h S Z Y J ys _ hE e1 λ ds S1 s1 r1=>?_
 unfold xZ at e2
 split at e2
 ·split at e2
  ·rename_i hc
   cases e2
   obtain⟨d,rfl,h1⟩:=vR r1
   cases h1.int
   exact⟨ja hc,hq _ S1 s1 (i4 _ _) λ _ _=>trivial⟩
  ·cases e2
 ·cases e2
def Rh {b:Bool}{g:Ev->Option (List T)}{tA:yi}(h:ra g tA):s_ b (xa oW g) (fj tA):=λ S Z Y J ts Q hE e hq=>by
 obtain⟨ys,e1,e2⟩:=Ai.mp e
 refine h S Z Y J ys _ hE e1 λ ds S1 s1 r1=>?_
 unfold oW at e2
 split at e2
 ·split at e2
  ·rename_i hc
   cases e2
   obtain⟨d,d',rfl,h1,h2⟩:=ia r1
   cases h1.int;cases h2.int
   exact⟨⟨(ja hc.1).1,(ja hc.1).2,ja hc.2⟩,hq _ S1 s1 (i4 _ _) λ _ _=>trivial⟩
  ·cases e2
 ·cases e2
noncomputable def xj (is:List Nat) (g:T->Ev->Option Ev) (b:Sm):List T->Ev->Option Out
 | [],J=>some (.nx (yu is J))
 | y::ys,J=>(g y (yu is J)).bind fun J1=>(b J1).bind λ o=>match o with
  | .nx J2=>xj is g b ys J2
  | .ct J2=>xj is g b ys J2
  | .bk J2=>some (.nx (yu is J2))
  | .rt t=>some (.rt t)
@[simp] def xJ (is:List Nat) (f:Ev->Option (List T)) (g:T->Ev->Option Ev) (b:Sm):Sm:=fun J=>(f J).bind λ ts=>xj is g b ts J
def gD {is:List Nat}{fi:Ev->Option (List T)}{ti:wj}{g:T->Ev->Option Ev}{tg:xA}{b:Sm}{tb:yI} [Lo R] (hi:s_ true fi ti) (hg:jD g tg) (hb:yy R b tb):yy R (xJ is fi g b) (mx ti tg tb):=λ S0 Z0 S Z Y J o E F e P=>by
 obtain⟨ts,e1,e2⟩:=Ai.mp e
 refine hi S Z Y J ts _ F.er e1 λ I S1 s1 r1 hk=>?_
 rw[if_pos rfl] at hk
 obtain⟨SB,b1,FB,b2⟩:=(F.grow s1).rebase
 have lo:∀ S' d y,R SB S' Z0 y d->R S0 S' Z0 y d:=λ S' d y r=>Lo.lo b1 (λ _ z=>z) r
 have zz:=F.zz
 refine⟨λ i Y' S'=>∃ Z' J',FR SB Z0 S' Z' Y' J'/\xj is g b (ts.drop i) J'=some o,⟨Z,J,FB,e2⟩,λ i Y' S' ⟨Z',J',F',_⟩=>hk S' (b2.trans F'.sx),λ i d Y' S' hd ⟨Z',J',F',e'⟩=>?_,fun Y' S' ⟨Z',J',F',e'⟩=>?_⟩
 ·obtain⟨y,hy,r2⟩:=r1.fH hd
  have An:=(AL.mp hy).1
  have EC:ts.drop i=y::ts.drop (i+1):=by
   rw[List.drop_eq_getElem_cons An,(AL.mp hy).2]
  rw[EC] at e'
  unfold xj at e'
  obtain⟨J1,g1,e'⟩:=Ai.mp e'
  obtain⟨o1,g2,e'⟩:=Ai.mp e'
  refine hg SB Z0 S' Z' Y' _ J1 y d _ (F'.yu is) (Sn.sx (F'.Vm b2 zz) y r2) g1 fun Y2 F2=>?_
  refine hb SB Z0 S' Z' Y2 J1 o1 _ F2 g2 ?_
  cases o1 with
  | nx J2=>exact λ S3 Z3 Y3 F3=>⟨Z3,J2,F3,e'⟩
  | ct J2=>exact λ S3 Z3 Y3 F3=>⟨Z3,J2,F3,e'⟩
  | bk J2=>cases e';exact λ S3 Z3 Y3 F3=>P S3 Z3 Y3 ((F3.yu is).back b1 F.z0)
  | rt y=>cases e';exact λ d S3 s3 r3=>P d S3 (b1.trans s3) (lo _ _ _ r3)
 ·rw[show I.items.length=ts.length from r1.len,List.drop_length] at e'
  unfold xj at e'
  cases e'
  exact P S' Z' Y' ((F'.yu is).back b1 F.z0)
end
@[simp] noncomputable def wg (i:Nat) (f:Ev->Option T):Sm:=fun J=>match J[i]? with
 | some (some (.own (.lst ts)))=>(f J).bind λ y=>if ts.length<sizeLine then some (.nx (J.set i (some (.own (.lst (ts++[y])))))) else none
 | _=>none
section
variable {R:Rk}{f:Ev->Option T}{te:zu}
def gE (i:Nat) (hf:vM f te):yy R (wg i f) (jw (rZ (y6 i) te)):=λ S0 Z0 S Z Y J o E F e P=>by
 unfold wg at e
 split at e
 ·rename_i ts h
  obtain⟨y,e1,e2⟩:=Ai.mp e
  split at e2
  ·rename_i hl
   cases e2
   obtain⟨p,ob,h1,h2,h3,h4⟩:=F.er.ow i _ h
   obtain⟨ds,rfl⟩:∃ ds,ob=.lst ds:=by
    cases ob with
    | lst ds=>exact⟨ds,rfl⟩
    | yh _=>exact h3.elim
   replace h3:zk (zR S Z) ts ds:=h3
   show rZ (y6 i) te Y S _
   unfold rZ y6
   rw[h1]
   refine⟨⟨ds,h2⟩,hf S Z Y J y _ F.er e1 λ d S1 s1 r1=>?_⟩
   dsimp only
   rw[s1 _ _ h2]
   have F1:=F.grow s1
   refine⟨by rw[h3.len];exact hl,P _ Z Y (F1.mut (us:=.lst (ts++[y])) (es:=.lst (ds++[d])) i h h1 ((zk.sx (wN s1) ts h3).append (.cons r1 .nil)))⟩
  ·cases e2
 ·cases e
end
def sS (pick:List (Option Nat)) (ti:wj) (g:xA) (tc:y9) (te:zu):zu:=fun Y S Q=>ti Y S λ I S1=>I.items.length<=sizeLine/\(∀ S,Sx S1 S->I.keep S)/\∀ p,S1 p=none->∃ W:Nat->SS->List D->Prop,W 0 S1 []/\
 (∀ i S S' acc,(∀ b o,b≠p->S b=some o->S' b=some o)->W i S acc->W i S' acc)/\
 (∀ i d S acc,I.items[i]?=some d->Sx S1 S->S p=some (.lst acc)->W i S acc->g d (v_ pick Y) S fun Y2 S2=>qK (v_ pick Y) Y2/\tc Y2 S2 λ b S3=>if b=true then te Y2 S3 λ y S4=>Sx S S4/\W (i+1) S4 (acc++[y]) else Sx S S3/\W (i+1) S3 acc)/\
 ∀ S2 acc,Sx S1 S2->S2 p=some (.lst acc)->W I.items.length S2 acc->Q (.ref p) S2
@[simp] noncomputable def ng (pick:List (Option Nat)) (J:Ev):Ev:=pick.map λ o=>o.bind λ i=>(J[i]?).join
noncomputable def qE (h:T->Option (Option T)):List T->Option (List T)
 | []=>some []
 | y::ys=>(h y).bind λ o=>(qE h ys).map λ zs=>match o with
  | some z=>z::zs
  | none=>zs
@[simp] def sJ (pick:List (Option Nat)) (g:T->Ev->Option Ev) (c:Ev->Option Bool) (f:Ev->Option T) (J:Ev) (y:T):Option (Option T):=
 (g y (ng pick J)).bind fun J2=>(c J2).bind λ b=>if b=true then (f J2).map some else some none
def yO (pick:List (Option Nat)) (it:Ev->Option (List T)) (g:T->Ev->Option Ev) (c:Ev->Option Bool) (f:Ev->Option T):Ev->Option T:=fun J=>(it J).bind λ ts=>if ts.length<=sizeLine then (qE (sJ pick g c f J) ts).map .lst else none
@[simp] noncomputable def xN:Ev->Option Bool:=λ _=>some true
def Ry:vc xN Yc:=λ S Z Y J y Q hE e hq=>by cases e;exact hq S (.refl S)
def jF (pick:List (Option Nat)) (g:T->Ev->Option Ev) (t:xA):Prop:=∀ B S Z Y J J' y d Q,(∀ i:Nat,pick[i]?=some none->B[i]?=some none)->qK B Y->Y.length=J.length->ER S Z Y J->Sn (zR S Z) y d->g y J=some J'->
 (∀ Y',ER S Z Y' J'->qK B Y'->Y'.length=J'.length->Q Y' S)->t d Y S Q
def jE (pick:List (Option Nat)) (g:List T->Ev->Option Ev) (t:wQ):Prop:=∀ B S Z Y J J' y d Q,(∀ i:Nat,pick[i]?=some none->B[i]?=some none)->qK B Y->Y.length=J.length->ER S Z Y J->zk (zR S Z) y d->g y J=some J'->
 (∀ Y',ER S Z Y' J'->qK B Y'->Y'.length=J'.length->Q Y' S)->t d Y S Q
def ER.oH {S:SS}{Z:Addr->Prop}{Y:yj}{J:Ev}{y:T}{d:D}(h:ER S Z Y J) (hl:Y.length=J.length) (i:Nat) (r:Sn (zR S Z) y d):ER S Z (Y.set i (some d)) (J.set i (some (.im y))):=by
 refine⟨h.zd,λ j t e=>?_,λ j ts e=>?_⟩
 ·rcases yL e with ⟨rfl,GO,e⟩ | ⟨n,e⟩
  ·cases e;exact⟨d,pL (by rw[hl];exact GO),r⟩
  ·rw[vb n];exact h.im j t e
 ·rcases yL e with ⟨rfl,GO,e⟩ | ⟨n,e⟩
  ·cases e
  ·rw[vb n];exact h.ow j ts e
variable {pick:List (Option Nat)}
def Rq (i:Nat) (hi:pick[i]?=some none:=by rfl):jF pick (zA i) (hName i):=λ B S Z Y J J' y d Q hB hs hl hE r e hq=>by
 cases e
 refine hq _ (hE.oH hl i r) ⟨by rw[Dy];exact hs.1,λ j c q=>?_⟩ (by simp[hl])
 by_cases hj:i=j
 ·subst hj;rw[hB i hi] at q;cases q
 ·rw[vb hj];exact hs.2 j c q
def Rn:jE pick tw fy:=λ B S Z Y J J' y d Q hB hs hl hE r e hq=>by
 cases y with
 | nil=>simp only[zk] at r;subst r;cases e;exact⟨rfl,hq _ hE hs hl⟩
 | cons _ _=>cases e
def Ro {g:T->Ev->Option Ev}{h:List T->Ev->Option Ev}{t:xA}{u:wQ}(hg:jF pick g t) (hh:jE pick h u):jE pick (xM g h) (f6 t u):=λ B S Z Y J J' y d Q hB hs hl hE r e hq=>by
 cases y with
 | nil=>cases e
 | cons y ys=>
  simp only[zk] at r
  obtain⟨c,cs,rfl,r1,r2⟩:=r
  obtain⟨J1,e1,e2⟩:=Ai.mp e
  exact hg B S Z Y J J1 y c _ hB hs hl hE r1 e1 fun Y1 E1 s1 l1=>hh B S Z Y1 J1 J' ys cs Q hB s1 l1 E1 r2 e2 hq
def Rp {n:Nat}{g:List T->Ev->Option Ev}{t:wQ}(hg:jE pick g t):jF pick (vT n g) (je n t):=λ B S Z Y J J' y d Q hB hs hl hE r e hq=>by
 cases y with
 | tup ys=>
  simp only[Sn] at r
  obtain⟨ds,rfl,r⟩:=r
  simp only[vT] at e
  split at e
  ·rename_i hn
   exact⟨by rw[r.len];exact hn,hg B S Z Y J J' ys ds Q hB hs hl hE r e hq⟩
  ·cases e
 | _=>cases e
def bP {J:Ev}{i:Nat}{w:W}(h:(ng pick J)[i]?=some (some w)):∃ j:Nat,pick[i]?=some (some j)/\J[j]?=some (some w):=by
 unfold ng at h
 rw[AA] at h
 cases q:pick[i]? with
 | none=>rw[q] at h;cases h
 | some o=>
  rw[q] at h
  cases o with
  | none=>simp at h
  | some j=>
   simp only[Option.map_some,Bm,Option.some.injEq] at h
   refine⟨j,rfl,?_⟩
   cases q2:J[j]? with
   | none=>rw[q2] at h;cases h
   | some o2=>rw[q2] at h;simp only[Option.join_some] at h;rw[h]
def bQ {Y:yj}{i j:Nat}{d:D}(h:pick[i]?=some (some j)) (h':Y[j]?=some (some d)):(v_ pick Y)[i]?=some (some d):=by
 unfold v_
 rw[AA,h]
 simp[h']
def ER.U9 {S:SS}{Z:Addr->Prop}{Y:yj}{J:Ev}(h:ER S Z Y J):ER S Z (v_ pick Y) (ng pick J):=by
 refine⟨h.zd,λ i t e=>?_,λ i ts e=>?_⟩
 ·obtain⟨j,h1,h2⟩:=bP e
  obtain⟨d,h3,h4⟩:=h.im j t h2
  exact⟨d,bQ h1 h3,h4⟩
 ·obtain⟨j,h1,h2⟩:=bP e
  obtain⟨p,ds,h3,h4⟩:=h.ow j ts h2
  exact⟨p,ds,bQ h1 h3,h4⟩
def ER.hide {S S':SS}{Z:Addr->Prop}{Y:yj}{J:Ev}{p:Addr}(h:ER S Z Y J) (s:Sx S S') (hp:S p=none) (G0:S' p≠none):ER S' (λ a=>Z a\/a=p) Y J:=by
 refine⟨λ a z q=>?_,λ i t e=>?_,λ i ts e=>?_⟩
 ·rcases z with z | rfl
  ·exact h.zd a z (s.none q)
  ·exact G0 q
 ·obtain⟨d,h1,h2⟩:=h.im i t e
  exact⟨d,h1,Sn.sx (pK s hp) t h2⟩
 ·obtain⟨q,ds,h1,h2,h3,h4⟩:=h.ow i ts e
  exact⟨q,ds,h1,s _ _ h2,tU.sx (pK s hp) h3,.inl h4⟩
def RH {it:Ev->Option (List T)}{ti:wj}{g:T->Ev->Option Ev}{tg:xA}{c:Ev->Option Bool}{tc:y9}{f:Ev->Option T}{te:zu}{b:Bool}(hi:s_ b it ti) (hg:jF pick g tg) (hc:vc c tc) (hf:vM f te):
  xy (yO pick it g c f) (sS pick ti tg tc te):=λ S Z Y J y Q hE e hq=>by
 obtain⟨ts,e1,e2⟩:=Ai.mp e
 split at e2
 case isFalse=>cases e2
 rename_i hlen
 obtain⟨zs,e3,rfl⟩:=AE.mp e2
 refine hi S Z Y J ts _ hE e1 λ I S1 s1 r1 hk=>⟨by rw[r1.len];exact hlen,λ S' s'=>hk S' ?_,λ p hp=>?_⟩
 ·cases b
  ·exact s'
  ·exact (jd _ _).trans s'
 have E1:=hE.grow s1
 have nz:¬ Z p:=λ z=>E1.zd p z hp
 refine⟨λ i S' acc=>∃ us ws,zk (zR S' λ a=>Z a\/a=p) us acc/\qE (sJ pick g c f J) (ts.drop i)=some ws/\zs=us++ws,⟨[],zs,.nil,e3,rfl⟩,λ i S' Ig acc hh ⟨us,ws,h1,h2⟩=>⟨us,ws,zk.sx (λ a o q=>?_) us h1,h2⟩,λ i d S2 acc hd s2 AQ ⟨us,ws,h1,h2,h3⟩=>?_,λ S2 acc s2 AQ ⟨us,ws,h1,h2,h3⟩=>?_⟩
 ·obtain⟨q1,q2⟩:=tG q
  rw[uf q1]
  exact hh a o (λ z=>q1 (.inr z)) q2
 ·obtain⟨x,hx,rx⟩:=r1.fH hd
  have An:=(AL.mp hx).1
  have EC:ts.drop i=x::ts.drop (i+1):=by rw[List.drop_eq_getElem_cons An,(AL.mp hx).2]
  rw[EC] at h2
  unfold qE at h2
  obtain⟨o,o1,h2⟩:=Ai.mp h2
  obtain⟨ws',o2,rfl⟩:=AE.mp h2
  have E2:=(E1.hide s2 hp (by rw[AQ];nofun)).U9 (pick:=pick)
  unfold sJ at o1
  obtain⟨J2,g1,o1⟩:=Ai.mp o1
  obtain⟨bb,g2,o1⟩:=Ai.mp o1
  refine hg (v_ pick Y) S2 _ _ _ J2 x d _ (λ j hj=>?_) ⟨rfl,λ _ _ q=>q⟩ (by unfold v_ ng;simp) E2 (Sn.sx (pK s2 hp) x rx) g1 fun Y2 E3 l3 _=>⟨l3,?_⟩
  ·unfold v_;rw[AA,hj];rfl
  refine hc S2 _ Y2 J2 bb _ E3 g2 λ S3 s3=>?_
  split at o1
  ·rename_i hb
   rw[if_pos hb]
   obtain⟨z,g3,rfl⟩:=AE.mp o1
   refine hf S3 _ Y2 J2 z _ (E3.grow s3) g3 λ dz S4 s4 r4=>⟨s3.trans s4,us++[z],ws',?_,o2,by rw[h3];simp⟩
   exact (zk.sx (wN (s3.trans s4)) us h1).append (.cons r4 .nil)
  ·rename_i hb
   rw[if_neg hb]
   cases o1
   exact⟨s3,us,ws',zk.sx (wN s3) us h1,o2,h3⟩
 ·rw[show I.items.length=ts.length from r1.len,List.drop_length] at h2
  cases h2
  rw[C5] at h3
  subst h3
  refine hq _ S2 (s1.trans s2) ⟨?_,λ vs e=>?_⟩
  ·simp only[Sn]
   exact⟨acc,.inr ⟨p,rfl,by rw[uf nz];exact AQ⟩,zk.sx (tH λ a z=>.inl z) zs h1⟩
  ·cases e
   exact⟨p,acc,rfl,s1.none hp,AQ,h1⟩
class Sr (R:Rk):Prop extends Lo R where
 sn:∀ {S S':SS}{Z:Addr->Prop}{y:T}{d:D},R S S' Z y d->Sn (zR S' Z) y d
instance:Sr xO:=⟨λ h=>h⟩
instance:Sr zF:=⟨λ h=>h.1⟩
def zL (R:Rk) (F:List T->Option T):sY:=λ ds S Q=>∃ Z ys y,(∀ a,Z a->S a≠none)/\zk (zR S Z) ys ds/\F ys=some y/\∀ d S',Sx S S'->R S S' Z y d->Q d S'
def zL.mo {R:Rk}{F:List T->Option T}:eR (zL R F):=λ _ _ _ _ hq ⟨Z,ys,y,h1,h2,h3,h4⟩=>⟨Z,ys,y,h1,h2,h3,λ d S' s r=>hq _ _ (h4 d S' s r)⟩
def gH {R:Rk} [Lo R] {F:List T->Option T}{g:Ev->Option (List T)}{u:yi}(h:oj g u):xx R (zq F g) (jy (zL R F) u):=λ S Z Y J y Q hE e hq=>by
 obtain⟨xs,e1,e2⟩:=Ai.mp e
 refine h S Z Y J xs _ hE e1 λ ds S1 s1 r1=>?_
 exact⟨Z,xs,y,(hE.grow s1).zd,r1,e2,λ d S' s r=>hq d S' (s1.trans s) (Cl.cl s1 r)⟩
@[simp] noncomputable def qZ (N:List Str) (ys:List T):Ev:=ys.map (λ y=>some (.im y))++List.replicate (N.length-ys.length) none
@[simp] noncomputable def ak:Option Out->Option T
 | some (.rt y)=>some y
 | some (.nx _)=>some .zr
 | _=>none
@[simp] def zV (N:List Str) (n:Nat) (g:Sm):List T->Option T:=λ ys=>if ys.length=n then ak (g (qZ N ys)) else none
theorem zL.len {R:Rk}{N:List Str}{n:Nat}{g:Sm}{ds:List D}{S:SS}{Q:DK}(hs:zL R (zV N n g) ds S Q):ds.length=n:=by
 obtain⟨Z,ys,y,hz,r,e,hq⟩:=hs
 unfold zV at e
 split at e
 ·rename_i h;rw[r.len];exact h
 ·cases e
def WR {N:List Str}{ds:List D}{i:Nat}{d:D}(h:ds[i]?=some d):(sf N ds)[i]?=some (some d):=by
 have hi:=(AL.mp h).1
 unfold sf
 rw[Cg (by simpa using hi),AA,h];rfl
def lQ {N:List Str}{ys:List T}{i:Nat}{w:W}(h:(qZ N ys)[i]?=some (some w)):∃ y,ys[i]?=some y/\w=.im y:=by
 unfold qZ at h
 have hi:i<ys.length:=by
  rcases Bk i ys.length with q | q
  ·exact q
  ·rw[Ci (by simpa using q),Dz] at h
   split at h <;> cases h
 rw[Cg (by simpa using hi),AA] at h
 cases q:ys[i]? with
 | none=>rw[q] at h;cases h
 | some y=>rw[q] at h;cases h;exact⟨y,rfl,rfl⟩
def Me {R:Rk} [Lo R] {N:List Str}{n:Nat}{g:Sm}{t:yI}(h:yy R g t) {ds:List D}{S:SS}{Q:DK}(hs:zL R (zV N n g) ds S Q):t { nx:=λ _ S'=>Q .zr S',rt:=Q } (sf N ds) S:=by
 obtain⟨Z,ys,y,hz,r,e,hq⟩:=hs
 unfold zV at e
 split at e
 case isFalse=>cases e
 obtain⟨o,e1,e2⟩:∃ o,g (qZ N ys)=some o/\ak (some o)=some y:=by
  cases q:g (qZ N ys) with
  | none=>rw[q] at e;cases e
  | some o=>exact⟨o,rfl,by rw[<- q];exact e⟩
 refine h S Z S Z _ _ o _ ⟨⟨hz,λ i t e=>?_,λ i ts e=>?_⟩,?_,.refl S,hz,λ _ z=>z,λ _ z=>.inl z,λ i ts p e _=>?_,λ i j ts us p _ e _ _ _=>?_⟩ e1 ?_
 ·obtain⟨y',h1,h2⟩:=lQ e
  cases h2
  obtain⟨d,h3,h4⟩:=r.fF h1
  exact⟨d,WR h3,h4⟩
 ·obtain⟨y',h1,h2⟩:=lQ e
  cases h2
 ·unfold sf qZ
  have:=r.len
  simp[this]
 ·obtain⟨y',h1,h2⟩:=lQ e
  cases h2
 ·obtain⟨y',h1,h2⟩:=lQ e
  cases h2
 ·cases o with
  | rt y'=>cases e2;exact λ d S' s r=>hq d S' s r
  | nx J'=>
   cases e2
   exact λ S' Z' Y' F=>hq .zr S' F.sx (Cl.of (λ _=>nofun) cQ)
  | _=>cases e2
noncomputable def xo (Aa:List (Key×T)) (k:Key):Option T:=(Aa.find? λ kv=>decide (kv.1=k)).map (·.2)
noncomputable def vX (Aa:List (Key×T)) (k:Key) (v:T):List (Key×T):=
 if (Aa.any λ kv=>decide (kv.1=k))=true then Aa.map (λ kv=>if kv.1=k then (kv.1,v) else kv) else Aa++[(k,v)]
section
variable {S:SS}
theorem yz.len:∀ {a:List (Key×T)}{b:List (Key×D)},yz S a b->b.length=a.length
 | [],_,h=>by cases h;rfl
 | (k,t)::r,_,h=>by
  obtain⟨d,m,rfl,_,h2⟩:=h
  simp[yz.len h2]
theorem yz.val:∀ {a:List (Key×T)}{b:List (Key×D)}(k:Key),yz S a b->(xo a k=none/\vS b k=none)\/∃ t d,xo a k=some t/\vS b k=some d/\Sn S t d
 | [],_,k,h=>by cases h;exact .inl ⟨rfl,rfl⟩
 | (j,t)::r,_,k,h=>by
  obtain⟨d,m,rfl,h1,h2⟩:=h
  by_cases e:j=k
  ·subst e;exact .inr ⟨t,d,by simp[xo],by simp[vS],h1⟩
  ·rcases yz.val k h2 with ⟨g1,g2⟩ | ⟨t',d',g1,g2,g3⟩
   ·exact .inl ⟨by simpa [xo,e] using g1,by simpa [vS,e] using g2⟩
   ·exact .inr ⟨t',d',by simpa [xo,e] using g1,by simpa [vS,e] using g2,g3⟩
theorem yz.any:∀ {a:List (Key×T)}{b:List (Key×D)}(k:Key),yz S a b->(b.any λ kv=>decide (kv.1=k))=a.any λ kv=>decide (kv.1=k)
 | [],_,k,h=>by cases h;rfl
 | (j,t)::r,_,k,h=>by
  obtain⟨d,m,rfl,h1,h2⟩:=h
  rw[Bu,Bu,yz.any k h2]
theorem yz.uZ {k:Key}{t:T}{d:D}(r:Sn S t d):∀ {a:List (Key×T)}{b:List (Key×D)},yz S a b->yz S (a.map λ kv=>if kv.1=k then (kv.1,t) else kv) (b.map λ kv=>if kv.1=k then (kv.1,d) else kv)
 | [],_,h=>by cases h;rfl
 | (j,u)::a,_,h=>by
  obtain⟨e,m,rfl,h1,h2⟩:=h
  rw[Au,Au]
  by_cases q:j=k
  ·rw[if_pos q,if_pos q];exact⟨d,_,rfl,r,yz.uZ r h2⟩
  ·rw[if_neg q,if_neg q];exact⟨e,_,rfl,h1,yz.uZ r h2⟩
theorem yz.snoc {k:Key}{t:T}{d:D}(r:Sn S t d):∀ {a:List (Key×T)}{b:List (Key×D)},yz S a b->yz S (a++[(k,t)]) (b++[(k,d)])
 | [],_,h=>by cases h;exact⟨d,[],rfl,r,rfl⟩
 | (j,u)::a,_,h=>by
  obtain⟨e,m,rfl,h1,h2⟩:=h
  exact⟨e,_,rfl,h1,yz.snoc r h2⟩
def yz.put {a:List (Key×T)}{b:List (Key×D)}(h:yz S a b) (k:Key) {t:T}{d:D}(r:Sn S t d):yz S (vX a k t) (putD b k d):=by
 unfold vX putD
 rw[h.any k]
 split
 ·exact yz.uZ r h
 ·exact yz.snoc r h
end
@[simp] noncomputable def Yg (i:Nat):Sm:=fun J=>some (.nx (J.set i (some (.own (.yh [])))))
@[simp] def fT (i:Nat) (f:Ev->Option T):Ev->Option T:=fun J=>(f J).bind λ y=>match J[i]?,y with
 | some (some (.own (.yh Aa))),.int k=>xo Aa (.inl k)
 | _,_=>none
@[simp] def Yh (i:Nat) (f g:Ev->Option T):Ev->Option T:=fun J=>(f J).bind λ y=>(g J).bind λ z=>match J[i]?,y with
 | some (some (.own (.yh Aa))),.int k=>some ((xo Aa (.inl k)).getD z)
 | _,_=>none
@[simp] def Yf (i:Nat) (f v:Ev->Option T):Sm:=fun J=>(v J).bind λ z=>(f J).bind λ y=>match J[i]?,y with
 | some (some (.own (.yh Aa))),.int k=>if Aa.length<sizeLine then some (.nx (J.set i (some (.own (.yh (vX Aa (.inl k) z)))))) else none
 | _,_=>none
@[simp] noncomputable def fS (i:Nat):Ev->Option T:=fun J=>match J[i]? with
 | some (some (.own (.yh Aa)))=>some (.int Aa.length)
 | _=>none
def kG {S:SS}{Z:Addr->Prop}{Y:yj}{J:Ev}(hE:ER S Z Y J) {i:Nat}{Aa:List (Key×T)}(h:J[i]?=some (some (.own (.yh Aa)))):∃ p b,Y[i]?=some (some (.ref p))/\S p=some (.yh b)/\yz (zR S Z) Aa b:=by
 obtain⟨p,o,h1,h2,h3,_⟩:=hE.ow i _ h
 cases o with
 | yh b=>exact⟨p,b,h1,h2,h3⟩
 | lst _=>exact h3.elim
section
variable {R:Rk}{f g v:Ev->Option T}{ty tx tv:zu}
def Ra (i:Nat):yy R (Yg i) (tN Ys (hName i)):=λ S0 Z0 S Z Y J o E F e P=>by
 cases e
 intro p hp
 exact P _ _ _ (F.cX (ts:=.yh []) (ds:=.yh []) (.new hp _) i hp rq rfl)
def aC (i:Nat) (hf:yv f ty):vM (fT i f) (Yv (y6 i) ty):=λ S Z Y J y Q hE e hq=>by
 obtain⟨x,e1,e2⟩:=Ai.mp e
 split at e2
 ·rename_i Aa k h
  obtain⟨p,b,h1,h2,h3⟩:=kG hE h
  show y6 i Y S _
  unfold y6;rw[h1]
  refine hf S Z Y J _ _ hE e1 λ d S1 s1 r1=>?_
  cases Vw.int r1
  rcases (yz.sx (wN s1) h3).val (.inl k) with ⟨g1,_⟩ | ⟨t,d,g1,g2,g3⟩
  ·rw[g1] at e2;cases e2
  ·rw[g1] at e2;cases e2
   exact⟨p,b,k,d,rfl,rfl,s1 _ _ h2,g2,hq d S1 s1 g3⟩
 ·cases e2
def aD (i:Nat) (hf:yv f ty) (hg:vM g tx):vM (Yh i f g) (Yu (y6 i) ty tx):=λ S Z Y J y Q hE e hq=>by
 obtain⟨x,e1,e⟩:=Ai.mp e
 obtain⟨z,e2,e3⟩:=Ai.mp e
 split at e3
 ·rename_i Aa k h
  cases e3
  obtain⟨p,b,h1,h2,h3⟩:=kG hE h
  show y6 i Y S _
  unfold y6;rw[h1]
  refine⟨p,rfl,⟨b,h2⟩,hf S Z Y J _ _ hE e1 λ d S1 s1 r1=>?_⟩
  cases Vw.int r1
  refine hg S1 Z Y J z _ (hE.grow s1) e2 λ dz S2 s2 r2=>⟨k,b,rfl,(s1.trans s2) _ _ h2,?_⟩
  rcases (yz.sx (wN (s1.trans s2)) h3).val (.inl k) with ⟨g1,g2⟩ | ⟨t,d,g1,g2,g3⟩
  ·rw[g2];rw[g1] at hq;exact hq _ S2 (s1.trans s2) r2
  ·rw[g2];rw[g1] at hq;exact hq _ S2 (s1.trans s2) g3
 ·cases e3
def S_ (i:Nat) (hf:yv f ty) (hv:vM v tv):yy R (Yf i f v) (Yt (y6 i) ty tv):=λ S0 Z0 S Z Y J o E F e P=>by
 obtain⟨z,e1,e⟩:=Ai.mp e
 obtain⟨x,e2,e3⟩:=Ai.mp e
 split at e3
 ·rename_i Aa k h
  split at e3
  ·rename_i hl
   cases e3
   refine hv S Z Y J z _ F.er e1 λ dz S1 s1 r1=>?_
   have F1:=F.grow s1
   obtain⟨p,b,h1,h2,h3⟩:=kG F1.er h
   show y6 i Y S1 _
   unfold y6;rw[h1]
   refine hf S1 Z Y J _ _ F1.er e2 λ d S2 s2 r2=>?_
   cases Vw.int r2
   have h4:=yz.sx (wN s2) h3
   exact⟨p,b,k,rfl,rfl,s2 _ _ h2,by rw[h4.len];exact hl,P _ Z Y ((F1.grow s2).mut (us:=.yh (vX Aa (.inl k) z)) (es:=.yh (putD b (.inl k) dz)) i h h1 (h4.put _ (Sn.sx (wN s2) z r1)))⟩
  ·cases e3
 ·cases e3
def Qj (i:Nat):xy (fS i) (x9 ZV (qD (y6 i) jv)):=λ S Z Y J y Q hE e hq=>by
 unfold fS at e
 split at e
 ·rename_i Aa h
  cases e
  obtain⟨p,b,h1,h2,h3⟩:=kG hE h
  show y6 i Y S _
  unfold y6;rw[h1]
  refine⟨p,b,rfl,h2,?_⟩
  rw[h3.len]
  exact hq _ S (.refl S) (Cl.of (λ _=>nofun) wy)
 ·cases e
end
@[simp] noncomputable def nI (f:Ev->Option T):Ev->Option T:=fun J=>(f J).bind λ x=>match x with
 | .int i=>some (.int (-i))
 | _=>none
def Yo (ta:zu):zu:=fun Y S Q=>ta Y S λ x S1=>match x with
 | .int i=>Q (.int (-i)) S1
 | _=>False
def RE {f:Ev->Option T}{te:zu}(h:yv f te):xy (nI f) (Yo te):=λ S Z Y J y Q hE e hq=>by
 obtain⟨x,e1,e2⟩:=Ai.mp e
 refine h S Z Y J x _ hE e1 λ d S1 s1 r1=>?_
 split at e2
 ·cases Vw.int r1
  cases e2
  exact hq _ S1 s1 (Cl.of (λ _=>nofun) wy)
 ·cases e2
def Ox:vO zF pC ZU:=ZG
def Ow:vO zF nK ZT:=ZG
noncomputable def ud:List T->Option (List Int)
 | []=>some []
 | .int i::ts=>(ud ts).map (i::·)
 | _::_=>none
noncomputable def vw:List T->Option (List (List Int))
 | []=>some []
 | .tup r::ts=>(ud r).bind λ x=>(vw ts).map (x::·)
 | _::_=>none
noncomputable def zD (r:List Int):T:=.tup (r.map T.int)
theorem nW:∀ {ts:List T}{is:List Int},ud ts=some is->ts=is.map T.int
 | [],is,h=>by cases h;rfl
 | .int b::ts,is,h=>by
  unfold ud at h
  obtain⟨cs,h1,rfl⟩:=AE.mp h
  rw[Au,<- nW h1]
 | .zr::ts,bs,h=>by cases h
 | .bl _::ts,bs,h=>by cases h
 | .str _::ts,bs,h=>by cases h
 | .tup _::ts,bs,h=>by cases h
 | .lst _::ts,bs,h=>by cases h
theorem h_:∀ {ts:List T}{rs:List (List Int)},vw ts=some rs->ts=rs.map zD
 | [],is,h=>by cases h;rfl
 | .tup r::ts,is,h=>by
  unfold vw at h
  obtain⟨x,h1,h⟩:=Ai.mp h
  obtain⟨cs,h2,rfl⟩:=AE.mp h
  rw[Au,<- h_ h2,nW h1];rfl
 | .zr::ts,bs,h=>by cases h
 | .bl _::ts,bs,h=>by cases h
 | .str _::ts,bs,h=>by cases h
 | .int _::ts,bs,h=>by cases h
 | .lst _::ts,bs,h=>by cases h
def kZ (is:List Int):ud (is.map T.int)=some is:=by
 induction is with
 | nil=>rfl
 | cons b bs ih=>rw[Au];unfold ud;rw[ih];rfl
def kr (rs:List (List Int)):vw (rs.map zD)=some rs:=by
 induction rs with
 | nil=>rfl
 | cons b bs ih=>
  show vw (.tup (b.map T.int)::bs.map zD)=_
  unfold vw;rw[kZ,ih];rfl
theorem sk {S:SS}:∀ {is:List Int}{ds:List D},zk S (is.map T.int) ds↔ds=is.map D.int
 | [],ds=>by simp only[Bb,zk]
 | i::is,ds=>by
  rw[Au]
  simp only[zk,Sn]
  constructor
  ·rintro⟨c,cs,rfl,rfl,h⟩
   rw[sk.mp h];rfl
  ·rintro rfl
   exact⟨.int i,_,rfl,rfl,sk.mpr rfl⟩
theorem q_ {S:SS}:∀ {rs:List (List Int)}{ds:List D},zk S (rs.map zD) ds↔ds=rs.map xY
 | [],ds=>by simp only[Bb,zk]
 | r::rs,ds=>by
  rw[Au]
  simp only[zk,zD,Sn]
  constructor
  ·rintro⟨c,cs,rfl,⟨es,rfl,h1⟩,h⟩
   rw[q_.mp h,sk.mp h1];rfl
  ·rintro rfl
   exact⟨xY r,_,rfl,⟨_,rfl,sk.mpr rfl⟩,q_.mpr rfl⟩
@[simp] noncomputable def oE:T->Option String
 | .zr=>some "NoneType"
 | .bl _=>some "bool"
 | .int _=>some "int"
 | .str _=>some "str"
 | .tup _=>some "tuple"
 | .lst _=>some "list"
 | .xf=>some "dict"
 | .err _ _ _=>none
@[simp] def Fz (ty:String) (f:Ev->Option T):Ev->Option T:=fun J=>(f J).bind λ x=>(oE x).map λ t=>.bl (xI t ty)
theorem Vw.err {S:SS}{Z:Addr->Prop}{c f:Str}{t:T}{d:D}(h:Vw S Z (.err c f t) d):∃ x,d=.err c f x/\Sn (zR S Z) t x:=by
 rcases h with h | ⟨_,_,_,h,_⟩
 ·simpa only [Sn] using h
 ·cases h
def R_ {ty:String}{f:Ev->Option T}{te:zu}(hf:yv f te):xy (Fz ty f) (pR ty te):=λ S Z Y J y Q hE e hq=>by
 obtain⟨x,e1,e2⟩:=Ai.mp e
 obtain⟨n,e3,rfl⟩:=AE.mp e2
 refine hf S Z Y J x _ hE e1 λ d S1 s1 r1=>?_
 have key:r9 d S1=some n:=by
  rw[<- e3]
  cases x with
  | zr=>cases Vw.zr r1;rfl
  | bl _=>cases Vw.bl r1;rfl
  | int _=>cases Vw.int r1;rfl
  | str _=>cases Vw.str r1;rfl
  | tup _=>obtain⟨ds,rfl,_⟩:=Vw.tup r1;rfl
  | lst _=>
   obtain⟨ds,rfl | ⟨a,rfl,h1⟩,h2⟩:=Vw.lst r1
   ·rfl
   ·unfold r9;dsimp only;rw[h1];rfl
  | xf=>
   obtain⟨a,Aa,⟨rfl,_⟩,h1⟩:=Vw.xf r1
   unfold r9;dsimp only;rw[h1];rfl
  | err _ _ _=>cases e3
 rw[key]
 exact hq _ S1 s1 (Cl.of (λ _=>nofun) wV)
@[simp] noncomputable def isNone:T->Bool
 | .zr=>true
 | _=>false
noncomputable def pF:D->Bool
 | .zr=>true
 | _=>false
noncomputable def zm (p:Int×Int):T:=.tup [.int p.1,.int p.2]
noncomputable def vd (ns:List Int):T:=.lst (ns.map .int)
@[simp] theorem zaa:sizeLine=16777216:=rfl
def QZ {n:Nat}(h:n<=10000):n<=sizeLine:=A8 h (by decide)
def vH {α:Type}{xs:List α}{k:Nat}{x:α}(h:xs[k]?=some x):L2.zP xs (k:Int)=some x:=by
 unfold L2.zP L2.wZ
 have hk:=(AL.mp h).1
 rw[if_pos (by lia),if_pos (by lia)]
 simpa using h
@[simp] theorem eA {α:Type}{xs:List α}{x:α}:L2.zP (xs++[x]) (-1)=some x:=by
 unfold L2.zP L2.wZ
 rw[if_neg (by lia),if_pos (by simp;lia)]
 have:(-1+((xs++[x]).length:Int)).toNat=xs.length:=by simp;lia
 rw[Bm,this]
 simp
@[simp] theorem zap {α:Type}{x:α}{xs:List α}:L2.zP (x::xs) 0=some x:=vH (k:=0) rfl
@[simp] theorem zao {α:Type}{x y:α}{xs:List α}:L2.zP (x::y::xs) 1=some y:=vH (k:=1) rfl
@[simp] theorem zan {α:Type}{x y z:α}{xs:List α}:L2.zP (x::y::z::xs) 2=some z:=vH (k:=2) rfl
@[simp] theorem zam {α:Type}{x y z w:α}{xs:List α}:L2.zP (x::y::z::w::xs) 3=some w:=vH (k:=3) rfl
theorem fW {α:Type}(enc:α->T) (g:α->Option T) (h:T->Option (Option T)):∀ (xs:List α),(∀ x∈xs,h (enc x)=some (g x))->qE h (xs.map enc)=some (xs.filterMap g)
 | [],_=>rfl
 | x::xs,hh=>by
  rw[Au]
  unfold qE
  rw[hh x Ao,fW enc g h xs λ y hy=>hh y (Av _ hy)]
  cases q:g x <;> simp[q]
def N4 {α:Type}(enc:α->T) (g:α->T) (h:T->Option (Option T)) (xs:List α) (hh:∀ x∈xs,h (enc x)=some (some (g x))):qE h (xs.map enc)=some (xs.map g):=by
 rw[fW enc (λ x=>some (g x)) h xs hh]
 simp
def xU {α:Type}(enc:α->T) (h:α->T) {pick:List (Option Nat)}{it:Ev->Option (List T)}{g:T->Ev->Option Ev}{c:Ev->Option Bool}{f:Ev->Option T}{J:Ev}(xs:List α) (hi:it J=some (xs.map enc)) (hl:xs.length<=16777216)
  (hh:∀ x∈xs,sJ pick g c f J (enc x)=some (some (h x))):yO pick it g c f J=some (.lst (xs.map h)):=by
 unfold yO
 rw[hi,Bm,if_pos (by rw[Ay];exact hl),N4 enc h _ xs hh];rfl
def nQ {α:Type}(enc:α->T) (h:α->Option T) {pick:List (Option Nat)}{it:Ev->Option (List T)}{g:T->Ev->Option Ev}{c:Ev->Option Bool}{f:Ev->Option T}{J:Ev}(xs:List α) (hi:it J=some (xs.map enc)) (hl:xs.length<=16777216)
  (hh:∀ x∈xs,sJ pick g c f J (enc x)=some (h x)):yO pick it g c f J=some (.lst (xs.filterMap h)):=by
 unfold yO
 rw[hi,Bm,if_pos (by rw[Ay];exact hl),fW enc h _ xs hh];rfl
section
variable {α:Type}{is:List Nat}{g:T->Ev->Option Ev}{b:Sm}
noncomputable def turn (g:T->Ev->Option Ev) (b:Sm) (y:T) (J:Ev):Option Out:=(g y J).bind b
theorem gU (y:T) (ys:List T) (J:Ev):xj is g b (y::ys) J=(turn g b y (yu is J)).bind λ o=>match o with
  | .nx J2=>xj is g b ys J2
  | .ct J2=>xj is g b ys J2
  | .bk J2=>some (.nx (yu is J2))
  | .rt t=>some (.rt t):=by
 unfold turn
 rw[xj]
 cases g y (yu is J) <;> rfl
theorem qz (enc:α->T) (test:α->Bool) (v:T) (J0:Ev):∀ (xs:List α) (J:Ev),yu is J=J0->(∀ x∈xs,∃ J',yu is J'=J0/\turn g b (enc x) J0=some (if test x=true then .rt v else .nx J'))->xj is g b (xs.map enc) J=some (if xs.any test=true then .rt v else .nx J0)
 | [],J,h,_=>by rw[Bb,xj,h];rfl
 | x::xs,J,h,hs=>by
  obtain⟨J',h1,h2⟩:=hs x Ao
  rw[Au,gU,h,h2,Bu]
  cases q:test x with
  | true=>simp
  | false=>
   have ih:=qz enc test v J0 xs J' h1 λ y hy=>hs y (Av _ hy)
   simpa using ih
theorem aW (enc:α->T) (I:List α->Ev->Prop):∀ (xs:List α) (pre:List α) (J:Ev),I pre (yu is J)->
  (∀ p x q,pre++xs=p++x::q->∀ J,I p J->∃ J',turn g b (enc x) J=some (.nx J')/\I (p++[x]) (yu is J'))->∃ J',xj is g b (xs.map enc) J=some (.nx J')/\I (pre++xs) J'
 | [],pre,J,h,_=>⟨yu is J,by rw[Bb,xj],by simpa using h⟩
 | x::xs,pre,J,h,hs=>by
  obtain⟨J',h1,h2⟩:=hs pre x xs rfl _ h
  rw[Au,gU,h1]
  have ih:=aW enc I xs (pre++[x]) J' h2 λ p y q e=>hs p y q (by rw[<- e];simp)
  simpa using ih
def tE (enc:α->T) (I:List α->Ev->Prop) (xs:List α) (J:Ev) (h:I [] (yu is J))
  (hs:∀ p x q,xs=p++x::q->∀ J,I p J->∃ J',turn g b (enc x) J=some (.nx J')/\I (p++[x]) (yu is J')):∃ J',xj is g b (xs.map enc) J=some (.nx J')/\I xs J':=aW enc I xs [] J h hs
end
def pj (n:Nat) (h:n<=100000):xZ [.int (n:Int)]=some ((List.range n).map λ(k:Nat)=>T.int (0+(k:Int))):=by
 show (if inR (n:Int)=true then some (rangeT 0 (n:Int).toNat) else none)=_
 rw[if_pos (k_.mpr ⟨by lia,by lia⟩)]
 rfl
def VM (a n:Nat) (h:a<=100000) (h':n<=100000):oW [.int (a:Int),.int (n:Int)]=some ((List.range (n-a)).map λ(k:Nat)=>T.int ((a:Int)+(k:Int))):=by
 show (if inR (a:Int)=true/\inR (n:Int)=true then some (rangeT a ((n:Int)-a).toNat) else none)=_
 rw[if_pos ⟨k_.mpr ⟨by lia,by lia⟩,k_.mpr ⟨by lia,by lia⟩⟩,show ((n:Int)-a).toNat=n-a by lia]
 rfl
def qm (a:Key) (b:T) (Aa:List (Key×T)) (j:Key):xo ((a,b)::Aa) j=if a=j then some b else xo Aa j:=by
 by_cases h:a=j <;> simp[xo,h]
theorem cz (k j:Key) (d:T):∀ Aa:List (Key×T),xo (Aa.map λ kv=>if kv.1=k then (kv.1,d) else kv) j=(xo Aa j).map λ x=>if j=k then d else x
 | []=>rfl
 | (a,b)::Aa=>by
  have ih:=cz k j d Aa
  rw[Au]
  by_cases hk:a=k
  ·rw[if_pos hk,qm,qm,ih]
   by_cases hj:a=j
   ·subst hj;subst hk;simp
   ·rw[if_neg hj,if_neg hj]
  ·rw[if_neg hk,qm,qm,ih]
   by_cases hj:a=j
   ·subst hj;simp[hk]
   ·rw[if_neg hj,if_neg hj]
theorem cy (k j:Key) (d:T):∀ Aa:List (Key×T),(∀ kv∈Aa,¬ kv.1=k)->xo (Aa++[(k,d)]) j=if j=k then some d else xo Aa j
 | [],_=>by
  show xo [(k,d)] j=_
  rw[qm]
  by_cases h:j=k
  ·subst h;simp
  ·rw[if_neg h,if_neg (λ z=>h z.symm)]
 | (a,b)::Aa,hn=>by
  have ih:=cy k j d Aa λ kv Et=>hn kv (Av _ Et)
  have ha:¬ a=k:=hn (a,b) Ao
  show xo ((a,b)::(Aa++[(k,d)])) j=_
  rw[qm,qm,ih]
  by_cases hj:a=j
  ·subst hj;simp[ha]
  ·rw[if_neg hj,if_neg hj]
def YR (Aa:List (Key×T)) (k:Key):(Aa.any λ kv=>decide (kv.1=k))=(xo Aa k).isSome:=by
 unfold xo
 rw[Option.isSome_map,Bn,A6,List.find?_isSome]
def lF (Aa:List (Key×T)) (k j:Key) (d:T):xo (vX Aa k d) j=if j=k then some d else xo Aa j:=by
 unfold vX
 split
 ·rename_i h
  rw[YR] at h
  rw[cz]
  by_cases hj:j=k
  ·subst hj
   obtain⟨x,hx⟩:=DA.mp h
   simp[hx]
  ·simp[hj]
 ·rename_i h
  exact cy k j d Aa λ kv Et z=>h (A6.mpr ⟨kv,Et,KA z⟩)
def Zb (Aa:List (Key×T)) (k:Key) (d:T):(vX Aa k d).length=if (xo Aa k).isSome=true then Aa.length else Aa.length+1:=by
 have e:=YR Aa k
 unfold vX
 rw[e]
 split <;> simp
noncomputable def vx (p:Int×Int):List Int:=[p.1,p.2]
def sj (ps:List (Int×Int)):List (Int×Int):=(L4.xD (ps.map vx)).map λ r=>(r.getD 0 0,r.getD 1 0)
def cM (ps:List (Int×Int)):(sj ps).map vx=L4.xD (ps.map vx):=by
 unfold sj
 rw[AJ]
 conv=>rhs;rw[<- List.map_id (L4.xD (ps.map vx))]
 refine CL λ r hr=>?_
 obtain⟨p,_,rfl⟩:=Al.mp ((L4.uX _).mem_iff.mp hr)
 rfl
def i3 (ps:List (Int×Int)):(sj ps).Perm ps:=by
 have h:=L4.uX (ps.map vx)
 have:(sj ps).Perm ((ps.map vx).map λ r=>(r.getD 0 0,r.getD 1 0)):=h.map _
 rwa [AJ,show ((λ r:List Int=>(r.getD 0 0,r.getD 1 0)) ∘ vx)=id from rfl,List.map_id] at this
def pD (p q:Int×Int):Prop:=p.1<q.1\/(p.1=q.1/\p.2<=q.2)
def cL (ps:List (Int×Int)):(sj ps).Pairwise pD:=by
 have h:=L4.lU (ps.map vx)
 rw[<- cM,BM] at h
 refine h.imp λ{p q} CA=>?_
 unfold vx at CA
 rw[HT.tF,HT.tF] at CA
 unfold pD
 by_cases e:q.1=p.1
 ·rw[if_pos e] at CA
  by_cases e2:q.2=p.2
  ·lia
  ·rw[if_neg e2] at CA
   have:=of_decide_eq_false CA
   lia
 ·rw[if_neg e] at CA
  have:=of_decide_eq_false CA
  lia
def VI (ps:List (Int×Int)):vw (ps.map zm)=some (ps.map vx):=by
 have:=kr (ps.map vx)
 rwa [AJ,show zD ∘ vx=zm from rfl] at this
noncomputable def xb (q p:Int×Int):Bool:=decide (p.1<=q.1)&&decide (p.2<=q.2)
def zN (ps:List (Int×Int)) (q:Int×Int):Bool:=ps.any (xb q)
def y_ {ps:List (Int×Int)}{q:Int×Int}:zN ps q=true↔∃ p∈ps,p.1<=q.1/\p.2<=q.2:=by
 unfold zN xb
 simp[A6]
def N0 {ps qs:List (Int×Int)}(h:ps.Perm qs) (q:Int×Int):zN ps q=zN qs q:=by
 rw[Bn,y_,y_]
 exact⟨λ⟨p,h1,h2⟩=>⟨p,h.mem_iff.mp h1,h2⟩,λ⟨p,h1,h2⟩=>⟨p,h.mem_iff.mpr h1,h2⟩⟩
def N1 (ps qs:List (Int×Int)) (q:Int×Int):zN (ps++qs) q=(zN ps q||zN qs q):=by
 unfold zN;rw[List.any_append]
def wD (ps:List (Int×Int)):Prop:=ps.Pairwise λ p q=>p.1<q.1/\q.2<p.2
theorem wD.eq:∀ {ps qs:List (Int×Int)},wD ps->wD qs->(∀ q,zN ps q=zN qs q)->ps=qs
 | [],[],_,_,_=>rfl
 | [],q::qs,_,_,h=>by
  have:=h q
  rw[show zN [] q=false from rfl] at this
  have h2:zN (q::qs) q=true:=y_.mpr ⟨q,Ao,AK _,AK _⟩
  rw[h2] at this;cases this
 | p::ps,[],_,_,h=>by
  have:=h p
  rw[show zN [] p=false from rfl] at this
  have h2:zN (p::ps) p=true:=y_.mpr ⟨p,Ao,AK _,AK _⟩
  rw[h2] at this;cases this
 | p::ps,q::qs,hp,hq,h=>by
  have Jv:=Ba.mp hp
  have Ju:=Ba.mp hq
  have a1:∃ r∈q::qs,r.1<=p.1/\r.2<=p.2:=y_.mp (by rw[<- h];exact y_.mpr ⟨p,Ao,AK _,AK _⟩)
  have a2:∃ r∈p::ps,r.1<=q.1/\r.2<=q.2:=y_.mp (by rw[h];exact y_.mpr ⟨q,Ao,AK _,AK _⟩)
  obtain⟨r,hr,r1,r2⟩:=a1
  obtain⟨u,hu,u1,u2⟩:=a2
  have qr:q.1<=r.1:=by
   rcases Aj.mp hr with e | e
   ·subst e;exact AK _
   ·exact Int.le_of_lt (Ju.1 r e).1
  have pu:p.1<=u.1:=by
   rcases Aj.mp hu with e | e
   ·subst e;exact AK _
   ·exact Int.le_of_lt (Jv.1 u e).1
  have e1:p.1=q.1:=by lia
  have er:r=q:=by
   rcases Aj.mp hr with e | e
   ·exact e
   ·have:=(Ju.1 r e).1;lia
  have eu:u=p:=by
   rcases Aj.mp hu with e | e
   ·exact e
   ·have:=(Jv.1 u e).1;lia
  subst er eu
  have e2:u.2=r.2:=by lia
  have epq:u=r:=Prod.ext e1 e2
  subst epq
  rw[wD.eq Jv.2 Ju.2 λ x=>?_]
  have hx:=h x
  unfold zN at hx ⊢
  rw[Bu,Bu] at hx
  cases g:xb x u with
  | false=>rw[g] at hx;simpa using hx
  | true=>
   have gx:u.1<=x.1/\u.2<=x.2:=by simpa [xb] using g
   have key:∀ {l:List (Int×Int)},(∀ v∈l,u.1<v.1/\v.2<u.2)->l.any (xb x)=l.any (xb (x.1,u.2-1)):=by
    intro l hl
    rw[Bn,A6,A6]
    constructor
    ·rintro⟨v,hv,hg⟩
     have:=hl v hv
     have hg':v.1<=x.1/\v.2<=x.2:=by simpa [xb] using hg
     exact⟨v,hv,by simp[xb];lia⟩
    ·rintro⟨v,hv,hg⟩
     have:=hl v hv
     have hg':v.1<=x.1/\v.2<=u.2-1:=by simpa [xb] using hg
     exact⟨v,hv,by simp[xb];lia⟩
   rw[key Jv.1,key Ju.1]
   have hy:=h (x.1,u.2-1)
   unfold zN at hy
   rw[Bu,Bu] at hy
   have gn:xb (x.1,u.2-1) u=false:=by
    unfold xb
    rw[show decide (u.2<=(x.1,u.2-1).2)=false from Kv (by show ¬ u.2<=u.2-1;lia),CM]
   rw[gn] at hy
   simpa using hy
noncomputable def tR (l:Option Int) (x:Int):Bool:=match l with
 | none=>true
 | some m=>decide (x<m)
noncomputable def yH:List (Int×Int)->Option Int->List (Int×Int)
 | [],_=>[]
 | p::ps,l=>if tR l p.2=true then p::yH ps (some p.2) else yH ps l
def wa (ps:List (Int×Int)):List (Int×Int):=yH (sj ps) none
theorem nX:∀ (ps:List (Int×Int)) (l:Option Int) (q:Int×Int),q∈yH ps l->q∈ps/\∀ m,l=some m->q.2<m
 | [],l,q,h=>by simp[yH] at h
 | p::ps,l,q,h=>by
  unfold yH at h
  split at h
  ·rename_i c
   have hm:∀ m,l=some m->p.2<m:=λ m e=>by subst e;simpa [tR] using c
   rcases Aj.mp h with e | e
   ·subst e;exact⟨Ao,hm⟩
   ·obtain⟨h1,h2⟩:=nX ps _ q e
    exact⟨Av _ h1,λ m e=>by have:=h2 _ rfl;have:=hm m e;lia⟩
  ·obtain⟨h1,h2⟩:=nX ps _ q h
   exact⟨Av _ h1,h2⟩
theorem f9:∀ (ps:List (Int×Int)) (l:Option Int),ps.Pairwise pD->wD (yH ps l)
 | [],l,_=>by simp[yH,wD]
 | p::ps,l,h=>by
  have h1:=Ba.mp h
  unfold yH
  split
  ·refine Ba.mpr ⟨λ q hq=>?_,f9 ps _ h1.2⟩
   obtain⟨g1,g2⟩:=nX ps _ q hq
   have:=h1.1 q g1
   have:=g2 _ rfl
   unfold pD at *
   lia
  ·exact f9 ps _ h1.2
theorem fA:∀ (ps:List (Int×Int)) (l:Option Int),ps.Pairwise pD->∀ p∈ps,(∃ q∈yH ps l,q.1<=p.1/\q.2<=p.2)\/∃ m,l=some m/\m<=p.2
 | [],l,_,p,hp=>by cases hp
 | r::ps,l,h,p,hp=>by
  have h1:=Ba.mp h
  unfold yH
  split
  ·rename_i c
   rcases Aj.mp hp with e | e
   ·subst e;exact .inl ⟨p,Ao,AK _,AK _⟩
   ·rcases fA ps (some r.2) h1.2 p e with ⟨q,q1,q2⟩ | ⟨m,e1,e2⟩
    ·exact .inl ⟨q,Av _ q1,q2⟩
    ·cases e1
     have:=h1.1 p e
     unfold pD at this
     exact .inl ⟨r,Ao,by lia,e2⟩
  ·rename_i c
   rcases Aj.mp hp with e | e
   ·subst e
    cases l with
    | none=>simp[tR] at c
    | some m=>exact .inr ⟨m,rfl,by simpa [tR] using c⟩
   ·exact fA ps l h1.2 p e
def nN (ps:List (Int×Int)):wD (wa ps):=f9 _ _ (cL ps)
def Zc {ps:List (Int×Int)}{q:Int×Int}(h:q∈wa ps):q∈ps:=(i3 ps).mem_iff.mp (nX _ _ q h).1
def nP (ps:List (Int×Int)) (q:Int×Int):zN (wa ps) q=zN ps q:=by
 rw[<- N0 (i3 ps) q,Bn,y_,y_]
 constructor
 ·rintro⟨p,h1,h2⟩
  exact⟨p,(nX _ _ p h1).1,h2⟩
 ·rintro⟨p,h1,h2⟩
  rcases fA (sj ps) none (cL ps) p h1 with ⟨r,r1,r2⟩ | ⟨m,e,_⟩
  ·exact⟨r,r1,by lia,by lia⟩
  ·cases e
end L5
namespace L2
open PySem PySem.Spec PyProof.Rows
section
variable {X:Cx}
def bK (K:Ab):R2:=λ x y H Q=>∃ l b xs zs,x=.ref l/\y=.ref b/\zM K H l xs/\zM K H b zs/\xs.length+zs.length<=sizeLine/\∀ p,H p=none->Q (.ref p) (upd H p (.lst (xs++zs)))
def SJ:yc X (binaryOp .Add) (bK X.K):=by
 intro EH s B H x y v u Q I rx ry h
 obtain⟨l,b,xs,zs,rfl,rfl,hH,hB,hz,q⟩:=h
 cases rx
 cases ry
 obtain⟨its,r,p1,_⟩:=I.list hH
 obtain⟨Fw,r2,p2,_⟩:=I.list hB
 obtain⟨⟨cls,dd,data,sl⟩,ho,hc,n,hd⟩:=p1.isList
 obtain⟨⟨Ie,Hm,data2,Hj⟩,G1,Gm,n2,hd2⟩:=p2.isList
 simp only at hc hd Gm hd2
 subst hc hd Gm hd2
 have e:its.toArray++Fw.toArray=(its++Fw).toArray:=by simp
 refine concat_meets ⟨_,ho,rfl⟩ ⟨_,G1,rfl⟩ noFill_list_add seq_list_add PySem.F.slot_list_add PySem.F.entry_list_add (PySem.F.args_list_add_2 _ _) (list_addW l b its.toArray Fw.toArray n n2 dd Hm sl Hj (by rw[Ax,Ax,<- r.length,<- r2.length];exact hz)) ⟨ho,G1,?_⟩
 rw[e]
 exact⟨.ref _,_,I.QX (t':=s.toks) (r.append r2) (by rw[Ck];lia),rfl,q _ I.fresh⟩
def bI (K:Ab):R2:=λ x y H Q=>∃ a b ys,x=.ref a/\y=.ref b/\zT K H a []/\zT K H b ys/\Q (.ref b) H
def SG:yc X (binaryOp .Add) (bI X.K):=by
 intro EH s B H x y v u Q I rx ry h
 obtain⟨l,b,ys,rfl,rfl,hH,hB,q⟩:=h
 cases rx
 cases ry
 obtain⟨its,r,p1,_⟩:=I.tuple hH
 obtain⟨Fw,r2,p2,_⟩:=I.tuple hB
 obtain⟨⟨cls,dd,data,sl⟩,ho,hc,n,hd⟩:=id p1
 obtain⟨⟨Ie,Hm,data2,Hj⟩,G1,Gm,n2,hd2⟩:=id p2
 simp only at hc hd Gm hd2
 subst hc hd Gm hd2
 exact concat_meets ⟨_,ho,rfl⟩ ⟨_,G1,rfl⟩ noFill_tuple_add seq_tuple_add PySem.F.slot_tuple_add PySem.F.entry_tuple_add (PySem.F.args_tuple_add_2 _ _)
   (tuple_addW0 l b its.toArray Fw.toArray n n2 dd Hm sl Hj (by cases r;rfl)) ⟨ho,G1,⟨.ref b,H,I,rfl,q⟩⟩
end
end L2
namespace L5
open PySem PySem.Spec L2 L3
open PyProof.Rows hiding St
section
variable {X:Cx}{K:Ab}{a b c e:Expr}{es:List Expr}{ta tb tc te:zu}{tA:yi}{pos p:Pos}
def uj.mo:xr uj:=λ x y S Q Q' hq h=>by
 cases x with
 | int i=>cases y <;> first | exact hq _ _ h | exact h
 | str i=>cases y <;> first | exact⟨h.1,hq _ _ h.2⟩ | exact h
 | tup i=>cases y <;> first | exact⟨h.1,hq _ _ h.2⟩ | exact h
 | xE ds=>
  unfold uj at h ⊢
  dsimp only at h ⊢
  split at h
  ·exact⟨h.1,h.2.1,λ r hr=>hq _ _ (h.2.2 r hr)⟩
  ·exact h.elim
 | ref q=>
  unfold uj at h ⊢
  dsimp only at h ⊢
  split at h
  ·exact⟨h.1,h.2.1,λ r hr=>hq _ _ (h.2.2 r hr)⟩
  ·exact h.elim
 | _=>exact h
def rC {H:Hp}{S:SS}{d:D}{v:V}{ds:List D}(r:zg K H d v) (p:zJ K H S) (e:zQ d S=some ds) (n:∀ ts,d≠.tup ts):∃ a xs,v=.ref a/\zM K H a xs/\zl K H ds xs:=by
 unfold zQ at e
 split at e
 ·exact absurd rfl (n _)
 ·cases e
  simp only[zg] at r
  obtain⟨a,xs,h1,h2,h3⟩:=r
  exact⟨a,xs,h1,h2.sq,h3⟩
 ·split at e
  ·rename_i q
   cases e
   simp only[zg] at r
   subst r
   obtain⟨xs,h1,h2⟩:=p _ _ q
   exact⟨_,xs,rfl,zM.of h1,h2⟩
  ·cases e
 ·cases e
abbrev bM (K:Ab):R2:=λ x y H Q=>wW (λ i j=>.int (i+j)) x y H Q\/((∃ i j,x=.str i/\y=.str j/\i.length+j.length<=sizeLine/\Q (.str (i++j)) H)\/(bK K x y H Q\/(bI K x y H Q\/bJ K x y H Q)))
def uj.fits:xn K uj (bM K):=λ x y d e H S Q h1 h2 h3 h=>by
 have lst:(∀ ts,d≠.tup ts)->(match zQ d S,zQ e S with
  | some ds,some es=>(∀ ts,e≠.tup ts)/\ds.length+es.length<=sizeLine/\∀ r,S r=none->wA K H Q (.ref r) (ups S r (.lst (ds++es)))
  | _,_=>False)->bM K x y H Q:=λ n h=>by
  split at h
  ·rename_i ds es q1 q2
   obtain⟨a,xs,rfl,g1,g2⟩:=rC h1 h3 q1 n
   obtain⟨b,ys,rfl,g3,g4⟩:=rC h2 h3 q2 h.1
   refine .inr (.inr (.inl ⟨a,b,xs,ys,rfl,rfl,g1,g3,by rw[<- g2.length,<- g4.length];exact h.2.1,λ p hp=>?_⟩))
   exact h.2.2 p (h3.none hp) _ _ (by simp only[zg]) (.new hp _) (h3.ups (.new hp _) ⟨_,y7,zl.ext (.new hp _) _ (g2.append g4)⟩)
  ·exact h.elim
 cases d with
 | int i=>
  cases e with
  | int j=>
   simp only[zg] at h1 h2
   exact .inl ⟨_,_,h1,h2,h _ H (by simp only[zg]) (.refl H) h3⟩
  | _=>exact h.elim
 | str i=>
  cases e with
  | str j=>
   simp only[zg] at h1 h2
   exact .inr (.inl ⟨_,_,h1,h2,h.1,h.2 _ H (by simp only[zg]) (.refl H) h3⟩)
  | _=>exact h.elim
 | tup ds=>
  cases e with
  | tup es=>
   have Jc:=h1
   have Ke:=h2
   simp only[zg] at h1 h2
   obtain⟨a,xs,rfl,g1,g2⟩:=h1
   obtain⟨b,ys,rfl,g3,g4⟩:=h2
   have hl:=g2.length
   have GO:=g4.length
   by_cases hx:xs=[]
   ·subst hx
    have:ds=[]:=by cases ds <;> simp_all
    subst this
    exact .inr (.inr (.inr (.inl ⟨a,b,ys,rfl,rfl,g1,g3,h.2 _ H Ke (.refl H) h3⟩)))
   ·refine .inr (.inr (.inr (.inr ⟨a,b,xs,ys,rfl,rfl,g1,g3,hx,by rw[<- hl,<- GO];exact h.1,λ hy=>?_,λ hy p hp=>?_⟩)))
    ·subst hy
     have:es=[]:=by cases es <;> simp_all
     subst this
     refine h.2 _ H ?_ (.refl H) h3
     rw[C5];exact Jc
    ·refine h.2 _ _ ?_ (.new hp _) (h3.new hp)
     simp only[zg]
     exact⟨p,_,rfl,zT.of y7,zl.ext (.new hp _) _ (g2.append g4)⟩
  | _=>exact h.elim
 | xE ds=>exact lst (λ _=>nofun) h
 | ref q=>exact lst (λ _=>nofun) h
 | _=>exact h.elim
def yY (ha:PD X a ta) (hb:PD X b tb):PD X (.BinOp a .Add b pos) (yn uj ta tb):=rJ (SM.or (SK.or (SJ.or (SG.or SH)))) uj.fits uj.mo ha hb
def vE.mo {g:List Bool->Bool}:vN (vE g):=λ ds S Q Q' hq h=>by
 unfold vE at h ⊢
 split at h
 ·exact h.elim
 ·obtain⟨bs,h1,h2⟩:=h
  exact⟨bs,h1,hq _ _ h2⟩
 ·exact h.elim
def vE.fits {g:List Bool->Bool}:uP K (vE g) (λ xs H Q=>∃ p,∃ bs:List Bool,xs=[.ref p]/\zM K H p (bs.map V.bl)/\Q (.bl (g bs)) H):=λ xs ds H S Q h0 h2 h=>by
 unfold vE at h
 split at h
 ·exact h.elim
 ·rename_i d hn
  obtain⟨x,hx,h1⟩:=h0.one;subst hx
  obtain⟨bs,e,h⟩:=h
  obtain⟨a,ys,rfl,g1,g2⟩:=rC h1 h2 e (λ ts z=>hn ts z)
  rw[g2.bools] at g1
  exact⟨a,bs,rfl,g1,h _ H (by simp only[zg]) (.refl H) h2⟩
 ·exact h.elim
def rK (hm:X.mg "all"=none) (ha:xm X (e::es) tA) (hc:X.calm=true:=by rfl) (hg:Gl X "all":=by rfl) (he:starEach (e::es) X.env=(false,eval e X.env)::starEach es X.env:=by rfl) (Aq:(backTo pos (starEach es X.env)).any (·.1)=false:=by rfl):PD X (.Call (.Name "all" p) (e::es) [] pos) (x9 (vE λ bs=>bs.all id) tA):=
 tp (u_ (NZ hc) hg hm boot_all ha.pa (by decide) (by decide) he Aq) vE.mo vE.fits ha.mo
def gA (hm:X.mg "any"=none) (ha:xm X (e::es) tA) (hc:X.calm=true:=by rfl) (hg:Gl X "any":=by rfl) (he:starEach (e::es) X.env=(false,eval e X.env)::starEach es X.env:=by rfl) (Aq:(backTo pos (starEach es X.env)).any (·.1)=false:=by rfl):PD X (.Call (.Name "any" p) (e::es) [] pos) (x9 (vE λ bs=>bs.any id) tA):=
 tp (u_ (NY hc) hg hm boot_any ha.pa (by decide) (by decide) he Aq) vE.mo vE.fits ha.mo
def PK {H:Hp}{d:D}{v:V}(r:zg K H d v):decide (v=.zr)=pF d:=by
 cases d with
 | tup _=>simp only[zg] at r;obtain⟨a,xs,rfl,_⟩:=r;rfl
 | xE _=>simp only[zg] at r;obtain⟨a,xs,rfl,_⟩:=r;rfl
 | err _ _ _=>simp only[zg] at r;obtain⟨a,_,_,_,rfl,_⟩:=r;rfl
 | _=>simp only[zg] at r;subst r;rfl
def kA (ha:PD X a ta):PD X (.UnaryOp .USub a pos) (Yo ta):=by
 refine⟨fun Y S Q Q' hq h=>ha.mo Y S _ _ (λ x S1 z=>by
  cases x <;> first
   | exact hq _ _ z
   | exact z) h,PE.imp (UQ Wg ha.pe) fun B H Q hu=>?_⟩
 obtain⟨Y,S,r1,r2,h⟩:=hu
 refine zO.go ha.mo r1 r2 h λ x S1 v H1 h1 q1 e1 p1=>?_
 cases x with
 | int i=>simp only[zg] at q1;exact⟨i,q1,h1 _ H1 (by simp only[zg]) e1 p1⟩
 | _=>exact h1.elim
section
variable {N':List Str}{pick:List (Option Nat)}{scope:Scope}{tg elt iter:Expr}{ifs:List Expr}{ti:wj}{g:xA}{Hi:y9}
def sS.mo (hi:jH ti):yk (sS pick ti g Hi te):=fun Y S Q Q' hq z=>hi Y S _ _ (λ I S1 ⟨h1,h2,h3⟩=>⟨h1,h2,λ p hp=>by
 obtain⟨W,w0,w1,w2,w3⟩:=h3 p hp
 exact⟨W,w0,w1,w2,λ S2 acc a b c=>hq _ _ (w3 S2 acc a b c)⟩⟩) z
def c7 (hi:jH ti) (hg:jI g) (hc:wU Hi) (he:yk te) {B:St}{H:Hp}{Q:VK}(hu:zO K (sS pick ti g Hi te) B H Q):iq pick (wF K ti) (lI K g) (wx K Hi) (zO K te) B H Q:=by
 obtain⟨Y,S,r1,r2,z⟩:=hu
 refine⟨Y,S,r1,r2,hi Y S _ _ (λ I S1 hF J H1 e1 p1 rep D hD=>?_) z⟩
 obtain⟨hlen,hk,hF⟩:=hF
 have J9:S1 D=none:=p1.none hD
 obtain⟨W,w0,wm,Ip,JA⟩:=hF D J9
 refine⟨λ i m B H2=>m=I.items.length-i/\i<=I.items.length/\Ext H1 H2/\yK K H2 (v_ pick Y) B/\∃ S2 acc,zJ K H2 S2/\Sx S1 S2/\S2 D=some (.lst acc)/\acc.length<=i/\W i S2 acc,⟨_,rfl,AO _,.new hD _,((r1.ext e1).pick pick).ext (.new hD _),ups S1 D (.lst []),[],?_,.new J9 _,rq,Ah _,?_⟩,?_⟩
 ·exact p1.ups (.new hD _) ⟨[],y7,.nil⟩
 ·exact wm 0 S1 _ [] (λ b o hb q=>by rw[t_ hb];exact q) w0
 rintro i m B2 H2 ⟨rfl,GJ,x2,q1,S2,acc,q2,sx,Jx,AQ,hW⟩
 obtain⟨g1,g2⟩:=rep i H2 S2 x2 q2 (hk S2 sx)
 by_cases hl:i<I.items.length
 ·have hd:I.items[i]?=some I.items[i]:=by simp[hl]
  obtain⟨go,yl⟩:=g1 _ hd
  refine .inr ⟨go,λ x H3 hy=>?_⟩
  obtain⟨x3,p3,d3⟩:=yl x H3 hy
  refine⟨_,_,S2,d3,q1.ext x3,p3,hg _ _ S2 _ _ (fun Y4 S4 z4 B4 H4 a1 a2 a3=>?_) (Ip i _ S2 acc hd sx Jx hW)⟩
  obtain⟨hle,z4⟩:=z4
  refine wx.go hc a1 a3 z4 λ b S5 H5 z5 x5 p5=>w_ (λ z5=>?_) (λ z5=>?_) z5
  ·refine zO.go he (a1.ext x5) p5 z5 λ y S6 v H6 z6 q6 x6 p6=>?_
   obtain⟨s6,hW6⟩:=z6
   obtain⟨ys,h6,r6⟩:=p6 _ _ (s6 _ _ Jx)
   have e6:Ext H6 (upd H6 D (.lst (ys++[v]))):=.lst h6 _
   have hlen2:ys.length<=i:=by rw[<- r6.length];exact AQ
   refine⟨ys,I.items.length-(i+1),h6,by lia,by lia,rfl,hl,((((x2.trans x3).trans a2).trans x5).trans x6).trans e6,hle.rep ((a1.ext (x5.trans x6)).ext e6),ups S6 D (.lst (acc++[y])),acc++[y],?_,λ b o hb=>?_,rq,by simp;lia,?_⟩
   ·exact p6.ups e6 ⟨_,y7,zl.ext e6 _ (r6.snoc q6)⟩
   ·rw[t_ (by intro q;subst q;rw[J9] at hb;cases hb)]
    exact s6 _ _ (sx _ _ hb)
   ·exact wm _ S6 _ _ (λ b o hb q=>by rw[t_ hb];exact q) hW6
  ·obtain⟨s5,hW5⟩:=z5
   exact⟨I.items.length-(i+1),by lia,rfl,hl,((x2.trans x3).trans a2).trans x5,hle.rep (a1.ext x5),S5,acc,p5,sx.trans s5,s5 _ _ Jx,by lia,hW5⟩
 ·have e:i=I.items.length:=by lia
  subst e
  exact .inl ⟨g2 (Ah _),JA S2 acc sx Jx hW _ H2 (by simp only[zg]) (e1.trans x2) q2⟩
def xH (Sc:qV X N' pick scope) (hc:X.calm=true) (hi:uN X tg iter ti) (hg:∀ cl C s H fp,qd (yP X N' scope cl C s H fp) tg g) (hf:∀ cl C s H fp,jA (yP X N' scope cl C s H fp) ifs Hi) (he:∀ cl C s H fp,PD (yP X N' scope cl C s H fp) elt te)
  (hs:∀ x,foldedSetIterable iter X.env x=pure x:=by intro _;rfl):
  PD X (.ListComp elt [⟨tg,iter,ifs,0⟩] scope pos) (sS pick ti g Hi te):=
 ⟨sS.mo hi.mo,λ EH s B H Q I hu=>U_ (g:=lI X.K g) (tc:=wx X.K Hi) (te:=zO X.K te) Sc hc hi.pi (λ cl C s H fp=>(hg cl C s H fp).pg) (λ cl C s H fp=>(hf cl C s H fp).pf) (λ cl C s H fp=>(he cl C s H fp).pe) hs EH s B H Q I (c7 hi.mo (hg [] 0 s H []).mo (hf [] 0 s H []).mo (he [] 0 s H []).mo hu)⟩
def k8 {i:Nat}{y:Str}{py BF:Pos}(Sc:qV X N' pick scope) (hc:X.calm=true) (hi:uN X tg iter ti) (hg:∀ cl C s H fp,qd (yP X N' scope cl C s H fp) tg g) (hf:∀ cl C s H fp,jA (yP X N' scope cl C s H fp) ifs Hi) (he:∀ cl C s H fp,PD (yP X N' scope cl C s H fp) elt te)
  (hN:X.N.Nodup) (hy:X.N[i]?=some y) (hx:Loc X.env.scope y)
  (Cv:swapsWith (.ListComp elt [⟨tg,iter,ifs,0⟩] scope pos) (some (.Name y py)) BF.line X.env=pure true:=by rfl)
  (CF:X.fn y=true\/X.env.scope.names.lookup y=some .local:=by first | exact .inl rfl | exact .inr rfl | assumption)
  (hs:∀ x,foldedSetIterable iter X.env x=pure x:=by intro _;rfl):
  vL X (.Assign [.Name y py] (.ListComp elt [⟨tg,iter,ifs,0⟩] scope pos) BF) (tN (sS pick ti g Hi te) (hName i)):=by
 refine⟨tN.mo (sS.mo hi.mo) λ _ _ _ _ _ hq z=>hq _ _ z,λ EH s B H D I hu=>Us (g:=lI X.K g) (tc:=wx X.K Hi) (te:=zO X.K te) Sc hc hi.pi (λ cl C s H fp=>(hg cl C s H fp).pg) (λ cl C s H fp=>(hf cl C s H fp).pf) (λ cl C s H fp=>(he cl C s H fp).pe) hN hy hx Cv CF hs EH s B H D I ?_⟩
 obtain⟨Y,S,r1,r2,z⟩:=hu
 refine c7 hi.mo (hg [] 0 s H []).mo (hf [] 0 s H []).mo (he [] 0 s H []).mo ⟨Y,S,r1,r2,sS.mo hi.mo Y S _ _ (λ x S1 z v H1 q1 e1 p1=>?_) z⟩
 exact z _ H1 ((r1.ext e1).set i q1) e1 p1
end
end
section
variable {P:Program}{w:World}{K:Ab}{mg:AG}{base:Heap}{f:Addr}{fd:FuncData}
def ZQ {R:Rk} [Lo R] {x:Str}{st:Stmt}{N ps:List Str}{k n:Nat}{g:Sm}(F:uO K x x st f fd) (Sc:zU N ps (zB st)) (hn:n=ps.length)
  (FO:∀ (Ae:Value) (A:Around) (outer:List Env) (s:Shared) (H:Hp) (E:XK),yt k (A.deeper (envOfC x (zB st) s.heap.objs.size f Ae))->
   ∃ t,uw (tP vq P w K mg base N x (zB st) f Ae A outer s H E).rM (vj st) t/\yy R g t):ux P w K mg base vq (k+1) f fd ps (sa K (zL R (zV N n g))):=
 O9 F Sc (λ ds S Q h=>by rw[h.len,hn]) λ Ae A outer s H E hr=>by
  obtain⟨t,h1,h2⟩:=FO Ae A outer s H E hr
  exact⟨t,h1,λ ds S Q h=>Me h2 h⟩
def OM {R:Rk} [Lo R] {x:Str}{st:Stmt}{N ps:List Str}{k n:Nat}{g:Sm}(F:uO K x x st f fd) (hm:mg x=some (.ref f)) (Sc:zU N ps (zB st)) (hn:n=ps.length)
  (hb:∀ (kV doc pm:Value) (an:Option Addr) (Ae ct:Value) (us:Af),us.length=ps.length->bindArgs (PySem.W.fnOf x x (sR st) (vj st) (zB st) .none kV doc pm an Ae ct) ⟨us,[]⟩=pure (ps.zip us))
  (FO:∀ (Ae:Value) (A:Around) (outer:List Env) (s:Shared) (H:Hp) (E:XK),yt k (A.deeper (envOfC x (zB st) s.heap.objs.size f Ae))->
   ∃ t,uw (tP vq P w K mg base N x (zB st) f Ae A outer s H E).rM (vj st) t/\yy R g t):FD P w K mg base x (k+1) ps (zL R (zV N n g)):=
 ⟨⟨f,fd,ZQ F Sc hn FO,hm,F.kp,F.binds hb⟩,zL.mo⟩
def Po {R:Rk} [Sr R] {F:List T->Option T}(hF:∀ ns:List Int,ns.length<=63->F [.lst (ns.map T.int)]=some (.bl true)) {H:Hp}{a:Addr}{ns:List Int}{E:XK}(hO:jB H) (hS:zM K H a (ns.map V.int)) (hl:ns.length<=63):sa K (zL R F) [.ref a] H (λ v _=>v=.bl true) E:=by
 have hFz:oh K H a (ns.map V.int):=by
  rcases hS with (h | h) | h
  ·rcases hO a with z | ⟨o,xs,z⟩
   ·rw[h] at z;cases z
   ·rw[h] at z;cases z
  ·exact .inl h
  ·exact .inr h
 refine⟨[.xE (ns.map D.int)],λ _=>none,.cons ?_ .nil,(λ a o z=>nomatch z),λ _=>False,[.lst (ns.map T.int)],.bl true,nofun,.cons ?_ .nil,hF ns hl,λ d S' s r v H' rv _ _=>?_⟩
 ·simp only[zg]
  exact⟨a,_,rfl,hFz,zl.gI ns⟩
 ·simp only[Sn]
  exact⟨_,.inl ⟨rfl,SN ns⟩,sk.mpr rfl⟩
 ·have:=Sr.sn r
  simp only[Sn] at this
  subst this
  simpa only [zg] using rv
end
end L5
namespace ST
open PySem PySem.SetTable
def uM (xs:List Nat):Prop:=xs.Pairwise (· < ·)
def fG {xs:Array Nat}{m d:Nat}(h:m<xs.size):xs.getD m d=xs[m]:=by simp[Array.getD,h]
theorem e9 (xs:Array Nat) (j:Nat) (hr:uM xs.toList):∀ (f lo hi:Nat),hi-lo<=f->lo<=hi->hi<=xs.size->(∀ i (h:i<xs.size),i<lo->xs[i]<j)->(∀ i (h:i<xs.size),hi<=i->j<=xs[i])->
  below.go xs j f lo hi<=xs.size/\(∀ i (h:i<xs.size),i<below.go xs j f lo hi->xs[i]<j)/\∀ i (h:i<xs.size),below.go xs j f lo hi<=i->j<=xs[i]
 | 0,lo,hi,h1,h2,h3,h4,h5=>by
  unfold below.go
  have:lo=hi:=by lia
  subst this
  exact⟨h3,h4,h5⟩
 | f+1,lo,hi,h1,h2,h3,h4,h5=>by
  unfold below.go
  have wG:∀ i k (hi:i<xs.size) (hk:k<xs.size),i<=k->xs[i]<=xs[k]:=λ i k hi hk DH=>by
   rcases Bk i k with q | q
   ·have r:=Ce.mp hr i k (by simpa using hi) (by simpa using hk) q
    rw[Cp,Cp] at r
    exact BE r
   ·have:i=k:=by lia
    subst this;exact Ah _
  by_cases hl:lo<hi
  ·rw[if_pos hl]
   dsimp only
   have hm:(lo+hi)/2<xs.size:=by lia
   rw[fG hm]
   by_cases c:xs[(lo+hi)/2]<j
   ·rw[if_pos c]
    refine e9 xs j hr f _ hi (by lia) (by lia) h3 (λ i GJ An=>?_) h5
    have:=wG i ((lo+hi)/2) GJ hm (by lia)
    lia
   ·rw[if_neg c]
    refine e9 xs j hr f lo _ (by lia) (by lia) (by lia) h4 (λ i GJ hge=>?_)
    have:=wG ((lo+hi)/2) i hm GJ hge
    lia
  ·rw[if_neg hl]
   have:lo=hi:=by lia
   subst this
   exact⟨h3,h4,h5⟩
def j5 {xs:Array Nat}{j:Nat}(hr:uM xs.toList):below xs j<=xs.size/\(∀ i (h:i<xs.size),i<below xs j->xs[i]<j)/\∀ i (h:i<xs.size),below xs j<=i->j<=xs[i]:=
 e9 xs j hr xs.size 0 xs.size (by lia) (by lia) (Ah _) (λ i h q=>by lia) (λ i h q=>by lia)
def below_at {xs:Array Nat}{j i:Nat}(hr:uM xs.toList) (h:xs[i]?=some j):below xs j=i:=by
 obtain⟨h1,h2,h3⟩:=j5 (j:=j) hr
 obtain⟨hi,e⟩:=Array.getElem?_eq_some_iff.mp h
 have a:¬ i<below xs j:=λ q=>by have:=h2 i hi q;lia
 have b:¬ below xs j<i:=λ q=>by
  have:=h3 (below xs j) (by lia) (Ah _)
  have r:=Ce.mp hr (below xs j) i (by simp;lia) (by simpa using hi) q
  simp at r
  lia
 lia
def Mh {xs:Array Nat}{j:Nat}(hr:uM xs.toList):(xs[below xs j]?=some j)↔j∈xs.toList:=by
 constructor
 ·intro h
  obtain⟨hi,e⟩:=Array.getElem?_eq_some_iff.mp h
  rw[<- e];simp
 ·intro h
  obtain⟨i,hi,e⟩:=BW.mp h
  have hx:xs[i]?=some j:=by
   simp at hi
   simp[hi] at e ⊢;exact e
  rw[below_at hr hx];exact hx
noncomputable def ur (M:Nat) (p:Probe):Probe:=
 if p.more>0 then { p with j:=p.j+1,more:=p.more-1 } else
 let (i,perturb):=leap M p.i p.perturb
 { p with j:=i,more:=runEnd M i-i,i,perturb }
def eK (t:SetTable) (p:Probe):t.advance p=ur t.mask p:=rfl
noncomputable def ph (M i perturb:Nat):Probe:={ j:=i,more:=runEnd M i-i,i:=i,perturb:=perturb,dummy:=none }
noncomputable def way (M:Nat) (h:Int):Nat->Probe
 | 0=>ph M (bits h%(M+1)) (bits h)
 | k+1=>ur M (way M h k)
def Mo (M:Nat) (p:Probe) (h:p.dummy=none):(ur M p).dummy=none:=by
 unfold ur
 split
 ·exact h
 ·exact h
theorem j_ (M:Nat) (h:Int):∀ k,(way M h k).dummy=none
 | 0=>rfl
 | k+1=>Mo M _ (j_ M h k)
noncomputable def zW (M:Nat) (h:Int):Nat->Nat×Nat
 | 0=>(bits h%(M+1),bits h)
 | n+1=>leap M (zW M h n).1 (zW M h n).2
theorem hZ (M i pt:Nat) (h:Int) (k:Nat) (hk:way M h k=ph M i pt):∀ m,m<=runEnd M i-i->way M h (k+m)={ j:=i+m,more:=runEnd M i-i-m,i:=i,perturb:=pt,dummy:=none }
 | 0,_=>by rw[Nat.add_zero,hk];rfl
 | m+1,hm=>by
  have ih:=hZ M i pt h k hk m (by lia)
  show ur M (way M h (k+m))=_
  rw[ih]
  unfold ur
  rw[if_pos (by show runEnd M i-i-m>0;lia)]
  simp only[Probe.mk.injEq]
  exact⟨by lia,by lia,trivial,trivial,trivial⟩
def VH (M i:Nat):runEnd M i-i<=9:=by unfold runEnd;split <;> lia
def bh (M:Nat) (h:Int) (n k:Nat) (hk:way M h k=ph M (zW M h n).1 (zW M h n).2):way M h (k+(runEnd M (zW M h n).1-(zW M h n).1)+1)=ph M (zW M h (n+1)).1 (zW M h (n+1)).2:=by
 have:=hZ M _ _ h k hk _ (Ah _)
 show ur M (way M h (k+_))=_
 rw[this]
 unfold ur
 rw[if_neg (by show ¬ _-_-(_-_)>0;lia)]
 rfl
theorem bj (M:Nat) (h:Int):∀ n,∃ k,k<=10*n/\way M h k=ph M (zW M h n).1 (zW M h n).2
 | 0=>⟨0,by lia,rfl⟩
 | n+1=>by
  obtain⟨k,h1,h2⟩:=bj M h n
  have:=VH M (zW M h n).1
  exact⟨_,by lia,bh M h n k h2⟩
def Mf (h:Int):bits h<2 ^ 64:=by
 unfold bits
 have h1:=Bx h (show (2 ^ 64:Int)≠0 by decide)
 have h2:=BP h (show (0:Int)<2 ^ 64 by decide)
 lia
theorem bR (M:Nat) (h:Int):∀ n,(zW M h n).2*32 ^ n<=bits h
 | 0=>by simp[zW]
 | n+1=>by
  have ih:=bR M h n
  show ((zW M h n).2/32)*32 ^ (n+1)<=_
  have:(zW M h n).2/32*32<=(zW M h n).2:=Nat.div_mul_le_self _ _
  calc (zW M h n).2/32*32 ^ (n+1)=((zW M h n).2/32*32)*32 ^ n:=by rw[Nat.pow_succ,Ds (32 ^ n) 32,Nat.mul_assoc]
   _<=(zW M h n).2*32 ^ n:=Nat.mul_le_mul_right _ this
   _<=_:=ih
def UO (M:Nat) (h:Int) (n:Nat) (hn:13<=n):(zW M h n).2=0:=by
 rcases D0 (zW M h n).2 with q | q
 ·exact q
 ·have h1:=bR M h n
  have h2:=Mf h
  have h3:32 ^ 13<=32 ^ n:=Nat.pow_le_pow_right (by decide) hn
  have h4:1*32 ^ n<=(zW M h n).2*32 ^ n:=Nat.mul_le_mul_right _ q
  have h5:(2:Nat) ^ 64<32 ^ 13:=by decide
  lia
noncomputable def sE (M:Nat) (i:Nat):Nat->Nat
 | 0=>i
 | n+1=>(sE M i n*5+1)%(M+1)
theorem Zd (M:Nat) (h:Int):∀ n,(zW M h (13+n)).1=sE M (zW M h 13).1 n
 | 0=>rfl
 | n+1=>by
  have ih:=Zd M h n
  have hz:=UO M h (13+n) (by lia)
  show ((zW M h (13+n)).1*5+1+(zW M h (13+n)).2/32)%(M+1)=_
  rw[hz,ih]
  rfl
theorem nD (M i:Nat):∀ a b,sE M i (a+b)=sE M (sE M i a) b
 | a,0=>rfl
 | a,b+1=>by
  show (sE M i (a+b)*5+1)%(M+1)=_
  rw[nD M i a b];rfl
noncomputable def nC (M:Nat):Nat->Nat->List Nat
 | 0,_=>[]
 | n+1,i=>i::nC M n ((i*5+1)%(M+1))
theorem gB (M:Nat):∀ n i x,x∈nC M n i->∃ k,k<n/\sE M i k=x
 | 0,i,x,h=>by cases h
 | n+1,i,x,h=>by
  rcases Aj.mp h with e | e
  ·exact⟨0,by lia,e.symm⟩
  ·obtain⟨k,h1,h2⟩:=gB M n _ x e
   exact⟨k+1,by lia,by rw[Nat.add_comm,nD];exact h2⟩
def vp (M:Nat):Prop:=M=7\/M=31\/M=127
def Si (M:Nat) (hM:vp M):(∀ e,e<=M->e∈nC M (M+1) 0)/\sE M 0 (M+1)=0:=by
 have key:∀ M,((List.range (M+1)).all λ e=>(nC M (M+1) 0).contains e)=true->∀ e,e<=M->e∈nC M (M+1) 0:=λ M h e he=>by
  have:=BQ.mp h e (Az.mpr (by lia))
  simpa using this
 rcases hM with rfl | rfl | rfl
 ·exact⟨key 7 (AB),AB⟩
 ·exact⟨key 31 (AB),AB⟩
 ·exact⟨key 127 (AB),AB⟩
def Sh (M:Nat) (hM:vp M) (i e:Nat) (hi:i<=M) (he:e<=M):∃ n,n<=M/\sE M i n=e:=by
 obtain⟨h1,h2⟩:=Si M hM
 obtain⟨a,a1,a2⟩:=gB M _ _ _ (h1 i hi)
 obtain⟨b,b1,b2⟩:=gB M _ _ _ (h1 e he)
 rcases Bk b a with q | q
 ·refine⟨M+1+b-a,by lia,?_⟩
  rw[<- a2,<- nD,show a+(M+1+b-a)=(M+1)+b by lia,nD,h2,b2]
 ·refine⟨b-a,by lia,?_⟩
  rw[<- a2,<- nD,show a+(b-a)=b by lia,b2]
theorem Pf (M:Nat) (h:Int):∀ n,(zW M h n).1<=M
 | 0=>by have:=CY (bits h) (show 0<M+1 by lia);show bits h%(M+1)<=M;lia
 | n+1=>by
  have:=CY ((zW M h n).1*5+1+(zW M h n).2/32) (show 0<M+1 by lia)
  show (_%(M+1):Nat)<=M
  lia
def Ze (M:Nat) (hM:vp M) (h:Int) (e:Nat) (he:e<=M):∃ n,n<M+14/\(zW M h n).1=e:=by
 obtain⟨n,h1,h2⟩:=Sh M hM (zW M h 13).1 e (Pf M h 13) he
 exact⟨13+n,by lia,by rw[Zd,h2]⟩
def XX (M:Nat) (hM:vp M) (h:Int) (e:Nat) (he:e<=M):∃ k,k<10*(M+15)/\(way M h k).j=e:=by
 obtain⟨n,h1,h2⟩:=Ze M hM h e he
 obtain⟨k,k1,k2⟩:=bj M h n
 exact⟨k,by lia,by rw[k2];exact h2⟩
theorem cq (M:Nat) (h:Int):∀ k,(way M h k).j+(way M h k).more<=M/\(way M h k).i<=M
 | 0=>by
  have h1:bits h%(M+1)<=M:=by have:=CY (bits h) (show 0<M+1 by lia);lia
  refine⟨?_,h1⟩
  show bits h%(M+1)+(runEnd M (bits h%(M+1))-bits h%(M+1))<=M
  unfold runEnd;split <;> lia
 | k+1=>by
  obtain⟨h1,h2⟩:=cq M h k
  show (ur M (way M h k)).j+(ur M (way M h k)).more<=M/\(ur M (way M h k)).i<=M
  unfold ur
  split
  ·rename_i c
   exact⟨by show (way M h k).j+1+((way M h k).more-1)<=M;lia,h2⟩
  ·have h3:((way M h k).i*5+1+(way M h k).perturb/32)%(M+1)<=M:=by have:=CY ((way M h k).i*5+1+(way M h k).perturb/32) (show 0<M+1 by lia);lia
   refine⟨?_,h3⟩
   show _%(M+1)+(runEnd M (_%(M+1))-_%(M+1))<=M
   unfold runEnd;split <;> lia
def jZ (M:Nat) (h:Int) (k:Nat):(way M h k).j<=M:=by have:=(cq M h k).1;lia
structure Tab (t:SetTable) (hs:List Int):Prop where
 mask:vp t.mask
 rW:t.dummies=#[]
 len:t.place.size=hs.length
 wG:uM t.place.toList
 top:∀ j∈t.place.toList,j<=t.mask
 oZ:∀ (i:Nat) h j,hs[i]?=some h->t.place[i]?=some j->∃ k,(way t.mask h k).j=j/\∀ k'<k,(way t.mask h k').j∈t.place.toList
theorem Tab.live {t:SetTable}{hs:List Int}(T:Tab t hs) {i j:Nat}(h:t.place[i]?=some j):t.slot j=.live i:=by
 unfold SetTable.slot
 dsimp only
 rw[below_at T.wG h,if_pos (by rw[h];simp)]
theorem Tab.empty {t:SetTable}{hs:List Int}(T:Tab t hs) {j:Nat}(h:j∉t.place.toList):t.slot j=.empty:=by
 unfold SetTable.slot
 dsimp only
 have n1:¬ (t.place[below t.place j]? == some j)=true:=λ q=>h ((Mh T.wG).mp (by simpa using q))
 rw[if_neg n1,if_neg (by rw[T.rW];simp[has])]
theorem Tab.at {t:SetTable}{hs:List Int}(T:Tab t hs) {j:Nat}(h:j∈t.place.toList):∃ (i:Nat) (g:Int),t.place[i]?=some j/\hs[i]?=some g:=by
 obtain⟨i,hi,e⟩:=BW.mp h
 have GJ:i<t.place.size:=by simpa using hi
 refine⟨i,hs[i]'(by rw[<- T.len];exact GJ),?_,by simp⟩
 rw[Bf GJ]
 rw[Cp] at e
 rw[e]
theorem ZJ {t:SetTable}{hs:List Int}(T:Tab t hs) {hashAt:Nat->Int}(hA:∀ (i:Nat) g,hs[i]?=some g->hashAt i=g) (h:Int):∀ (f k:Nat),(∃ e,k<=e/\e<k+f/\(way t.mask h e).j∉t.place.toList)->
  ∃ k1,k<=k1/\(∀ m,k<=m->m<k1->∃ (i:Nat) (g:Int),t.place[i]?=some (way t.mask h m).j/\hs[i]?=some g/\g≠h)/\
   ((way t.mask h k1).j∉t.place.toList/\probe.go t hashAt h f (way t.mask h k)=some (.empty (way t.mask h k1).j none)\/
    ∃ i,t.place[i]?=some (way t.mask h k1).j/\hs[i]?=some h/\probe.go t hashAt h f (way t.mask h k)=some (.candidate (way t.mask h k1).j i (way t.mask h (k1+1))))
 | 0,k,⟨e,h1,h2,_⟩=>by lia
 | f+1,k,⟨e,h1,h2,h3⟩=>by
  by_cases hm:(way t.mask h k).j∈t.place.toList
  ·obtain⟨i,g,p1,p2⟩:=T.at hm
   by_cases hg:g=h
   ·refine⟨k,Ah _,λ m a b=>by lia,.inr ⟨i,p1,by rw[<- hg];exact p2,?_⟩⟩
    unfold probe.go
    rw[T.live p1]
    dsimp only
    rw[hA i g p2,if_pos (by simp[hg]),eK]
    rfl
   ·have Am:e≠k:=λ q=>by subst q;exact h3 hm
    obtain⟨k1,q1,q2,q3⟩:=ZJ T hA h f (k+1) ⟨e,by lia,by lia,h3⟩
    have eq:probe.go t hashAt h (f+1) (way t.mask h k)=probe.go t hashAt h f (way t.mask h (k+1)):=by
     conv=>lhs;unfold probe.go
     rw[T.live p1]
     dsimp only
     rw[hA i g p2,if_neg (by simp[hg]),eK]
     rfl
    rw[eq]
    refine⟨k1,by lia,λ m a b=>?_,q3⟩
    rcases Nat.eq_or_lt_of_le a with w | w
    ·subst w;exact⟨i,g,p1,p2,hg⟩
    ·exact q2 m w b
  ·refine⟨k,Ah _,λ m a b=>by lia,.inl ⟨hm,?_⟩⟩
   unfold probe.go
   rw[T.empty hm,j_]
def aH {xs ys:List Nat}(hx:xs.Nodup) (h:∀ x∈xs,x∈ys):xs.length<=ys.length:=by
 induction xs generalizing ys with
 | nil=>simp
 | cons x xs ih=>
  have h1:=Bc.mp hx
  have hxy:=h x Ao
  have:=ih h1.2 (ys:=ys.erase x) λ z hz=>by
   have Am:z≠x:=λ e=>h1.1 (e▸hz)
   exact (DZ Am).mpr (h z (Av _ hz))
  rw[DY hxy] at this
  have hp:=DX hxy
  simp only[AX]
  lia
def least {P:Nat->Prop}(k:Nat) (h:P k):∃ m,m<=k/\P m/\∀ m'<m,¬ P m':=by
 induction k using Nat.strongRecOn with
 | ind k ih=>
  rcases Classical.em (∃ m',m'<k/\P m') with ⟨m',h1,h2⟩ | q
  ·obtain⟨m,g1,g2⟩:=ih m' h1 h2
   exact⟨m,by lia,g2⟩
  ·exact⟨k,Ah _,h,λ m' hm hp=>q ⟨m',hm,hp⟩⟩
def OC {xs:List Nat}{M:Nat}(h:xs.length<=M):∃ e,e<=M/\e∉xs:=by
 rcases Classical.em (∃ e,e<=M/\e∉xs) with q | q
 ·exact q
 ·have:=aH (xs:=List.range (M+1)) (ys:=xs) DW λ e he=>by
   have:=Az.mp he
   rcases Classical.em (e∈xs) with w | w
   ·exact w
   ·exact absurd ⟨e,by lia,w⟩ q
  simp at this
  lia
def eT (t:SetTable) (h:Int) (j:Nat):Prop:=j∉t.place.toList/\∃ k,(way t.mask h k).j=j/\∀ k'<k,(way t.mask h k').j∈t.place.toList
def Tab.first {t:SetTable}{hs:List Int}(T:Tab t hs) (hl:hs.length<=t.mask) (h:Int):∃ K,K<10*(t.mask+15)/\(way t.mask h K).j∉t.place.toList/\∀ k'<K,(way t.mask h k').j∈t.place.toList:=by
 obtain⟨e,e1,e2⟩:=OC (xs:=t.place.toList) (M:=t.mask) (by rw[Bl,T.len];exact hl)
 obtain⟨k,k1,k2⟩:=XX t.mask T.mask h e e1
 obtain⟨K,q1,q2,q3⟩:=least (P:=λ n=>(way t.mask h n).j∉t.place.toList) k (by rw[k2];exact e2)
 exact⟨K,by lia,q2,λ k' hk=>Classical.not_not.mp (q3 k' hk)⟩
def VN {xs:List Nat}{j p:Nat}(h:uM xs) (h1:∀ x∈xs.take p,x<j) (h2:∀ x∈xs.drop p,j<x):uM (xs.take p++j::xs.drop p):=by
 refine DV.mpr ⟨h.sublist (List.take_sublist _ _),Ba.mpr ⟨h2,h.sublist (List.drop_sublist _ _)⟩,λ a ha b hb=>?_⟩
 rcases Aj.mp hb with e | e
 ·subst e;exact h1 a ha
 ·have:=h1 a ha;have:=h2 b e;lia
def Z8 {α:Type}{xs:List α}{p i:Nat}{x y:α}(hp:p<=xs.length) (h:(xs.take p++x::xs.drop p)[i]?=some y):(i=p/\y=x)\/(i<p/\xs[i]?=some y)\/(p<i/\xs[i-1]?=some y):=by
 have hl:(xs.take p).length=p:=by rw[C4];lia
 rcases Dr i p with q | q | q
 ·rw[Cg (by lia),List.getElem?_take,if_pos q] at h
  exact .inr (.inl ⟨q,h⟩)
 ·subst q
  rw[Ci (by lia),hl] at h
  simp at h
  exact .inl ⟨rfl,h.symm⟩
 ·rw[Ci (by lia),hl] at h
  obtain⟨d,hd⟩:∃ d,i-p=d+1:=⟨i-p-1,by lia⟩
  rw[hd] at h
  simp only[DU,List.getElem?_drop] at h
  refine .inr (.inr ⟨q,?_⟩)
  rw[show i-1=p+d by lia];exact h
theorem Tab.put {t:SetTable}{hs:List Int}(T:Tab t hs) {h:Int}{j:Nat}(F:eT t h j):
  (t.put j).2<=hs.length/\(t.put j).1={ t with place:=insertAt t.place (t.put j).2 j }/\Tab (t.put j).1 (hs.take (t.put j).2++h::hs.drop (t.put j).2):=by
 obtain⟨b1,b2,b3⟩:=j5 (xs:=t.place) (j:=j) T.wG
 obtain⟨fn,K,k1,k2⟩:=F
 have e2:(t.put j).2=below t.place j:=rfl
 have e1:(t.put j).1={ t with place:=insertAt t.place (t.put j).2 j }:=by
  show ({ t with place:=insertAt t.place (below t.place j) j,dummies:=_ }:SetTable)=_
  rw[if_neg (by rw[T.rW];simp[has]),e2]
 have pl:(insertAt t.place (below t.place j) j).toList=t.place.toList.take (below t.place j)++j::t.place.toList.drop (below t.place j):=toList_insertAt _ _ _
 have old:∀ x∈t.place.toList,x∈(insertAt t.place (below t.place j) j).toList:=λ x hx=>by
  rw[pl]
  have:=DT (below t.place j) t.place.toList
  rw[<- this] at hx
  rcases AY.mp hx with q | q
  ·exact Cr _ q
  ·exact AU _ (Av _ q)
 rw[e2] at e1 ⊢
 refine⟨by rw[<- T.len];exact b1,e1,?_⟩
 rw[e1]
 refine⟨T.mask,T.rW,?_,?_,?_,?_⟩
 ·show (insertAt t.place (below t.place j) j).size=_
  rw[<- Bl,pl]
  simp[T.len]
 ·show uM (insertAt t.place (below t.place j) j).toList
  rw[pl]
  refine VN T.wG (λ x hx=>?_) (λ x hx=>?_)
  ·obtain⟨i,hi,e⟩:=BW.mp hx
   rw[C4] at hi
   rw[List.getElem_take,Cp] at e
   rw[<- e];exact b2 i (by simp at hi;lia) (by lia)
  ·obtain⟨i,hi,e⟩:=BW.mp hx
   rw[D2] at hi
   rw[List.getElem_drop,Cp] at e
   have h3:=b3 (below t.place j+i) (by simp at hi;lia) (by lia)
   have hm:x∈t.place.toList:=List.mem_of_mem_drop hx
   have Am:x≠j:=λ q=>fn (q▸hm)
   lia
 ·intro x hx
  show x<=t.mask
  have hx:x∈(insertAt t.place (below t.place j) j).toList:=hx
  rw[pl] at hx
  rcases AY.mp hx with q | q
  ·exact T.top x (List.mem_of_mem_take q)
  ·rcases Aj.mp q with e | e
   ·subst e;rw[<- k1];exact jZ _ _ _
   ·exact T.top x (List.mem_of_mem_drop e)
 ·intro i g x hg hx
  show ∃ k,(way t.mask g k).j=x/\∀ k'<k,(way t.mask g k').j∈(insertAt t.place (below t.place j) j).toList
  have hx:(insertAt t.place (below t.place j) j)[i]?=some x:=hx
  rw[<- BA,pl] at hx
  have Aq:below t.place j<=t.place.toList.length:=by simpa using b1
  have Ef:below t.place j<=hs.length:=by rw[<- T.len];exact b1
  rcases Z8 Aq hx with ⟨c1,c2⟩ | ⟨c1,c2⟩ | ⟨c1,c2⟩ <;> rcases Z8 Ef hg with ⟨d1,d2⟩ | ⟨d1,d2⟩ | ⟨d1,d2⟩ <;> first
   | lia
   | (subst c2 d2;exact⟨K,k1,λ k' hk=>old _ (k2 k' hk)⟩)
   | (obtain⟨k,g1,g2⟩:=T.oZ _ g x d2 (by rw[<- BA];exact c2)
      exact⟨k,g1,λ k' hk=>old _ (g2 k' hk)⟩)
def qe (owner:Array (Option Nat)) (j:Nat):Prop:=∃ k,owner[j]?=some (some k)
def OJ {P:Nat->Bool}{n k:Nat}(h:(List.range n).find? P=some k):k<n/\P k=true/\∀ k'<k,P k'=false:=by
 obtain⟨h1,as,bs,h2,h3⟩:=List.find?_eq_some_iff_append.mp h
 have hlen:as.length=k:=by
  have e:(List.range n)[as.length]?=some k:=by rw[h2];simp
  have:=(AL.mp e)
  obtain⟨q1,q2⟩:=this
  rw[Dv] at q2
  exact q2
 have hk:k<n:=by
  have:k∈List.range n:=by rw[h2];simp
  exact Az.mp this
 refine⟨hk,h1,λ k' GH=>?_⟩
 have:k'∈as:=by
  have e:(List.range n)[k']?=some k':=List.getElem?_range (by lia)
  rw[h2,Cg (by lia)] at e
  exact Bg e
 have:=h3 k' this
 simpa using this
def getD_none {owner:Array (Option Nat)}{j:Nat}(h:((owner.getD j (some 0)).isNone)=true):owner[j]?=some none:=by
 unfold Array.getD at h
 split at h
 ·rename_i hj
  have e:owner[j]=none:=by simpa using h
  rw[Bf hj,e]
 ·simp at h
def ZL {owner:Array (Option Nat)}{j:Nat}(hj:j<owner.size) (h:((owner.getD j (some 0)).isNone)=false):qe owner j:=by
 unfold Array.getD at h
 rw[dif_pos hj] at h
 cases q:owner[j] with
 | none=>simp[q] at h
 | some k=>exact⟨k,by rw[Bf hj,q]⟩
theorem ZO (M:Nat) (owner:Array (Option Nat)) (hsz:owner.size=M+1) (h:Int):∀ (fuel n kn:Nat),way M h kn=ph M (zW M h n).1 (zW M h n).2->(∀ q<kn,qe owner (way M h q).j)->
  (∃ n',n<=n'/\n'<n+fuel/\owner[(zW M h n').1]?=some none)->
  ∃ j q,layClean.free M owner fuel (zW M h n).1 (zW M h n).2=some j/\(way M h q).j=j/\owner[j]?=some none/\∀ q'<q,qe owner (way M h q').j
 | 0,n,kn,_,_,⟨n',h1,h2,_⟩=>by lia
 | fuel+1,n,kn,hk,ho,⟨n',h1,h2,h3⟩=>by
  have hre:runEnd M (zW M h n).1+1-(zW M h n).1=runEnd M (zW M h n).1-(zW M h n).1+1:=by unfold runEnd;split <;> lia
  have GV:∀ m,m<=runEnd M (zW M h n).1-(zW M h n).1->(way M h (kn+m)).j=(zW M h n).1+m:=λ m hm=>by rw[hZ M _ _ h kn hk m hm]
  unfold layClean.free
  cases hf:(List.range (runEnd M (zW M h n).1+1-(zW M h n).1)).find? (λ k=>(owner.getD ((zW M h n).1+k) (some 0)).isNone) with
  | some k=>
   obtain⟨f1,f2,f3⟩:=OJ hf
   refine⟨_,kn+k,rfl,GV k (by lia),getD_none f2,λ q' hq=>?_⟩
   rcases Bk q' kn with w | w
   ·exact ho q' w
   ·have e:(way M h q').j=(zW M h n).1+(q'-kn):=by
     have:=GV (q'-kn) (by lia)
     rwa [show kn+(q'-kn)=q' by lia] at this
    have hle:=jZ M h q'
    rw[e] at hle ⊢
    exact ZL (by lia) (f3 (q'-kn) (by lia))
  | none=>
   have f3:=List.find?_eq_none.mp hf
   have occ:∀ m,m<=runEnd M (zW M h n).1-(zW M h n).1->qe owner ((zW M h n).1+m):=λ m hm=>by
    have hle:=jZ M h (kn+m)
    rw[GV m hm] at hle
    exact ZL (by lia) (Bool.eq_false_iff.mpr (f3 m (Az.mpr (by lia))))
   have Am:n'≠n:=λ e=>by
    subst e
    obtain⟨k,GH⟩:=occ 0 (AO _)
    rw[Nat.add_zero] at GH
    rw[GH] at h3;cases h3
   dsimp only
   obtain⟨j,q,r1,r2⟩:=ZO M owner hsz h fuel (n+1) _ (bh M h n kn hk) (λ q hq=>by
    rcases Bk q kn with w | w
    ·exact ho q w
    ·have e:=GV (q-kn) (by lia)
     rw[show kn+(q-kn)=q by lia] at e
     rw[e];exact occ _ (by lia)) ⟨n',by lia,by lia,h3⟩
   exact⟨j,q,r1,r2⟩
structure Lay (M:Nat) (hs:List Int) (owner:Array (Option Nat)) (m:Nat):Prop where
 size:owner.size=M+1
 below:∀ (j k:Nat),owner[j]?=some (some k)->k<m
 each:∀ (k:Nat),k<m->∃ (j:Nat),owner[j]?=some (some k)
 once:∀ (i j k:Nat),owner[i]?=some (some k)->owner[j]?=some (some k)->i=j
 oZ:∀ (j k:Nat) h,owner[j]?=some (some k)->hs[k]?=some h->∃ q,(way M h q).j=j/\∀ q'<q,qe owner (way M h q').j
theorem Lay.none {M:Nat}(hM:vp M) {hs:List Int}{owner:Array (Option Nat)}{m:Nat}(L:Lay M hs owner m) (hm:m<=M):∃ (e:Nat),e<=M/\owner[e]?=some Option.none:=by
 rcases Classical.em (∃ (e:Nat),e<=M/\owner[e]?=some Option.none) with q | q
 ·exact q
 ·exfalso
  have AD:∀ (e:Nat),e<=M->∃ (k:Nat),owner[e]?=some (some k):=λ e he=>by
   have An:e<owner.size:=by rw[L.size];lia
   cases w:owner[e] with
   | none=>exact absurd ⟨e,he,by rw[Bf An,w]⟩ q
   | some k=>exact⟨k,by rw[Bf An,w]⟩
  have:=aH (xs:=(List.range (M+1)).map λ e=>((owner[e]?).getD Option.none).getD 0) (ys:=List.range m) (by
   refine BM.mpr (List.Pairwise.imp_of_mem ?_ DW)
   intro a b ha hb Am e
   refine Am ?_
   obtain⟨k,hk⟩:=AD a (by have:=Az.mp ha;lia)
   obtain⟨k',GH⟩:=AD b (by have:=Az.mp hb;lia)
   rw[hk,GH] at e
   simp at e
   subst e
   exact L.once a b k hk GH) (λ x hx=>by
   obtain⟨e,he,rfl⟩:=Al.mp hx
   obtain⟨k,hk⟩:=AD e (by have:=Az.mp he;lia)
   rw[hk]
   exact Az.mpr (L.below e k hk))
  simp at this
  lia
def lW {α:Type}{xs:Array α}{j i:Nat}{a b:α}(h:(xs.setIfInBounds j a)[i]?=some b):(i=j/\b=a)\/(i≠j/\xs[i]?=some b):=by
 rw[Dq] at h
 by_cases e:j=i
 ·subst e
  rw[if_pos rfl] at h
  split at h
  ·cases h;exact .inl ⟨rfl,rfl⟩
  ·cases h
 ·rw[if_neg e] at h;exact .inr ⟨λ q=>e q.symm,h⟩
def Lay.step {M:Nat}(hM:vp M) {hs:List Int}{owner:Array (Option Nat)}{m:Nat}{h:Int}(L:Lay M hs owner m) (hm:m<=M) (hh:hs[m]?=some h):
  ∃ j,layClean.free M owner (turns M) (bits h%(M+1)) (bits h)=some j/\Lay M hs (owner.setIfInBounds j (some m)) (m+1):=by
 obtain⟨e,e1,e2⟩:=L.none hM hm
 obtain⟨n',n1,n2⟩:=Ze M hM h e e1
 obtain⟨j,q,r1,r2,r3,r4⟩:=ZO M owner L.size h (turns M) 0 0 rfl (λ q hq=>by lia) ⟨n',by lia,by unfold turns;lia,by rw[n2];exact e2⟩
 have hj:j<owner.size:=(Array.getElem?_eq_some_iff.mp r3).1
 have keep:∀ x,qe owner x->qe (owner.setIfInBounds j (some m)) x:=λ x ⟨k,hk⟩=>by
  have Am:j≠x:=λ w=>by subst w;rw[r3] at hk;cases hk
  exact⟨k,by rw[Dq,if_neg Am];exact hk⟩
 have self:(owner.setIfInBounds j (some m))[j]?=some (some m):=by rw[Dq,if_pos rfl,if_pos hj]
 refine⟨j,r1,⟨by simp[L.size],λ x k hx=>?_,λ k hk=>?_,λ x y k hx hy=>?_,λ x k g hx hg=>?_⟩⟩
 ·rcases lW hx with ⟨_,w⟩ | ⟨_,w⟩
  ·cases w;lia
  ·have:=L.below x k w;lia
 ·rcases Bk k m with w | w
  ·obtain⟨x,hx⟩:=L.each k w
   have Am:j≠x:=λ w=>by subst w;rw[r3] at hx;cases hx
   exact⟨x,by rw[Dq,if_neg Am];exact hx⟩
  ·have:k=m:=by lia
   subst this;exact⟨j,self⟩
 ·rcases lW hx with ⟨w1,w⟩ | ⟨w1,w⟩ <;> rcases lW hy with ⟨v1,v⟩ | ⟨v1,v⟩
  ·lia
  ·cases w;have:=L.below y _ v;lia
  ·cases v;have:=L.below x _ w;lia
  ·exact L.once x y k w v
 ·rcases lW hx with ⟨w1,w⟩ | ⟨w1,w⟩
  ·cases w
   rw[hh] at hg;cases hg
   subst w1
   exact⟨q,r2,λ q' hq=>keep _ (r4 q' hq)⟩
  ·obtain⟨q,g1,g2⟩:=L.oZ x k g w hg
   exact⟨q,g1,λ q' hq=>keep _ (g2 q' hq)⟩
theorem Zh {M:Nat}(hM:vp M) {hs:List Int}(hl:hs.length<=M+1):∀ (EU:List Int) (owner:Array (Option Nat)) (m:Nat),m<=hs.length->hs.drop m=EU->Lay M hs owner m->
  ∃ Ha,EU.foldl (λ acc h=>do
   let (owner,k) <- acc
   let j <- layClean.free M owner (turns M) (bits h%(M+1)) (bits h)
   pure (owner.setIfInBounds j (some k),k+1)) (some (owner,m))=some (Ha,hs.length)/\Lay M hs Ha hs.length
 | [],owner,m,Hk,hd,L=>by
  have hm:hs.length<=m:=List.drop_eq_nil_iff.mp hd
  have e:m=hs.length:=by lia
  subst e;exact⟨owner,rfl,L⟩
 | h::EU,owner,m,Hk,hd,L=>by
  have hm:hs[m]?=some h:=by
   have:=congrArg (λ l=>l[0]?) hd
   simpa using this
  have An:m<hs.length:=(AL.mp hm).1
  obtain⟨j,j1,j2⟩:=L.step hM (by lia) hm
  have Hg:hs.drop (m+1)=EU:=by
   have:=congrArg List.tail hd
   simpa using this
  obtain⟨o',h1,h2⟩:=Zh hM hl EU _ (m+1) (by lia) Hg j2
  refine⟨o',?_,h2⟩
  rw[Dp,<- h1]
  show _=_
  congr 1
  show ((layClean.free M owner (turns M) (bits h%(M+1)) (bits h)).bind λ j=>some (owner.setIfInBounds j (some m),m+1))=_
  rw[j1];rfl
def Pj (M:Nat) (hs:List Int):Lay M hs (Array.replicate (M+1) Option.none) 0:=by
 have no:∀ (j k:Nat),(Array.replicate (M+1) (Option.none:Option Nat))[j]?≠some (some k):=λ j k h=>by
  rw[Array.getElem?_replicate] at h
  split at h <;> cases h
 exact⟨by simp,λ j k h=>absurd h (no j k),λ k hk=>by lia,λ i j k h=>absurd h (no i k),λ j k h e=>absurd e (no j k)⟩
def Pk {M:Nat}(hM:vp M) (hashes:Array Int) (hl:hashes.size<=M+1):∃ owner,layClean M hashes=some owner/\Lay M hashes.toList owner hashes.size:=by
 obtain⟨o,h1,h2⟩:=Zh hM (hs:=hashes.toList) (by simpa using hl) hashes.toList _ 0 (AO _) (by simp) (Pj M _)
 refine⟨o,?_,by simpa using h2⟩
 unfold layClean
 rw[<- Array.foldl_toList,h1]
 rfl
noncomputable def lives (M:Nat) (owner:Array (Option Nat)):List (Nat×Nat):=(List.range (M+1)).filterMap λ j=>(owner.getD j Option.none).map (j,·)
def getD_some {owner:Array (Option Nat)}{j k:Nat}:owner.getD j Option.none=some k↔owner[j]?=some (some k):=by
 unfold Array.getD
 split
 ·rename_i h
  rw[Bf h]
  simp
 ·rename_i h
  rw[CK (by lia)]
  simp
def q8 {M:Nat}{owner:Array (Option Nat)}(hs:owner.size=M+1) {j k:Nat}:(j,k)∈lives M owner↔owner[j]?=some (some k):=by
 unfold lives
 rw[D4]
 constructor
 ·rintro⟨x,hx,e⟩
  obtain⟨y,e1,e2⟩:=AE.mp e
  cases e2
  exact getD_some.mp e1
 ·intro h
  have hj:=(Array.getElem?_eq_some_iff.mp h).1
  exact⟨j,Az.mpr (by lia),by rw[getD_some.mpr h];rfl⟩
def a_ (M:Nat) (owner:Array (Option Nat)):(lives M owner).Pairwise λ a b=>a.1<b.1:=by
 unfold lives
 rw[List.pairwise_filterMap]
 refine List.Pairwise.imp ?_ List.pairwise_lt_range
 intro a b CI x hx y hy
 obtain⟨_,_,e1⟩:=AE.mp hx
 obtain⟨_,_,e2⟩:=AE.mp hy
 subst e1 e2
 exact CI
def Zi {M:Nat}(hM:vp M) (finger moves:Nat) (led plain:Bool) (hashes:Array Int) (hl:hashes.size<=M+1):
  ∃ t order,laid M finger moves led plain hashes=some (t,order)/\t.mask=M/\t.finger=finger/\t.led=led/\t.plain=plain/\order.toList.Perm (List.range hashes.size)/\Tab t (order.toList.map λ k=>hashes.toList.getD k 0):=by
 obtain⟨owner,h1,L⟩:=Pk hM hashes hl
 refine⟨_,_,by unfold laid;rw[h1];rfl,rfl,rfl,rfl,rfl,?_,?_⟩
 ·show ((lives M owner).map (·.2)).toArray.toList.Perm _
  rw[CW]
  refine (DS ?_ DW).mpr λ k=>?_
  ·refine BM.mpr (List.Pairwise.imp_of_mem ?_ (a_ M owner))
   intro a b ha hb CI e
   have h2:=(q8 L.size (j:=a.1) (k:=a.2)).mp ha
   have h3:=(q8 L.size (j:=b.1) (k:=b.2)).mp hb
   have e:a.2=b.2:=e
   rw[e] at h2
   have:=L.once _ _ _ h2 h3
   lia
  ·rw[Az]
   constructor
   ·intro h
    obtain⟨⟨j,k'⟩,h2,rfl⟩:=Al.mp h
    exact L.below j _ ((q8 L.size).mp h2)
   ·intro h
    obtain⟨j,hj⟩:=L.each k h
    exact Al.mpr ⟨(j,k),(q8 L.size).mpr hj,rfl⟩
 ·have pl:∀ x,x∈(lives M owner).map (·.1)↔qe owner x:=λ x=>by
   constructor
   ·intro h
    obtain⟨⟨j,k⟩,h2,rfl⟩:=Al.mp h
    exact⟨k,(q8 L.size).mp h2⟩
   ·rintro⟨k,hk⟩
    exact Al.mpr ⟨(x,k),(q8 L.size).mpr hk,rfl⟩
  refine⟨hM,rfl,?_,?_,?_,?_⟩
  ·show ((lives M owner).map (·.1)).toArray.size=(((lives M owner).map (·.2)).toArray.toList.map _).length
   simp
  ·show uM ((lives M owner).map (·.1)).toArray.toList
   rw[CW]
   exact BM.mpr (a_ M owner)
  ·intro x hx
   show x<=M
   have hx:x∈((lives M owner).map (·.1)).toArray.toList:=hx
   rw[CW] at hx
   obtain⟨k,hk⟩:=(pl x).mp hx
   have:=(Array.getElem?_eq_some_iff.mp hk).1
   rw[L.size] at this
   lia
  ·intro i g x hg hx
   have hx:((lives M owner).map (·.1)).toArray[i]?=some x:=hx
   have hg:(((lives M owner).map (·.2)).toArray.toList.map λ k=>hashes.toList.getD k 0)[i]?=some g:=hg
   rw[List.getElem?_toArray,AA] at hx
   rw[CW,AA,AA] at hg
   obtain⟨p,p1,p2⟩:=AE.mp hx
   rw[p1] at hg
   simp only[Option.map_some,Option.some.injEq] at hg
   obtain⟨j,k⟩:=p
   cases p2
   have hm:=(q8 L.size).mp (Bg p1)
   have hk:=L.below _ _ hm
   obtain⟨q,q1,q2⟩:=L.oZ _ k g hm (by rw[<- hg];simp[hk])
   refine⟨q,q1,λ q' hq=>?_⟩
   show _∈((lives M owner).map (·.1)).toArray.toList
   rw[CW]
   exact (pl _).mpr (q2 q' hq)
section
variable {prog:Program}{w:World}{A:Around}{E:Ad}{s:Shared}
abbrev rk (prog:Program) (w:World):HeapKind prog w (List Int):=tupleKind (intKind prog w)
def items_int {ks:List Int}{vs:Af}(h:ItemsAre (intKind prog w) ks vs):∀ v∈vs,∃ n t,v=.int n t:=by
 induction h with
 | nil=>intro v hv;cases hv
 | cons h1 _ ih=>
  intro v hv
  rcases Aj.mp hv with rfl | hv
  ·obtain⟨t,e⟩:=Value.isInt_shape h1
   exact⟨_,t,e⟩
  ·exact ih v hv
def aL {ks:List Int}{a:Addr}{Q:Bool->Shared->Prop}(hk:IsTupleKey (intKind prog w) s.heap ks a) (h:Q false s):wpAny (model prog w) A (ofAClassStatement 8 (.ref a)) Q E s:=by
 have hT:=hk.typeIs
 obtain⟨o,items,n,ho,_,hd,hi⟩:=hk
 unfold ofAClassStatement
 refine JC (KI hT ?_)
 show wpAny _ _ (pure true >>= _) _ _ s
 refine JC (Ac ?_)
 simp only[CN,A9,if_false]
 refine JC (KC ho hd ?_)
 dsimp only
 refine JC ?_
 show wpAny _ _ (forIn items _ _) _ _ s
 rw[<- Array.forIn_toList]
 refine wpAny_forIn_list _ (λ EU r s'=>r.1=none/\s'=s/\∀ v∈EU,∃ n t,v=.int n t) _ ?_ ?_ _ _ ⟨rfl,rfl,items_int hi⟩
 ·rintro v EU r s' ⟨hr,rfl,AD⟩
  obtain⟨m,t,rfl⟩:=AD v Ao
  show wpAny _ _ (pure false >>= _) _ _ _
  refine JC (Ac ?_)
  simp only[A9,if_false]
  exact Ac ⟨rfl,rfl,λ u hu=>AD u (Av _ hu)⟩
 ·rintro⟨r1,r2⟩ s' ⟨hr,rfl,_⟩
  simp only at hr
  subst hr
  exact Ac h
def Oi {ks:List Int}{a:Addr}{Q:Bool->Shared->Prop}(hk:IsTupleKey (intKind prog w) s.heap ks a) (h:Q true s):wpAny (model prog w) A (hashByValue 8 (.ref a)) Q E s:=by
 have hT:=hk.typeIs
 obtain⟨o,items,n,ho,_,hd,hi⟩:=hk
 unfold hashByValue
 refine JC (wpAny_specialOf hT F.slot_tuple_hash.lookup ?_)
 dsimp only
 refine JC (KC ho hd ?_)
 refine JC ?_
 show wpAny _ _ (forIn items _ _) _ _ s
 rw[<- Array.forIn_toList]
 refine wpAny_forIn_list _ (λ EU r s'=>r.1=none/\s'=s/\∀ v∈EU,∃ n t,v=.int n t) _ ?_ ?_ _ _ ⟨rfl,rfl,items_int hi⟩
 ·rintro v EU r s' ⟨hr,rfl,AD⟩
  obtain⟨m,t,rfl⟩:=AD v Ao
  show wpAny _ _ (pure true >>= _) _ _ _
  refine JC (Ac ?_)
  simp only[CN,A9,if_false]
  exact Ac ⟨rfl,rfl,λ u hu=>AD u (Av _ hu)⟩
 ·rintro⟨r1,r2⟩ s' ⟨hr,rfl,_⟩
  simp only at hr
  subst hr
  exact Ac h
def Wf {ks:List Int}{b:Addr}{Q:Bool->Shared->Prop}(hk:IsTupleKey (intKind prog w) s.heap ks b) (l:Af) (hl:∀ v∈l,∃ k c,v=.ref c/\IsTupleKey (intKind prog w) s.heap k c) (h:Q false s):
  wpAny (model prog w) A (searchCouldBeSeen (.ref b) l) Q E s:=by
 unfold searchCouldBeSeen
 refine JC ?_
 refine wpAny_forIn_list _ (λ EU r s'=>r.1=none/\s'=s/\∀ v∈EU,∃ k c,v=.ref c/\IsTupleKey (intKind prog w) s.heap k c) _ ?_ ?_ _ _ ⟨rfl,rfl,hl⟩
 ·rintro v EU r s' ⟨hr,rfl,AD⟩
  obtain⟨k,c,rfl,hc⟩:=AD v Ao
  have Hw:∀ u∈EU,∃ k c,u=Value.ref c/\IsTupleKey (intKind prog w) s'.heap k c:=λ u hu=>AD u (Av _ hu)
  dsimp only
  by_cases e:(b == c||(carriedByValue (.ref b)&&carriedByValue (.ref c)))=true
  ·rw[if_pos e]
   exact Ac ⟨rfl,rfl,Hw⟩
  ·rw[if_neg e]
   refine JC ((rk prog w).quiet hk ?_)
   simp only[CN,A9,if_false]
   refine JC ((rk prog w).quiet hc ?_)
   simp only[CN,A9,if_false]
   refine JC (aL hk ?_)
   simp only[A9,if_false]
   refine JC (aL hc ?_)
   simp only[A9,if_false]
   exact Ac ⟨rfl,rfl,Hw⟩
 ·rintro⟨r1,r2⟩ s' ⟨hr,rfl,_⟩
  simp only at hr
  subst hr
  exact Ac h
structure qk (h:Heap) (es:Array (Int×Value)) (t:SetTable) (xs:List (List Int×Addr)):Prop where
 es:es.toList=xs.map λ e=>((rk prog w).hash e.1,Value.ref e.2)
 is:∀ e∈xs,IsTupleKey (intKind prog w) h e.1 e.2
 tab:Tab t (xs.map λ e=>(rk prog w).hash e.1)
 md:xs.length<=t.mask
theorem qk.fits {h:Heap}{es:Array (Int×Value)}{t:SetTable}{xs:List (List Int×Addr)}(X:qk (prog:=prog) (w:=w) h es t xs):t.fits es.size=true:=by
 have hl:es.size=xs.length:=by have:=congrArg List.length X.es;simpa using this
 have h1:=X.tab.len
 rw[Ay] at h1
 have h2:=X.md
 unfold SetTable.fits SetTable.fill
 rw[X.tab.rW,hl,h1]
 simp
 lia
def qk.at {h:Heap}{es:Array (Int×Value)}{t:SetTable}{xs:List (List Int×Addr)}(X:qk (prog:=prog) (w:=w) h es t xs) {i:Nat}{e:List Int×Addr}(he:xs[i]?=some e):es[i]?=some ((rk prog w).hash e.1,Value.ref e.2):=by
 rw[<- BA,X.es,AA,he];rfl
theorem c_ {a:Addr}{o:Obj}{es:Array (Int×Value)}{ep:Nat}{t:SetTable}{xs:List (List Int×Addr)}{key:List Int}{b:Addr}{Q:SetFound->Shared->Prop}
  (hu:A.units<cLine) (ho:s.heap.get? a=some o) (hd:o.data=.set es ep t) (X:qk (prog:=prog) (w:=w) s.heap es t xs) (hb:IsTupleKey (intKind prog w) s.heap key b)
  (h1:key∈xs.map (·.1)->Q (.there none) s) (h2:key∉xs.map (·.1)->∀ j,eT t ((rk prog w).hash key) j->Q (.free j false) s):
  ∀ (fuel k:Nat) (GR:Option Probe),GR.getD (t.probeStart ((rk prog w).hash key))=way t.mask ((rk prog w).hash key) k->(∀ m<k,∃ (i:Nat) (e:List Int×Addr),t.place[i]?=some (way t.mask ((rk prog w).hash key) m).j/\xs[i]?=some e/\e.1≠key)->(∃ K,k<=K/\K<k+fuel/\K<10*(t.mask+15)/\(way t.mask ((rk prog w).hash key) K).j∉t.place.toList/\∀ m<K,(way t.mask ((rk prog w).hash key) m).j∈t.place.toList)->
   wpAny (model prog w) A (setSearchFrom a (.ref b) ((rk prog w).hash key) true fuel GR) Q E s
 | 0,k,GR,_,_,⟨K,q1,q2,_⟩=>by lia
 | fuel+1,k,GR,AV,IP,⟨K,q1,q2,q3,q4,q5⟩=>by
  have T:=X.tab
  have Ek:t.gaveWay=false:=by
   unfold SetTable.gaveWay
   rcases T.mask with e | e | e <;> rw[e] <;> rfl
  unfold setSearchFrom
  refine JC (Ky ho hd X.fits ?_)
  dsimp only
  rw[Ek]
  simp only[A9,if_false]
  have hA:∀ (i:Nat) g,(xs.map λ e=>(rk prog w).hash e.1)[i]?=some g->((es[i]?).map (·.1)).getD 0=g:=λ i g hg=>by
   rw[AA] at hg
   obtain⟨e,e1,e2⟩:=AE.mp hg
   rw[X.at e1];exact e2
  obtain⟨k1,g1,g2,g3⟩:=ZJ T (hashAt:=λ i=>((es[i]?).map (·.1)).getD 0) hA ((rk prog w).hash key) (10*turns t.mask) k ⟨K,q1,by unfold turns;lia,q4⟩
  rw[AV]
  have look:∀ (i:Nat) g,(xs.map λ e=>(rk prog w).hash e.1)[i]?=some g->∃ e,xs[i]?=some e/\(rk prog w).hash e.1=g:=λ i g hg=>by
   rw[AA] at hg
   obtain⟨e,e1,e2⟩:=AE.mp hg
   exact⟨e,e1,e2⟩
  have GA:∀ m<k1,∃ (i:Nat) (e:List Int×Addr),t.place[i]?=some (way t.mask ((rk prog w).hash key) m).j/\xs[i]?=some e/\e.1≠key:=λ m hm=>by
   rcases Bk m k with c | c
   ·exact IP m c
   ·obtain⟨i,g,p1,p2,p3⟩:=g2 m c hm
    obtain⟨e,e1,e2⟩:=look i g p2
    exact⟨i,e,p1,e1,λ q=>p3 (by rw[<- e2,q])⟩
  rcases g3 with ⟨n1,n2⟩ | ⟨i,n1,n2,n3⟩
  ·have n2':t.probe _ ((rk prog w).hash key) (way t.mask ((rk prog w).hash key) k)=_:=n2
   simp only[SetTable.probe] at n2' ⊢
   erw [n2]
   dsimp only
   refine Ac (h2 (λ hm=>?_) _ ⟨n1,k1,rfl,λ m hm=>?_⟩)
   ·obtain⟨e,he,ek⟩:=Al.mp hm
    obtain⟨i,hi⟩:=Dn.mp he
    have hh:(xs.map λ e=>(rk prog w).hash e.1)[i]?=some ((rk prog w).hash key):=by rw[AA,hi,<- ek];rfl
    have CT:i<t.place.size:=by rw[T.len];exact (AL.mp hh).1
    obtain⟨kk,w1,w2⟩:=T.oZ i _ _ hh (Bf CT)
    rcases Dr kk k1 with c | c | c
    ·obtain⟨i',e',p1,p2,p3⟩:=GA kk c
     rw[w1] at p1
     have:i=i':=by
      rw[<- below_at T.wG (Bf CT),<- below_at T.wG p1]
     subst this
     rw[hi] at p2;cases p2
     exact p3 ek
    ·subst c;rw[w1] at n1;exact n1 (by simp)
    ·exact n1 (w2 k1 c)
   ·obtain⟨i',e',p1,_⟩:=GA m hm
    exact Bg (by rw[BA];exact p1)
  ·simp only[SetTable.probe]
   erw [n3]
   dsimp only
   obtain⟨e,e1,e2⟩:=look i _ n2
   have hes:=X.at e1
   have hey:=X.is e (Bg e1)
   have main:wpAny (model prog w) A (holding [Value.ref e.2] (eqBool (.ref e.2) (.ref b)) >>= λ equal=>setState a >>= λ x=>match x with
     | (F8,_,t')=>if (true&&equal)=true then pure (SetFound.there none) else
      match t'.sameMemory t.moves t.mask with
      | some same=>
       have jp:=λ F_=>match F_ with
        | none=>do
         rule "set.search.anew"
         setSearchFrom a (.ref b) ((rk prog w).hash key) true fuel none
        | some i'=>if equal=true then pure (SetFound.there (some i')) else setSearchFrom a (.ref b) ((rk prog w).hash key) true fuel (some (way t.mask ((rk prog w).hash key) (k1+1)))
       match if same=true then t'.slot (way t.mask ((rk prog w).hash key) k1).j else Slot.empty with
       | .live i'=>match F8[i']? with
        | some (_,y')=>do
         let r <- isSame y' (.ref e.2)
         let F_ <- pure (if r=true then some i' else none)
         jp F_
        | none=>do
         let F_ <- pure none
         jp F_
       | _=>do
        let F_ <- pure none
        jp F_
      | _=>unsupported "set.changed-during-lookup:is-the-new-block-at-the-old-address") Q E s:=by
    refine JC (Kt ((rk prog w).eqBool hu hey hb ?_))
    refine JC (Ky ho hd X.fits ?_)
    dsimp only
    by_cases hk:e.1=key
    ·rw[KA hk]
     simp only[Dt,if_true]
     exact Ac (h1 (Al.mpr ⟨e,Bg e1,hk⟩))
    ·rw[Kv hk]
     simp only[CM,A9,if_false]
     have sm:t.sameMemory t.moves t.mask=some true:=by unfold SetTable.sameMemory;simp
     rw[sm]
     dsimp only
     rw[if_pos rfl,T.live n1]
     dsimp only
     rw[hes]
     dsimp only
     refine JC (wpAny_isSame_ref_self ?_)
     refine JC (Ac ?_)
     rw[if_pos rfl]
     dsimp only
     have hKk:k1<K:=by
      rcases Dr K k1 with c | c | c
      ·obtain⟨i',e',p1,_⟩:=GA K c
       exact absurd (Bg (by rw[BA];exact p1)) q4
      ·subst c
       exact absurd (Bg (by rw[BA];exact n1)) q4
      ·exact c
     refine c_ hu ho hd X hb h1 h2 fuel (k1+1) _ rfl (λ m hm=>?_) ⟨K,by lia,by lia,q3,q4,q5⟩
     rcases Bk m k1 with c | c
     ·exact GA m c
     ·have:m=k1:=by lia
      subst this
      exact⟨i,e,n1,e1,hk⟩
   rw[hes]
   by_cases hl:t.led=true
   ·rw[hl]
    simp only[CN,A9,if_false]
    exact main
   ·have GO:t.led=false:=by simpa using hl
    rw[GO]
    simp only[CO,if_true]
    refine JC (Wf hb _ (λ v hv=>?_) ?_)
    ·obtain⟨p,hp,rfl⟩:=Al.mp hv
     rw[Array.toList_filter,AW,X.es] at hp
     obtain⟨⟨e',J6,rfl⟩,_⟩:=(And.intro (Al.mp hp.1) hp.2)
     exact⟨e'.1,e'.2,rfl,X.is e' J6⟩
    ·simp only[A9,if_false]
     exact main
structure vJ (prog:Program) (w:World) (h:Heap) (a:Addr) (xs:List (List Int×Addr)) (led:Bool):Prop where
 ex:∃ es ep t,h.get? a=some { cls:=.type "set",dict:=none,data:=.set es ep t }/\qk (prog:=prog) (w:=w) h es t xs/\t.led=led/\t.plain=true/\xs.length*5<t.mask*3
 nd:(xs.map (·.1)).Nodup
def ik {h h':Heap}{ks:List Int}{b a:Addr}{es:Array (Int×Value)}{ep:Nat}{t:SetTable}{c:Value}{d:Option Addr}{sl:Array (Option Value)}(x:IsTupleKey (intKind prog w) h ks b) (ho:h.get? a=some { cls:=c,dict:=d,data:=.set es ep t,slots:=sl }) (hs:Heap.SameBut a h h'):IsTupleKey (intKind prog w) h' ks b:=by
 obtain⟨o',items,n,F7,hc,Hg,hi⟩:=x
 have Am:b≠a:=by
  rintro rfl
  obtain rfl:o'=_:=A5 (F7.symm.trans ho)
  cases Hg
 exact⟨o',items,n,(hs.2 b Am).trans F7,hc,Hg,hi⟩
def k6 {h:Heap}{a:Addr}{es F8:Array (Int×Value)}{ep:Nat}{t t':SetTable}(ho:h.get? a=some { cls:=.type "set",dict:=none,data:=.set es ep t }):(h.update a (Obj.putSet F8 t')).get? a=some { cls:=.type "set",dict:=none,data:=.set F8 (ep+1) t' }:=by
 have e:Obj.putSet F8 t' { cls:=.type "set",dict:=none,data:=.set es ep t }={ cls:=.type "set",dict:=none,data:=.set F8 (ep+1) t' }:=putSet_of F8 t' rfl
 have:=KH (Obj.putSet F8 t') ho (by rw[e];rfl)
 rw[e] at this;exact this
theorem gs {α β:Type}(l:List α) (f:α->β) (d:β):∀ (order:List Nat),(∀ k∈order,k<l.length)->order.map (λ k=>(l.map f).getD k d)=(order.filterMap λ k=>l[k]?).map f
 | [],_=>rfl
 | k::order,h=>by
  have hk:=h k Ao
  have ih:=gs l f d order λ j hj=>h j (Av _ hj)
  rw[Au,Cs,A2 hk]
  dsimp only
  rw[Au,ih]
  congr 1
  simp[hk]
def VR {a:Addr}{es:Array (Int×Value)}{ep:Nat}{t:SetTable}{xs:List (List Int×Addr)}{led:Bool}{wanted M:Nat}{Q:Unit->Shared->Prop}
  (ho:s.heap.get? a=some { cls:=.type "set",dict:=none,data:=.set es ep t }) (X:qk (prog:=prog) (w:=w) s.heap es t xs) (Br:t.led=led) (Aq:t.plain=true) (hM:vp M) (hw:sizeAbove wanted=M+1) (AM:xs.length*5<M*3) (CS:(xs.map (·.1)).Nodup)
  (h:∀ h' Fi,Heap.SameBut a s.heap h'->vJ prog w h' a Fi led->Fi.Perm xs->Q () { s with heap:=h' }):wpAny (model prog w) A (setRelay a wanted) Q E s:=by
 have hlen:es.size=xs.length:=by have:=congrArg List.length X.es;simpa using this
 have Ey:(es.map (·.1)).toList=xs.map λ e=>(rk prog w).hash e.1:=by rw[Array.toList_map,X.es,AJ];rfl
 have hsz:(es.map (·.1)).size=xs.length:=by rw[C1,hlen]
 obtain⟨t',order,h1,h2,h3,h4,h5,h6,h7⟩:=Zi hM t.finger (t.movedTo M) t.led t.plain (es.map (·.1)) (by rw[hsz];lia)
 rw[hsz] at h6
 have An:∀ k∈order.toList,k<xs.length:=λ k hk=>by simpa using h6.mem_iff.mp hk
 unfold setRelay
 refine JC (Ky ho rfl X.fits ?_)
 dsimp only
 rw[if_neg (by rw[hw];rcases hM with e | e | e <;> rw[e] <;> decide)]
 have hr:t.relaid (es.map (·.1)) wanted=some (t',order):=by
  unfold SetTable.relaid
  rw[hw,Nat.add_sub_cancel];exact h1
 rw[hr]
 have BI:(order.filterMap (es[·]?)).toList=(order.toList.filterMap λ k=>xs[k]?).map λ e=>((rk prog w).hash e.1,Value.ref e.2):=by
  rw[Array.toList_filterMap,List.map_filterMap]
  congr 1
  funext k
  rw[<- BA,X.es,AA]
 have E8:(order.toList.filterMap λ k=>xs[k]?).Perm xs:=(h6.filterMap _).trans (by rw[List.filterMap_getElem?_range_length])
 have BG:(order.filterMap (es[·]?)).size=es.size:=by
  rw[<- Bl,BI,Ay,E8.length_eq,hlen]
 refine JC (m:=_) ?_
 show wpAny _ _ (do
  let some (t,order):=some (t',order) | unsupported "internal:set-table-without-room"
  let F8:=order.filterMap (es[·]?)
  if F8.size != es.size then unsupported "internal:set-table-lost-an-element"
  pure (F8,t)) _ _ _
 dsimp only
 rw[if_neg (by rw[BG];simp)]
 refine Ac ?_
 have Bp:(order.filterMap (es[·]?)).size<=sizeLine:=by
  rw[BG,hlen]
  have:sizeLine=16777216:=rfl
  rcases hM with e | e | e <;> subst e <;> lia
 refine wpAny_storeSet_of ho rfl ?_ Bp
 have sb:=Heap.SameBut.update s.heap a (Obj.putSet (order.filterMap (es[·]?)) t')
 refine h _ _ sb ⟨⟨_,ep+1,t',k6 ho,⟨BI,λ e he=>ik (X.is e (E8.mem_iff.mp he)) ho sb,?_,?_⟩,by rw[h4];exact Br,by rw[h5];exact Aq,?_⟩,(E8.map _).nodup_iff.mpr CS⟩ E8
 ·rw[<- gs xs (λ e=>(rk prog w).hash e.1) 0 order.toList An,<- Ey]
  exact h7
 ·rw[E8.length_eq,h2];lia
 ·rw[E8.length_eq,h2];exact AM
def cV (n:Nat) (M:Nat) (hM:vp M) (h1:n*5<M*3) (h2:M*3<=(n+1)*5) (hn:n<70):∃ M',vp M'/\sizeAbove (grown (n+1))=M' + 1/\(n+1)*5<M'*3:=by
 rcases hM with e | e | e <;> subst e
 ·have:n=4:=by lia
  subst this;exact⟨31,.inr (.inl rfl),AB,by lia⟩
 ·have:n=18:=by lia
  subst this;exact⟨127,.inr (.inr rfl),AB,by lia⟩
 ·lia
def Mq {a:Addr}{xs:List (List Int×Addr)}{key:List Int}{b:Addr}{led:Bool}{Q:Bool->Shared->Prop}(hu:A.units<cLine) (S:vJ prog w s.heap a xs led) (hb:IsTupleKey (intKind prog w) s.heap key b) (hn:xs.length<70)
  (h:∀ h' Fi r,Heap.SameBut a s.heap h'->vJ prog w h' a Fi led->(key∈xs.map (·.1)/\Fi=xs\/key∉xs.map (·.1)/\Fi.Perm (xs++[(key,b)]))->Q r { s with heap:=h' }):
  wpAny (model prog w) A (setAddHashed a (.ref b) ((rk prog w).hash key)) Q E s:=by
 obtain⟨⟨es,ep,t,ho,X,Br,Aq,AM⟩,CS⟩:=S
 have hlen:es.size=xs.length:=by have:=congrArg List.length X.es;simpa using this
 unfold setAddHashed setAddHashedIn
 refine Kt (JC (Ky ho rfl X.fits ?_))
 dsimp only
 rw[if_neg (by simp[byScan,Value.scannable])]
 obtain⟨K,k1,k2,k3⟩:=X.tab.first (by rw[Ay];exact X.md) ((rk prog w).hash key)
 have hmk:t.mask<=127:=by rcases X.tab.mask with e | e | e <;> lia
 refine JC ?_
 unfold setSearch
 refine c_ (key:=key) (b:=b) hu ho rfl X hb (λ hm=>?_) (λ hm j F=>?_) 100000 0 none rfl (λ m hm=>by lia) ⟨K,by lia,by lia,k1,k2,k3⟩
 ·dsimp only
  refine Ac ?_
  have:=h s.heap xs false ⟨rfl,λ _ _=>rfl⟩ ⟨⟨es,ep,t,ho,X,Br,Aq,AM⟩,CS⟩ (.inl ⟨hm,rfl⟩)
  exact this
 ·dsimp only
  refine JC (Ky ho rfl X.fits ?_)
  dsimp only
  obtain⟨p1,p2,p3⟩:=X.tab.put F
  rw[Ay] at p1
  have Cz:(t.put j).1.plain=true:=by rw[p2];exact Aq
  have Cb:(t.put j).1.mask=t.mask:=by rw[p2]
  have An:(t.put j).1.led=led:=by rw[p2];exact Br
  generalize hT:(t.put j)=P at *
  obtain⟨t1,p⟩:=P
  dsimp only at *
  rw[Cz]
  simp only[if_true]
  refine JC (Oi hb ?_)
  simp only[if_true]
  let F9:=xs.take p++(key,b)::xs.drop p
  have E8:F9.Perm (xs++[(key,b)]):=by
   have e:xs.take p++xs.drop p=xs:=DT p xs
   have:F9.Perm ((key,b)::(xs.take p++xs.drop p)):=List.perm_middle
   rw[e] at this
   exact this.trans (List.perm_append_singleton _ _).symm
  have GG:F9.length=xs.length+1:=by rw[E8.length_eq];simp
  have G4:(insertAt es p ((rk prog w).hash key,Value.ref b)).toList=F9.map λ e=>((rk prog w).hash e.1,Value.ref e.2):=by
   rw[toList_insertAt,X.es]
   simp[F9,Dm,CJ]
  have Hd:(insertAt es p ((rk prog w).hash key,Value.ref b)).size=xs.length+1:=by rw[<- Bl,G4,Ay,GG]
  have Bp:(insertAt es p ((rk prog w).hash key,Value.ref b)).size<=sizeLine:=by
   rw[Hd]
   have:sizeLine=16777216:=rfl
   lia
  refine JC (wpAny_storeSet_of ho rfl ?_ Bp)
  have sb:=Heap.SameBut.update s.heap a (Obj.putSet (insertAt es p ((rk prog w).hash key,Value.ref b)) t1)
  have Ik:=k6 (F8:=insertAt es p ((rk prog w).hash key,Value.ref b)) (t':=t1) ho
  have hm7:7<=t.mask:=by rcases X.tab.mask with e | e | e <;> lia
  have X1:qk (prog:=prog) (w:=w) (s.heap.update a (Obj.putSet (insertAt es p ((rk prog w).hash key,Value.ref b)) t1)) (insertAt es p ((rk prog w).hash key,Value.ref b)) t1 F9:=by
   refine⟨G4,λ e he=>?_,?_,by rw[GG,Cb];lia⟩
   ·rcases AY.mp (E8.mem_iff.mp he) with q | q
    ·exact ik (X.is e q) ho sb
    ·cases AR.mp q;exact ik hb ho sb
   ·have:F9.map (λ e=>(rk prog w).hash e.1)=(xs.map λ e=>(rk prog w).hash e.1).take p++(rk prog w).hash key::(xs.map λ e=>(rk prog w).hash e.1).drop p:=by simp[F9,Dm,CJ]
    rw[this];exact p3
  have Hf:(F9.map (·.1)).Nodup:=by
   refine (E8.map _).nodup_iff.mpr ?_
   rw[Bz,List.nodup_append]
   refine⟨CS,by simp,λ x hx y hy=>?_⟩
   simp at hy
   subst hy
   exact λ e=>hm (e▸hx)
  by_cases hf:t1.tooFull=true
  ·rw[hf]
   simp only[CO,Dt,if_true]
   have Gs:t1.fill=xs.length+1:=by
    unfold SetTable.fill
    rw[p3.rW,p3.len]
    simp
    lia
   have Gg:t.mask*3<=(xs.length+1)*5:=by
    have:=hf
    unfold SetTable.tooFull at this
    rw[Gs,Cb] at this
    simpa using this
   obtain⟨M',g1,g2,g3⟩:=cV xs.length t.mask X.tab.mask AM Gg hn
   rw[hlen]
   refine JC (VR (led:=led) Ik X1 An Cz g1 g2 (by rw[GG];exact g3) Hf λ h' Fi sb' S' pm=>?_)
   refine Ac ?_
   exact h h' Fi true (sb.trans sb') S' (.inr ⟨hm,pm.trans E8⟩)
  ·have G3:t1.tooFull=false:=by simpa using hf
   rw[G3]
   simp only[CO,CM,A9,if_false]
   refine Ac ?_
   have Gs:t1.fill=xs.length+1:=by
    unfold SetTable.fill
    rw[p3.rW,p3.len]
    simp
    lia
   have Gg:(xs.length+1)*5<t.mask*3:=by
    have:=G3
    unfold SetTable.tooFull at this
    rw[Gs,Cb] at this
    simpa using this
   exact h _ F9 true sb ⟨⟨_,ep+1,t1,Ik,X1,An,Cz,by rw[GG,Cb];exact Gg⟩,Hf⟩ (.inr ⟨hm,E8⟩)
end
noncomputable def v7 (w:World):Bool:=!w.params.followText "set-order"
def yS (w:World):Obj:={ cls:=.type "set",dict:=none,data:=.set #[] 0 (.fresh 0 0 (v7 w)) }
section
variable {prog:Program}{w:World}{A:Around}{E:Ad}{s:Shared}
set_option maxHeartbeats 3200000 in
def Yz (a:Value) {Q:Ad}(h:Q (.ref s.heap.objs.size) { s with heap:=s.heap.push (yS w) }):
  codeAny (model prog w) A (.call (.builtin "set.__new__") ⟨[.type "set",a],[]⟩) (wants Q E) s:=by
 refine codeAny_of_tree ?_
 show wpAny _ A.in1 (checkBuiltinCall "set.__new__" ⟨[.type "set",a],[]⟩ >>= λ _=>again (.builtin "set.__new__" ⟨[.type "set",a],[]⟩)) _ _ s
 refine JC (wpAny_of_eq (F.newCall_set_1 a) (Ac ⟨plainId_quiet F.plain_set_new _,codeAny_builtin F.entry_set_new ?_⟩))
 rw[Around.under_plainId F.plain_set_new _]
 unfold Builtin.«set.__new__» Builtin.Frozenset.newClass newSet setsByText
 have sub:=sub_set_self
 obtain⟨hp,g,d,tk,os⟩:=s
 dsimp only
 wp_walk
 refine KP (Ac ?_)
 dsimp only
 simp only[newObj]
 exact JC (wpAny_alloc (Ac (Ac h)))
def Vj {h:Heap}{a:Addr}(ho:h.get? a=some (yS w)):vJ prog w h a [] (v7 w):=
 ⟨⟨#[],0,_,ho,⟨rfl,λ e he=>(by cases he),⟨.inl rfl,rfl,rfl,.nil,λ j hj=>(by cases hj),λ i g j hg=>(by cases hg)⟩,by simp⟩,rfl,rfl,by show 0*5<7*3;lia⟩,.nil⟩
end
end ST
namespace ST
open PySem PySem.SetTable PyProof.Rows
structure Up (its:Ar) (rows:List (List Int)) (i:Nat) (xs:List (List Int×Addr)):Prop where
 own:∀ e∈xs,∃ j,j<i/\its[j]?=some (.ref e.2)/\rows[j]?=some e.1
 all:∀ (j:Nat) r,j<i->rows[j]?=some r->r∈xs.map (·.1)
def Up.len {its:Ar}{rows:List (List Int)}{i:Nat}{xs:List (List Int×Addr)}(U:Up its rows i xs) (nd:(xs.map (·.1)).Nodup):xs.length<=i:=by
 have:∀ x∈xs.map (·.1),x∈(List.range i).map λ j=>rows.getD j []:=λ x hx=>by
  obtain⟨e,he,rfl⟩:=Al.mp hx
  obtain⟨j,h1,_,h3⟩:=U.own e he
  refine Al.mpr ⟨j,Az.mpr h1,?_⟩
  rw[AZ,h3];rfl
 have key:∀ (l m:List (List Int)),l.Nodup->(∀ x∈l,x∈m)->l.length<=m.length:=by
  intro l
  induction l with
  | nil=>intro m _ _;exact AO _
  | cons x l ih=>
   intro m hn hs
   have h1:=Bc.mp hn
   have hx:=hs x Ao
   have:=ih (m.erase x) h1.2 λ z hz=>(DZ (λ e:z=x=>h1.1 (by rw[<- e];exact hz))).mpr (hs z (Av _ hz))
   rw[DY hx] at this
   have:=DX hx
   simp only[AX];lia
 have:=key _ _ nd this
 simpa using this
def Up.step {its:Ar}{rows:List (List Int)}{i:Nat}{xs Fi:List (List Int×Addr)}{key:List Int}{b:Addr}(U:Up its rows i xs) (hi:its[i]?=some (.ref b)) (hr:rows[i]?=some key)
  (h:key∈xs.map (·.1)/\Fi=xs\/key∉xs.map (·.1)/\Fi.Perm (xs++[(key,b)])):Up its rows (i+1) Fi:=by
 rcases h with ⟨hm,rfl⟩ | ⟨_,hp⟩
 ·refine⟨λ e he=>?_,λ j r hj Bh=>?_⟩
  ·obtain⟨j,h1,h2⟩:=U.own e he
   exact⟨j,by lia,h2⟩
  ·rcases Bk j i with q | q
   ·exact U.all j r q Bh
   ·have:j=i:=by lia
    subst this
    rw[hr] at Bh;cases Bh;exact hm
 ·refine⟨λ e he=>?_,λ j r hj Bh=>?_⟩
  ·rcases AY.mp (hp.mem_iff.mp he) with q | q
   ·obtain⟨j,h1,h2⟩:=U.own e q
    exact⟨j,by lia,h2⟩
   ·cases AR.mp q
    exact⟨i,by lia,hi,hr⟩
  ·have G0:=hp.map (·.1)
   rw[G0.mem_iff,Bz]
   rcases Bk j i with q | q
   ·exact Cr _ (U.all j r q Bh)
   ·have:j=i:=by lia
    subst this
    rw[hr] at Bh;cases Bh
    exact AU _ Ao
section
variable {prog:Program}{w:World}{A:Around}{R:Result->Shared->Prop}{I:Addr}{fp wr:List Addr}{G:Array GenState->Array GenState->Prop}{n:Nat}{P:Nat->Value->Prop}{St:Nat->Shared->Prop}
def qJ (prog:Program) (w:World) (h:Heap) (its:Ar) (rows:List (List Int)):Prop:=∀ (i:Nat) v,its[i]?=some v->∃ b r,v=.ref b/\rows[i]?=some r/\IsTupleKey (intKind prog w) h r b
def qJ.at {h h':Heap}{its:Ar}{rows:List (List Int)}(T:qJ prog w h its rows) (k:∀ (i:Nat) b,its[i]?=some (.ref b)->∀ o,h.get? b=some o->h'.get? b=some o):qJ prog w h' its rows:=λ i v hv=>by
 obtain⟨b,r,rfl,h1,o,items,m,h2,h3⟩:=T i v hv
 exact⟨b,r,rfl,h1,o,items,m,k i b hv o h2,h3⟩
def QV (W:WalksS prog w A.in1 I fp wr G n (λ i v=>P i v) St) (Sa:Addr) (I_:Sa∉fp) {its:Ar}{rows:List (List Int)}(hP:∀ i v,P i v->its[i]?=some v) (hn:n<70) (hu:A.units+1<cLine) (led:Bool)
  (Ca:∀ (i:Nat) b,its[i]?=some (.ref b)->b∉Sa::wr):∀ (k i:Nat) (s:Shared) (xs:List (List Int×Addr)),n-i=k->i<=n->St i s->vJ prog w s.heap Sa xs led->qJ prog w s.heap its rows->Up its rows i xs->
   (∀ s' Fi,Moved (Sa::wr) G s s'->vJ prog w s'.heap Sa Fi led->Up its rows n Fi->R (.ok (.ret .none)) s')->
   codeAny (model prog w) A (.builtin "set.update.loop" ⟨[.ref Sa,.ref I],[]⟩) R s:=by
 have IZ:Sa∉wr:=λ z=>I_ (W.sub _ z)
 have more:∀ b∈wr,b∈Sa::wr:=λ b hb=>Av _ hb
 have Hz:∀ {s s':Shared}{xs:List (List Int×Addr)}{Ji:List Addr},Sa∉Ji->(∀ e∈xs,e.2∉Ji)->Moved Ji G s s'->vJ prog w s.heap Sa xs led->vJ prog w s'.heap Sa xs led:=λ{s s' xs Ji} h1 h2 hm ⟨⟨es,ep,t,ho,X,r1,r2,r3⟩,nd⟩=>
  ⟨⟨es,ep,t,hm.heap Sa _ h1 ho,⟨X.es,λ e he=>by
   obtain⟨o,items,m,g1,g2⟩:=X.is e he
   exact⟨o,items,m,hm.heap _ _ (h2 e he) g1,g2⟩,X.tab,X.md⟩,r1,r2,r3⟩,nd⟩
 intro k
 induction k with
 | zero=>
  intro i s xs hk hi AV hS hT hU hR
  have e:i=n:=by lia
  subst e
  refine codeAny_builtin F.entry_set_update_loop ?_
  rw[Around.under_plainId F.plain_set_update_loop _]
  show wpAny _ A.in1 (pyNext (.ref I) >>= _) _ _ s
  refine JC (W.done s _ _ AV λ s' hm=>?_)
  refine Ac (hR s' xs (hm.mono more) (Hz IZ (λ e he=>?_) hm hS) hU)
  obtain⟨j,_,h2,_⟩:=hU.own e he
  exact λ z=>Ca j e.2 h2 (more _ z)
 | succ k ih=>
  intro i s xs hk hi AV hS hT hU hR
  have An:i<n:=by lia
  refine codeAny_builtin F.entry_set_update_loop ?_
  rw[Around.under_plainId F.plain_set_update_loop _]
  show wpAny _ A.in1 (pyNext (.ref I) >>= _) _ _ s
  refine JC (W.item i s _ _ An AV λ v s1 J_ HV hm=>?_)
  have hv:=hP i v J_
  have T1:qJ prog w s1.heap its rows:=hT.at λ j b hj o e=>hm.heap b o (λ z=>Ca j b hj (more _ z)) e
  obtain⟨b,r,rfl,hr,hb⟩:=T1 i v hv
  have S1:vJ prog w s1.heap Sa xs led:=Hz IZ (λ e he=>by
   obtain⟨j,_,h2,_⟩:=hU.own e he
   exact λ z=>Ca j e.2 h2 (more _ z)) hm hS
  have hl:xs.length<70:=by have:=hU.len hS.nd;lia
  show wpAny _ A.in1 (holding [Value.ref b] (setAdd Sa (.ref b)) >>= _) _ _ s1
  refine JC (Kt ?_)
  unfold setAdd
  refine Kt (JC ((rk prog w).pyHash (k:=r) (a:=b) (A:=A.in1) hu hb ?_))
  refine Mq (s:={ s1 with toks:=s1.toks+(rk prog w).draws r }) (A:=A.in1) hu S1 hb hl λ h' Fi rr sb S' hx=>?_
  have fr:=W.frame (i+1) s1 h' (s1.toks+(rk prog w).draws r) HV (Cd _ _) λ c hc o e=>(sb.2 c (λ z:c=Sa=>I_ (z▸hc))).trans e
  refine Ac ⟨plainId_quiet F.plain_set_update_loop _,ih (i+1) _ Fi (by lia) An fr S' (T1.at λ j c hj o e=>?_) (hU.step hv hr hx) λ s2 Hu Hs S2 U2=>?_⟩
  ·exact (sb.2 c (λ z=>Ca j c hj (z▸Ao))).trans e
  ·refine hR s2 Hu (Moved.trans W.gtrans ((hm.mono more).then_heap (Cd _ _) λ c o hc e=>?_) Hs) S2 U2
   exact (sb.2 c (λ z=>hc (z▸Ao))).trans e
end
section
variable {prog:Program}{w:World}{A:Around}{E:Ad}{s:Shared}
set_option maxHeartbeats 6400000 in
def NM {l:Addr}{its:Ar}{rows:List (List Int)}{Q:Ad}(hh:A.handled=none) (hu:A.units+64<cLine) (hl:s.heap.IsList l its) (hT:qJ prog w s.heap its rows) (hn:its.size<70)
  (h:∀ (h':Heap) (tk:Nat) xs,vJ prog w h' s.heap.objs.size xs (v7 w)->Up its rows its.size xs->(∀ b o,b<s.heap.objs.size->s.heap.get? b=some o->h'.get? b=some o)->Q (.ref s.heap.objs.size) { s with heap:=h',toks:=tk }):
  wpAny (model prog w) A (call (.type "set") [.ref l]) Q E s:=by
 obtain⟨c,tl,Eo⟩:=F.called_set.mro
 have made:=F.called_set.made
 have JD:=F.called_set.sub
 refine wpAny_call (codeAny_of_tree ?_)
 show wpAny _ _ (callAny (.type "set") _) _ _ _
 refine Ac ⟨Code.quiet_builtin _ (AB),codeAny_builtin F.entry_type_call ?_⟩
 rw[Around.under_plain (weight_type_call_type "set" [.ref l] []) rfl]
 have nt:=F.called_set.notType
 have cc:=F.called_set.canCreate
 have tc:=F.typeCall_set_1 (.ref l)
 repeat (any_goals (first | assumption | wp_step))
 refine codeAny_mono (Yz (.ref l) (E:=E) (Q:=λ obj s₁=>obj=.ref s.heap.objs.size/\s₁={ s with heap:=s.heap.push (yS w) }) ⟨rfl,rfl⟩) λ r s₁ hr=>?_
 cases r with
 | error e=>exact hr
 | ok fl=>
  cases fl with
  | ret obj=>
   obtain⟨rfl,rfl⟩:=hr
   have hS:(s.heap.push (yS w)).get? s.heap.objs.size=some (yS w):=AF _ rfl
   have J8:Shared.TypeIs { s with heap:=s.heap.push (yS w) } (.ref s.heap.objs.size) "set":=⟨_,hS,rfl⟩
   have li:=F.called_set.init.lookup
   have bi:=F.called_set.init.bind (.ref s.heap.objs.size)
   repeat (any_goals (first | assumption | wp_step))
   let s1:Shared:={ s with heap:=s.heap.push (yS w) }
   refine codeAny_mono (codeAny_call_builtin (R:=wants (λ r s₂=>r=.none/\∃ h' tk xs,s₂={ s with heap:=h',toks:=tk }/\vJ prog w h' s.heap.objs.size xs (v7 w)/\Up its rows its.size xs/\
     ∀ b o,b<s.heap.objs.size->s.heap.get? b=some o->h'.get? b=some o) E) F.called_set.init.plain F.entry_set_init (check_set_init_1 J8 ?_)) λ r₂ s₂ HW=>?_
   ·obtain⟨⟨JJ,Hb,IA,GL⟩,C9,AN,nl,Cm⟩:=id hl
    simp only at AN Cm
    subst AN Cm
    have HY:(s.heap.push (yS w)).get? l=some { cls:=.type "list",dict:=Hb,data:=.seq its nl,slots:=GL }:=Kr _ C9
    have sls:=F.sub_list_set
    have slf:=F.sub_list_frozenset
    have nd:(Value.type "list" == Value.type "dict")=false:=by decide
    have GG:(s.heap.push (yS w)).IsList l its:=⟨_,HY,rfl,nl,rfl⟩
    unfold Builtin.«set.__init__» noKeywords Builtin.Frozenset.updateFrom
    generalize Ka:pyIter=PI
    unfold yS at *
    wp_walk
    subst Ka
    refine KN GG (JC (wpAny_runValue ?_))
    have IV:l<s.heap.objs.size:=Ap C9
    have hsz:(s.heap.push (yS w)).objs.size=s.heap.objs.size+1:=Heap.size_push _ _
    have H_:l≠(s.heap.push (yS w)).objs.size:=by rw[hsz];exact Aw (Bv IV)
    have HM:s.heap.objs.size≠(s.heap.push (yS w)).objs.size:=by rw[hsz];exact Aw (Cj _)
    have low:∀ b:Addr,b<s.heap.objs.size->b≠(s.heap.push (yS w)).objs.size:=λ b hb=>by rw[hsz];exact Aw (Bv hb)
    have tin:∀ (i:Nat) b,its[i]?=some (.ref b)->b<s.heap.objs.size:=λ i b hb=>by
     obtain⟨b',r,e,_,o,_,_,ho,_⟩:=hT i _ hb
     cases e;exact Ap ho
    refine QV (A:=A.in1.in1) (P:=λ i v=>its[i]?=some v) ((Walks.list (A:=A.in1.in1.in1) (by simp[hh]) _ l H_ its).toS) s.heap.objs.size ?_ (its:=its) (rows:=rows) (λ _ _ q=>q) hn (show A.units+1+1+1<cLine by lia) (v7 w) ?_ its.size 0 _ [] (by lia) (AO _)
     ⟨⟨_,AF _ rfl,rfl,rfl⟩,GG.push _⟩ (Vj (w:=w) (Kr _ hS)) (hT.at λ i b _ o e=>Kr _ (Kr _ e)) ⟨λ e he=>(by cases he),λ j r hj=>(by lia)⟩ ?_
    ·intro hm
     rcases Aj.mp hm with q | q
     ·exact HM q
     ·exact BO IV (AR.mp q)
    ·intro i b hb hm
     have An:=tin i b hb
     rcases Aj.mp hm with q | q
     ·exact Aw An q
     ·exact low b An (AR.mp q)
    ·intro s' Fi hm S' U'
     obtain⟨h',g',d',Iv,HR⟩:=s'
     obtain rfl:g'=s.gens:=hm.gens
     obtain rfl:d'=s.drawn:=hm.drawn
     obtain rfl:HR=s.os:=hm.os
     refine Ac (Ac ⟨rfl,h',Iv,Fi,rfl,S',U',λ b o hb e=>?_⟩)
     refine hm.heap b o (λ q=>?_) (Kr _ (Kr _ e))
     rcases Aj.mp q with q | q
     ·exact Aw hb q
     ·exact low b hb (AR.mp q)
   ·cases r₂ with
    | error e=>exact HW
    | ok Kj=>
     cases Kj with
     | ret r=>
      obtain⟨rfl,h',tk,xs,rfl,g1,g2,g3⟩:=HW
      repeat (any_goals (first | assumption | wp_step))
      exact h h' tk xs g1 g2 g3
     | _=>exact HW.elim
  | _=>exact hr.elim
end
end ST
namespace ST
open PySem PySem.SetTable
section facts
def aj:Manifest.owners.lookup (String.ofList ['r','o','t','a','r','e','t','i','_','t','e','s'].reverse)=some Manifest.sig_set_iterator:=by kernel_rfl
def pb:Slot "set_iterator" "__next__" "set_iterator.__next__":=
 .of (owner:="set_iterator") (n:="__next__") (by rw[typeLookup_type,builtinLookup_eq_fast];kernel_rfl) (AB) (AB) (AB) (by first | exact .inl (AB) | exact .inr (AB)) (by rw[isSubtype_type];kernel_rfl)
def ZY:entryFor table "set_iterator.__next__"=some Builtin.«set_iterator.__next__»:=entryFor_of_tree (by kernel_rfl)
def YN (a:Value):argsOk "set_iterator.__next__" ⟨[a],[]⟩:=by
 unfold argsOk
 rw[signature?_of (id:="set_iterator.__next__") (n:=['_','_','t','x','e','n','_','_']) (o:=['r','o','t','a','r','e','t','i','_','t','e','s']) (by kernel_rfl) aj]
 kernel_rfl
def Na:entryFor table "set.__iter__"=some Builtin.«frozenset.__iter__»:=entryFor_alias (id':="frozenset.__iter__") (by kernel_rfl) rfl (AB) (by kernel_rfl)
def cU:Slot "set_iterator" "__iter__" "set_iterator.__iter__":=
 .of (owner:="set_iterator") (n:="__iter__") (by rw[typeLookup_type,builtinLookup_eq_fast];kernel_rfl) (AB) (AB) (AB) (by first | exact .inl (AB) | exact .inr (AB)) (by rw[isSubtype_type];kernel_rfl)
def O_:entryFor table "set_iterator.__iter__"=some Builtin.«dict_keyiterator.__iter__»:=entryFor_alias (id':="dict_keyiterator.__iter__") (by kernel_rfl) rfl (AB) (by kernel_rfl)
def Mj (a:Value):argsOk "set_iterator.__iter__" ⟨[a],[]⟩:=by
 unfold argsOk
 rw[signature?_of (id:="set_iterator.__iter__") (n:=['_','_','r','e','t','i','_','_']) (o:=['r','o','t','a','r','e','t','i','_','t','e','s']) (by kernel_rfl) aj]
 kernel_rfl
end facts
theorem ZW {α:Type}:∀ (l:List α) (i:Nat) (x:α),l[i]?=some x->l.Perm (x::l.eraseIdx i)
 | [],i,x,h=>by simp at h
 | y::l,0,x,h=>by simp at h;subst h;simp
 | y::l,i+1,x,h=>by
  have ih:=ZW l i x (by simpa using h)
  rw[List.eraseIdx_cons_succ]
  exact (ih.cons y).trans (.swap x y _)
theorem bO {α:Type}(next:Nat->Nat):∀ (f k:Nat) (left:List α) (out:Array α),left.length=f->(pickOrder.go next f k left out).toList.Perm (out.toList++left)
 | 0,k,left,out,h=>by
  cases left with
  | nil=>unfold pickOrder.go;simp
  | cons _ _=>simp at h
 | f+1,k,left,out,h=>by
  unfold pickOrder.go
  have An:next k%left.length<left.length:=CY _ (by lia)
  rw[A2 An]
  dsimp only
  refine (bO next f (k+1) _ _ (by rw[List.length_eraseIdx_of_lt An];lia)).trans ?_
  rw[Array.toList_push,List.append_assoc]
  exact (ZW left _ _ (A2 An)).symm.append_left _
def U7 {α:Type}(next:Nat->Nat) (xs:Array α):(pickOrder next xs).toList.Perm xs.toList:=by
 unfold pickOrder
 simpa using bO next xs.size 0 xs.toList #[] (by simp)
noncomputable def comes (w:World) (a:Addr) (es:Array (Int×Value)) (ep:Nat):Array (Int×Value):=if w.params.followText "set-order"=true then pickOrder (w.params.setOrder a ep) es else es
def pS (w:World) (a:Addr) (es:Array (Int×Value)) (ep:Nat):(comes w a es ep).toList.Perm es.toList:=by
 unfold comes
 split
 ·exact U7 _ _
 ·exact .refl _
noncomputable def rP (a:Addr) (slot i n ep:Nat):Obj:={ cls:=.type "set_iterator",data:=.fields #[rawInt slot,rawInt i,.ref a,rawInt n,rawInt ep] }
noncomputable def slotAt (t:SetTable):Nat->Nat
 | 0=>0
 | i+1=>t.place.getD i 0+1
theorem Mg {t:SetTable}(hr:uM t.place.toList):∀ i,i<=t.place.size->below t.place (slotAt t i)=i
 | 0,_=>by
  obtain⟨h1,h2,h3⟩:=j5 (xs:=t.place) (j:=0) hr
  rcases D0 (below t.place 0) with q | q
  ·exact q
  ·have:=h2 0 (by lia) q
   lia
 | i+1,hi=>by
  have hd:t.place.getD i 0=t.place[i]:=fG (by lia)
  show below t.place (t.place.getD i 0+1)=i+1
  rw[hd]
  obtain⟨h1,h2,h3⟩:=j5 (xs:=t.place) (j:=t.place[i] + 1) hr
  have wG:∀ a b (ha:a<t.place.size) (hb:b<t.place.size),a<b->t.place[a]<t.place[b]:=λ a b ha hb CI=>by
   have r:=Ce.mp hr a b (by simpa using ha) (by simpa using hb) CI
   rw[Cp,Cp] at r
   exact r
  rcases Dr (below t.place (t.place[i] + 1)) (i+1) with q | q | q
  ·have:=h3 i (by lia) (by lia)
   lia
  ·exact q
  ·have a:=h2 (i+1) (by lia) q
   have b:=wG i (i+1) (by lia) (by lia) (by lia)
   lia
structure wR (w:World) (h:Heap) (a:Addr) (es:Array (Int×Value)) (ep:Nat) (t:SetTable):Prop where
 get:h.get? a=some { cls:=.type "set",dict:=none,data:=.set es ep t }
 fits:t.fits es.size=true
 wG:uM t.place.toList
 led:t.led=v7 w
 plain:t.plain=true
theorem wR.size {w:World}{h:Heap}{a:Addr}{es:Array (Int×Value)}{ep:Nat}{t:SetTable}(S:wR w h a es ep t):t.place.size=es.size:=by
 have:=S.fits
 simp only[SetTable.fits,Be,beq_iff_eq] at this
 exact this.1
section
variable {prog:Program}{w:World}{A:Around}{E:Ad}{s:Shared}
def aM {a:Addr}{es:Array (Int×Value)}{ep:Nat}{t:SetTable}{i:Nat}{Q:Option (Value×Nat)->Shared->Prop}(S:wR w s.heap a es ep t) (hi:i<=es.size) (slot:Nat) (hs:w.params.followText "set-order"=false->slot=slotAt t i)
  (h:∀ FK,(w.params.followText "set-order"=false->FK=slotAt t (i+1))->Q ((comes w a es ep)[i]?.map λ e=>(e.2,FK)) s):wpAny (model prog w) A (setNext a slot i ep) Q E s:=by
 unfold setNext setsByText
 refine JC (Ky S.get rfl S.fits ?_)
 dsimp only
 refine JC (JC (KP (Ac ?_)))
 show wpAny _ A (if w.params.followText "set-order"=true then _ else _) Q E s
 cases hb:w.params.followText "set-order" with
 | true=>
  rw[if_pos rfl,if_neg (by simp)]
  unfold setWalk setsByText
  refine JC (JC (Ky S.get rfl S.fits ?_))
  dsimp only
  refine JC (JC (KP (Ac ?_)))
  show wpAny _ A (if w.params.followText "set-order"=true then _ else _) _ E s
  rw[if_pos hb]
  refine JC (KP (Ac ?_))
  refine Ac ?_
  have:=h slot (λ q=>by rw[hb] at q;cases q)
  unfold comes at this
  rw[if_pos hb] at this
  exact this
 | false=>
  rw[if_neg (by simp)]
  split
  ·rename_i hd
   have Hg:(!t.plain&&decide (es.size>1))=true:=hd
   rw[S.plain] at Hg;simp at Hg
  ·show wpAny _ A ((if (!t.led&&!es.isEmpty)=true then unsupported "set:maker-not-led" else pure ()) >>= _) Q E s
   have hl:t.led=true:=by rw[S.led];unfold v7;rw[hb];rfl
   rw[if_neg (by rw[hl];simp)]
   refine JC (Ac (Ac ?_))
   have Bp:=hs hb
   have hz:=S.size
   rw[Bp,Mg S.wG i (by rw[hz];exact hi)]
   have:=h (slotAt t (i+1)) (λ _=>rfl)
   unfold comes at this
   rw[if_neg (by rw[hb];simp)] at this
   rcases Bk i es.size with q | q
   ·have hp:i<t.place.size:=by rw[hz];exact q
    rw[Bf q] at this
    rw[Bf q,Bf hp]
    have e:slotAt t (i+1)=t.place[i] + 1:=by show t.place.getD i 0+1=_;rw[fG hp]
    rw[e] at this
    exact this
   ·rw[CK q] at this
    rw[CK q]
    exact this
def qB {a I:Addr}{slot i n ep:Nat}(ho:s.heap.get? I=some (rP a slot i n ep)):s.TypeIs (.ref I) "set_iterator":=⟨_,ho,rfl⟩
def cD (k:Nat):((k:Int)).toNat=k:=Co k
def Vh {I a:Addr}{es:Array (Int×Value)}{ep:Nat}{t:SetTable}{i slot:Nat}{e:Int×Value}{Q:Option Value->Shared->Prop}(ho:s.heap.get? I=some (rP a slot i es.size ep)) (S:wR w s.heap a es ep t) (hs:w.params.followText "set-order"=false->slot=slotAt t i) (he:(comes w a es ep)[i]?=some e)
  (hi:i<es.size) (h:∀ h' FK,(w.params.followText "set-order"=false->FK=slotAt t (i+1))->h'.get? I=some (rP a FK (i+1) es.size ep)->Heap.SameBut I s.heap h'->Q (some e.2) { s with heap:=h' }):wpAny (model prog w) A (pyNext (.ref I)) Q E s:=by
 unfold pyNext
 refine JC (wpAny_attempt (KD (name:=Str.ofString "__next__") (qB ho) pb (Kw pb (qB ho) ZY ?_ (YN _))))
 refine JC (Ac ?_)
 dsimp only
 refine JC (wpAny_fieldsOf ho rfl ?_)
 dsimp only[rawInt]
 refine JC (JC (Ky S.get rfl S.fits (Ac ?_)))
 rw[if_neg (by simp)]
 refine JC (aM S (by lia) slot hs λ FK G7=>?_)
 rw[cD] at G7 ⊢
 rw[he]
 dsimp only[Option.map_some]
 refine JC (KO ho rfl (by simp) ?_)
 have o1:=KH (Obj.mapFields (·.set! 0 (Value.int (FK:Int) 0))) ho rfl
 refine JC (KO o1 rfl (by simp) ?_)
 have o2:=KH (Obj.mapFields (·.set! 1 (Value.int ((i:Int)+1) 0))) o1 rfl
 refine Ac ⟨_,rfl,Ac (h _ FK G7 o2 ((Heap.SameBut.update ..).trans (Heap.SameBut.update ..)))⟩
def Vi {I a:Addr}{es:Array (Int×Value)}{ep:Nat}{t:SetTable}{slot:Nat}{Q:Option Value->Shared->Prop}(hh:A.handled=none) (ho:s.heap.get? I=some (rP a slot es.size es.size ep)) (S:wR w s.heap a es ep t) (hs:w.params.followText "set-order"=false->slot=slotAt t es.size)
  (h:∀ h',Heap.ExtBut I s.heap h'->Q none { s with heap:=h' }):wpAny (model prog w) A (pyNext (.ref I)) Q E s:=by
 have hn:(comes w a es ep)[es.size]?=none:=by
  have:=(pS w a es ep).length_eq
  simp only[Bl] at this
  rw[CK (by lia)]
 unfold pyNext
 refine JC (wpAny_attempt (KD (name:=Str.ofString "__next__") (qB ho) pb (Kw pb (qB ho) ZY ?_ (YN _))))
 refine JC (Ac ?_)
 dsimp only
 refine JC (wpAny_fieldsOf ho rfl ?_)
 dsimp only[rawInt]
 refine JC (JC (Ky S.get rfl S.fits (Ac ?_)))
 rw[if_neg (by simp)]
 refine JC (aM S (by simp) slot (by simpa using hs) λ FK G7=>?_)
 rw[cD,hn]
 dsimp only[Option.map_none]
 refine JC (KO ho rfl (by simp) ?_)
 refine JC ?_
 simp only[newExc,newTuple]
 refine JC (Kz ?_ (by size_fits))
 refine JC (m:=firstArgMember _ _) (wpAny_of_eq (a:=Value.none) (by first | rfl | (simp only[firstArgMember];rfl)) (Kz ?_ (by size_fits)))
 unfold raiseNew
 refine JC (wpAny_handled ?_)
 rw[show A.in1.handled=none from hh]
 refine JC ((Ac (wpAny_throw ?_)))
 refine JC ((wpAny_isInstance (T:="StopIteration") (b:=true) ⟨_,AF _ rfl,rfl⟩ isSubtype_stop ?_))
 exact Ac (h _ (((Heap.SameBut.update ..).extBut.push _).push _))
def Vg {I a:Addr}{slot i n ep:Nat}{Q:Ad}(ho:s.heap.get? I=some (rP a slot i n ep)) (h:Q (.ref I) s):wpAny (model prog w) A (pyIter (.ref I)) Q E s:=by
 refine wpAny_pyIter_slot (qB ho) cU (Kw cU (qB ho) O_ ?_ (Mj _))
 exact Ac ⟨_,rfl,"set_iterator",_,qB ho,pb.lookup,h⟩
def wR.keep {h h':Heap}{a:Addr}{es:Array (Int×Value)}{ep:Nat}{t:SetTable}(S:wR w h a es ep t) (k:∀ o,h.get? a=some o->h'.get? a=some o):wR w h' a es ep t:=⟨k _ S.get,S.fits,S.wG,S.led,S.plain⟩
def XY (hh:A.handled=none) (I a:Addr) (Am:a≠I) (es:Array (Int×Value)) (ep:Nat) (t:SetTable):
  Walks prog w A I [I,a] [I] es.size (λ i v=>∃ e,(comes w a es ep)[i]?=some e/\v=e.2) (λ i h=>(∃ slot,(w.params.followText "set-order"=false->slot=slotAt t i)/\h.get? I=some (rP a slot i es.size ep))/\wR w h a es ep t) where
 sub:=λ b hb=>by simp at hb;simp[hb]
 frame:=λ _ _ _ st k=>by
  obtain⟨⟨slot,h1,h2⟩,S⟩:=st
  exact⟨⟨slot,h1,k I (by simp) _ h2⟩,S.keep λ o e=>k a (by simp) o e⟩
 item:=λ i s Q E hi st hQ=>by
  obtain⟨⟨slot,h1,h2⟩,S⟩:=st
  have hl:i<(comes w a es ep).size:=by
   have:=(pS w a es ep).length_eq
   simp only[Bl] at this
   lia
  refine Vh h2 S h1 (Bf hl) hi λ h' FK g1 g2 g3=>?_
  exact hQ _ h' s.toks ⟨_,Bf hl,rfl⟩ ⟨⟨FK,g1,g2⟩,S.keep λ o e=>(g3.2 a Am).trans e⟩ λ b o hb e=>(g3.2 b (λ z=>hb (by simp[z]))).trans e
 done:=λ s Q E st hQ=>by
  obtain⟨⟨slot,h1,h2⟩,S⟩:=st
  exact Vi hh h2 S h1 λ h' g=>hQ h' s.toks λ b o hb e=>g b o (λ z=>hb (by simp[z])) e
 self:=λ _ _ _ _ st hQ=>by
  obtain⟨⟨slot,h1,h2⟩,S⟩:=st
  exact Vg h2 hQ
def QY:typeLookup (.type "set") "__len__"=pure (some (.builtin "set.__len__")):=F.slot_set_len.lookup
def split_len:splitId "set.__len__"=some ("set","__len__"):=by decide +kernel
def Q7 {a:Addr}{es:Array (Int×Value)}{ep:Nat}{t:SetTable}{Q:Bool->Shared->Prop}(S:wR w s.heap a es ep t) (h:Q false s):wpAny (model prog w) A (setDrawn a) Q E s:=by
 unfold setDrawn setsByText
 refine JC (Ky S.get rfl S.fits ?_)
 dsimp only
 refine JC (JC (KP (Ac (Ac ?_))))
 show Q (!w.params.followText "set-order"&&(!t.plain&&decide (es.size>1))) s
 rw[S.plain]
 simpa using h
set_option maxHeartbeats 4000000 in
def QA {a:Addr}{es:Array (Int×Value)}{ep:Nat}{t:SetTable}{Q:Bool->Shared->Prop}(S:wR w s.heap a es ep t) (h:Q false s):wpAny (model prog w) A (Builtin.List.listLengthHint (.ref a)) Q E s:=by
 have Ty:s.TypeIs (.ref a) "set":=⟨_,S.get,rfl⟩
 unfold Builtin.List.listLengthHint
 refine JC (wpAny_specialOf Ty QY ?_)
 dsimp only
 rw[split_len]
 dsimp only
 refine JC (wpAny_isInstance (b:=true) Ty sub_set_self ?_)
 rw[if_neg (by decide)]
 rw[if_pos (AB)]
 refine JC (KI Ty ?_)
 exact Ac h
set_option maxHeartbeats 4000000 in
def N5 {a:Addr}{es:Array (Int×Value)}{ep:Nat}{t:SetTable}{Q:List Value->Shared->Prop}(hh:A.handled=none) (S:wR w s.heap a es ep t) (hn:es.size<=sizeLine)
  (h:∀ (h':Heap) (tk:Nat),(∀ b o,b<s.heap.objs.size->s.heap.get? b=some o->h'.get? b=some o)->s.heap.objs.size<=h'.objs.size->Q ((comes w a es ep).toList.map (·.2)) { s with heap:=h',toks:=tk }):wpAny (model prog w) A (collect (.ref a)) Q E s:=by
 have ha:a<s.heap.objs.size:=Ap S.get
 unfold collect
 refine JC (wpAny_runValue (codeAny_builtin F.entry_proto_collect ?_))
 rw[Around.under_plainId F.plain_proto_collect _]
 show wpAny _ A.in1 (newList [] >>= λ l=>again (.builtin "list.__iadd__" ⟨[l,.ref a],[]⟩)) _ _ s
 refine JC (Kz (Ac ⟨plainId_quiet F.plain_list_iadd _,codeAny_builtin F.entry_list_iadd ?_⟩))
 rw[Around.under_plainId F.plain_list_iadd _]
 let L0:Obj:={ cls:=.type "list",data:=.seq ([]:Af).toArray }
 have S1:wR w (s.heap.push L0) a es ep t:=S.keep λ o e=>Kr _ e
 have T1:Shared.TypeIs { s with heap:=s.heap.push L0 } (.ref a) "set":=⟨_,S1.get,rfl⟩
 show wpAny _ A.in1 (Builtin.List.listExtendWith (.ref s.heap.objs.size) (.ref a) (.ref s.heap.objs.size)) _ _ { s with heap:=s.heap.push L0 }
 unfold Builtin.List.listExtendWith
 refine JC (KI T1 ?_)
 have Am:s.heap.objs.size≠a:=BO ha
 have c1:Builtin.List.listSameRef (.ref s.heap.objs.size) (.ref a)=false:=by simp[Builtin.List.listSameRef,Am]
 rw[if_neg (by rw[c1];decide)]
 refine JC (wpAny_pyIter_slot T1 F.slot_set_iter (Kw F.slot_set_iter T1 Na ?_ (F.args_set_iter_1 _)))
 refine JC (JC (Ac (Ac ?_)))
 refine JC (JC (JC (Ky S1.get rfl S1.fits (Ac (Ac ?_)))))
 refine JC (Q7 S1 ?_)
 rw[if_neg (by decide)]
 refine JC (Ac ?_)
 refine JC (wpAny_setEpoch_of S1.get rfl S1.fits ?_)
 refine JC (Kz (Ac ⟨_,rfl,"set_iterator",_,⟨_,AF _ rfl,rfl⟩,pb.lookup,?_⟩))
 let I:=(s.heap.push L0).objs.size
 let h2:=(s.heap.push L0).push (rP a 0 0 es.size ep)
 have S2:wR w h2 a es ep t:=S1.keep λ o e=>Kr _ e
 have hI:h2.get? I=some (rP a 0 0 es.size ep):=AF _ rfl
 have hL:h2.get? s.heap.objs.size=some L0:=Kr _ (AF _ rfl)
 have hsz:(s.heap.push L0).objs.size=s.heap.objs.size+1:=Heap.size_push _ _
 show wpAny _ A.in1 _ _ _ { s with heap:=h2 }
 refine JC (Kt (QA (s:={ s with heap:=h2 }) S2 ?_))
 rw[if_pos (AB)]
 refine JC (wpAny_rule ?_)
 refine JC ?_
 show wpAny _ A.in1 (updateSeq s.heap.objs.size (·.push .none) >>= λ _=>updateSeq s.heap.objs.size (·.pop)) _ _ { s with heap:=h2 }
 refine JC (wpAny_updateSeq hL rfl ?_)
 have Io:=KH (Obj.mapSeq (·.push Value.none)) hL rfl
 refine wpAny_updateSeq Io rfl ?_
 have hL3:=KH (Obj.mapSeq (·.pop)) Io rfl
 let h3:=(h2.update s.heap.objs.size (Obj.mapSeq (·.push Value.none))).update s.heap.objs.size (Obj.mapSeq (·.pop))
 have JI:∀ b o,b≠s.heap.objs.size->h2.get? b=some o->h3.get? b=some o:=λ b o hb e=>(KQ _ _ (Ne.symm hb)).trans ((KQ _ _ (Ne.symm hb)).trans e)
 have haI:a≠I:=by show a≠(s.heap.push L0).objs.size;rw[hsz];exact Aw (Bv ha)
 have hIn:I≠s.heap.objs.size:=by show (s.heap.push L0).objs.size≠_;rw[hsz];exact BO (Cj _)
 refine Ac ⟨plainId_quiet F.plain_extend_loop _,codeAny_extend_loopS ((XY (A:=A.in1) hh I a haI es ep t).toS) hn s.heap.objs.size ?_ _ es.size 0 { s with heap:=h3 } #[] _ rfl (AO _) ⟨⟨0,λ _=>rfl,JI I _ hIn hI⟩,S2.keep λ o e=>JI a o (Ne.symm Am) e⟩ hL3 (ItemsOf.nil _) λ s' acc c' hm hS' AQ=>?_⟩
 ·intro hm
  rcases Aj.mp hm with q | q
  ·exact hIn q.symm
  ·exact Am (AR.mp q)
 ·refine JC (wpAny_load hS' (Ac ?_))
  obtain⟨h',g',d',Iv,HR⟩:=s'
  obtain rfl:g'=s.gens:=hm.gens
  obtain rfl:d'=s.drawn:=hm.drawn
  obtain rfl:HR=s.os:=hm.os
  have hcm:(comes w a es ep).size=es.size:=by
   have:=(pS w a es ep).length_eq
   simpa using this
  have e:acc.toList=(comes w a es ep).toList.map (·.2):=by
   refine List.ext_getElem? λ j=>?_
   rw[AA]
   rcases Bk j es.size with q | q
   ·have De:j<acc.size:=by rw[AQ.1];exact q
    have hj:acc[j]?=some acc[j]:=Bf De
    obtain⟨e,e1,e2⟩:=AQ.2 j _ hj
    rw[BA,BA,hj,e1,e2];rfl
   ·rw[BA,BA,CK (by rw[AQ.1];exact q),CK (by rw[hcm];exact q)];rfl
  rw[e]
  refine h h' Iv (λ b o hb e=>hm.heap b o (λ q=>?_) (JI b o (Aw hb) (Kr _ (Kr _ e)))) ?_
  ·rcases Aj.mp q with q | q
   ·exact Aw hb q
   ·have q':b=(s.heap.push L0).objs.size:=AR.mp q
    rw[hsz] at q'
    exact Aw (Bv hb) q'
  ·exact BE (Ap hS')
end
end ST
namespace ST
open PySem PySem.SetTable PyProof.Rows L4
section
variable {prog:Program}{w:World}{A:Around}{E:Ad}{s:Shared}
def cJ {a:Addr}{es:Array (Int×Value)}{ep:Nat}{t:SetTable}{Q:Ad}{Out:Array Value->Prop}(hh:A.handled=none) (S:wR w s.heap a es ep t) (hz:es.size<=sizeLine)
  (core:∀ s6:Shared,2<=es.size->(∀ b o,s.heap.get? b=some o->s6.heap.get? b=some o)->Core prog w A.in1.in1 E ((comes w a es ep).toList.map (·.2)) Out s6) (short:es.size<2->Out ((comes w a es ep).toList.map (·.2)).toArray)
  (fin:∀ (out:Ar) (h':Heap) (tk l:Nat),Out out->out.size=es.size->s.heap.objs.size<=l->(∀ b o,s.heap.get? b=some o->h'.get? b=some o)->(∃ e,h'.get? l=some (seqObj "list" out e))->Q (.ref l) { s with heap:=h',toks:=tk }):
  wpAny (model prog w) A (call (.builtin "sorted") [.ref a]) Q E s:=by
 have AN:((comes w a es ep).toList.map (·.2)).length=es.size:=by
  have:=(pS w a es ep).length_eq
  rw[Ay,this,Bl]
 refine Calls.call_function_entry kind_sorted plain_sorted entry_sorted (args_sorted1 _) ?_
 unfold Builtin.«sorted»
 refine JC (m:=checkCount "sorted" 1 1 _) (Ac (JC (N5 (A:=A.in1) hh S hz λ h1 tk k1 k2=>JC (wpAny_newList ?_ (by rw[AN];exact hz)))))
 generalize hvs:(comes w a es ep).toList.map (·.2)=vs at *
 have HA:(h1.push (seqObj "list" vs.toArray 0)).get? h1.objs.size=some (seqObj "list" vs.toArray 0):=AF _ rfl
 have k3:∀ b o,s.heap.get? b=some o->h1.get? b=some o:=λ b o q=>k1 b o (Ap q) q
 show wpAny _ _ _ _ _ { s with heap:=h1.push (seqObj "list" vs.toArray 0),toks:=tk }
 refine JC (Kt (Kw slot_list_sort ⟨_,HA,rfl⟩ entry_list_sort (gW HA (by rw[AN];exact hz) (λ h2 s6 k=>core s6 (by rw[<- AN];exact h2) λ b o q=>k b o ?_ (Kr _ (k3 b o q))) (λ h2=>short (by rw[<- AN];exact h2)) λ out g1 g2=>⟨_,rfl,?_⟩) (args_list_sort _)))
 ·exact Aw (A_ (Ap q) k2)
 ·refine Ac ⟨_,rfl,fin out _ tk h1.objs.size g1 (by rw[g2,AN]) k2 (λ b o q=>?_) (sortedHeap_at (n:=0) HA)⟩
  have An:b<h1.objs.size:=Ap (k3 b o q)
  rw[sortedHeap_old (Aw An) (by rw[size_push'];exact Bv An),Heap.get?_push_ne _ _ _ (Aw An)]
  exact k3 b o q
end
end ST
namespace ST
open PySem PySem.SetTable PySem.Spec PyProof.Rows L2
def yJ (w:World) (a:Addr) (us:Af):Heap->Prop:=λ h=>∃ es ep t,wR w h a es ep t/\es.toList.map (·.2)=us
def yJ.se {w:World}{a:Addr}{us:Af}{h1 h2:Heap}(S:yJ w a us h1) (k:∀ o,h1.get? a=some o->h2.get? a=some o):yJ w a us h2:=by
 obtain⟨es,ep,t,S,e⟩:=S
 exact⟨es,ep,t,S.keep k,e⟩
def vJ.at {prog:Program}{w:World}{h:Heap}{a:Addr}{xs:List (List Int×Addr)}(S:vJ prog w h a xs (v7 w)):yJ w a (xs.map λ e=>Value.ref e.2) h:=by
 obtain⟨⟨es,ep,t,ho,X,h1,h2,h3⟩,_⟩:=S
 exact⟨es,ep,t,⟨ho,X.fits,X.tab.wG,h1,h2⟩,by rw[X.es,AJ];rfl⟩
section
variable {X:Cx}
abbrev j7 (K:Ab) (H:Hp) (ys:List V) (rows:List (List Int)):Prop:=Paired (λ v r=>r≠[]/\∃ b,v=V.ref b/\zT K H b (r.map V.int)) ys rows
theorem Zr:∀ {ns:List Int}{us:Af},Vals (ns.map V.int) us->∀ {prog:Program}{w:World},ItemsAre (intKind prog w) ns us
 | [],_,.nil,_,_=>.nil
 | n::ns,_,.cons r t,prog,w=>by
  obtain⟨tk,rfl⟩:=r
  exact .cons (intKind_is _ _ _ _) (Zr t)
structure qN (ys:List V) (rows:List (List Int)) (vs:List V) (rs:List (List Int)):Prop where
 sub:∀ (i:Nat) v r,vs[i]?=some v->rs[i]?=some r->∃ (j:Nat),ys[j]?=some v/\rows[j]?=some r
 len:vs.length=rs.length
 nd:rs.Nodup
 all:∀ r∈rows,r∈rs
def NJ (hc:X.calm=true) (hu:X.A.units+64<cLine):yA X (.type "set") (λ xs H Q=>∃ p ys,∃ rows:List (List Int),xs=[.ref p]/\zM X.K H p ys/\j7 X.K H ys rows/\rows.length<64/\
  ∀ (l:Addr) (us:Af) (vs:List V) (rs:List (List Int)),H l=none->Vals vs us->qN ys rows vs rs->Q (.ref l) (upd H l (.ext (yJ X.w l us)))):=by
 intro EH s B H xs us Q I r h
 obtain⟨p,ys,rows,rfl,hq,hr,Gu,q⟩:=h
 obtain⟨u,rfl,ru⟩:=vals1 r
 cases ru
 obtain⟨its,rv,pl,hz⟩:=I.list hq
 have hl:=rv.length
 have BU:ys.length=rows.length:=Paired.length hr
 have uW:qJ X.prog X.w s.heap its.toArray rows:=λ i v hv=>by
  have Hc:its[i]?=some v:=by simpa using hv
  have hi:i<its.length:=(AL.mp Hc).1
  obtain⟨Am,b,hb,Cw⟩:=L4.Paired.at' hr (i:=i) (by lia) V.zr ([]:List Int)
  have hy:ys[i]?=some (V.ref b):=by
   rw[A2 (by lia)]
   have:ys.getD i V.zr=ys[i]'(by lia):=by simp[show i<ys.length by lia]
   rw[this] at hb;rw[hb]
  obtain⟨v',e1,e2⟩:=rv.get hy
  rw[Hc] at e1;cases e1
  cases (show v=Value.ref b from e2)
  obtain⟨Fw,G5,⟨o,e,AN,n,hd⟩,_⟩:=I.tuple Cw
  refine⟨b,rows.getD i [],rfl,?_,o,Fw.toArray,n,e,AN,hd,by simpa using Zr G5⟩
  simp[show i<rows.length by lia]
 have hh:X.A.handled=none:=I.ok.hd hc
 refine NM (A:=X.A) hh hu pl.isList uW (by rw[Ax];lia) λ h' tk xs S U k=>?_
 have kk:∀ b o,s.heap.get? b=some o->h'.get? b=some o:=λ b o e=>k b o (Ap e) e
 have Bo:H s.heap.objs.size=none:=I.zC.fresh (Ah _)
 have Im:=S.at
 have vals:Vals (xs.map λ e=>V.ref e.2) (xs.map λ e=>Value.ref e.2):=by
  clear S U Im
  induction xs with
  | nil=>exact .nil
  | cons e xs ih=>exact .cons rfl ih
 refine⟨.ref s.heap.objs.size,_,I.laid (t':=tk) (o:=.ext (yJ X.w s.heap.objs.size (xs.map λ e=>Value.ref e.2))) kk (Ah _) ?_,rfl,q _ _ (xs.map λ e=>V.ref e.2) (xs.map (·.1)) Bo vals ⟨λ i v r hv GZ=>?_,by simp,S.nd,λ r GZ=>?_⟩⟩
 ·obtain⟨es,ep,t,St,e⟩:=id Im
  exact⟨Im,⟨_,St.get⟩,λ h1 h2 S1 k=>S1.se k⟩
 ·rw[AA] at hv GZ
  obtain⟨e,e1,rfl⟩:=AE.mp hv
  rw[e1] at GZ
  cases GZ
  obtain⟨j,j1,j2,j3⟩:=U.own e (Bg e1)
  refine⟨j,?_,j3⟩
  have GX:its[j]?=some (Value.ref e.2):=by simpa using j2
  have De:j<ys.length:=by rw[hl];exact (AL.mp GX).1
  obtain⟨v',e2,e3⟩:=rv.get (A2 De)
  rw[GX] at e2;cases e2
  obtain⟨Am,b,hb,_⟩:=L4.Paired.at' hr (i:=j) (by lia) V.zr ([]:List Int)
  have:ys.getD j V.zr=ys[j]:=by simp[De]
  rw[this] at hb
  rw[hb] at e3
  cases (show Value.ref e.2=Value.ref b from e3)
  rw[A2 De,hb]
 ·obtain⟨j,hj⟩:=Dn.mp GZ
  exact U.all j r (by have:=(AL.mp hj).1;rw[Ax];lia) hj
theorem Paired.mk {α β:Type}{F:α->β->Prop}:∀ {l:List α}{m:List β},l.length=m.length->(∀ (i:Nat) a b,l[i]?=some a->m[i]?=some b->F a b)->Paired F l m
 | [],[],_,_=>.nil
 | a::l,b::m,h,f=>.cons (f 0 a b rfl rfl) (Paired.mk (by simpa using h) λ i x y hx hy=>f (i+1) x y (by simpa using hx) (by simpa using hy))
 | [],_::_,h,_=>by simp at h
 | _::_,[],h,_=>by simp at h
def NH (hc:X.calm=true):yA X (.builtin "sorted") (λ xs H Q=>∃ l us vs,∃ rs:List (List Int),xs=[.ref l]/\H l=some (.ext (yJ X.w l us))/\Vals vs us/\j7 X.K H vs rs/\rs.length<64/\
  ∀ (p:Addr) (idx:List Nat),H p=none->idx.Perm (List.range vs.length)->(idx.map λ i=>rs.getD i []).Pairwise (λ a b=>HT.lexLt b a=false)->Q (.ref p) (upd H p (.lst (idx.map λ i=>vs.getD i .zr)))):=by
 intro EH s B H xs us0 Q I r h
 obtain⟨l,us,vs,rs,rfl,hl,hv,hr,Gu,q⟩:=h
 obtain⟨u,rfl,ru⟩:=vals1 r
 cases ru
 obtain⟨⟨es,ep,t,S,eu⟩,-,-⟩:=(show yW X.prog X.w H s.heap l (.ext (yJ X.w l us)) from I.zC l _ hl)
 have hlen:es.size=us.length:=by rw[<- eu];simp
 have hvl:=hv.length
 have hrl:vs.length=rs.length:=Paired.length hr
 have hh:X.A.handled=none:=I.ok.hd hc
 obtain⟨ix,Jq,JN⟩:∃ ix:List Nat,ix.Perm (List.range us.length)/\(comes X.w l es ep).toList.map (·.2)=ix.map λ i=>us.getD i Value.none:=by
  have hp:((comes X.w l es ep).toList.map (·.2)).Perm us:=by rw[<- eu];exact (pS X.w l es ep).map _
  generalize (comes X.w l es ep).toList.map (·.2)=cs at hp
  clear eu hl hv hvl hlen
  induction hp with
  | nil=>exact⟨[],.refl _,rfl⟩
  | @cons x a b _ ih=>
   obtain⟨ix,i1,i2⟩:=ih
   refine⟨0::ix.map (· + 1),?_,?_⟩
   ·rw[AX,CZ]
    exact (i1.map _).cons 0
   ·rw[Au,AJ,i2]
    rfl
  | @swap x y a=>
   refine⟨1::0::(List.range a.length).map (· + 2),?_,?_⟩
   ·rw[AX,AX,CZ,CZ,Au,AJ]
    exact .swap _ _ _
   ·rw[Au,Au,AJ]
    refine congrArg _ (congrArg _ ?_)
    refine BC (by simp) λ i h1 h2=>?_
    simp[h1]
  | @trans a b c _ _ JQ JP=>
   obtain⟨i1,p1,e1⟩:=JQ
   obtain⟨i2,p2,e2⟩:=JP
   have hlb:b.length=c.length:=by rw[e2,Ay,p2.length_eq];simp
   refine⟨i1.map λ i=>i2.getD i 0,?_,?_⟩
   ·refine (p1.map _).trans ?_
    have e:(List.range b.length).map (λ i=>i2.getD i 0)=i2:=by
     have Hk:i2.length=b.length:=by rw[p2.length_eq,hlb];simp
     rw[<- Hk]
     refine BC (by simp) λ i h1 h2=>?_
     simp[h2]
    rw[e];exact p2
   ·rw[e1,AJ]
    refine CL λ i hi=>?_
    have GJ:i<b.length:=by simpa using p1.mem_iff.mp hi
    have Hk:i<i2.length:=by rw[p2.length_eq,<- hlb];simpa using GJ
    show b.getD i _=c.getD (i2.getD i 0) _
    rw[e2]
    simp[Hk]
 have BH:∀ i∈ix,i<us.length:=λ i hi=>by simpa using Jq.mem_iff.mp hi
 have F5:∀ h6:Heap,(∀ b o,s.heap.get? b=some o->h6.get? b=some o)->L4.sZ h6 ((comes X.w l es ep).toList.map (·.2)) (ix.map λ i=>rs.getD i []):=λ h6 k=>by
  rw[JN]
  refine Paired.mk (by simp) λ j a b ha hb=>?_
  rw[AA] at ha hb
  obtain⟨i,hi,rfl⟩:=AE.mp ha
  rw[hi] at hb
  cases hb
  have CT:=BH i (Bg hi)
  obtain⟨Am,b,hbv,Cw⟩:=L4.Paired.at' hr (i:=i) (by lia) V.zr ([]:List Int)
  obtain⟨u',e1,e2⟩:=hv.get (i:=i) (x:=vs.getD i V.zr) (by simp[show i<vs.length by lia])
  rw[hbv] at e2
  cases (show u'=Value.ref b from e2)
  obtain⟨Fw,G5,⟨o,e,AN,n,hd⟩,_⟩:=I.tuple Cw
  have eg:us.getD i Value.none=Value.ref b:=by simp[e1]
  refine⟨Am,b,o,Fw.toArray,n,eg,k _ _ e,AN,hd,by simpa using intsAre_of G5⟩
 have AN:((comes X.w l es ep).toList.map (·.2)).length=us.length:=by rw[JN,Ay,Jq.length_eq];simp
 refine cJ (Out:=L4.mX ((comes X.w l es ep).toList.map (·.2)) (ix.map λ i=>rs.getD i [])) hh S (by rw[hlen];have:sizeLine=16777216:=rfl;lia) (λ s6 h2 k=>L4.fV (F5 _ k) (by rw[AN,<- hlen];exact h2) (by rw[AN];lia)) (λ h1=>?_) λ out h' tk p ho hs hp k EG=>?_
 ·refine⟨List.range ((comes X.w l es ep).toList.map (·.2)).length,.refl _,?_,?_⟩
  ·refine BC (by simp) λ i h1 h2=>?_
   simp at h2
   simp[h2]
  ·rw[BM,Ce]
   intro i j hi hj A4
   rw[AN] at hi hj
   simp at hi hj
   lia
 ·obtain⟨idx,g1,g2,g3⟩:=ho
  obtain⟨e,he⟩:=EG
  rw[AN] at g1
  have Bo:H p=none:=I.zC.fresh hp
  have Dg:∀ i∈idx,i<us.length:=λ i hi=>by simpa using g1.mem_iff.mp hi
  have hxl:ix.length=us.length:=by rw[Jq.length_eq];simp
  let jx:=idx.map λ i=>ix.getD i 0
  have hjp:jx.Perm (List.range vs.length):=by
   rw[hvl]
   refine (g1.map _).trans ?_
   have e:(List.range us.length).map (λ i=>ix.getD i 0)=ix:=by
    rw[<- hxl]
    refine BC (by simp) λ i h1 h2=>?_
    simp[h2]
   rw[e];exact Jq
  have hjr:(jx.map λ i=>rs.getD i [])=idx.map λ i=>(ix.map λ i=>rs.getD i []).getD i []:=by
   rw[AJ]
   refine CL λ i hi=>?_
   have:=Dg i hi
   simp[show i<ix.length by lia]
  refine⟨.ref p,_,I.laid (t':=tk) (o:=.lst (jx.map λ i=>vs.getD i .zr)) k hp ?_,rfl,q p jx Bo hjp (by rw[hjr];exact g3)⟩
  refine⟨by rw[Ay,hjp.length_eq,BR];have:sizeLine=16777216:=rfl;lia,out.toList,e,?_,by simpa using he⟩
  rw[g2,JN]
  refine Paired.mk (by simp[jx]) λ j a b ha hb=>?_
  rw[AA] at ha hb
  obtain⟨i,hi,rfl⟩:=AE.mp hb
  simp only[jx,AA,hi,Option.map_some,Option.some.injEq] at ha
  have CT:=Dg i (Bg hi)
  have hx:ix.getD i 0<us.length:=by
   have:ix.getD i 0∈ix:=by simp[show i<ix.length by lia]
   exact BH _ this
  obtain⟨u',e1,e2⟩:=hv.get (i:=ix.getD i 0) (x:=vs.getD (ix.getD i 0) V.zr) (by
   have G6:ix.getD i 0<vs.length:=by lia
   generalize ix.getD i 0=q at G6
   rw[AZ,A2 G6];rfl)
  subst ha
  have e3:(ix.map λ i=>us.getD i Value.none).getD i Value.none=u':=by
   simp[show i<ix.length by lia] at e1 ⊢
   simp[e1]
  rw[e3];exact e2
end
end ST
namespace L5
open PySem PySem.Spec L2 L3
open PyProof.Rows hiding St
noncomputable def wJ:List (List Int)->List (List Int)
 | []=>[]
 | r::rs=>if r∈wJ rs then wJ rs else r::wJ rs
theorem nL {r:List Int}:∀ {rs:List (List Int)},r∈wJ rs↔r∈rs
 | []=>.rfl
 | x::rs=>by
  unfold wJ
  split
  ·rename_i h
   rw[nL,Aj]
   exact⟨.inr,λ h'=>h'.elim (λ e=>e▸nL.mp h) id⟩
  ·rw[Aj,Aj,nL]
theorem kN:∀ rs:List (List Int),(wJ rs).Nodup
 | []=>.nil
 | x::rs=>by
  unfold wJ
  split
  ·exact kN rs
  ·rename_i h
   exact Bc.mpr ⟨h,kN rs⟩
theorem gJ:∀ rs:List (List Int),(wJ rs).length<=rs.length
 | []=>Ah _
 | x::rs=>by
  unfold wJ
  have:=gJ rs
  split <;> simp only[AX] <;> lia
def uF:xB:=λ ds S Q=>match ds with
 | [.tup _]=>False
 | [d]=>∃ rows:List (List Int),zQ d S=some (rows.map xY)/\rows.length<64/\(∀ r∈rows,r≠[])/\∀ l,S l=none->Q (.ref l) (ups S l (.lst ((L4.xD (wJ rows)).map xY)))
 | _=>False
noncomputable def lT:List T->Option T
 | [.lst ts]=>(vw ts).bind λ rs=>if rs.length<64/\∀ r∈rs,r≠[] then some (.lst ((L4.xD (wJ rs)).map zD)) else none
 | _=>none
def Ot:vO zF lT uF:=λ S Z ys z ds Q hz hv e hq=>by
 unfold lT at e
 split at e
 ·obtain⟨d,rfl,h1⟩:=vR hv
  obtain⟨rs,e1,e2⟩:=Ai.mp e
  split at e2
  ·rename_i hc
   cases e2
   cases h_ e1
   obtain⟨es,h2,h3⟩:=h1.seq rfl
   cases q_.mp h3
   have key:∃ rows:List (List Int),zQ d S=some (rows.map xY)/\rows.length<64/\(∀ r∈rows,r≠[])/\∀ l,S l=none->Q (.ref l) (ups S l (.lst ((L4.xD (wJ rows)).map xY))):=
    ⟨rs,h2,hc.1,hc.2,λ l hl=>hq _ _ (.new hl _) (su hz hl (q_.mpr rfl))⟩
   obtain⟨_,q | ⟨a,q,_⟩,_⟩:=h1.lst
   ·subst q;exact key
   ·subst q;exact key
  ·cases e2
 ·cases e
section
variable {K:Ab}{e:Expr}{p:Pos}
def uF.mo:vN uF:=λ ds S Q Q' hq h=>by
 unfold uF at h ⊢
 split at h
 ·exact h.elim
 ·obtain⟨rows,h1,h2,h3,h4⟩:=h
  exact⟨rows,h1,h2,h3,λ l hl=>hq _ _ (h4 l hl)⟩
 ·exact h.elim
def zl.pick {H:Hp}{ys vs:List V}{rows rs:List (List Int)}(h:zl K H (rows.map xY) ys) (P:ST.qN ys rows vs rs):zl K H (rs.map xY) vs:=by
 have key:∀ (vs:List V) (rs:List (List Int)),vs.length=rs.length->(∀ (i:Nat) v r,vs[i]?=some v->rs[i]?=some r->∃ (j:Nat),ys[j]?=some v/\rows[j]?=some r)->zl K H (rs.map xY) vs:=by
  intro vs
  induction vs with
  | nil=>intro rs hl _;cases rs with
   | nil=>exact .nil
   | cons _ _=>simp at hl
  | cons v vs ih=>intro rs hl hp;cases rs with
   | nil=>simp at hl
   | cons r rs=>
    refine .cons ?_ (ih rs (by simpa using hl) λ i v r hv hr=>hp (i+1) v r (by simpa using hv) (by simpa using hr))
    obtain⟨j,j1,j2⟩:=hp 0 v r rfl rfl
    obtain⟨x,e1,e2⟩:=h.get (i:=j) (d:=xY r) (by rw[AA,j2];rfl)
    rw[j1] at e1;cases e1
    exact e2
 exact key vs rs P.len P.sub
def qN.mem {ys vs:List V}{rows rs:List (List Int)}(P:ST.qN ys rows vs rs) {r:List Int}:r∈rs↔r∈rows:=by
 refine⟨λ h=>?_,P.all r⟩
 obtain⟨i,hi⟩:=Dn.mp h
 have hl:i<vs.length:=by rw[P.len];exact (AL.mp hi).1
 obtain⟨j,_,j2⟩:=P.sub i _ r (A2 hl) hi
 exact Bg j2
def uF.fits {w:World}:uP K uF (λ xs H Q=>∃ p ys,∃ rows:List (List Int),xs=[.ref p]/\zM K H p ys/\ST.j7 K H ys rows/\rows.length<64/\
  ∀ (l:Addr) (us:Af) (vs:List V) (rs:List (List Int)),H l=none->Vals vs us->ST.qN ys rows vs rs->
   ∃ l' Hv Jj,∃ JG:List (List Int),[V.ref l]=[.ref l']/\(upd H l (.ext (ST.yJ w l us))) l'=some (.ext (ST.yJ w l' Hv))/\Vals Jj Hv/\ST.j7 K (upd H l (.ext (ST.yJ w l us))) Jj JG/\JG.length<64/\
    ∀ (p:Addr) (idx:List Nat),(upd H l (.ext (ST.yJ w l us))) p=none->idx.Perm (List.range Jj.length)->(idx.map λ i=>JG.getD i []).Pairwise (λ a b=>HT.lexLt b a=false)->Q (.ref p) (upd (upd H l (.ext (ST.yJ w l us))) p (.lst (idx.map λ i=>Jj.getD i .zr)))):=λ xs ds H S Q h0 h2 h=>by
 unfold uF at h
 split at h
 ·exact h.elim
 ·rename_i d hn
  obtain⟨x,hx,h1⟩:=h0.one;subst hx
  obtain⟨rows,e,Gu,Am,h⟩:=h
  obtain⟨a,ys,rfl,g1,g2⟩:=rC h1 h2 e (λ ts z=>hn ts z)
  refine⟨a,ys,rows,rfl,g1,oT g2 Am,Gu,λ l us vs rs hf hv P=>?_⟩
  have g3:=zl.pick g2 P
  have x1:Ext H (upd H l (.ext (ST.yJ w l us))):=.new hf _
  have C8:rs.Perm (wJ rows):=(DS P.nd (kN rows)).mpr λ r=>by rw[qN.mem P,nL]
  refine⟨l,us,vs,rs,rfl,y7,hv,oT (zl.ext x1 _ g3) λ r hr=>Am r ((qN.mem P).mp hr),by rw[C8.length_eq];have:=gJ rows;lia,λ p idx hp hi hs=>?_⟩
  rw[P.len] at hi
  have heq:=L4.i0 ((aR hi).trans C8) hs
  have Aq:p≠l:=λ z=>by subst z;rw[y7] at hp;cases hp
  have JZ:H p=none:=by rw[yq Aq] at hp;exact hp
  have x2:Ext (upd H l (.ext (ST.yJ w l us))) (upd (upd H l (.ext (ST.yJ w l us))) p (.lst (idx.map λ i=>vs.getD i .zr))):=.new hp _
  have r1:zJ K (upd H l (.ext (ST.yJ w l us))) S:=h2.new hf
  refine h p (h2.none JZ) _ _ (by simp only[zg]) (x1.trans x2) (r1.ups x2 ⟨_,y7,?_⟩)
  rw[<- heq]
  exact zl.ext (x1.trans x2) _ (zl.perm g3 λ i h=>by simpa using hi.mem_iff.mp h)
 ·exact h.elim
end
end L5
namespace ST
open PySem PySem.SetTable PyProof.Rows
theorem ZK {t:SetTable}{hs:List Int}(T:Tab t hs) (h:Int):∀ (f k K:Nat),k<=K->K<k+f->(way t.mask h K).j∉t.place.toList->(∀ m<K,(way t.mask h m).j∈t.place.toList)->probe.go t (λ _=>h+1) h f (way t.mask h k)=some (.empty (way t.mask h K).j none)
 | 0,k,K,h1,h2,_,_=>by lia
 | f+1,k,K,h1,h2,h3,h4=>by
  by_cases e:k=K
  ·subst e
   unfold probe.go
   rw[T.empty h3,j_]
  ·obtain⟨i,g,p1,_⟩:=T.at (h4 k (by lia))
   have ih:=ZK T h f (k+1) K (by lia) (by lia) h3 h4
   conv=>lhs;unfold probe.go
   rw[T.live p1]
   dsimp only
   rw[if_neg (by intro q;have:=eq_of_beq q;lia),eK]
   exact ih
def OD {t:SetTable}{hs:List Int}(T:Tab t hs) (hl:hs.length<=t.mask) (h:Int):∃ j,t.freeSlot h=some (j,false)/\eT t h j:=by
 obtain⟨K,k1,k2,k3⟩:=T.first hl h
 refine⟨(way t.mask h K).j,?_,⟨k2,K,rfl,k3⟩⟩
 have g:=ZK T h (10*turns t.mask) 0 K (AO _) (by unfold turns;lia) k2 k3
 unfold SetTable.freeSlot
 have e:t.probe (λ _=>h+1) h (t.probeStart h)=some (.empty (way t.mask h K).j none):=g
 rw[e]
 rfl
structure vK (prog:Program) (w:World) (h:Heap) (a:Addr) (xs:List (Int×Tok)) (led:Bool):Prop where
 ex:∃ es ep t,h.get? a=some { cls:=.type "set",dict:=none,data:=.set es ep t }/\es.toList=xs.map (λ e=>((intKind prog w).hash e.1,Value.int e.1 e.2))/\Tab t (xs.map λ e=>(intKind prog w).hash e.1)/\t.led=led/\t.plain=true/\xs.length*5<t.mask*3
 nd:(xs.map (·.1)).Nodup
section
variable {prog:Program}{w:World}{A:Around}{E:Ad}{s:Shared}
def fits_of {es:Array (Int×Value)}{t:SetTable}{hs:List Int}{n:Nat}(h1:es.size=n) (T:Tab t hs) (h2:hs.length=n) (h3:n<=t.mask):t.fits es.size=true:=by
 have l:=T.len
 unfold SetTable.fits SetTable.fill
 rw[T.rW,h1,l,h2]
 simp
 lia
def nU {n m:Int}{t:Tok}:(intKind prog w).is n (.int m t)=true↔n=m:=by
 constructor
 ·intro h
  obtain⟨t',e⟩:=Value.isInt_shape (show Value.isInt n (.int m t)=true from h)
  cases e;rfl
 ·rintro rfl;exact intKind_is _ _ _ _
def Nb {es:Array (Int×Value)}{xs:List (Int×Tok)}(h:es.toList=xs.map (λ e=>((intKind prog w).hash e.1,Value.int e.1 e.2))):ElemsOf (intKind prog w) es.toList:=λ e he=>by
 rw[h] at he
 obtain⟨x,_,rfl⟩:=Al.mp he
 exact⟨⟨x.1,nU.mpr rfl,rfl⟩,rfl⟩
def VS {es:Array (Int×Value)}{t:SetTable}{xs:List (Int×Tok)}{M wanted:Nat}(he:es.toList=xs.map (λ e=>((intKind prog w).hash e.1,Value.int e.1 e.2))) (hM:vp M) (hw:sizeAbove wanted=M+1) (AM:xs.length*5<M*3):
  ∃ F8 t',∃ Fi:List (Int×Tok),relayAll t es wanted=(F8,t',false)/\F8.toList=Fi.map (λ e=>((intKind prog w).hash e.1,Value.int e.1 e.2))/\Fi.Perm xs/\Tab t' (Fi.map λ e=>(intKind prog w).hash e.1)/\t'.mask=M/\t'.led=t.led/\t'.plain=t.plain/\F8.size=es.size:=by
 have hlen:es.size=xs.length:=by have:=congrArg List.length he;simpa using this
 have Ey:(es.map (·.1)).toList=xs.map λ e=>(intKind prog w).hash e.1:=by rw[Array.toList_map,he,AJ];rfl
 have hsz:(es.map (·.1)).size=xs.length:=by rw[C1,hlen]
 obtain⟨t',order,h1,h2,h3,h4,h5,h6,h7⟩:=Zi hM t.finger (t.movedTo M) t.led t.plain (es.map (·.1)) (by rw[hsz];lia)
 rw[hsz] at h6
 have An:∀ k∈order.toList,k<xs.length:=λ k hk=>by simpa using h6.mem_iff.mp hk
 have hr:t.relaid (es.map (·.1)) wanted=some (t',order):=by
  unfold SetTable.relaid
  rw[hw,Nat.add_sub_cancel];exact h1
 have BI:(order.filterMap (es[·]?)).toList=(order.toList.filterMap λ k=>xs[k]?).map λ e=>((intKind prog w).hash e.1,Value.int e.1 e.2):=by
  rw[Array.toList_filterMap,List.map_filterMap]
  congr 1
  funext k
  rw[<- BA,he,AA]
 have E8:(order.toList.filterMap λ k=>xs[k]?).Perm xs:=(h6.filterMap _).trans (by rw[List.filterMap_getElem?_range_length])
 have BG:(order.filterMap (es[·]?)).size=es.size:=by
  rw[<- Bl,BI,Ay,E8.length_eq,hlen]
 have hT:Tab t' ((order.toList.filterMap λ k=>xs[k]?).map λ e=>(intKind prog w).hash e.1):=by
  rw[<- gs xs (λ e=>(intKind prog w).hash e.1) 0 order.toList An,<- Ey]
  exact h7
 refine⟨_,t',_,?_,BI,E8,hT,h2,h4,h5,BG⟩
 have zN:coversAll order es.size=true:=by
  unfold coversAll
  rw[List.isPerm_iff,hlen]
  exact h6
 have fit:t'.fits (order.filterMap (es[·]?)).size=true:=fits_of (n:=xs.length) (by rw[BG,hlen]) hT (by rw[Ay,E8.length_eq]) (by rw[h2];lia)
 unfold relayAll
 rw[hr]
 dsimp only
 rw[zN,fit]
 rfl
def add_int {a:Addr}{xs:List (Int×Tok)}{n:Int}{tk:Tok}{led:Bool}{Q:Bool->Shared->Prop}(S:vK prog w s.heap a xs led) (hn:xs.length<70)
  (h:∀ h' Fi r,Heap.SameBut a s.heap h'->vK prog w h' a Fi led->(n∈xs.map (·.1)/\Fi=xs\/n∉xs.map (·.1)/\Fi.Perm (xs++[(n,tk)]))->Q r { s with heap:=h' }):
  wpAny (model prog w) A (setAddHashed a (.int n tk) ((intKind prog w).hash n)) Q E s:=by
 have S0:=S
 obtain⟨⟨es,ep,t,ho,he,T,Br,Aq,AM⟩,CS⟩:=S
 have hlen:es.size=xs.length:=by have:=congrArg List.length he;simpa using this
 have hm7:7<=t.mask/\t.mask<=127:=by rcases T.mask with e | e | e <;> lia
 have fit:t.fits es.size=true:=fits_of (n:=xs.length) hlen T (by simp) (by lia)
 have hel:=Nb (prog:=prog) (w:=w) he
 unfold setAddHashed setAddHashedIn
 refine Kt (JC (Ky ho rfl fit ?_))
 dsimp only
 have bs:byScan (.int n tk) es=true:=by
  have h1:decide (es.size<scanBound)=true:=KA (by unfold scanBound;lia)
  have h2:es.all (·.2.scannable)=true:=by
   rw[Array.all_eq_true_iff_forall_mem]
   intro e hm
   exact (hel e (by simpa using hm)).2
  unfold byScan
  rw[h1,h2]
  rfl
 rw[if_pos bs]
 refine JC ?_
 unfold setAddByScan
 refine JC (wpAny_rule (JC (wpAny_setScan_of (k:=n) (nU.mpr rfl) ho rfl fit hel ?_)))
 have HE:(es.toList.findIdx? (λ e=>(intKind prog w).is n e.2)).isSome=true↔n∈xs.map (·.1):=by
  rw[he,List.findIdx?_isSome,A6]
  constructor
  ·rintro⟨e,hm,q⟩
   obtain⟨x,hx,rfl⟩:=Al.mp hm
   exact Al.mpr ⟨x,hx,(nU.mp q).symm⟩
  ·intro hm
   obtain⟨x,hx,rfl⟩:=Al.mp hm
   exact⟨_,Al.mpr ⟨x,hx,rfl⟩,nU.mpr rfl⟩
 cases hc:es.toList.findIdx? (λ e=>(intKind prog w).is n e.2) with
 | some j=>
  dsimp only
  have hm:=HE.mp (by rw[hc];rfl)
  refine Ac ?_
  dsimp only
  exact Ac (h s.heap xs false ⟨rfl,λ _ _=>rfl⟩ S0 (.inl ⟨hm,rfl⟩))
 | none=>
  dsimp only
  have hm:n∉xs.map (·.1):=λ q=>by have:=HE.mpr q;rw[hc] at this;cases this
  obtain⟨j,fs,F⟩:=OD T (by rw[Ay];lia) ((intKind prog w).hash n)
  obtain⟨p1,p2,p3⟩:=T.put F
  rw[Ay] at p1
  have Cz:(t.put j).1.plain=true:=by rw[p2];exact Aq
  have Cb:(t.put j).1.mask=t.mask:=by rw[p2]
  have An:(t.put j).1.led=led:=by rw[p2];exact Br
  generalize hT:(t.put j)=P at *
  obtain⟨t1,p⟩:=P
  dsimp only at *
  let F9:=xs.take p++(n,tk)::xs.drop p
  have E8:F9.Perm (xs++[(n,tk)]):=by
   have e:xs.take p++xs.drop p=xs:=DT p xs
   have:F9.Perm ((n,tk)::(xs.take p++xs.drop p)):=List.perm_middle
   rw[e] at this
   exact this.trans (List.perm_append_singleton _ _).symm
  have GG:F9.length=xs.length+1:=by rw[E8.length_eq];simp
  have G4:(insertAt es p ((intKind prog w).hash n,Value.int n tk)).toList=F9.map λ e=>((intKind prog w).hash e.1,Value.int e.1 e.2):=by
   rw[toList_insertAt,he]
   simp[F9,Dm,CJ]
  have Hd:(insertAt es p ((intKind prog w).hash n,Value.int n tk)).size=xs.length+1:=by rw[<- Bl,G4,Ay,GG]
  have T1:Tab t1 (F9.map λ e=>(intKind prog w).hash e.1):=by
   have:F9.map (λ e=>(intKind prog w).hash e.1)=(xs.map λ e=>(intKind prog w).hash e.1).take p++(intKind prog w).hash n::(xs.map λ e=>(intKind prog w).hash e.1).drop p:=by simp[F9,Dm,CJ]
   rw[this];exact p3
  have Kk:t1.fits (insertAt es p ((intKind prog w).hash n,Value.int n tk)).size=true:=fits_of (n:=xs.length+1) Hd T1 (by rw[Ay,GG]) (by rw[Cb];lia)
  have Dd:layNew t es ((intKind prog w).hash n) (.int n tk)=(insertAt es p ((intKind prog w).hash n,Value.int n tk),t1,false,false):=by
   unfold layNew
   rw[fs]
   dsimp only
   rw[hT]
   dsimp only
   unfold SetTable.orStandIn
   rw[Kk]
   rfl
  have Bp:(insertAt es p ((intKind prog w).hash n,Value.int n tk)).size<=sizeLine:=by
   rw[Hd]
   have:sizeLine=16777216:=rfl
   lia
  have Hf:(F9.map (·.1)).Nodup:=by
   refine (E8.map _).nodup_iff.mpr ?_
   rw[Bz,List.nodup_append]
   refine⟨CS,by simp,λ x hx y hy=>?_⟩
   simp at hy
   subst hy
   exact λ e=>hm (e▸hx)
  have Ik:=k6 (F8:=insertAt es p ((intKind prog w).hash n,Value.int n tk)) (t':=t1) ho
  have sb:=Heap.SameBut.update s.heap a (Obj.putSet (insertAt es p ((intKind prog w).hash n,Value.int n tk)) t1)
  have Gs:t1.fill=xs.length+1:=by
   have l:=T1.len
   rw[Ay,GG] at l
   unfold SetTable.fill
   rw[T1.rW,l]
   simp
  rw[Dd]
  dsimp only
  refine JC (m:=pure ()) (Ac ?_)
  rw[Cz]
  simp only[if_true]
  refine JC (m:=pure true) (Ac ?_)
  simp only[if_true]
  refine JC (wpAny_storeSet_of ho rfl ?_ Bp)
  by_cases hf:t1.tooFull=true
  ·rw[hf]
   simp only[CO,Dt,if_true]
   have Gg:t.mask*3<=(xs.length+1)*5:=by
    have:=hf
    unfold SetTable.tooFull at this
    rw[Gs,Cb] at this
    simpa using this
   obtain⟨M',g1,g2,g3⟩:=cV xs.length t.mask T.mask AM Gg hn
   obtain⟨es2,t2,Hu,r1,r2,r3,r4,r5,r6,r7,r8⟩:=VS (prog:=prog) (w:=w) (t:=t1) G4 g1 (wanted:=grown (insertAt es p ((intKind prog w).hash n,Value.int n tk)).size) (by rw[Hd];exact g2) (by rw[GG];exact g3)
   rw[r1]
   dsimp only
   refine JC (m:=pure ()) (Ac (JC (wpAny_storeSet_of Ik rfl ?_ (by rw[r8];exact Bp))))
   refine Ac ?_
   dsimp only
   refine Ac (h _ Hu true (sb.trans (Heap.SameBut.update _ a _)) ⟨⟨es2,ep+1+1,t2,k6 Ik,r2,r4,by rw[r6];exact An,by rw[r7];exact Cz,by rw[r3.length_eq,GG,r5];exact g3⟩,(r3.map _).nodup_iff.mpr Hf⟩ (.inr ⟨hm,r3.trans E8⟩))
  ·have G3:t1.tooFull=false:=by simpa using hf
   rw[G3]
   simp only[CO,CM,A9,if_false]
   have Gg:(xs.length+1)*5<t.mask*3:=by
    have:=G3
    unfold SetTable.tooFull at this
    rw[Gs,Cb] at this
    simpa using this
   refine Ac ?_
   dsimp only
   exact Ac (h _ F9 true sb ⟨⟨_,ep+1,t1,Ik,G4,T1,An,Cz,by rw[GG,Cb];exact Gg⟩,Hf⟩ (.inr ⟨hm,E8⟩))
end
structure sW (its:Ar) (ns:List Int) (i:Nat) (xs:List (Int×Tok)):Prop where
 own:∀ e∈xs,∃ j,j<i/\ns[j]?=some e.1
 all:∀ (j:Nat) r,j<i->ns[j]?=some r->r∈xs.map (·.1)
theorem gK:∀ (l m:List Int),l.Nodup->(∀ x∈l,x∈m)->l.length<=m.length
 | [],m,_,_=>AO _
 | x::l,m,hn,hs=>by
  have h1:=Bc.mp hn
  have hx:=hs x Ao
  have:=gK l (m.erase x) h1.2 λ z hz=>(DZ (λ e:z=x=>h1.1 (by rw[<- e];exact hz))).mpr (hs z (Av _ hz))
  rw[DY hx] at this
  have:=DX hx
  simp only[AX];lia
def sW.len {its:Ar}{ns:List Int}{i:Nat}{xs:List (Int×Tok)}(U:sW its ns i xs) (nd:(xs.map (·.1)).Nodup):xs.length<=i:=by
 have:=gK (xs.map (·.1)) ((List.range i).map λ j=>ns.getD j 0) nd λ x hx=>by
  obtain⟨e,he,rfl⟩:=Al.mp hx
  obtain⟨j,h1,h3⟩:=U.own e he
  exact Al.mpr ⟨j,Az.mpr h1,by rw[AZ,h3];rfl⟩
 simpa using this
def sW.step {its:Ar}{ns:List Int}{i:Nat}{xs Fi:List (Int×Tok)}{n:Int}{t:Tok}(U:sW its ns i xs) (hr:ns[i]?=some n)
  (h:n∈xs.map (·.1)/\Fi=xs\/n∉xs.map (·.1)/\Fi.Perm (xs++[(n,t)])):sW its ns (i+1) Fi:=by
 have eqi:∀ j:Nat,j<i+1->¬ j<i->j=i:=λ j a b=>by lia
 rcases h with ⟨hm,rfl⟩ | ⟨_,hp⟩
 ·refine⟨λ e he=>?_,λ j r hj Bh=>?_⟩
  ·obtain⟨j,h1,h2⟩:=U.own e he
   exact⟨j,Bv h1,h2⟩
  ·by_cases q:j<i
   ·exact U.all j r q Bh
   ·rw[eqi j hj q,hr] at Bh;cases Bh;exact hm
 ·refine⟨λ e he=>?_,λ j r hj Bh=>?_⟩
  ·rcases AY.mp (hp.mem_iff.mp he) with q | q
   ·obtain⟨j,h1,h2⟩:=U.own e q
    exact⟨j,Bv h1,h2⟩
   ·cases AR.mp q
    exact⟨i,Cj i,hr⟩
  ·rw[(hp.map (·.1)).mem_iff,Bz]
   by_cases q:j<i
   ·exact Cr _ (U.all j r q Bh)
   ·rw[eqi j hj q,hr] at Bh;cases Bh
    exact AU _ Ao
def Nums (its:Ar) (ns:List Int):Prop:=∀ (i:Nat) v,its[i]?=some v->∃ n t,v=.int n t/\ns[i]?=some n
section
variable {prog:Program}{w:World}{A:Around}{R:Result->Shared->Prop}{I:Addr}{fp wr:List Addr}{G:Array GenState->Array GenState->Prop}{n:Nat}{P:Nat->Value->Prop}{St:Nat->Shared->Prop}
def vK.keep {h h':Heap}{a:Addr}{xs:List (Int×Tok)}{led:Bool}(S:vK prog w h a xs led) (k:∀ o,h.get? a=some o->h'.get? a=some o):vK prog w h' a xs led:=
 let ⟨⟨es,ep,t,ho,r⟩,nd⟩:=S;⟨⟨es,ep,t,k _ ho,r⟩,nd⟩
def QW (W:WalksS prog w A.in1 I fp wr G n (λ i v=>P i v) St) (Sa:Addr) (I_:Sa∉fp) {its:Ar}{ns:List Int}(hP:∀ i v,P i v->its[i]?=some v) (hn:n<70) (led:Bool) (hN:Nums its ns):
  ∀ (k i:Nat) (s:Shared) (xs:List (Int×Tok)),n-i=k->i<=n->St i s->vK prog w s.heap Sa xs led->sW its ns i xs->
   (∀ s' Fi,Moved (Sa::wr) G s s'->vK prog w s'.heap Sa Fi led->sW its ns n Fi->R (.ok (.ret .none)) s')->
   codeAny (model prog w) A (.builtin "set.update.loop" ⟨[.ref Sa,.ref I],[]⟩) R s:=by
 have IZ:Sa∉wr:=λ z=>I_ (W.sub _ z)
 have more:∀ b∈wr,b∈Sa::wr:=λ b hb=>Av _ hb
 intro k
 induction k with
 | zero=>
  intro i s xs hk hi AV hS hU hR
  have e:i=n:=by lia
  subst e
  refine codeAny_builtin F.entry_set_update_loop ?_
  rw[Around.under_plainId F.plain_set_update_loop _]
  show wpAny _ A.in1 (pyNext (.ref I) >>= _) _ _ s
  exact JC (W.done s _ _ AV λ s' hm=>Ac (hR s' xs (hm.mono more) (hS.keep λ o e=>hm.heap _ o IZ e) hU))
 | succ k ih=>
  intro i s xs hk hi AV hS hU hR
  have An:i<n:=by lia
  refine codeAny_builtin F.entry_set_update_loop ?_
  rw[Around.under_plainId F.plain_set_update_loop _]
  show wpAny _ A.in1 (pyNext (.ref I) >>= _) _ _ s
  refine JC (W.item i s _ _ An AV λ v s1 J_ HV hm=>?_)
  obtain⟨m,t,rfl,hr⟩:=hN i v (hP i v J_)
  have S1:vK prog w s1.heap Sa xs led:=hS.keep λ o e=>hm.heap _ o IZ e
  have hl:xs.length<70:=by have:=hU.len hS.nd;lia
  show wpAny _ A.in1 (holding [Value.int m t] (setAdd Sa (.int m t)) >>= _) _ _ s1
  refine JC (Kt ?_)
  unfold setAdd
  refine Kt (JC ((intKind prog w).pyHash (A:=A.in1) (k:=m) (nU.mpr rfl) ?_))
  refine add_int (s:={ s1 with toks:=s1.toks+1 }) (A:=A.in1) S1 hl λ h' Fi rr sb S' hx=>?_
  have fr:=W.frame (i+1) s1 h' (s1.toks+1) HV (Cd _ _) λ c hc o e=>(sb.2 c (λ z:c=Sa=>I_ (z▸hc))).trans e
  refine Ac ⟨plainId_quiet F.plain_set_update_loop _,ih (i+1) _ Fi (by lia) An fr S' (hU.step hr hx) λ s2 Hu Hs S2 U2=>?_⟩
  refine hR s2 Hu (Moved.trans W.gtrans ((hm.mono more).then_heap (Cd _ _) λ c o hc e=>?_) Hs) S2 U2
  exact (sb.2 c (λ z=>hc (z▸Ao))).trans e
end
section
variable {prog:Program}{w:World}{A:Around}{E:Ad}{s:Shared}
def Vk {h:Heap}{a:Addr}(ho:h.get? a=some (yS w)):vK prog w h a [] (v7 w):=
 ⟨⟨#[],0,_,ho,rfl,⟨.inl rfl,rfl,rfl,.nil,λ j hj=>(by cases hj),λ i g j hg=>(by cases hg)⟩,rfl,rfl,by show 0*5<7*3;lia⟩,.nil⟩
set_option maxHeartbeats 6400000 in
def NL {l:Addr}{its:Ar}{ns:List Int}{Q:Ad}(hh:A.handled=none) (hl:s.heap.IsList l its) (hT:Nums its ns) (hn:its.size<70)
  (h:∀ (h':Heap) (tk:Nat) xs,vK prog w h' s.heap.objs.size xs (v7 w)->sW its ns its.size xs->(∀ b o,b<s.heap.objs.size->s.heap.get? b=some o->h'.get? b=some o)->Q (.ref s.heap.objs.size) { s with heap:=h',toks:=tk }):
  wpAny (model prog w) A (call (.type "set") [.ref l]) Q E s:=by
 obtain⟨c,tl,Eo⟩:=F.called_set.mro
 have made:=F.called_set.made
 have JD:=F.called_set.sub
 refine wpAny_call (codeAny_of_tree ?_)
 show wpAny _ _ (callAny (.type "set") _) _ _ _
 refine Ac ⟨Code.quiet_builtin _ (AB),codeAny_builtin F.entry_type_call ?_⟩
 rw[Around.under_plain (weight_type_call_type "set" [.ref l] []) rfl]
 have nt:=F.called_set.notType
 have cc:=F.called_set.canCreate
 have tc:=F.typeCall_set_1 (.ref l)
 repeat (any_goals (first | assumption | wp_step))
 refine codeAny_mono (Yz (.ref l) (E:=E) (Q:=λ obj s₁=>obj=.ref s.heap.objs.size/\s₁={ s with heap:=s.heap.push (yS w) }) ⟨rfl,rfl⟩) λ r s₁ hr=>?_
 cases r with
 | error e=>exact hr
 | ok fl=>
  cases fl with
  | ret obj=>
   obtain⟨rfl,rfl⟩:=hr
   have hS:(s.heap.push (yS w)).get? s.heap.objs.size=some (yS w):=AF _ rfl
   have J8:Shared.TypeIs { s with heap:=s.heap.push (yS w) } (.ref s.heap.objs.size) "set":=⟨_,hS,rfl⟩
   have li:=F.called_set.init.lookup
   have bi:=F.called_set.init.bind (.ref s.heap.objs.size)
   repeat (any_goals (first | assumption | wp_step))
   let s1:Shared:={ s with heap:=s.heap.push (yS w) }
   refine codeAny_mono (codeAny_call_builtin (R:=wants (λ r s₂=>r=.none/\∃ h' tk xs,s₂={ s with heap:=h',toks:=tk }/\vK prog w h' s.heap.objs.size xs (v7 w)/\sW its ns its.size xs/\
     ∀ b o,b<s.heap.objs.size->s.heap.get? b=some o->h'.get? b=some o) E) F.called_set.init.plain F.entry_set_init (check_set_init_1 J8 ?_)) λ r₂ s₂ HW=>?_
   ·obtain⟨⟨JJ,Hb,IA,GL⟩,C9,AN,nl,Cm⟩:=id hl
    simp only at AN Cm
    subst AN Cm
    have HY:(s.heap.push (yS w)).get? l=some { cls:=.type "list",dict:=Hb,data:=.seq its nl,slots:=GL }:=Kr _ C9
    have sls:=F.sub_list_set
    have slf:=F.sub_list_frozenset
    have nd:(Value.type "list" == Value.type "dict")=false:=by decide
    have GG:(s.heap.push (yS w)).IsList l its:=⟨_,HY,rfl,nl,rfl⟩
    unfold Builtin.«set.__init__» noKeywords Builtin.Frozenset.updateFrom
    generalize Ka:pyIter=PI
    unfold yS at *
    wp_walk
    subst Ka
    refine KN GG (JC (wpAny_runValue ?_))
    have IV:l<s.heap.objs.size:=Ap C9
    have hsz:(s.heap.push (yS w)).objs.size=s.heap.objs.size+1:=Heap.size_push _ _
    have H_:l≠(s.heap.push (yS w)).objs.size:=by rw[hsz];exact Aw (Bv IV)
    have HM:s.heap.objs.size≠(s.heap.push (yS w)).objs.size:=by rw[hsz];exact Aw (Cj _)
    have low:∀ b:Addr,b<s.heap.objs.size->b≠(s.heap.push (yS w)).objs.size:=λ b hb=>by rw[hsz];exact Aw (Bv hb)
    refine QW (A:=A.in1.in1) (P:=λ i v=>its[i]?=some v) ((Walks.list (A:=A.in1.in1.in1) (by simp[hh]) _ l H_ its).toS) s.heap.objs.size ?_ (its:=its) (ns:=ns) (λ _ _ q=>q) hn (v7 w) hT its.size 0 _ [] (by lia) (AO _)
     ⟨⟨_,AF _ rfl,rfl,rfl⟩,GG.push _⟩ (Vk (w:=w) (Kr _ hS)) ⟨λ e he=>(by cases he),λ j r hj=>(by lia)⟩ ?_
    ·intro hm
     rcases Aj.mp hm with q | q
     ·exact HM q
     ·exact BO IV (AR.mp q)
    ·intro s' Fi hm S' U'
     obtain⟨h',g',d',Iv,HR⟩:=s'
     obtain rfl:g'=s.gens:=hm.gens
     obtain rfl:d'=s.drawn:=hm.drawn
     obtain rfl:HR=s.os:=hm.os
     refine Ac (Ac ⟨rfl,h',Iv,Fi,rfl,S',U',λ b o hb e=>?_⟩)
     refine hm.heap b o (λ q=>?_) (Kr _ (Kr _ e))
     rcases Aj.mp q with q | q
     ·exact Aw hb q
     ·exact low b hb (AR.mp q)
   ·cases r₂ with
    | error e=>exact HW
    | ok Kj=>
     cases Kj with
     | ret r=>
      obtain⟨rfl,h',tk,xs,rfl,g1,g2,g3⟩:=HW
      repeat (any_goals (first | assumption | wp_step))
      exact h h' tk xs g1 g2 g3
     | _=>exact HW.elim
  | _=>exact hr.elim
end
end ST
namespace L4
open PySem PyProof.Rows
def N3 {prog:Program}{w:World}{A:Around}{E:Ad}{s:Shared}{vs:Af}{ns:List Int}(hI:IntsAre vs ns) (h2:2<=vs.length) (Gu:vs.length<64):
  Core prog w A E vs (λ out=>∃ Gp,IntsAre out.toList Gp/\Gp.Perm ns/\Gp.Pairwise (·<=·)) s:=by
 obtain⟨v1,v2,EU,rfl⟩:∃ v1 v2 EU,vs=v1::v2::EU:=by
  match vs,h2 with
  | v1::v2::EU,_=>exact⟨v1,v2,EU,rfl⟩
 unfold Core
 rw[keyKind_ints hI]
 refine Ac ⟨rfl,?_⟩
 refine Kx (wpS_sortRuns (a₀:=pairsOf (v1::v2::EU)) (st:=SortSt.mk' oneType' ((v1::v2::EU).toArray.zip (v1::v2::EU).toArray) #[] 7 none)
   (Q:=λ _ GC=>(arrOf GC).Perm (pairsOf (v1::v2::EU))/\failedOf GC=none/\SortedTo (arrOf GC) (pairsOf (v1::v2::EU)).size)
   hI.intKeys ⟨Array.Perm.refl _,rfl,rfl,rfl⟩ (by rw[pairsOf_size];simp) (by rw[pairsOf_size];exact Gu) λ GC a1 a2 a3=>⟨a1,a2,a3⟩) ?_ λ _ _ e=>e
 rintro⟨⟨⟩,GC⟩ s' ⟨rfl,hp,hf,hs⟩
 exact⟨rfl,hf,sorted_out hI hp hs,by rw[hp.size_eq,pairsOf_size]⟩
end L4
namespace L5
open PySem PySem.Spec L2 L3
open PyProof.Rows hiding St
structure Bq (mg:AG):Prop where
 set:mg "set"=none
 zip:mg "zip"=none
 enumerate:mg "enumerate"=none
section
variable {X:Cx}{K:Ab}{a b c e:Expr}{ta tb tc:zu}{pos:Pos}{fa fb fc:Ev->Option T}
def sT (f g:yD) (ta tb tc:zu):zu:=fun Y S Q=>ta Y S λ x S1=>tb Y S1 λ y S2=>f x y S2 λ z S3=>match z with
 | .bl k=>if k=true then tc Y S3 λ w S4=>g y w S4 Q else Q (.bl false) S3
 | _=>False
def sT.mo {f g:yD}(hf:xr f) (hg:xr g) (ha:yk ta) (hb:yk tb) (hc:yk tc):yk (sT f g ta tb tc):=fun Y S Q Q' hq h=>
 ha Y S _ _ (λ x S1 h=>hb Y S1 _ _ (λ y S2 h=>hf x y S2 _ _ (λ z S3 h=>by
  cases z <;> first
   | exact w_ (hc Y S3 _ _ λ w S4 h=>hg y w S4 _ _ hq h) (hq _ _) h
   | exact h) h) h) h
def cA {f g:yD}{r r':R2}(hr:xn K f r) (GZ:xn K g r') (hf:xr f) (hg:xr g) (ha:yk ta) (hb:yk tb) (hc:yk tc) {B:St}{H:Hp}{Q:VK}(h:zO K (sT f g ta tb tc) B H Q):iu r r' (zO K ta) (zO K tb) (zO K tc) B H Q:=by
 obtain⟨Y,S,r1,r2,h⟩:=h
 refine zO.go ha r1 r2 h λ x S1 v H1 h1 q1 e1 p1=>?_
 refine zO.go hb (r1.ext e1) p1 h1 λ y S2 w H2 h2 q2 e2 p2=>?_
 refine hr v w x y H2 S2 _ (zg.ext e2 x q1) q2 p2 (hf x y S2 _ _ (λ d S3 z v3 H3 q3 e3 p3=>?_) h2)
 cases d with
 | bl k=>
  simp only[zg] at q3
  refine⟨k,q3,w_ (λ z=>?_) (λ z=>?_) z⟩
  ·refine zO.go hc (r1.ext ((e1.trans e2).trans e3)) p3 z λ w4 S4 v4 H4 h4 q4 e4 p4=>?_
   exact GZ w v4 y w4 H4 S4 Q (zg.ext (e3.trans e4) y q2) q4 p4 (hg y w4 S4 _ _ (λ d S' z=>z.ext (((e1.trans e2).trans e3).trans e4)) h4)
  ·exact z _ H3 (by simp only[zg]) ((e1.trans e2).trans e3) p3
 | _=>exact z.elim
@[simp] noncomputable def fZ (f g:T->T->Option T) (fa fb fc:Ev->Option T):Ev->Option T:=fun J=>(fa J).bind λ x=>(fb J).bind λ y=>(f x y).bind λ b=>match b with
 | .bl k=>if k=true then (fc J).bind λ z=>g y z else some (.bl false)
 | _=>none
def Qm {f g:T->T->Option T}{F G:yD}(hf:Good2 zF f F) (hg:Good2 zF g G) (ha:yv fa ta) (hb:yv fb tb) (hc:yv fc tc):xy (fZ f g fa fb fc) (sT F G ta tb tc):=λ S Z Y J y Q hE e hq=>by
 obtain⟨x1,e1,e⟩:=Ai.mp e
 obtain⟨x2,e2,e⟩:=Ai.mp e
 obtain⟨b,e3,e⟩:=Ai.mp e
 refine ha S Z Y J x1 _ hE e1 λ d1 S1 s1 r1=>?_
 refine hb S1 Z Y J x2 _ (hE.grow s1) e2 λ d2 S2 s2 r2=>?_
 refine hf S2 Z x1 x2 b d1 d2 _ (hE.grow (s1.trans s2)).zd (Vw.grow r1 s2) r2 e3 λ c S3 s3 r3=>?_
 split at e
 ·have:=r3.1
  simp only[Sn] at this
  subst this
  split at e
  ·rename_i hk
   obtain⟨x4,e4,e5⟩:=Ai.mp e
   dsimp only;rw[if_pos hk]
   refine hc S3 Z Y J x4 _ (hE.grow ((s1.trans s2).trans s3)) e4 λ d4 S4 s4 r4=>?_
   exact hg S4 Z x2 x4 y d2 d4 Q (hE.grow (((s1.trans s2).trans s3).trans s4)).zd (Vw.grow r2 (s3.trans s4)) r4 e5 λ c' S5 s5 r5=>hq c' S5 ((((s1.trans s2).trans s3).trans s4).trans s5) (Cl.cl (((s1.trans s2).trans s3).trans s4) r5)
  ·rename_i hk
   dsimp only;rw[if_neg hk]
   cases e
   exact hq _ S3 ((s1.trans s2).trans s3) (Cl.of (λ _=>nofun) wV)
 ·cases e
def TY {op GN:CmpOp}{f g:yD}{r r':R2}(ho:yc X (compareOp op) r) (F7:yc X (compareOp GN) r') (hr:xn X.K f r) (GZ:xn X.K g r') (hf:xr f) (hg:xr g) (ha:PD X a ta) (hb:PD X b tb) (hc:PD X c tc)
  (hm:lastMarks [op,GN] [b,c]=false:=by with_unfolding_all rfl):PD X (.Compare a [op,GN] [b,c] pos) (sT f g ta tb tc):=
 ⟨sT.mo hf hg ha.mo hb.mo hc.mo,PE.imp (Th ho F7 ha.pe hb.pe hc.pe hm) λ _ _ _ h=>cA hr GZ hf hg ha.mo hb.mo hc.mo h⟩
def Tv {op GN:CmpOp}{f g:yD}{r r':R2}(ho:yc X (compareOp op) r) (F7:yc X (compareOp GN) r') (hr:xn X.K f r) (GZ:xn X.K g r') (hf:xr f) (hg:xr g) (ha:PD X a ta) (hb:PD X b tb) (hc:PD X c tc)
  (hm:lastMarks [op,GN] [b,c]=false:=by with_unfolding_all rfl):xC X (.Compare a [op,GN] [b,c] pos) (vk (sT f g ta tb tc)):=by
 refine⟨vk.mo (sT.mo hf hg ha.mo hb.mo hc.mo),PT.imp (Ul ho F7 ha.pe hb.pe hc.pe hm) fun B H Q h=>?_⟩
 obtain⟨Y,S,r1,r2,h⟩:=h
 refine cA hr GZ hf hg ha.mo hb.mo hc.mo ⟨Y,S,r1,r2,sT.mo hf hg ha.mo hb.mo hc.mo Y S _ _ (λ d S' z v H' a b c=>?_) h⟩
 cases d with
 | bl k=>simp only[zg] at a;exact⟨k,a,z H' b c⟩
 | _=>exact z.elim
end
end L5
namespace L2
open PySem PySem.Spec PyProof.Rows
section
variable {X:Cx}
def S9:yc X (compareOp .Is) (λ x y H Q=>∃ c d,x=.bl c/\y=.bl d/\Q (.bl (c == d)) H):=by
 intro EH s B H x y v u Q I rx ry h
 obtain⟨c,d,rfl,rfl,q⟩:=h
 cases rx
 cases ry
 exact is_bool ⟨.bl _,H,I,rfl,q⟩
end
end L2
namespace L5
open PySem PySem.Spec L2 L3
open PyProof.Rows hiding St
section
variable {X:Cx}{K:Ab}{a b c e o i v:Expr}{es:List Expr}{ta tb td ty tv:zu}{pos p pos':Pos}
def vC:yD:=λ x y S Q=>match x,y with
 | .int i,.int j=>Q (.bl (decide (i<j))) S
 | .tup ds,.tup es=>∃ ns ms:List Int,ds=ns.map D.int/\es=ms.map D.int/\Q (.bl (HT.lexLt ns ms)) S
 | _,_=>False
noncomputable def x_:T->T->Option T
 | .int i,.int j=>some (.bl (decide (i<j)))
 | .tup ts,.tup us=>(ud ts).bind λ ns=>(ud us).map λ ms=>.bl (HT.lexLt ns ms)
 | _,_=>none
def vC.mo:xr vC:=λ x y S Q Q' hq h=>by
 unfold vC at h ⊢
 split at h
 ·exact hq _ _ h
 ·obtain⟨ns,ms,h1,h2,h3⟩:=h
  exact⟨ns,ms,h1,h2,hq _ _ h3⟩
 ·exact h.elim
def vC.fits:xn K vC (λ x y H Q=>wW (λ i j=>.bl (decide (i<j))) x y H Q\/gk K x y H Q):=λ x y d e H S Q h1 h2 h3 h=>by
 unfold vC at h
 split at h
 ·simp only[zg] at h1 h2
  exact .inl ⟨_,_,h1,h2,h _ H (by simp only[zg]) (.refl H) h3⟩
 ·obtain⟨ns,ms,rfl,rfl,h⟩:=h
  simp only[zg] at h1 h2
  obtain⟨a,xs,rfl,g1,g2⟩:=h1
  obtain⟨b,ys,rfl,g3,g4⟩:=h2
  rw[g2.ints] at g1
  rw[g4.ints] at g3
  exact .inr ⟨a,b,ns,ms,rfl,rfl,g1,g3,h _ H (by simp only[zg]) (.refl H) h3⟩
 ·exact h.elim
def fB:Good2 zF x_ vC:=λ S Z x y z d e Q hz hx hy ef hq=>by
 unfold x_ at ef
 split at ef
 ·cases ef
  cases hx.int;cases hy.int
  exact hq _ S (.refl S) (Cl.of (λ _=>nofun) wV)
 ·obtain⟨ns,e1,e2⟩:=Ai.mp ef
  obtain⟨ms,e3,rfl⟩:=AE.mp e2
  cases nW e1
  cases nW e3
  obtain⟨ds,rfl,h2⟩:=hx.tup
  obtain⟨es,rfl,h4⟩:=hy.tup
  exact⟨ns,ms,sk.mp h2,sk.mp h4,hq _ S (.refl S) (Cl.of (λ _=>nofun) wV)⟩
 ·cases ef
def ao {k:Nat}(hr:yt k X.A):yc X (compareOp .Lt) (λ x y H Q=>wW (λ i j=>.bl (decide (i<j))) x y H Q\/gk X.K x y H Q):=S7.or (Sz (by have:=hr.units;lia))
def TJ {k:Nat}(hr:yt k X.A) (ha:PD X a ta) (hb:PD X b tb):PD X (.Compare a [.Lt] [b] pos) (yn vC ta tb):=nB (ao hr) vC.fits vC.mo ha hb (tu _)
def k7 {k:Nat}(hr:yt k X.A) (ha:PD X a ta) (hb:PD X b tb):xC X (.Compare a [.Lt] [b] pos) (vk (yn vC ta tb)):=qu (ao hr) vC.fits vC.mo ha hb (tu _)
def uH (neg:Bool):yD:=λ x y S Q=>match x,y with
 | .bl c,.bl d=>Q (.bl (cond neg (c != d) (c == d))) S
 | x,.zr=>Q (.bl (cond neg (!pF x) (pF x))) S
 | _,_=>False
noncomputable def nV (neg:Bool):T->T->Option T
 | .bl c,.bl d=>some (.bl (cond neg (c != d) (c == d)))
 | x,.zr=>some (.bl (cond neg (!isNone x) (isNone x)))
 | _,_=>none
def uH.mo {neg:Bool}:xr (uH neg):=λ x y S Q Q' hq h=>by
 unfold uH at h ⊢
 split at h
 ·exact hq _ _ h
 ·exact hq _ _ h
 ·exact h.elim
def uH.fits:xn K (uH false) (λ x y H Q=>(∃ c d,x=.bl c/\y=.bl d/\Q (.bl (c == d)) H)\/(y=.zr/\Q (.bl (decide (x=.zr))) H)):=λ x y d e H S Q h1 h2 h3 h=>by
 unfold uH at h
 split at h
 ·simp only[zg] at h1 h2
  exact .inl ⟨_,_,h1,h2,h _ H (by simp only[zg,cond]) (.refl H) h3⟩
 ·simp only[zg] at h2
  refine .inr ⟨h2,?_⟩
  rw[PK h1]
  exact h _ H (by simp only[zg,cond]) (.refl H) h3
 ·exact h.elim
def PL {S:SS}{Z:Addr->Prop}{x:T}{d:D}(hx:Vw S Z x d):pF d=isNone x:=by
 cases x with
 | zr=>cases hx.zr;rfl
 | bl _=>cases hx.bl;rfl
 | int _=>cases hx.int;rfl
 | str _=>cases hx.str;rfl
 | tup _=>obtain⟨ds,rfl,_⟩:=hx.tup;rfl
 | lst _=>obtain⟨ds,rfl | ⟨a,rfl,h1⟩,h2⟩:=hx.lst <;> rfl
 | xf=>obtain⟨a,Aa,⟨rfl,_⟩,h1⟩:=hx.xf;rfl
 | err _ _ _=>obtain⟨x,rfl,_⟩:=hx.err;rfl
def O1 {neg:Bool}:Good2 zF (nV neg) (uH neg):=λ S Z x y z d e Q hz hx hy ef hq=>by
 unfold nV at ef
 split at ef
 ·cases ef
  cases hx.bl;cases hy.bl
  exact hq _ S (.refl S) (Cl.of (λ _=>nofun) wV)
 ·cases ef
  cases hy.zr
  have key:Q (.bl (cond neg (!pF d) (pF d))) S:=by
   rw[PL hx]
   exact hq _ S (.refl S) (Cl.of (λ _=>nofun) wV)
  unfold uH
  cases d <;> exact key
 ·cases ef
def Tt (ha:PD X a ta) (hb:PD X b tb):xC X (.Compare a [.Is] [b] pos) (vk (yn (uH false) ta tb)):=qu (S9.or S8) uH.fits uH.mo ha hb (tu _)
def Yq (td ty tv:zu):yI:=λ E Y S=>tv Y S λ v S1=>td Y S1 λ x S2=>ty Y S2 λ y S3=>∃ p ds k j,x=.ref p/\y=.int k/\S3 p=some (.lst ds)/\wZ ds.length k=some j/\E.nx Y (ups S3 p (.lst (ds.set j v)))
theorem zl.set {H:Hp}{d:D}{x:V}(h:zg K H d x):∀ {ds:List D}{xs:List V}(j:Nat),zl K H ds xs->zl K H (ds.set j d) (xs.set j x)
 | [],xs,j,r=>by simp only[zl] at r;subst r;exact .nil
 | c::ds,xs,0,r=>by
  simp only[zl] at r
  obtain⟨y,ys,rfl,_,r2⟩:=r
  exact .cons h r2
 | c::ds,xs,j+1,r=>by
  simp only[zl] at r
  obtain⟨y,ys,rfl,r1,r2⟩:=r
  exact .cons r1 (zl.set h j r2)
def Tx (ho:PD X o td) (hi:PD X i ty) (hv:PD X v tv) (hs:swapsWithSole [.Subscript o i pos'] v pos.line X.env=pure false:=by rfl) (hw:swappedStores [.Subscript o i pos'] v X.env=pure none:=by rfl)
  (h1:(assignEach [.Subscript o i pos'] X.env).map (·.2)=[assign (.Subscript o i pos') X.env]:=by rfl)
  (ha:∀ v,assign (.Subscript o i pos') X.env v=(do
   let ov <- holding [v] (eval o X.env)
   let iv <- holding [v,ov] (eval i X.env)
   standAt pos'
   holding [v,ov,iv] (setItem ov iv v)
   release [v,ov,iv] []):=by intro _;rfl):vL X (.Assign [.Subscript o i pos'] v pos) (Yq td ty tv):=by
 refine⟨λ E E' Y S hE z=>hv.mo Y S _ _ (λ w S1 z=>ho.mo Y S1 _ _ (λ x S2 z=>hi.mo Y S2 _ _ (λ y S3 ⟨p,ds,k,j,a,b,c,d,h⟩=>⟨p,ds,k,j,a,b,c,d,hE.nx _ _ h⟩) z) z) z,PS.imp (Uz hv.pe (UK ho.pe hi.pe set_list ha) hs hw h1) λ D B H hu=>?_⟩
 obtain⟨Y,S,r1,r2,z⟩:=hu
 refine zO.go hv.mo r1 r2 z λ w S1 w1 H1 h1 q1 e1 p1=>?_
 refine zO.go ho.mo (r1.ext e1) p1 h1 λ x S2 w2 H2 h2 q2 e2 p2=>?_
 refine zO.go hi.mo ((r1.ext e1).ext e2) p2 h2 λ y S3 w3 H3 h3 q3 e3 p3=>?_
 obtain⟨p,ds,k,j,rfl,rfl,c1,c2,h⟩:=h3
 simp only[zg] at q2 q3
 subst q2 q3
 obtain⟨xs,g1,g2⟩:=p3 _ _ c1
 have e4:Ext H3 (upd H3 p (.lst (xs.set j w1))):=.lst g1 _
 refine⟨p,xs,k,j,rfl,rfl,g1,by rw[<- g2.length];exact c2,?_⟩
 exact h B _ ((((r1.ext e1).ext e2).ext e3).ext e4) (((e1.trans e2).trans e3).trans e4) (p3.ups e4 ⟨_,y7,zl.ext e4 _ (zl.set (zg.ext (e2.trans e3) w q1) j g2)⟩)
@[simp] def aV (n:Nat) (f v:Ev->Option T):Sm:=fun J=>(v J).bind λ z=>(f J).bind λ y=>match J[n]?,y with
 | some (some (.own (.lst ts))),.int k=>(wZ ts.length k).map λ j=>.nx (J.set n (some (.own (.lst (ts.set j z)))))
 | _,_=>none
def SV {R:Rk}(n:Nat) {f v:Ev->Option T}(hf:yv f ty) (hv:vM v tv):yy R (aV n f v) (Yq (y6 n) ty tv):=λ S0 Z0 S Z Y J o E F e P=>by
 obtain⟨z,e1,e⟩:=Ai.mp e
 obtain⟨x,e2,e3⟩:=Ai.mp e
 split at e3
 ·rename_i ts k h
  obtain⟨j,hj,rfl⟩:=AE.mp e3
  refine hv S Z Y J z _ F.er e1 λ dz S1 s1 r1=>?_
  have F1:=F.grow s1
  obtain⟨p,ob,h1,h2,h3,h4⟩:=F1.er.ow n _ h
  cases ob with
  | yh _=>exact h3.elim
  | lst ds=>
   show y6 n Y S1 _
   unfold y6;rw[h1]
   refine hf S1 Z Y J _ _ F1.er e2 λ d S2 s2 r2=>?_
   cases Vw.int r2
   have h5:zk (zR S2 Z) ts ds:=zk.sx (wN s2) ts h3
   exact⟨p,ds,k,j,rfl,rfl,s2 _ _ h2,by rw[h5.len];exact hj,P _ Z Y ((F1.grow s2).mut (us:=.lst (ts.set j z)) (es:=.lst (ds.set j dz)) n h h1 (h5.cY j (Sn.sx (wN s2) z r1)))⟩
 ·cases e3
def kE {x y:Str}{u:Value}(hm:X.mg x=some u) (r:RelV (.str y) u) (hg:Gl X x:=by rfl) (hd:(x == ("__debug__":Str))=false:=by decide):PD X (.Name x pos) (dC (.str y)):=pz (bS hg hm r hd) λ _=>by simp only[zg]
def sD {x:Str}{n:Int}{u:Value}(hm:X.mg x=some u) (r:RelV (.int n) u) (hg:Gl X x:=by rfl) (hd:(x == ("__debug__":Str))=false:=by decide):PD X (.Name x pos) (dC (.int n)):=pz (bS hg hm r hd) λ _=>by simp only[zg]
end
end L5
namespace ZP
open PySem PyProof.Rows
noncomputable def fq (k:Bool):String:=cond k "tuple_iterator" "list_iterator"
def SI (h:Heap) (k:Bool) (it l:Addr) (i:Nat):Prop:=∃ o,h.get? it=some o/\o.cls=.type (fq k)/\o.data=.fields #[.ref l,.int i 0]
def SQ (h:Heap) (k:Bool) (l:Addr) (xs:Ar):Prop:=match k with
 | true=>h.IsTuple l xs
 | false=>h.IsList l xs
def SI.on {h h':Heap}{k:Bool}{it l:Addr}{i:Nat}(x:SI h k it l i) (f:∀ o,h.get? it=some o->h'.get? it=some o):SI h' k it l i:=
 let ⟨o,ho,r⟩:=x;⟨o,f o ho,r⟩
def SQ.on {h h':Heap}{k:Bool}{l:Addr}{xs:Ar}(x:SQ h k l xs) (f:∀ o,h.get? l=some o->h'.get? l=some o):SQ h' k l xs:=by
 cases k with
 | true=>obtain⟨o,ho,r⟩:=(show h.IsTuple l xs from x);exact⟨o,f o ho,r⟩
 | false=>obtain⟨o,ho,r⟩:=(show h.IsList l xs from x);exact⟨o,f o ho,r⟩
def SQ.lt {h:Heap}{k:Bool}{l:Addr}{xs:Ar}(x:SQ h k l xs):l<h.objs.size:=by
 cases k with
 | true=>obtain⟨o,ho,_⟩:=(show h.IsTuple l xs from x);exact Ap ho
 | false=>obtain⟨o,ho,_⟩:=(show h.IsList l xs from x);exact Ap ho
theorem SQ.cls {h:Heap}{k:Bool}{l:Addr}{xs:Ar}(x:SQ h k l xs):∃ o,h.get? l=some o/\o.cls=.type (cond k "tuple" "list"):=by
 cases k with
 | true=>obtain⟨o,ho,c,_⟩:=(show h.IsTuple l xs from x);exact⟨o,ho,c⟩
 | false=>obtain⟨o,ho,c,_⟩:=(show h.IsList l xs from x);exact⟨o,ho,c⟩
section
variable {prog:Program}{w:World}{A:Around}{E:Ad}{s:Shared}
def made {k:Bool}{l:Addr}{xs:Ar}{Q:Ad}(hl:SQ s.heap k l xs)
  (hQ:Q (.ref s.heap.objs.size) { s with heap:=s.heap.push { cls:=.type (fq k),data:=.fields #[.ref l,.int 0 0] } }):wpAny (model prog w) A (pyIter (.ref l)) Q E s:=by
 cases k with
 | true=>exact wpAny_pyIter_tuple hl hQ
 | false=>exact KN hl hQ
def Ni {it l:Addr}{i:Nat}{xs:Ar}{x:Value}{Q:Ad}(hit:s.heap.IsTupleIter it l i) (hl:s.heap.IsTuple l xs) (hx:xs[i]?=some x)
  (hQ:∀ h',h'.IsTupleIter it l (i+1)->Heap.SameBut it s.heap h'->Q x { s with heap:=h' }):wpAny (model prog w) A (Builtin.SmallTypes.nextOf (.ref it)) Q E s:=by
 have ht:=hit.typeIs
 obtain⟨oi,e1,e2,e3⟩:=id hit
 obtain⟨ol,g1,_,n,g2⟩:=hl
 refine JC (KD (name:=Str.ofString "__next__") ht F.slot_tuple_iterator_next (Kw F.slot_tuple_iterator_next ht F.entry_tuple_iterator_next ?_ (F.args_tuple_iterator_next_1 _)))
 refine JC (m:=field (.ref it) 0) (Ku e1 e3 (x:=.ref l) rfl ?_)
 dsimp only
 rw[if_neg (show ¬ ((Value.ref l == Value.none)=true) from BD)]
 refine JC (m:=field (.ref it) 1) (Ku e1 e3 (x:=.int i 0) rfl ?_)
 dsimp only
 refine JC (m:=seqItems? (.ref l)) (KC g1 g2 ?_)
 simp only[Co,hx]
 have there:=KH (Obj.mapFields λ y=>y.setIfInBounds 1 (rawInt ((i:Int)+1))) e1 (Obj.isFreed_of_fields (Obj.data_mapFields e3 _))
 refine JC (KO e1 e3 (by simp) (Ac ⟨x,rfl,Ac (hQ _ ⟨_,there,(Obj.cls_mapFields ..).trans e2,?_⟩ (Heap.SameBut.update ..))⟩))
 rw[Obj.data_mapFields e3];simp[rawInt]
def OZ {it l:Addr}{i:Nat}{xs:Ar}{Q:Ad}(hh:A.handled=none) (hit:s.heap.IsTupleIter it l i) (hl:s.heap.IsTuple l xs) (hx:xs[i]?=none)
  (hE:∀ h' e,Heap.ExtBut it s.heap h'->(∃ o,h'.get? e=some o/\o.cls=.type "StopIteration")->E (.ref e) { s with heap:=h' }):wpAny (model prog w) A (Builtin.SmallTypes.nextOf (.ref it)) Q E s:=by
 have ht:=hit.typeIs
 obtain⟨oi,e1,e2,e3⟩:=id hit
 obtain⟨ol,g1,_,n,g2⟩:=hl
 refine JC (KD (name:=Str.ofString "__next__") ht F.slot_tuple_iterator_next (Kw F.slot_tuple_iterator_next ht F.entry_tuple_iterator_next ?_ (F.args_tuple_iterator_next_1 _)))
 refine JC (m:=field (.ref it) 0) (Ku e1 e3 (x:=.ref l) rfl ?_)
 dsimp only
 rw[if_neg (show ¬ ((Value.ref l == Value.none)=true) from BD)]
 refine JC (m:=field (.ref it) 1) (Ku e1 e3 (x:=.int i 0) rfl ?_)
 dsimp only
 refine JC (m:=seqItems? (.ref l)) (KC g1 g2 ?_)
 simp only[Co,hx]
 refine JC (wpAny_rule (JC (KO e1 e3 (by simp) ?_)))
 refine JC (m:=newExc (.type "StopIteration") []) ?_
 simp only[newExc,newTuple]
 refine JC (Kz (JC (m:=firstArgMember _ _) (wpAny_of_eq (a:=Value.none) (by first | rfl | (simp only[firstArgMember];rfl)) (Kz ?_ (by size_fits)))) (by size_fits))
 simp only[raiseNew]
 refine JC (wpAny_handled ?_)
 rw[show A.in1.handled=none from hh]
 exact JC (Ac (wpAny_throw (hE _ _ (((Heap.SameBut.update ..).extBut.push _).push _) ⟨_,AF _ rfl,rfl⟩)))
def draw {k:Bool}{it l:Addr}{i:Nat}{xs:Ar}{x:Value}{Q:Ad}(hit:SI s.heap k it l i) (hl:SQ s.heap k l xs) (hx:xs[i]?=some x)
  (hQ:∀ h',SI h' k it l (i+1)->Heap.SameBut it s.heap h'->Q x { s with heap:=h' }):wpAny (model prog w) A (Builtin.SmallTypes.nextOf (.ref it)) Q E s:=by
 cases k with
 | true=>exact Ni hit hl hx hQ
 | false=>exact wpAny_nextOf_list_item hit hl hx hQ
def jq {k:Bool}{it l:Addr}{i:Nat}{xs:Ar}{Q:Ad}(hh:A.handled=none) (hit:SI s.heap k it l i) (hl:SQ s.heap k l xs) (hx:xs[i]?=none)
  (hE:∀ h' e,Heap.ExtBut it s.heap h'->(∃ o,h'.get? e=some o/\o.cls=.type "StopIteration")->E (.ref e) { s with heap:=h' }):wpAny (model prog w) A (Builtin.SmallTypes.nextOf (.ref it)) Q E s:=by
 cases k with
 | true=>exact OZ hh hit hl hx hE
 | false=>exact wpAny_nextOf_list_end hh hit hl hx hE
structure jK (z TI TO i1 i2 l1 l2:Addr):Prop where
 nd:[z,TI,TO,i1,i2].Nodup
 f1:l1∉[z,TI,TO,i1,i2]
 f2:l2∉[z,TI,TO,i1,i2]
structure At (h:Heap) (k1 k2:Bool) (z TI TO i1 i2 l1 l2:Addr) (f0:Value) (n:Nat):Prop where
 z:IsZip h z TI TO f0
 ti:IsPair h TI (.ref i1) (.ref i2)
 to:∃ a b,IsPair h TO a b
 s1:SI h k1 i1 l1 n
 s2:SI h k2 i2 l2 n
def At.keep {h h':Heap}{k1 k2:Bool}{z TI TO i1 i2 l1 l2:Addr}{f0:Value}{n:Nat}(S:At h k1 k2 z TI TO i1 i2 l1 l2 f0 n) (f:∀ b∈[z,TI,TO,i1,i2],∀ o,h.get? b=some o->h'.get? b=some o):At h' k1 k2 z TI TO i1 i2 l1 l2 f0 n:=
 ⟨f z (by simp) _ S.z,f TI (by simp) _ S.ti,let ⟨a,b,e⟩:=S.to;⟨a,b,f TO (by simp) _ e⟩,S.s1.on (f i1 (by simp)),S.s2.on (f i2 (by simp))⟩
def item {k1 k2:Bool}{z TI TO i1 i2 l1 l2:Addr}{n:Nat}{xs ys:Ar}{x y:Value}{Q:Option Value->Shared->Prop}(D:jK z TI TO i1 i2 l1 l2) (S:At s.heap k1 k2 z TI TO i1 i2 l1 l2 .none n)
  (h1:SQ s.heap k1 l1 xs) (h2:SQ s.heap k2 l2 ys) (hx:xs[n]?=some x) (hy:ys[n]?=some y)
  (hQ:∀ h',At h' k1 k2 z TI TO i1 i2 l1 l2 (rawInt s.heap.objs.size) (n+1)->IsPair h' s.heap.objs.size x y->(∀ c o,c∉[z,TI,TO,i1,i2]->s.heap.get? c=some o->h'.get? c=some o)->Q (some (.ref s.heap.objs.size)) { s with heap:=h' }):
  wpAny (model prog w) A (pyNext (.ref z)) Q E s:=by
 obtain⟨nd,f1,f2⟩:=D
 simp only[Bc,Aj,A3,or_false,not_or,List.nodup_nil,and_true,not_false_eq_true] at nd f1 f2
 obtain⟨⟨n1,n2,n3,n4⟩,⟨n5,n6,n7⟩,⟨n8,n9⟩,Jp⟩:=nd
 obtain⟨a1,a2,a3,a4,a5⟩:=f1
 obtain⟨b1,b2,b3,b4,b5⟩:=f2
 obtain⟨hz,DC,⟨a,b,Eb⟩,s1,s2⟩:=S
 have hT:s.TypeIs (.ref z) "zip":=⟨_,hz,rfl⟩
 unfold pyNext
 refine JC (wpAny_attempt (KD (name:=Str.ofString "__next__") hT F.slot_zip_next (Kw F.slot_zip_next hT F.entry_zip_next ?_ (F.args_zip_next_1 _))))
 refine JC (m:=field (.ref z) 2) (Ku hz rfl (x:=.bool false) rfl ?_)
 refine JC (m:=field (.ref z) 3) (Ku hz rfl (x:=.ref TI) rfl ?_)
 refine JC (m:=seqItems? (.ref TI)) (KC DC rfl ?_)
 refine JC (m:=Builtin.SmallTypes.ownedTupleIsFree (.ref z)) (JC (m:=field (.ref z) 0) (Ku hz rfl (x:=.none) rfl (Ac ?_)))
 simp only[if_true]
 refine JC (wpAny_rule (JC (Ku hz rfl (x:=.ref TO) rfl (JC (KL hz (by simp) λ g1 Ho e1=>?_)))))
 replace Ho:IsZip g1 z TI TO .ellipsis:=Ho
 refine JC ?_
 simp only[Dl,List.zipIdx_nil,Dx,List.forIn_nil]
 refine JC (JC (wpAny_onRaise (JC (m:=Builtin.SmallTypes.nextOf (.ref i1)) (draw (s1.on λ o q=>e1.extBut _ _ (Ne.symm n3) q) (h1.on λ o q=>e1.extBut _ _ a1 q) hx λ g2 s12 e2=>Ac ?_))))
 have to2:IsPair g2 TO a b:=e2.extBut _ _ n8 (e1.extBut _ _ (Ne.symm n2) Eb)
 refine JC (KC to2 rfl (JC (wpAny_updateSeq_pair to2 λ g3 to3 e3=>JC (wpAny_letGo (Ac ?_)))))
 replace to3:IsPair g3 TO x b:=to3
 have up:∀ c o,c≠z->c≠i1->c≠TO->s.heap.get? c=some o->g3.get? c=some o:=λ c o c1 c2 c3 q=>e3.extBut _ _ c3 (e2.extBut _ _ c2 (e1.extBut _ _ c1 q))
 refine JC (JC (wpAny_onRaise (JC (m:=Builtin.SmallTypes.nextOf (.ref i2)) (draw (s2.on λ o q=>up _ o (Ne.symm n4) (Ne.symm Jp) (Ne.symm n9) q) (h2.on λ o q=>up _ o b1 b4 b3 q) hy λ g4 s24 e4=>Ac ?_))))
 have to4:IsPair g4 TO x b:=e4.extBut _ _ n9 to3
 refine JC (KC to4 rfl (JC (wpAny_updateSeq_pair to4 λ g5 Jk e5=>JC (wpAny_letGo (Ac (Ac ?_))))))
 replace Jk:IsPair g5 TO x y:=Jk
 refine JC (KC Jk rfl (JC (wpAny_newTuple ?_)))
 have sz:g5.objs.size=s.heap.objs.size:=by rw[e5.1,e4.1,e3.1,e2.1,e1.1]
 have hz5:IsZip g5 z TI TO .ellipsis:=e5.extBut _ _ n2 (e4.extBut _ _ n4 (e3.extBut _ _ n2 (e2.extBut _ _ n3 Ho)))
 have up5:∀ c o,c∉[z,TI,TO,i1,i2]->s.heap.get? c=some o->g5.get? c=some o:=λ c o hc q=>by
  simp only[Aj,A3,or_false,not_or] at hc
  exact e5.extBut _ _ hc.2.2.1 (e4.extBut _ _ hc.2.2.2.2 (up c o hc.1 hc.2.2.2.1 hc.2.2.1 q))
 have ti5:IsPair g5 TI (.ref i1) (.ref i2):=e5.extBut _ _ n5 (e4.extBut _ _ n7 (up _ _ (Ne.symm n1) n6 n5 DC))
 have s15:SI g5 k1 i1 l1 (n+1):=s12.on λ o q=>e5.extBut _ _ (Ne.symm n8) (e4.extBut _ _ Jp (e3.extBut _ _ (Ne.symm n8) q))
 have s25:SI g5 k2 i2 l2 (n+1):=s24.on λ o q=>e5.extBut _ _ (Ne.symm n9) q
 have lz:z<g5.objs.size:=Ap hz5
 refine JC (m:=Builtin.SmallTypes.ownedTupleHandOut (.ref z) (.ref g5.objs.size)) ?_
 have hz6:IsZip (g5.push { cls:=.type "tuple",data:=.seq #[x,y] }) z TI TO .ellipsis:=Kr _ hz5
 refine JC (KL hz6 (by simp) λ g7 JR e7=>?_)
 replace JR:IsZip g7 z TI TO (rawInt g5.objs.size):=JR
 refine KL JR (by simp) λ g8 Js e8=>?_
 replace Js:IsZip g8 z TI TO (rawInt g5.objs.size):=Js
 have up8:∀ c o,c≠z->(g5.push { cls:=.type "tuple",data:=.seq #[x,y] }).get? c=some o->g8.get? c=some o:=λ c o c1 q=>e8.extBut _ _ c1 (e7.extBut _ _ c1 q)
 have T8:IsPair g8 g5.objs.size x y:=up8 _ _ (BO lz) (AF _ rfl)
 have Iu:∀ c o,c≠z->g5.get? c=some o->g8.get? c=some o:=λ c o c1 q=>up8 c o c1 (Kr _ q)
 rw[sz] at Js T8
 refine Ac ⟨.ref g5.objs.size,rfl,Ac ?_⟩
 show Q (some (.ref g5.objs.size)) _
 rw[sz]
 refine hQ g8 ⟨Js,Iu _ _ (Ne.symm n1) ti5,⟨x,y,Iu _ _ (Ne.symm n2) Jk⟩,s15.on λ o q=>Iu _ o (Ne.symm n3) q,s25.on λ o q=>Iu _ o (Ne.symm n4) q⟩ T8 λ c o hc q=>Iu c o (λ e=>hc (by simp[e])) (up5 c o hc q)
def stop {k1 k2:Bool}{z TI TO i1 i2 l1 l2:Addr}{n:Nat}{xs ys:Ar}{Q:Option Value->Shared->Prop}(hh:A.handled=none) (D:jK z TI TO i1 i2 l1 l2) (S:At s.heap k1 k2 z TI TO i1 i2 l1 l2 .none n)
  (h1:SQ s.heap k1 l1 xs) (h2:SQ s.heap k2 l2 ys) (Bj:xs[n]?=none\/ys[n]?=none)
  (hQ:∀ h',(∀ c o,c∉[z,TI,TO,i1,i2]->s.heap.get? c=some o->h'.get? c=some o)->Q none { s with heap:=h' }):
  wpAny (model prog w) A (pyNext (.ref z)) Q E s:=by
 obtain⟨nd,f1,f2⟩:=D
 simp only[Bc,Aj,A3,or_false,not_or,List.nodup_nil,and_true,not_false_eq_true] at nd f1 f2
 obtain⟨⟨n1,n2,n3,n4⟩,⟨n5,n6,n7⟩,⟨n8,n9⟩,Jp⟩:=nd
 obtain⟨a1,a2,a3,a4,a5⟩:=f1
 obtain⟨b1,b2,b3,b4,b5⟩:=f2
 obtain⟨hz,DC,⟨a,b,Eb⟩,s1,s2⟩:=S
 have hT:s.TypeIs (.ref z) "zip":=⟨_,hz,rfl⟩
 have fin:∀ (h':Heap) (e:Addr),(∀ c o,c∉[z,TI,TO,i1,i2]->s.heap.get? c=some o->h'.get? c=some o)->(∃ o,h'.get? e=some o/\o.cls=.type "StopIteration")->
   wpAny (model prog w) A (do if <- isInstance (.ref e) (.type "StopIteration") then pure none else throw (.ref e)) Q E { s with heap:=h' }:=λ h' e k1 k2=>by
  obtain⟨o,ho,hc⟩:=k2
  exact JC (wpAny_isInstance (T:="StopIteration") (b:=true) ⟨o,ho,hc⟩ isSubtype_stop (Ac (hQ _ k1)))
 unfold pyNext
 refine JC (wpAny_attempt (KD (name:=Str.ofString "__next__") hT F.slot_zip_next (Kw F.slot_zip_next hT F.entry_zip_next ?_ (F.args_zip_next_1 _))))
 refine JC (m:=field (.ref z) 2) (Ku hz rfl (x:=.bool false) rfl ?_)
 refine JC (m:=field (.ref z) 3) (Ku hz rfl (x:=.ref TI) rfl ?_)
 refine JC (m:=seqItems? (.ref TI)) (KC DC rfl ?_)
 refine JC (m:=Builtin.SmallTypes.ownedTupleIsFree (.ref z)) (JC (m:=field (.ref z) 0) (Ku hz rfl (x:=.none) rfl (Ac ?_)))
 simp only[if_true]
 refine JC (wpAny_rule (JC (Ku hz rfl (x:=.ref TO) rfl (JC (KL hz (by simp) λ g1 Ho e1=>?_)))))
 replace Ho:IsZip g1 z TI TO .ellipsis:=Ho
 refine JC ?_
 simp only[Dl,List.zipIdx_nil,Dx,List.forIn_nil]
 cases hx:xs[n]? with
 | none=>
  refine JC (JC (wpAny_onRaise (JC (m:=Builtin.SmallTypes.nextOf (.ref i1)) (jq hh (s1.on λ o q=>e1.extBut _ _ (Ne.symm n3) q) (h1.on λ o q=>e1.extBut _ _ a1 q) hx λ g2 ex e2 he=>?_))))
  have hz2:IsZip g2 z TI TO .ellipsis:=e2 _ _ n3 Ho
  obtain⟨oe,q1,q2⟩:=he
  have ne:ex≠z:=λ q=>by subst q;rw[hz2] at q1;cases q1;simp at q2
  refine KL hz2 (by simp) λ g3 _ e3=>fin g3 ex (λ c o hc q=>?_) ⟨oe,e3.extBut _ _ ne q1,q2⟩
  simp only[Aj,A3,or_false,not_or] at hc
  exact e3.extBut _ _ hc.1 (e2 _ _ hc.2.2.2.1 (e1.extBut _ _ hc.1 q))
 | some x=>
  have hy:ys[n]?=none:=Bj.resolve_left (by rw[hx];simp)
  refine JC (JC (wpAny_onRaise (JC (m:=Builtin.SmallTypes.nextOf (.ref i1)) (draw (s1.on λ o q=>e1.extBut _ _ (Ne.symm n3) q) (h1.on λ o q=>e1.extBut _ _ a1 q) hx λ g2 s12 e2=>Ac ?_))))
  have to2:IsPair g2 TO a b:=e2.extBut _ _ n8 (e1.extBut _ _ (Ne.symm n2) Eb)
  refine JC (KC to2 rfl (JC (wpAny_updateSeq_pair to2 λ g3 to3 e3=>JC (wpAny_letGo (Ac ?_)))))
  have up:∀ c o,c≠z->c≠i1->c≠TO->s.heap.get? c=some o->g3.get? c=some o:=λ c o c1 c2 c3 q=>e3.extBut _ _ c3 (e2.extBut _ _ c2 (e1.extBut _ _ c1 q))
  refine JC (JC (wpAny_onRaise (JC (m:=Builtin.SmallTypes.nextOf (.ref i2)) (jq hh (s2.on λ o q=>up _ o (Ne.symm n4) (Ne.symm Jp) (Ne.symm n9) q) (h2.on λ o q=>up _ o b1 b4 b3 q) hy λ g4 ex e4 he=>?_))))
  have hz4:IsZip g4 z TI TO .ellipsis:=e4 _ _ n4 (e3.extBut _ _ n2 (e2.extBut _ _ n3 Ho))
  obtain⟨oe,q1,q2⟩:=he
  have ne:ex≠z:=λ q=>by subst q;rw[hz4] at q1;cases q1;simp at q2
  refine KL hz4 (by simp) λ g5 _ e5=>fin g5 ex (λ c o hc q=>?_) ⟨oe,e5.extBut _ _ ne q1,q2⟩
  simp only[Aj,A3,or_false,not_or] at hc
  exact e5.extBut _ _ hc.1 (e4 _ _ hc.2.2.2.2 (up c o hc.1 hc.2.2.2.1 hc.2.2.1 q))
end
abbrev v9 (k:Bool) (l:Addr):Obj:={ cls:=.type (fq k),data:=.fields #[.ref l,.int 0 0] }
abbrev pJ (k1 k2:Bool) (h:Heap) (l1 l2:Addr):Heap:=(h.push (v9 k1 l1)).push (v9 k2 l2)
abbrev jc (k1 k2:Bool) (h:Heap) (l1 l2:Addr):Heap:=(pJ k1 k2 h l1 l2).push { cls:=.type "tuple",data:=.seq #[.ref h.objs.size,.ref (h.push (v9 k1 l1)).objs.size] }
abbrev jb (k1 k2:Bool) (h:Heap) (l1 l2:Addr):Heap:=(jc k1 k2 h l1 l2).push { cls:=.type "tuple",data:=.seq #[.none,.none] }
abbrev pH (k1 k2:Bool) (h:Heap) (l1 l2:Addr):Heap:=(jb k1 k2 h l1 l2).push { cls:=.type "zip",data:=.fields #[.none,.bool false,.bool false,.ref (pJ k1 k2 h l1 l2).objs.size,.ref (jc k1 k2 h l1 l2).objs.size] }
def QP (k1 k2:Bool) (l1 l2:Addr) (xs ys:Ar):Meets (Builtin.«zip.__new__» ⟨[.type "zip",.ref l1,.ref l2],[]⟩) (λ _ R s=>SQ s.heap k1 l1 xs/\SQ s.heap k2 l2 ys/\
   R (.ok (.ret (.ref (jb k1 k2 s.heap l1 l2).objs.size))) { s with heap:=pH k1 k2 s.heap l1 l2 }):=
 .of_wp λ prog w A R s h=>by
  obtain⟨hp,g,d,tk,os⟩:=s
  obtain⟨q1,q2,h⟩:=h
  have Ed:=sub_zip
  have m1:SQ (Shared.heap ⟨hp,g,d,tk,os⟩) k1 l1 xs:=q1
  have m2:SQ (Shared.heap ⟨hp.push (v9 k1 l1),g,d,tk,os⟩) k2 l2 ys:=q2.on λ o e=>Kr _ e
  wp_walk using made m1,made m2
  exact⟨_,rfl,h⟩
section
variable {prog:Program}{w:World}{A:Around}{E:Ad}{s:Shared}
def new {k1 k2:Bool}{l1 l2:Addr}{xs ys:Ar}{Q:Ad}(h1:SQ s.heap k1 l1 xs) (h2:SQ s.heap k2 l2 ys)
  (h:∀ h' z TI TO i1 i2,(∀ b∈[z,TI,TO,i1,i2],s.heap.objs.size<=b)->jK z TI TO i1 i2 l1 l2->At h' k1 k2 z TI TO i1 i2 l1 l2 .none 0->(∀ c o,s.heap.get? c=some o->h'.get? c=some o)->Q (.ref z) { s with heap:=h' }):
  wpAny (model prog w) A (call (.type "zip") [.ref l1,.ref l2]) Q E s:=by
 refine callType_new F.called_zip (by decide) (F.typeCall_zip_2 _ _) (F.newCall_zip_2 _ _) (λ obj=>F.args_object_init_3 obj _ _) F.entry_zip_new (QP k1 k2 l1 l2 xs ys) ⟨h1,h2,?_⟩
 have z1:(s.heap.push (v9 k1 l1)).objs.size=s.heap.objs.size+1:=Heap.size_push ..
 have z2:(pJ k1 k2 s.heap l1 l2).objs.size=s.heap.objs.size+2:=by rw[Heap.size_push,z1]
 have z3:(jc k1 k2 s.heap l1 l2).objs.size=s.heap.objs.size+3:=by rw[Heap.size_push,z2]
 have z4:(jb k1 k2 s.heap l1 l2).objs.size=s.heap.objs.size+4:=by rw[Heap.size_push,z3]
 have p1:∀ (h:Heap) (o:Obj),o.isFreed=false->(h.push o).get? h.objs.size=some o:=λ h o e=>AF _ e
 have u:∀ {h:Heap}{b:Addr}{o:Obj}(o':Obj),h.get? b=some o->(h.push o').get? b=some o:=λ o' e=>Kr _ e
 have g5:(pH k1 k2 s.heap l1 l2).get? (jb k1 k2 s.heap l1 l2).objs.size=some _:=p1 _ _ rfl
 have g4:(pH k1 k2 s.heap l1 l2).get? (jc k1 k2 s.heap l1 l2).objs.size=some _:=u _ (p1 _ _ rfl)
 have g3:(pH k1 k2 s.heap l1 l2).get? (pJ k1 k2 s.heap l1 l2).objs.size=some _:=u _ (u _ (p1 _ _ rfl))
 have g2:(pH k1 k2 s.heap l1 l2).get? (s.heap.push (v9 k1 l1)).objs.size=some (v9 k2 l2):=u _ (u _ (u _ (p1 _ _ rfl)))
 have g1:(pH k1 k2 s.heap l1 l2).get? s.heap.objs.size=some (v9 k1 l1):=u _ (u _ (u _ (u _ (p1 _ _ rfl))))
 have a1:=h1.lt
 have a2:=h2.lt
 rw[z2,z3,z4] at g5
 rw[z1,z2] at g3
 rw[z3] at g4
 rw[z1] at g2
 generalize hN:s.heap.objs.size=N at *
 have lt:∀ {m:Nat},m<N->∀ j:Nat,¬ m=N+j:=λ hm j=>by lia
 have ne:∀ {i j:Nat},i≠j->¬ (N+i=N+j):=λ A4 e=>A4 (by lia)
 show _/\_
 rw[z4]
 refine⟨⟨_,g5,rfl⟩,h _ (N+4) (N+2) (N+3) N (N+1) (λ b hb=>?_) ⟨?_,?_,?_⟩ ⟨g5,g3,⟨_,_,g4⟩,⟨_,g1,rfl,rfl⟩,⟨_,g2,rfl,rfl⟩⟩ λ c o e=>u _ (u _ (u _ (u _ (u _ e))))⟩
 ·simp only[Aj,A3,or_false] at hb
  have h0:N<=N:=Ah N
  rcases hb with e | e | e | e | e <;> subst e
  ·exact Cd N 4
  ·exact Cd N 2
  ·exact Cd N 3
  ·exact h0
  ·exact Cd N 1
 ·have e0:∀ {i:Nat},i≠0->¬ (N+i=N):=λ hi e=>hi (by lia)
  have e0':∀ {i:Nat},i≠0->¬ (N=N+i):=λ hi e=>hi (by lia)
  simp only[Bc,Aj,A3,or_false,not_or,List.nodup_nil,and_true,not_false_eq_true]
  exact⟨⟨ne (by decide),ne (by decide),e0 (by decide),ne (by decide)⟩,⟨ne (by decide),e0 (by decide),ne (by decide)⟩,⟨e0 (by decide),ne (by decide)⟩,e0' (by decide)⟩
 ·simp only[Aj,A3,or_false,not_or]
  exact⟨lt a1 4,lt a1 2,lt a1 3,Aw a1,lt a1 1⟩
 ·simp only[Aj,A3,or_false,not_or]
  exact⟨lt a2 4,lt a2 2,lt a2 3,Aw a2,lt a2 1⟩
end
end ZP
namespace L2
open PySem PySem.Spec PyProof.Rows ZP
section
variable {X:Cx}{EH:Ag}{B:St}{H:Hp}{s:Shared}
def Inv.lL {h':Heap}{t':Nat}{fp:List Addr}(I:Inv X EH B H s) (k:∀ b o,b∉fp->s.heap.get? b=some o->h'.get? b=some o) (hf:∀ b∈fp,vP X EH H b):Inv X EH B H { s with heap:=h',toks:=t' }:=by
 have IH:∀ b u,H b=some u->b∉fp:=λ b u e z=>by rw[(hf b z).1] at e;cases e
 refine I.step (g':=s.gens) (d':=s.drawn) (ch:=fp) (λ b hb=>?_) (λ b o _ _ hc e _=>k b o hc e) (λ b o _ _ hc e _=>⟨o.slots,k b o hc e⟩) (λ _ _ _ _ n=>n)
  (λ b o hc e=>⟨o,k b o hc e⟩) (λ _ _ e=>e) (λ _ _ _ e=>e) (λ b ps e=>⟨#[],by rw[e];simp⟩) (λ m hm=>?_) (λ b u e=>?_) I.bare
 ·obtain⟨_,q1,_,q2,q3,q4⟩:=hf b hb
  exact⟨q2,q1,q3,q4⟩
 ·obtain⟨o,es,ep,ho,r⟩:=hm
  exact⟨o,es,ep,k _ o (λ z=>(hf _ z).2.1 rfl) ho,r⟩
 ·refine (I.zC b u e).se (λ c v hc q=>k c v ?_ q) (λ _ q=>q) λ _ _ q=>q
  rcases hc with z | z
  ·rw[z];exact IH b u e
  ·exact IH c _ z
def wo (K:Ab) (H:Hp) (k:Bool) (a:Addr) (xs:List V):Prop:=match k with
 | true=>zT K H a xs
 | false=>zM K H a xs
def wo.of (I:Inv X EH B H s) {k:Bool}{a:Addr}{xs:List V}(h:wo X.K H k a xs):∃ its:List Value,Vals xs its/\SQ s.heap k a its.toArray:=by
 cases k with
 | true=>obtain⟨its,rv,p,_⟩:=I.tuple h;exact⟨its,rv,p⟩
 | false=>obtain⟨its,rv,p,_⟩:=I.list h;exact⟨its,rv,p.isList⟩
def wo.inj (I:Inv X EH B H s) {k:Bool}{a:Addr}{xs ys:List V}(h:wo X.K H k a xs) (h':wo X.K H k a ys):xs=ys:=by
 cases k with
 | true=>exact I.ij h h'
 | false=>exact I.gX h h'
def Xc (K:Ab) (k1 k2:Bool) (a1 a2:Addr):It:=
 ⟨λ i H=>∃ xs ys x y,wo K H k1 a1 xs/\wo K H k2 a2 ys/\xs[i]?=some x/\ys[i]?=some y,
   λ i H v H'=>∃ p x y,v=.ref p/\H p=none/\H'=upd H p (.tup [x,y])/\(∀ xs,wo K H k1 a1 xs->xs[i]?=some x)/\∀ ys,wo K H k2 a2 ys->ys[i]?=some y,
   λ i H=>∃ xs ys,wo K H k1 a1 xs/\wo K H k2 a2 ys/\(xs.length<=i\/ys.length<=i)⟩
def Wk {P:Program}{w:World}{K:Ab}{es:List Expr}{kk} {pos:Pos}{k1 k2:Bool}{z TI TO i1 i2 a1 a2:Addr}(D:jK z TI TO i1 i2 a1 a2):
  Turn P w K (.Tuple es kk pos) (Xc K k1 k2 a1 a2) [z,TI,TO,i1,i2] z (λ i h=>At h k1 k2 z TI TO i1 i2 a1 a2 .none i) where
 mem:=by simp
 obj:=λ i h st b hb=>by
  obtain⟨q1,q2,⟨_,_,q3⟩,⟨o1,q4,_,d1⟩,⟨o2,q5,_,d2⟩⟩:=st
  simp only[Aj,A3,or_false] at hb
  rcases hb with e | e | e | e | e <;> subst e
  ·exact⟨_,q1,λ v z=>by cases z⟩
  ·exact⟨_,q2,λ v z=>by cases z⟩
  ·exact⟨_,q3,λ v z=>by cases z⟩
  ·exact⟨_,q4,λ v z=>by rw[d1] at z;cases z⟩
  ·exact⟨_,q5,λ v z=>by rw[d2] at z;cases z⟩
 keep:=λ i h h' st k=>st.keep k
 item:=by
  intro X hP hw hK hc i EH s B H E I hf st hg
  subst hP hw hK
  obtain⟨xs,ys,x,y,g1,g2,hx,hy⟩:=hg
  obtain⟨JO,JF,q1⟩:=g1.of I
  obtain⟨it2,G5,q2⟩:=g2.of I
  obtain⟨u1,e1,r1⟩:=JF.get hx
  obtain⟨u2,e2,r2⟩:=G5.get hy
  refine ZP.item D st q1 q2 (x:=u1) (y:=u2) (by simpa using e1) (by simpa using e2) λ h' S' T' up=>⟨_,rfl,?_⟩
  refine wpAny_letOwnedTupleGo_zip S'.z λ h2 z2 sb=>?_
  have nT:s.heap.objs.size∉[z,TI,TO,i1,i2]:=λ hb=>by
   obtain⟨o,ho,_⟩:=(show ∃ o,s.heap.get? s.heap.objs.size=some o/\True from by
    obtain⟨w1,w2,⟨_,_,w3⟩,⟨o1,w4,_⟩,⟨o2,w5,_⟩⟩:=st
    simp only[Aj,A3,or_false] at hb
    rcases hb with e | e | e | e | e <;> rw[e]
    ·exact⟨_,w1,trivial⟩
    ·exact⟨_,w2,trivial⟩
    ·exact⟨_,w3,trivial⟩
    ·exact⟨_,w4,trivial⟩
    ·exact⟨_,w5,trivial⟩)
   exact absurd (Ap ho) (BX _)
  have nz:s.heap.objs.size≠z:=λ e=>nT (by simp[e])
  have fr:H s.heap.objs.size=none:=I.zC.fresh (Ah _)
  have I1:Inv X EH B (upd H s.heap.objs.size (.tup [x,y])) { s with heap:=s.heap.push { cls:=.type "tuple",data:=.seq [u1,u2].toArray },toks:=s.toks }:=
   I.laid (o:=.tup [x,y]) (λ b u q=>Kr _ q) (Ah _) ⟨by show 2<=sizeLine;decide,[u1,u2],.cons r1 (.cons r2 .nil),IsTup.new _ _⟩
  have G3:∀ b∈[z,TI,TO,i1,i2],upd H s.heap.objs.size (.tup [x,y]) b=none:=λ b hb=>by
   rw[yq (λ e=>nT (by rw[<- e];exact hb))]
   exact (hf b hb).1
  have kk:∀ b o,b∉[z,TI,TO,i1,i2]->(s.heap.push { cls:=.type "tuple",data:=.seq [u1,u2].toArray }).get? b=some o->h2.get? b=some o:=λ b o hb q=>by
   have EE:b≠z:=λ e=>hb (by simp[e])
   by_cases Dj:b=s.heap.objs.size
   ·subst Dj
    rw[AF _ rfl] at q
    cases q
    exact sb.extBut _ _ nz T'
   ·have q':s.heap.get? b=some o:=by rw[Heap.get?_push_ne _ _ _ Dj] at q;exact q
    exact sb.extBut _ _ EE (up b o hb q')
  have I2:=Inv.lL (h':=h2) (t':=s.toks) (fp:=[z,TI,TO,i1,i2]) I1 kk λ b hb=>⟨G3 b hb,(hf b hb).2⟩
  refine⟨.ref s.heap.objs.size,_,I2,rfl,⟨_,x,y,rfl,fr,rfl,λ zs hz=>by rw[hz.inj I g1];exact hx,λ zs hz=>by rw[hz.inj I g2];exact hy⟩,⟨z2,?_,?_,?_,?_⟩,G3⟩
  ·have nd:=D.nd
   simp only[Bc,Aj,A3,or_false,not_or] at nd
   exact sb.extBut _ _ (Ne.symm nd.1.1) S'.ti
  ·obtain⟨a,b,e⟩:=S'.to
   have nd:=D.nd
   simp only[Bc,Aj,A3,or_false,not_or] at nd
   exact⟨a,b,sb.extBut _ _ (Ne.symm nd.1.2.1) e⟩
  ·have nd:=D.nd
   simp only[Bc,Aj,A3,or_false,not_or] at nd
   exact S'.s1.on λ o q=>sb.extBut _ _ (Ne.symm nd.1.2.2.1) q
  ·have nd:=D.nd
   simp only[Bc,Aj,A3,or_false,not_or] at nd
   exact S'.s2.on λ o q=>sb.extBut _ _ (Ne.symm nd.1.2.2.2) q
 done:=by
  intro X hP hw hK hc i EH s B H E I hf st hg
  subst hP hw hK
  obtain⟨xs,ys,g1,g2,hx⟩:=hg
  obtain⟨JO,JF,q1⟩:=g1.of I
  obtain⟨it2,G5,q2⟩:=g2.of I
  have l1:=JF.length
  have l2:=G5.length
  refine ZP.stop (I.ok.hd hc) D st q1 q2 ?_ λ h' up=>⟨rfl,I.lL (t':=s.toks) up hf⟩
  rcases hx with hx | hx
  ·exact .inl (by simp;lia)
  ·exact .inr (by simp;lia)
 self:=λ _ _ _ _ _ st h=>wpAny_pyIter_zip st.z h
def Oa (K:Ab) (ta:TA):TI:=fun B H R=>ta B H λ vs H1=>∃ a1 a2 k1 k2,vs=[.ref a1,.ref a2]/\(∃ xs,wo K H1 k1 a1 xs)/\(∃ ys,wo K H1 k2 a2 ys)/\R (Xc K k1 k2 a1 a2) H1
def UA {a b:Expr}{ta:TA}{p pos pos':Pos}{es:List Expr}{kk} (hg:Gl X "zip") (hm:X.mg "zip"=none) (ha:PA X [a,b] ta) (hs:starEach [a,b] X.env=[(false,eval a X.env),(false,eval b X.env)]:=by rfl) (GD:starEach [b] X.env=[(false,eval b X.env)]:=by rfl):
  PI X (.Tuple es kk pos') (.Call (.Name "zip" p) [a,b] [] pos) (Oa X.K ta):=by
 intro EH s B H R I h
 refine Call_ (rO I hg hm boot_zip (PyProof.Rows.callWith_type1 (zE (ha pos EH s B H _ I h) λ us s1 ⟨vs,H1,I1,r1,q1⟩=>?_) (by rw[hs,GD]) (by rw[GD];rfl)))
 obtain⟨a1,a2,k1,k2,rfl,⟨xs,g1⟩,⟨ys,g2⟩,q⟩:=q1
 cases r1 with
 | cons r rr=>
  cases rr with
  | cons r' rr=>
   cases rr
   cases r
   cases r'
   obtain⟨JO,_,q1⟩:=g1.of I1
   obtain⟨it2,_,q2⟩:=g2.of I1
   refine ZP.new q1 q2 λ h' z TI TO i1 i2 nw D S up=>wpAny_pyIter_zip S.z ?_
   exact⟨z,[z,TI,TO,i1,i2],_,_,H1,rfl,I1.kept (t':=s1.toks) up,Wk D,S,λ b hb=>I1.ma (nw b hb) (I1.zC.fresh (nw b hb)),q⟩
end
end L2
namespace L5
open PySem PySem.Spec L2 L3
open PyProof.Rows hiding St
section
variable {K:Ab}{a:Expr}{p:Pos}
def Zl (t:yi):wj:=fun Y S R=>t Y S λ ds S1=>∃ d e xs ys,ds=[d,e]/\zQ d S1=some xs/\zQ e S1=some ys/\R ⟨List.zipWith (λ x y=>D.tup [x,y]) xs ys,λ S=>zQ d S=some xs/\zQ e S=some ys⟩ S1
noncomputable def nR:D->Bool
 | .tup _=>true
 | _=>false
def zQ.k {H:Hp}{S:SS}{d:D}{v:V}{ds:List D}(r:zg K H d v) (p:zJ K H S) (e:zQ d S=some ds):∃ a xs,v=.ref a/\wo K H (nR d) a xs/\zl K H ds xs:=by
 by_cases q:∃ ts,d=.tup ts
 ·obtain⟨ts,rfl⟩:=q
  cases e
  simp only[zg] at r
  obtain⟨a,xs,h1,h2,h3⟩:=r
  exact⟨a,xs,h1,h2,h3⟩
 ·obtain⟨a,xs,h1,h2,h3⟩:=rC r p e λ ts z=>q ⟨ts,z⟩
  refine⟨a,xs,h1,?_,h3⟩
  have:nR d=false:=by cases d <;> first | rfl | exact absurd ⟨_,rfl⟩ q
  rw[this];exact h2
end
section
variable {X:Cx}{a b:Expr}{tA:yi}{pos p pos':Pos}{es:List Expr}{kk:Nat}
def bX (hm:X.mg "zip"=none) (ha:xm X [a,b] tA) (hg:Gl X "zip":=by rfl) (hs:starEach [a,b] X.env=[(false,eval a X.env),(false,eval b X.env)]:=by rfl) (GD:starEach [b] X.env=[(false,eval b X.env)]:=by rfl):
  uN X (.Tuple es kk pos') (.Call (.Name "zip" p) [a,b] [] pos) (Zl tA):=by
 refine⟨fun Y S Q Q' hq z=>ha.mo Y S _ _ (λ ds S1 ⟨d,e,xs,ys,h1,h2,h3,h4⟩=>⟨d,e,xs,ys,h1,h2,h3,hq _ _ h4⟩) z,PI.imp (UA hg hm ha.pa hs GD) fun B H R hu=>?_⟩
 obtain⟨Y,S,r1,r2,z⟩:=hu
 refine xQ.go ha.mo r1 r2 z λ ds S1 vs H1 h1 q1 e1 p1=>?_
 obtain⟨d,e,xs,ys,rfl,s1,s2,h⟩:=h1
 obtain⟨v,u,rfl,d1,d2⟩:=q1.two
 obtain⟨a1,us,rfl,g1,g2⟩:=zQ.k d1 p1 s1
 obtain⟨a2,ws,rfl,g3,g4⟩:=zQ.k d2 p1 s2
 refine⟨a1,a2,nR d,nR e,rfl,⟨us,g1⟩,⟨ws,g3⟩,h _ H1 e1 p1 λ i H2 S2 x1 x2 hk=>?_⟩
 obtain⟨b1,Ir,q1,m1,m2⟩:=zQ.k (zg.ext x1 d d1) x2 hk.1
 cases q1
 obtain⟨b2,ws2,q2,m3,m4⟩:=zQ.k (zg.ext x1 e d2) x2 hk.2
 cases q2
 have l1:=m2.length
 have l2:=m4.length
 refine⟨λ dd hd=>?_,λ hl=>⟨Ir,ws2,m1,m3,?_⟩⟩
 ·rw[List.getElem?_zipWith] at hd
  split at hd
  ·rename_i dx dy hx hy
   cases hd
   obtain⟨x,G6,rx⟩:=m2.get hx
   obtain⟨y,hy',ry⟩:=m4.get hy
   refine⟨⟨Ir,ws2,x,y,m1,m3,G6,hy'⟩,λ v H' q=>?_⟩
   obtain⟨pp,x',y',rfl,hp,rfl,f1,f2⟩:=q
   have ex:x'=x:=by have:=f1 _ m1;rw[G6] at this;exact (A5 this).symm
   have ey:y'=y:=by have:=f2 _ m3;rw[hy'] at this;exact (A5 this).symm
   subst ex ey
   refine⟨.new hp _,x2.new hp,?_⟩
   simp only[zg]
   exact⟨pp,_,rfl,zT.of y7,zl.ext (.new hp _) _ (.cons rx (.cons ry .nil))⟩
  ·cases hd
 ·have GO:(List.zipWith (λ x y=>D.tup [x,y]) xs ys).length<=i:=hl
  rw[List.length_zipWith] at GO
  lia
@[simp] noncomputable def qW:List T->Option (List T)
 | [x,y]=>(xX x).bind λ xs=>(xX y).map λ ys=>List.zipWith (λ a b=>T.tup [a,b]) xs ys
 | _=>none
theorem cN {S:SS}:∀ {ts us:List T}{ds es:List D},zk S ts ds->zk S us es->zk S (List.zipWith (λ a b=>T.tup [a,b]) ts us) (List.zipWith (λ x y=>D.tup [x,y]) ds es)
 | [],us,ds,es,h,h'=>by simp only[zk] at h;subst h;simpa using zk.nil
 | t::ts,[],ds,es,h,h'=>by simp only[zk] at h';subst h';simpa using zk.nil
 | t::ts,u::us,ds,es,h,h'=>by
  simp only[zk] at h h'
  obtain⟨c,cs,rfl,h1,h2⟩:=h
  obtain⟨c',cs',rfl,h3,h4⟩:=h'
  exact zk.cons (qp (zk.cons h1 (zk.cons h3 zk.nil))) (cN h2 h4)
def zQ.sx {S S':SS}{d:D}{ds:List D}(h:zQ d S=some ds) (s:Sx S S'):zQ d S'=some ds:=by
 unfold zQ at h ⊢
 split at h
 ·exact h
 ·exact h
 ·split at h
  ·rename_i q
   cases h
   rw[s _ _ q]
  ·cases h
 ·cases h
def Rb {g:Ev->Option (List T)}(h:ra g tA):s_ false (xa qW g) (Zl tA):=λ S Z Y J ts Q hE e hq=>by
 obtain⟨ys,e1,e2⟩:=Ai.mp e
 refine h S Z Y J ys _ hE e1 λ ds S1 s1 r1=>?_
 unfold qW at e2
 split at e2
 ·obtain⟨xs,e3,e4⟩:=Ai.mp e2
  obtain⟨zs,e5,rfl⟩:=AE.mp e4
  obtain⟨d,d',rfl,h1,h2⟩:=ia r1
  obtain⟨es,g1,g2⟩:=h1.seq e3
  obtain⟨F8,g3,g4⟩:=h2.seq e5
  exact⟨d,d',es,F8,rfl,g1,g3,hq _ S1 s1 (cN g2 g4) λ Ig s=>⟨zQ.sx g1 s,zQ.sx g3 s⟩⟩
 ·cases e2
end
end L5
namespace HT
open PySem PyProof.Rows
section
variable {prog:Program}{w:World}{A:Around}{E:Ad}{s:Shared}
def Nx {t sl:Addr}{items:Ar}{vl vu:Value}{lo hi:Option Int}{Q:Ad}(ht:IsTup s.heap t items) (hs:s.heap.IsSliceOf sl vl vu .none) (pl:IsPart vl lo) (pu:IsPart vu hi)
  (hw:zG items.size 0 lo=0/\zG items.size items.size hi=items.size) (h:Q (.ref t) s):wpAny (model prog w) A (getItem (.ref t) (.ref sl)) Q E s:=by
 have hT:=ht.typeIs
 obtain⟨os,e1,e2,e3⟩:=id hs
 have hS:s.TypeIs (.ref sl) "slice":=⟨os,e1,e2⟩
 unfold getItem
 try with_reducible refine Kt ?_
 first | refine JC (Ac ?_) | skip
 refine JC (wpAny_sequenceKey hT (by decide) (JC (KD (name:=Str.ofString "__getitem__") hT PyProof.Rows.slot_tuple_getitem (Kw PyProof.Rows.slot_tuple_getitem hT entry_tuple_getitem ?_ (args_tuple_getitem _ _)))))
 refine JC (m:=Builtin.Tuple.tupleItemsOf (.ref t)) (tupleItemsOf_ ht (JC (KI hS ?_)))
 rw[if_pos (by decide)]
 refine JC (cT hs pl pu ?_)
 have yes:(((zG items.size 0 lo:Nat):Int) == 0&&(1:Int) == 1&&(zG items.size items.size hi-zG items.size 0 lo) == items.size)=true:=by rw[hw.1,hw.2];simp
 show wpAny _ _ (if (((zG items.size 0 lo:Nat):Int) == 0&&(1:Int) == 1&&(zG items.size items.size hi-zG items.size 0 lo) == items.size)=true then _ else _) _ _ s
 rw[if_pos yes]
 refine JC (m:=Builtin.Tuple.tupleIsExact (.ref t)) (JC (KI hT (Ac ?_)))
 rw[if_pos (by decide)]
 first
  | exact JC (wpAny_rule (Ac ⟨_,rfl,Ac h⟩))
  | exact JC (wpAny_rule (JC (Ac (Ac ⟨_,rfl,Ac h⟩))))
end
end HT
namespace L2
open PySem PySem.Spec PyProof.Rows
section
variable {X:Cx}
def b9 (K:Ab):V->Option Int->Option Int->Hp->VK->Prop:=λ x lo hi H Q=>∃ a xs,x=.ref a/\zT K H a xs/\(HT.zG xs.length 0 lo=0/\HT.zG xs.length xs.length hi=xs.length)/\Q (.ref a) H
def Vc:qc X (b9 X.K):=by
 intro EH s B H x v vl vu lo hi sl Q I rx hs pl pu h
 obtain⟨a,xs,rfl,hx,hw,q⟩:=h
 cases rx
 obtain⟨its,r,ht,hz⟩:=I.tuple hx
 have hlen:its.toArray.size=xs.length:=by rw[Ax];exact r.length.symm
 exact⟨"tuple",_,PyProof.Rows.slot_tuple_getitem.lookup,ht.typeIs,HT.Nx ht hs pl pu (by rw[hlen];exact hw) ⟨.ref a,H,I,rfl,q⟩⟩
end
end L2
namespace L5
open PySem PySem.Spec L2 L3
open PyProof.Rows hiding St
def uo {α:Type}(xs:List α) (lo hi:Option Int):List α:=(xs.drop (HT.zG xs.length 0 lo)).take (HT.zG xs.length xs.length hi-HT.zG xs.length 0 lo)
section
variable {X:Cx}{K:Ab}{e:Expr}{lo hi:Option Expr}{te:zu}{tl th:Option zu}{pos p2:Pos}
def uK (t:Option zu):yj->SS->(Option Int->SS->Prop)->Prop:=fun Y S Q=>match t with
 | none=>Q none S
 | some t=>t Y S λ d S1=>match d with
  | .int i=>Q (some i) S1
  | _=>False
def Xa (t:Option zu):Prop:=∀ u,t=some u->yk u
def uK.mo (h:Xa tl):∀ Y S (Q Q':Option Int->SS->Prop),(∀ d S',Q d S'->Q' d S')->uK tl Y S Q->uK tl Y S Q':=fun Y S Q Q' hq z=>by
 cases tl with
 | none=>exact hq _ _ z
 | some t=>exact h t rfl Y S _ _ (λ d S1 z=>by cases d <;> first | exact hq _ _ z | exact z) z
noncomputable def Wd (K:Ab) (t:Option zu):TO:=fun B H Q=>∃ Y S,yK K H Y B/\zJ K H S/\uK t Y S λ o S1=>∀ H1,Ext H H1->zJ K H1 S1->Q o H1
structure j8 (X:Cx) (e:Option Expr) (t:Option zu):Prop where
 mo:Xa t
 po:PO X e (Wd X.K t)
def T3:j8 X none none:=⟨nofun,λ EH s B H Q I h=>by
 obtain⟨Y,S,r1,r2,z⟩:=h
 exact U4 EH s B H Q I (z H (.refl H) r2)⟩
def T2 (h:PD X e te):j8 X (some e) (some te):=⟨λ u q=>by cases q;exact h.mo,λ EH s B H Q I hu=>by
 refine U3 h.pe EH s B H Q I ?_
 obtain⟨Y,S,r1,r2,z⟩:=hu
 refine zO.go h.mo r1 r2 z λ d S1 v H1 h1 q1 e1 p1=>?_
 cases d with
 | int i=>simp only[zg] at q1;exact⟨i,q1,h1 H1 e1 p1⟩
 | zr=>exact h1.elim
 | bl _=>exact h1.elim
 | str _=>exact h1.elim
 | err _ _ _=>exact h1.elim
 | tup _=>exact h1.elim
 | xE _=>exact h1.elim
 | ref _=>exact h1.elim⟩
def uG (d:D) (lo hi:Option Int) (S:SS) (Q:DK):Prop:=match d with
 | .tup ds=>Q (.tup (uo ds lo hi)) S
 | d=>∃ ds,zQ d S=some ds/\∀ p,S p=none->Q (.ref p) (ups S p (.lst (uo ds lo hi)))
def uG.mo {d:D}{lo hi:Option Int}{S:SS}{Q Q':DK}(hq:∀ d S',Q d S'->Q' d S') (h:uG d lo hi S Q):uG d lo hi S Q':=by
 unfold uG at h ⊢
 split at h
 ·exact hq _ _ h
 ·obtain⟨ds,h1,h2⟩:=h
  exact⟨ds,h1,λ p hp=>hq _ _ (h2 p hp)⟩
def zl.cut {H:Hp}{ds:List D}{xs:List V}(h:zl K H ds xs) (lo hi:Option Int):zl K H (uo ds lo hi) (tQ xs lo hi):=by
 have hd:∀ {ds:List D}{xs:List V}(n:Nat),zl K H ds xs->zl K H (ds.drop n) (xs.drop n):=by
  intro ds
  induction ds with
  | nil=>intro xs n h;simp only[zl] at h;subst h;simpa using zl.nil
  | cons d ds ih=>
   intro xs n h
   simp only[zl] at h
   obtain⟨y,ys,rfl,h1,h2⟩:=h
   cases n with
   | zero=>exact .cons h1 h2
   | succ n=>exact ih n h2
 have ht:∀ {ds:List D}{xs:List V}(n:Nat),zl K H ds xs->zl K H (ds.take n) (xs.take n):=by
  intro ds
  induction ds with
  | nil=>intro xs n h;simp only[zl] at h;subst h;simpa using zl.nil
  | cons d ds ih=>
   intro xs n h
   simp only[zl] at h
   obtain⟨y,ys,rfl,h1,h2⟩:=h
   cases n with
   | zero=>exact .nil
   | succ n=>exact .cons h1 (ih n h2)
 unfold uo tQ
 rw[h.length]
 exact ht _ (hd _ h)
def Ny {xs:List V}{lo hi:Option Int}(h:HT.zG xs.length 0 lo=0/\HT.zG xs.length xs.length hi=xs.length):tQ xs lo hi=xs:=by
 unfold tQ
 rw[h.1,h.2]
 simp
abbrev VZ (K:Ab):V->Option Int->Option Int->Hp->VK->Prop:=λ x lo hi H Q=>bB K x lo hi H Q\/(bA K x lo hi H Q\/b9 K x lo hi H Q)
def uG.fits {d:D}{v:V}{lo hi:Option Int}{H:Hp}{S:SS}{Q:VK}(h1:zg K H d v) (h2:zJ K H S) (h:uG d lo hi S (wA K H Q)):VZ K v lo hi H Q:=by
 unfold uG at h
 split at h
 ·simp only[zg] at h1
  obtain⟨a,xs,rfl,g1,g2⟩:=h1
  by_cases hw:HT.zG xs.length 0 lo=0/\HT.zG xs.length xs.length hi=xs.length
  ·refine .inr (.inr ⟨a,xs,rfl,g1,hw,h _ H ?_ (.refl H) h2⟩)
   simp only[zg]
   refine⟨a,xs,rfl,g1,?_⟩
   have:=zl.cut g2 lo hi
   rw[Ny hw] at this
   exact this
  ·refine .inr (.inl ⟨a,xs,rfl,g1,hw,λ p hp=>h _ _ ?_ (.new hp _) (h2.new hp)⟩)
   simp only[zg]
   exact⟨p,_,rfl,zT.of y7,zl.ext (.new hp _) _ (zl.cut g2 lo hi)⟩
 ·rename_i hn
  obtain⟨ds,e,h⟩:=h
  obtain⟨a,xs,rfl,g1,g2⟩:=rC h1 h2 e (λ ts z=>hn ts z)
  exact .inl ⟨a,xs,rfl,g1,λ p hp=>h p (h2.none hp) _ _ (by simp only[zg]) (.new hp _) (h2.ups (.new hp _) ⟨_,y7,zl.ext (.new hp _) _ (zl.cut g2 lo hi)⟩)⟩
def Yl (te:zu) (tl th:Option zu):zu:=fun Y S Q=>te Y S λ x S1=>uK tl Y S1 λ l S2=>uK th Y S2 λ u S3=>uG x l u S3 Q
def TF (he:PD X e te) (hl:j8 X lo tl) (hh:j8 X hi th):PD X (.Subscript e (.Slice lo hi none p2) pos) (Yl te tl th):=by
 refine⟨fun Y S Q Q' hq z=>he.mo Y S _ _ (λ x S1 z=>uK.mo hl.mo Y S1 _ _ (λ l S2 z=>uK.mo hh.mo Y S2 _ _ (λ u S3 z=>uG.mo hq z) z) z) z,
  PE.imp (UT (Vf.or (Vd.or Vc)) he.pe hl.po hh.po) fun B H Q hu=>?_⟩
 obtain⟨Y,S,r1,r2,z⟩:=hu
 refine zO.go he.mo r1 r2 z λ x S1 v H1 h1 q1 e1 p1=>?_
 refine⟨Y,S1,r1.ext e1,p1,uK.mo hl.mo Y S1 _ _ (λ l S2 h2 H2 e2 p2=>?_) h1⟩
 refine⟨Y,S2,(r1.ext e1).ext e2,p2,uK.mo hh.mo Y S2 _ _ (λ u S3 h3 H3 e3 p3=>?_) h2⟩
 exact uG.fits (zg.ext (e2.trans e3) x q1) p3 (uG.mo (λ d S' z=>z.ext ((e1.trans e2).trans e3)) h3)
@[simp] noncomputable def mP:Option (Ev->Option T)->Ev->Option (Option Int)
 | none,_=>some none
 | some f,J=>(f J).bind λ x=>match x with
  | .int i=>some (some i)
  | _=>none
def jG (f:Option (Ev->Option T)) (t:Option zu):Prop:=∀ S Z Y J y Q,ER S Z Y J->mP f J=some y->(∀ S',Sx S S'->Q y S')->uK t Y S Q
def Rt:jG none none:=λ S Z Y J y Q hE e hq=>by cases e;exact hq S (.refl S)
def Rr {f:Ev->Option T}(h:yv f te):jG (some f) (some te):=λ S Z Y J y Q hE e hq=>by
 obtain⟨x,e1,e2⟩:=Ai.mp e
 refine h S Z Y J x _ hE e1 λ d S1 s1 r1=>?_
 split at e2
 ·cases e2
  cases Vw.int r1
  exact hq S1 s1
 ·cases e2
@[simp] noncomputable def jz (lo hi:Option Int):T->Option T
 | .tup ts=>some (.tup (uo ts lo hi))
 | .lst ts=>some (.lst (uo ts lo hi))
 | _=>none
@[simp] def lV (f:Ev->Option T) (lo hi:Option (Ev->Option T)):Ev->Option T:=fun J=>(f J).bind λ x=>(mP lo J).bind λ l=>(mP hi J).bind λ u=>jz l u x
def zk.cut {S:SS}{ts:List T}{ds:List D}(h:zk S ts ds) (lo hi:Option Int):zk S (uo ts lo hi) (uo ds lo hi):=by
 unfold uo
 rw[h.len]
 exact zk.take' _ (zk.drop' _ h)
def R5 {f:Ev->Option T}{l u:Option (Ev->Option T)}(h:yv f te) (hl:jG l tl) (hu:jG u th):xy (lV f l u) (Yl te tl th):=λ S Z Y J y Q hE e hq=>by
 obtain⟨x,e1,e⟩:=Ai.mp e
 obtain⟨l',e2,e⟩:=Ai.mp e
 obtain⟨u',e3,e⟩:=Ai.mp e
 refine h S Z Y J x _ hE e1 λ d S1 s1 r1=>?_
 refine hl S1 Z Y J l' _ (hE.grow s1) e2 λ S2 s2=>?_
 refine hu S2 Z Y J u' _ (hE.grow (s1.trans s2)) e3 λ S3 s3=>?_
 have r3:Vw S3 Z x d:=Vw.grow r1 (s2.trans s3)
 have hz:=(hE.grow ((s1.trans s2).trans s3)).zd
 unfold jz at e
 split at e
 ·cases e
  obtain⟨ds,rfl,h2⟩:=r3.tup
  exact hq _ S3 ((s1.trans s2).trans s3) (Cl.of (λ _=>nofun) (qp (zk.cut h2 _ _)))
 ·cases e
  obtain⟨ds,h1,h2⟩:=r3.seq rfl
  have key:∃ ds,zQ d S3=some ds/\∀ p,S3 p=none->Q (.ref p) (ups S3 p (.lst (uo ds l' u'))):=⟨ds,h1,λ p hp=>hq _ _ (((s1.trans s2).trans s3).trans (.new hp _)) (Cl.cl ((s1.trans s2).trans s3) (su hz hp (zk.cut h2 _ _)))⟩
  obtain⟨_,q | ⟨a,q,_⟩,_⟩:=r3.lst
  ·subst q;exact key
  ·subst q;exact key
 ·cases e
end
end L5
namespace TM
open PySem PyProof.Rows
def noFill:fillsNumberSlot (.type "tuple") "mul"=pure false:=
 PySem.fillsNumberSlot_seq (id:="tuple.__mul__") (r:=some (.builtin "tuple.__rmul__")) F.slot_tuple_mul.lookup (AB) F.slot_tuple_rmul.lookup (AB)
def rep:seqRepeat? (.type "tuple")=pure (some (.builtin "tuple.__mul__")):=by
 have a:=PySem.seqSlot_of (T:="tuple") (name:="__mul__") (id:="tuple.__mul__") F.slot_tuple_mul.lookup (AB)
 have b:=PySem.seqSlot_of (T:="tuple") (name:="__rmul__") (id:="tuple.__rmul__") F.slot_tuple_rmul.lookup (AB)
 unfold seqRepeat?
 rw[a,b]
 rfl
def declines (i:Int) (t:Tok) (l:Addr) (items:Ar) (n:Nat) (dd:Option Addr) (sl:Array (Option Value)):
  Meets (Builtin.«int.__rmul__» ⟨[.int i t,.ref l],[]⟩) (λ _ R s=>s.heap.get? l=some { cls:=.type "tuple",dict:=dd,data:=.seq items n,slots:=sl }/\R (.ok (.ret Value.notImplemented)) s):=
 .of_wp λ prog w A R s h=>by
  obtain⟨hp,g,d,tk,os⟩:=s
  obtain⟨hl,h⟩:=h
  wp_walk
  exact⟨_,rfl,h⟩
theorem fL {α:Type}(xs:List α):∀ (m:Nat) (acc:Array α),(List.replicate m xs.toArray).foldl (·++·) acc=acc++(List.replicate m xs).flatten.toArray
 | 0,acc=>by simp
 | m+1,acc=>by
  rw[BN,Dp,fL xs m,BN,Cf,Array.append_assoc]
  simp
def QI (k:Int) (t:Tok) (l:Addr) (items:Ar) (n:Nat) (dd:Option Addr) (sl:Array (Option Value)) (h1:¬ (decide (k < -(2 ^ 63))||decide (k≥2 ^ 63))=true) (h2:¬ (items.isEmpty||k == 1)=true) (h3:¬ (decide (k<=0)||items.isEmpty)=true)
  (h4:¬ (items.size*k>(2 ^ 63-1)/8)) (h5:¬ Builtin.Tuple.tupleTooMany (items.size*k)=true) (h6:((List.replicate k.toNat items).foldl (·++·) #[]).size<=sizeLine):
  Meets (Builtin.«tuple.__mul__» ⟨[.ref l,.int k t],[]⟩) (λ _ R s=>s.heap.get? l=some { cls:=.type "tuple",dict:=dd,data:=.seq items n,slots:=sl }/\
   R (.ok (.ret (.ref s.heap.objs.size))) { s with heap:=s.heap.push { cls:=.type "tuple",data:=.seq ((List.replicate k.toNat items).foldl (·++·) #[]) } }):=
 .of_wp λ prog w A R s h=>by
  obtain⟨hp,g,d,tk,os⟩:=s
  obtain⟨hl,h⟩:=h
  have e0:IsTup (Shared.heap ⟨hp,g,d,tk,os⟩) l items:=⟨_,hl,rfl,n,rfl⟩
  wp_walk
  rw[if_neg h1]
  refine JC (m:=Builtin.Tuple.tupleItemsOf (.ref l)) (tupleItemsOf_ e0 ?_)
  dsimp only
  rw[if_neg h2,if_neg h3,if_neg h4,if_neg h5]
  exact JC (m:=Builtin.Tuple.tupleExact _) (Kz (Ac ⟨_,rfl,h⟩) h6)
def QJ (t:Tok) (l:Addr) (items:Ar) (n:Nat) (dd:Option Addr) (sl:Array (Option Value)):
  Meets (Builtin.«tuple.__mul__» ⟨[.ref l,.int 1 t],[]⟩) (λ _ R s=>s.heap.get? l=some { cls:=.type "tuple",dict:=dd,data:=.seq items n,slots:=sl }/\R (.ok (.ret (.ref l))) s):=
 .of_wp λ prog w A R s h=>by
  obtain⟨hp,g,d,tk,os⟩:=s
  obtain⟨hl,h⟩:=h
  have c:(items.isEmpty||(1:Int) == 1)=true:=by simp
  wp_walk
  exact⟨_,rfl,h⟩
section
variable {prog:Program}{w:World}{A:Around}{E:Ad}{s:Shared}
def times {l:Addr}{its:Af}{k:Int}{t:Tok}{Q:Ad}(ht:IsTup s.heap l its.toArray) (Am:its≠[]) (h0:1<=k) (hz:its.length*k.toNat<=sizeLine)
  (one:k=1->Q (.ref l) s) (more:k≠1->Q (.ref s.heap.objs.size) { s with heap:=s.heap.push { cls:=.type "tuple",data:=.seq (List.replicate k.toNat its).flatten.toArray } }):
  wpAny (model prog w) A (binaryOp .Mult (.ref l) (.int k t)) Q E s:=by
 have hT:=ht.typeIs
 obtain⟨⟨cls,dd,data,sl⟩,ho,hc,n,hd⟩:=id ht
 simp only at hc hd
 subst hc hd
 refine wpAny_binaryOp_repeat_ref (T:="tuple") (U:="int") (by decide) hT (λ s'=>typeIs_int s' k t) noFill F.fills_int_mul F.slot_int_rmul rep F.slot_int_index.lookup
  (call_meets F.slot_int_rmul (typeIs_int s k t) F.entry_int_rmul (F.args_int_rmul_2 _ _) (declines k t l its.toArray n dd sl) ⟨ho,rfl,hT,?_⟩)
 have hlen:0<its.length:=List.length_pos_iff.mpr Am
 have DI:its.toArray.isEmpty=false:=by cases its with
  | nil=>exact absurd rfl Am
  | cons a r=>rfl
 by_cases h1:k=1
 ·subst h1
  exact call_meets F.slot_tuple_mul hT F.entry_tuple_mul (F.args_tuple_mul_2 _ _) (QJ t l its.toArray n dd sl) ⟨ho,one rfl⟩
 ·have hks:k.toNat<=sizeLine:=A8 (Nat.le_mul_of_pos_left _ hlen) hz
  have hl:sizeLine=16777216:=rfl
  have J5:k<=16777216:=by lia
  have HG:((its.toArray.size:Nat):Int)*k=((its.length*k.toNat:Nat):Int):=by
   rw[Ax,Int.natCast_mul,Ct (by lia)]
  have hf:(List.replicate k.toNat its.toArray).foldl (·++·) #[]=(List.replicate k.toNat its).flatten.toArray:=by rw[fL];simp
  have Ez:(List.replicate k.toNat its).flatten.length=k.toNat*its.length:=by simp
  refine call_meets F.slot_tuple_mul hT F.entry_tuple_mul (F.args_tuple_mul_2 _ _) (QI k t l its.toArray n dd sl ?_ ?_ ?_ ?_ ?_ ?_) ⟨ho,?_⟩
  ·simp only[DR,decide_eq_true_eq,not_or]
   exact⟨by lia,by lia⟩
  ·rw[DI];simpa using h1
  ·rw[DI];simp;lia
  ·rw[HG];lia
  ·rw[HG]
   intro q
   unfold Builtin.Tuple.tupleTooMany at q
   have:=of_decide_eq_true q
   lia
  ·rw[hf,Ax,Ez,Ds];exact hz
  ·rw[hf];exact more h1
end
end TM
namespace L2
open PySem PySem.Spec PyProof.Rows
def gi (K:Ab):R2:=λ x y H Q=>∃ a k xs,x=.ref a/\y=.int k/\zT K H a xs/\xs≠[]/\1<=k/\xs.length*k.toNat<=sizeLine/\(k=1->Q (.ref a) H)/\(k≠1->∀ p,H p=none->Q (.ref p) (upd H p (.tup (List.replicate k.toNat xs).flatten)))
def Sq {X:Cx}:yc X (binaryOp .Mult) (gi X.K):=by
 intro EH s B H x y v u Q I rx ry h
 obtain⟨a,k,xs,rfl,rfl,hx,Am,h1,hz,q1,q2⟩:=h
 cases rx
 obtain⟨t,rfl⟩:=ry
 obtain⟨its,r,ht,_⟩:=I.tuple hx
 have hl:=r.length
 refine TM.times ht (λ z=>Am (r.nH.mp z)) h1 (by rw[<- hl];exact hz) (λ e=>⟨.ref a,H,I,rfl,q1 e⟩) λ e=>?_
 have hlen:(List.replicate k.toNat xs).flatten.length<=sizeLine:=by
  have:(List.replicate k.toNat xs).flatten.length=k.toNat*xs.length:=by simp
  rw[this,Ds];exact hz
 exact⟨.ref _,_,I.laid (t':=s.toks) (o:=.tup (List.replicate k.toNat xs).flatten) (λ b ob q=>Kr _ q) (Ah _) ⟨hlen,_,r.rep k.toNat,IsTup.new _ _⟩,rfl,q2 e _ (I.zC.fresh (Ah _))⟩
end L2
namespace L5
open PySem PySem.Spec L2 L3
open PyProof.Rows hiding St
section
variable {K:Ab}{a:Expr}
def tJ:yD:=λ x y S Q=>match x,y with
 | .int i,.int j=>vQ i j/\Q (.int (i*j)) S
 | .tup ds,.int k=>(ds≠[]/\1<=k/\ds.length*k.toNat<=sizeLine)/\Q (.tup (List.replicate k.toNat ds).flatten) S
 | _,_=>False
noncomputable def gO:T->T->Option T
 | .int i,.int j=>if vQ i j then some (.int (i*j)) else none
 | .tup ts,.int k=>if ts≠[]/\1<=k/\ts.length*k.toNat<=sizeLine then some (.tup (List.replicate k.toNat ts).flatten) else none
 | _,_=>none
def tJ.mo:xr tJ:=λ x y S Q Q' hq h=>by
 unfold tJ at h ⊢
 split at h
 ·exact⟨h.1,hq _ _ h.2⟩
 ·exact⟨h.1,hq _ _ h.2⟩
 ·exact h.elim
theorem zl.rep {H:Hp}{ds:List D}{xs:List V}(h:zl K H ds xs):∀ n:Nat,zl K H (List.replicate n ds).flatten (List.replicate n xs).flatten
 | 0=>.nil
 | n+1=>by
  rw[BN,BN,Cf,Cf]
  exact h.append (zl.rep h n)
def tJ.fits:xn K tJ (λ x y H Q=>rI vQ (λ i j=>.int (i*j)) x y H Q\/gi K x y H Q):=λ x y d e H S Q h1 h2 h3 h=>by
 unfold tJ at h
 split at h
 ·simp only[zg] at h1 h2
  exact .inl ⟨_,_,h1,h2,h.1,h.2 _ H (by simp only[zg]) (.refl H) h3⟩
 ·rename_i ds k
  obtain⟨⟨c1,c2,c3⟩,h⟩:=h
  have Jc:=h1
  simp only[zg] at h1 h2
  obtain⟨a,xs,rfl,g1,g2⟩:=h1
  have hl:=g2.length
  refine .inr ⟨a,k,xs,rfl,h2,g1,λ z=>c1 (by subst z;cases ds with | nil=>rfl | cons _ _=>simp at hl),c2,by rw[<- hl];exact c3,λ e=>?_,λ e p hp=>?_⟩
  ·subst e
   refine h _ H ?_ (.refl H) h3
   have:(List.replicate (1:Int).toNat ds).flatten=ds:=by simp
   rw[this];exact Jc
  ·refine h _ _ ?_ (.new hp _) (h3.new hp)
   simp only[zg]
   exact⟨p,_,rfl,zT.of y7,zl.ext (.new hp _) _ (zl.rep g2 _)⟩
 ·exact h.elim
theorem zk.rep {S:SS}{ts:List T}{ds:List D}(h:zk S ts ds):∀ n:Nat,zk S (List.replicate n ts).flatten (List.replicate n ds).flatten
 | 0=>.nil
 | n+1=>by
  rw[BN,BN,Cf,Cf]
  exact h.append (zk.rep h n)
def ZE:Good2 zF gO tJ:=λ S Z x y z d e Q hz hx hy ef hq=>by
 unfold gO at ef
 split at ef
 ·split at ef
  ·rename_i hc
   cases ef
   cases hx.int;cases hy.int
   exact⟨hc,hq _ S (.refl S) (Cl.of (λ _=>nofun) wy)⟩
  ·cases ef
 ·split at ef
  ·rename_i hc
   cases ef
   obtain⟨ds,rfl,h2⟩:=hx.tup
   cases hy.int
   have hl:=h2.len
   exact⟨⟨λ q=>hc.1 (by subst q;simpa using hl.symm),hc.2.1,by rw[hl];exact hc.2.2⟩,hq _ S (.refl S) (Cl.of (λ _=>nofun) (qp (zk.rep h2 _)))⟩
  ·cases ef
 ·cases ef
end
end L5
namespace L4
open PySem PyProof.Rows
section
variable {prog:Program}{w:World}{A:Around}{E:Ad}{s:Shared}
def N6 {l:Addr}{vs:Af}{Q:List Value->Shared->Prop}(hl:IsTup s.heap l vs.toArray) (hz:vs.length<=sizeLine)
  (h:Q vs { s with heap:=(s.heap.push (seqObj "list" #[] 0)).update s.heap.objs.size (Obj.mapSeq (·++vs.toArray)) }):wpAny (model prog w) A (collect (.ref l)) Q E s:=by
 obtain⟨o,ho,hc,n,hd⟩:=id hl
 have new:(s.heap.push (seqObj "list" #[] 0)).get? s.heap.objs.size=some (seqObj "list" #[] 0):=AF _ rfl
 have F7:(s.heap.push (seqObj "list" #[] 0)).get? l=some o:=Kr _ ho
 unfold collect
 refine JC (wpAny_runValue (codeAny_builtin entry_proto_collect' (JC (m:=newList []) (wpAny_newList (Ac ⟨Code.quiet_builtin _ (AB),codeAny_builtin entry_list_iadd' ?_⟩)))))
 show wpAny _ _ (Builtin.List.listExtendWith (.ref s.heap.objs.size) (.ref l) (.ref s.heap.objs.size)) _ _ { s with heap:=s.heap.push (seqObj "list" #[] 0) }
 unfold Builtin.List.listExtendWith
 refine JC (KI (T:="tuple") ⟨o,F7,hc⟩ ?_)
 rw[if_pos (by rw[show (Value.type "tuple" == Value.type "tuple")=true from rfl];simp)]
 refine JC (listItems_at F7 hd (JC (listItems_at (xs:=#[]) (n:=0) new rfl ?_)))
 rw[if_neg (by simp)]
 refine JC (listUpdate_at (xs:=#[]) (n:=0) new rfl (Ac ?_) (AO _) (by show (#[]++vs.toArray).size<=sizeLine+1;simp only[Array.size_append,Ax,C3];lia))
 refine JC (m:=load s.heap.objs.size) (wpAny_load (get?_update_seq new _) ?_)
 show wpAny _ _ (pure ((#[]:Ar)++vs.toArray).toList) Q E _
 have e:((#[]:Ar)++vs.toArray).toList=vs:=by simp
 rw[e]
 exact Ac h
def WV {l:Addr}{vs:Af}{Q:Ad}{Out:Array Value->Prop}(hl:IsTup s.heap l vs.toArray) (hz:vs.length<=sizeLine)
  (core:2<=vs.length->∀ s6:Shared,(∀ b o,s.heap.get? b=some o->s6.heap.get? b=some o)->Core prog w A.in1.in1 E vs Out s6) (short:vs.length<2->Out vs.toArray)
  (fin:∀ out:Array Value,Out out->out.size=vs.length->Q (.ref (s.heap.objs.size+1)) { s with heap:=sortedAll s.heap vs out }):
  wpAny (model prog w) A (call (.builtin "sorted") [.ref l]) Q E s:=by
 let h1:=(s.heap.push (seqObj "list" #[] 0)).update s.heap.objs.size (Obj.mapSeq (·++vs.toArray))
 have sz:h1.objs.size=s.heap.objs.size+1:=by show (Heap.update _ _ _).objs.size=_;rw[Heap.size_update,size_push']
 have there:(h1.push (seqObj "list" vs.toArray 0)).get? (s.heap.objs.size+1)=some (seqObj "list" vs.toArray 0):=sz▸AF _ rfl
 have keep:∀ b o,s.heap.get? b=some o->(h1.push (seqObj "list" vs.toArray 0)).get? b=some o:=λ b o q=>by
  refine Kr _ ?_
  show (Heap.update _ _ _).get? b=_
  rw[Heap.get?_update_ne _ _ _ _ (Aw (Ap q))]
  exact Kr _ q
 refine Calls.call_function_entry kind_sorted plain_sorted entry_sorted (args_sorted1 _) ?_
 unfold Builtin.«sorted»
 refine JC (m:=checkCount "sorted" 1 1 _) (Ac (JC (N6 hl hz (JC (wpAny_newList ?_ hz)))))
 show wpAny _ _ _ _ _ { s with heap:=h1.push (seqObj "list" vs.toArray 0) }
 rw[show (Heap.update (s.heap.push (seqObj "list" #[] 0)) s.heap.objs.size (Obj.mapSeq (·++vs.toArray))).objs.size=s.heap.objs.size+1 from sz]
 refine JC (Kt (Kw slot_list_sort ⟨_,there,rfl⟩ entry_list_sort (gW there hz (λ h2 s6 k=>core h2 s6 λ b o q=>k b o (Aw (Bv (Ap q))) (keep b o q)) short λ out g1 g2=>⟨_,rfl,?_⟩) (args_list_sort _)))
 exact Ac ⟨_,rfl,fin out g1 g2⟩
end
section
open L2 PySem.Spec
variable {X:Cx}
def NF:yA X (.builtin "sorted") (λ xs H Q=>∃ p ys,∃ rows:List (List Int),xs=[.ref p]/\zT X.K H p ys/\Paired (λ v r=>r≠[]/\∃ b,v=V.ref b/\zT X.K H b (r.map V.int)) ys rows/\rows.length<64/\
  ∀ (l:Addr) (idx:List Nat),H l=none->idx.Perm (List.range ys.length)->(idx.map λ i=>rows.getD i []).Pairwise (λ a b=>HT.lexLt b a=false)->Q (.ref l) (upd H l (.lst (idx.map λ i=>ys.getD i .zr)))):=by
 intro EH s B H xs us Q I r h
 obtain⟨p,ys,rows,rfl,hq,hr,Gu,q⟩:=h
 obtain⟨u,rfl,ru⟩:=vals1 r
 cases ru
 obtain⟨its,rv,pl,hz⟩:=I.tuple hq
 have hl:=rv.length
 have BU:ys.length=rows.length:=Paired.length hr
 have F5:∀ h6:Heap,(∀ b o,s.heap.get? b=some o->h6.get? b=some o)->sZ h6 its rows:=λ h6 k=>by
  refine ST.Paired.mk (by lia) λ i a b ha hb=>?_
  have hi:i<ys.length:=by have:=(AL.mp hb).1;lia
  obtain⟨Am,c,hc,Cw⟩:=L4.Paired.at' hr (i:=i) hi V.zr ([]:List Int)
  obtain⟨u,e1,e2⟩:=rv.get (i:=i) (x:=ys.getD i V.zr) (by simp[hi])
  rw[ha] at e1;cases e1
  rw[hc] at e2
  cases (show a=Value.ref c from e2)
  obtain⟨Fw,G5,⟨o,e,AN,n,hd⟩,_⟩:=I.tuple Cw
  have eb:rows.getD i []=b:=by simp[hb]
  rw[eb] at Am G5
  exact⟨Am,c,o,_,n,rfl,k _ _ e,AN,hd,by simpa using intsAre_of G5⟩
 refine WV (Out:=mX its rows) pl (by rw[<- hl];exact hz) (λ h2 s6 k=>fV (F5 _ k) h2 (by lia)) (λ h1=>?_) λ out ho hs=>?_
 ·refine⟨List.range its.length,.refl _,?_,?_⟩
  ·refine BC (by simp) λ i h1 h2=>?_
   simp at h1
   simp[h1]
  ·rw[BM,Ce]
   intro i j hi hj A4
   simp at hi hj
   lia
 ·obtain⟨idx,g1,g2,g3⟩:=ho
  obtain⟨e,ho⟩:=sortedAll_at s.heap its out
  have HJ:idx.Perm (List.range ys.length):=by rw[hl];exact g1
  refine⟨.ref (s.heap.objs.size+1),_,I.laid (t':=s.toks) (o:=.lst (idx.map λ i=>ys.getD i .zr)) (λ b o q=>sortedAll_old q) (C0 _) ?_,rfl,q _ idx (I.zC.fresh (C0 _)) HJ g3⟩
  refine⟨by rw[Ay,HJ.length_eq,BR];exact hz,out.toList,e,?_,by simpa using ho⟩
  rw[g2]
  refine ST.Paired.mk (by simp) λ j a b ha hb=>?_
  rw[AA] at ha hb
  obtain⟨i,hi,rfl⟩:=AE.mp ha
  rw[hi] at hb
  cases hb
  have CT:i<ys.length:=by simpa using HJ.mem_iff.mp (Bg hi)
  obtain⟨u,e1,e2⟩:=rv.get (i:=i) (x:=ys.getD i V.zr) (by simp[CT])
  have e3:its.getD i Value.none=u:=by simp[e1]
  show L2.RelV (ys.getD i V.zr) (its.getD i Value.none)
  rw[e3];exact e2
end
end L4
namespace L5
open PySem PySem.Spec L2 L3
open PyProof.Rows hiding St
section
variable {X:Cx}{K:Ab}{e:Expr}{es:List Expr}{tA:yi}{pos p:Pos}
def rQ:xB:=λ ds S Q=>∃ d,∃ rows:List (List Int),ds=[d]/\zQ d S=some (rows.map xY)/\rows.length<64/\(∀ r∈rows,r≠[])/\∀ l,S l=none->Q (.ref l) (ups S l (.lst ((L4.xD rows).map xY)))
noncomputable def vV:List T->Option T
 | [y]=>(xX y).bind λ ts=>(vw ts).bind λ rs=>if rs.length<64/\∀ r∈rs,r≠[] then some (.lst ((L4.xD rs).map zD)) else none
 | _=>none
def Ou:vO zF vV rQ:=λ S Z ys z ds Q hz hv e hq=>by
 unfold vV at e
 split at e
 ·obtain⟨d,rfl,h1⟩:=vR hv
  obtain⟨ts,e0,e⟩:=Ai.mp e
  obtain⟨rs,e1,e2⟩:=Ai.mp e
  split at e2
  ·rename_i hc
   cases e2
   cases h_ e1
   obtain⟨es,h2,h3⟩:=h1.seq e0
   cases q_.mp h3
   exact⟨d,rs,rfl,h2,hc.1,hc.2,λ l hl=>hq _ _ (.new hl _) (su hz hl (q_.mpr rfl))⟩
  ·cases e2
 ·cases e
def rQ.mo:vN rQ:=λ ds S Q Q' hq ⟨d,rows,h0,h1,h2,h3,h4⟩=>⟨d,rows,h0,h1,h2,h3,λ l hl=>hq _ _ (h4 l hl)⟩
abbrev b8 (K:Ab) (sq:Hp->Addr->List V->Prop):List V->Hp->VK->Prop:=λ xs H Q=>∃ p ys,∃ rows:List (List Int),xs=[.ref p]/\sq H p ys/\Paired (λ v r=>r≠[]/\∃ b,v=V.ref b/\zT K H b (r.map V.int)) ys rows/\rows.length<64/\
  ∀ (l:Addr) (idx:List Nat),H l=none->idx.Perm (List.range ys.length)->(idx.map λ i=>rows.getD i []).Pairwise (λ a b=>HT.lexLt b a=false)->Q (.ref l) (upd H l (.lst (idx.map λ i=>ys.getD i .zr)))
def yA.or {f:Value}{r r':List V->Hp->VK->Prop}(h:yA X f r) (h':yA X f r'):yA X f (λ xs H Q=>r xs H Q\/r' xs H Q):=λ EH s B H xs us Q I rv q=>
 q.elim (λ q=>h EH s B H xs us Q I rv q) λ q=>h' EH s B H xs us Q I rv q
def rQ.fits:uP K rQ (λ xs H Q=>b8 K (zM K) xs H Q\/b8 K (zT K) xs H Q):=λ xs ds H S Q h0 h2 h=>by
 obtain⟨d,rows,rfl,e,Gu,Am,h⟩:=h
 obtain⟨x,hx,h1⟩:=h0.one;subst hx
 obtain⟨a,ys,rfl,g1,g2⟩:=zQ.sq h1 h2 e
 have hl:=g2.length
 rw[Ay] at hl
 have key:∀ (l:Addr) (idx:List Nat),H l=none->idx.Perm (List.range ys.length)->(idx.map λ i=>rows.getD i []).Pairwise (λ a b=>HT.lexLt b a=false)->Q (.ref l) (upd H l (.lst (idx.map λ i=>ys.getD i .zr))):=λ l idx hf hp hs=>by
  rw[<- hl] at hp
  have heq:=L4.i0 (aR hp) hs
  have hx:Ext H (upd H l (.lst (idx.map λ i=>ys.getD i .zr))):=.new hf _
  refine h l (h2.none hf) _ _ (by simp only[zg]) hx (h2.ups hx ⟨_,y7,?_⟩)
  rw[<- heq]
  exact zl.ext hx _ (g2.perm λ i hi=>by simpa using hp.mem_iff.mp hi)
 rcases g1 with g1 | g1
 ·exact .inl ⟨_,ys,rows,rfl,g1,oT g2 Am,Gu,key⟩
 ·exact .inr ⟨_,ys,rows,rfl,g1,oT g2 Am,Gu,key⟩
def k9 (hm:X.mg "sorted"=none) (ha:xm X (e::es) tA) (hg:Gl X "sorted":=by rfl) (he:starEach (e::es) X.env=(false,eval e X.env)::starEach es X.env:=by rfl) (Aq:(backTo pos (starEach es X.env)).any (·.1)=false:=by rfl):PD X (.Call (.Name "sorted" p) (e::es) [] pos) (x9 rQ tA):=
 tp (u_ (yA.or L4.NI L4.NF) hg hm boot_sorted ha.pa (by decide) (by decide) he Aq) rQ.mo rQ.fits ha.mo
end
end L5
namespace L2
open PySem PySem.Spec PyProof.Rows
section
variable {X:Cx}
def uv (r:Addr) (j:Int):Heap->Prop:=λ h=>∃ t u v,IsRange h r 0 j 1 t u v
def NN:yA X (.type "range") (λ xs H Q=>∃ j,xs=[.int j]/\∀ r,H r=none->Q (.ref r) (upd H r (.ext (uv r j)))):=by
 intro EH s B H xs us Q I r h
 obtain⟨j,rfl,q⟩:=h
 obtain⟨u,rfl,ru⟩:=vals1 r
 obtain⟨t,rfl⟩:=ru
 refine call_range_1 ⟨.ref s.heap.objs.size,_,I.laid (o:=.ext (uv s.heap.objs.size j)) (λ b o e=>Kr _ e) (Ah _) ?_,rfl,q _ (I.zC.fresh (Ah _))⟩
 have here:uv s.heap.objs.size j (s.heap.push { cls:=.type "range",data:=.fields #[.int 0 s.toks,.int j t,.int 1 (s.toks+1)] }):=⟨_,_,_,IsRange.new ..⟩
 refine⟨here,⟨_,AF _ rfl⟩,λ h1 h2 S k=>?_⟩
 obtain⟨a,b,c,e⟩:=S
 exact⟨a,b,c,k _ e⟩
def NT (hc:X.calm=true):yA X (.type "list") (λ xs H Q=>∃ r j,xs=[.ref r]/\H r=some (.ext (uv r j))/\0<=j/\j<=16777216/\∀ l,H l=none->Q (.ref l) (upd H l (.lst ((List.range j.toNat).map λ(k:Nat)=>V.int (k:Int))))):=by
 intro EH s B H xs us Q I r h
 obtain⟨a,j,rfl,hr,h0,h1,q⟩:=h
 obtain⟨u,rfl,ru⟩:=vals1 r
 cases ru
 obtain⟨⟨t,u,v,hR⟩,-,-⟩:=(show yW X.prog X.w H s.heap a (.ext (uv a j)) from I.zC a _ hr)
 have hsz:Builtin.Range.rangeSize 0 j 1=((j.toNat:Nat):Int):=by rw[rangeSize_one];split <;> lia
 refine call_list_range (n:=j.toNat) (I.ok.hd hc) hR (small_one (by decide) (by decide) (by lia) (by lia)) hsz (by lia) λ h' tk acc c k e hi=>?_
 refine⟨.ref s.heap.objs.size,_,I.laid (o:=.lst ((List.range j.toNat).map λ(k:Nat)=>V.int (k:Int))) k (Ah _) ⟨?_,acc.toList,c,?_,by simpa using e⟩,rfl,q _ (I.zC.fresh (Ah _))⟩
 ·have:sizeLine=16777216:=rfl
  simp;lia
 ·obtain⟨hn,hi⟩:=hi
  refine ST.Paired.mk (by simp[hn]) λ i a b ha hb=>?_
  rw[AA] at ha
  obtain⟨k',hk,rfl⟩:=AE.mp ha
  obtain⟨hk1,J5⟩:=AL.mp hk
  simp at J5
  subst J5
  obtain⟨w,hw⟩:=hi i b (by simpa using hb)
  subst hw
  exact⟨w,by simp⟩
end
end L2
namespace L5
open PySem PySem.Spec L2 L3
open PyProof.Rows hiding St
section
variable {X:Cx}{K:Ab}{e:Expr}{tA:yi}{pos p Gb p2:Pos}
def sP:xB:=λ ds S Q=>∃ j:Int,ds=[.int j]/\0<=j/\j<=16777216/\∀ l,S l=none->Q (.ref l) (ups S l (.lst (ve 0 j.toNat)))
noncomputable def nM:List T->Option T
 | [.int j]=>if 0<=j/\j<=16777216 then some (.lst (rangeT 0 j.toNat)) else none
 | _=>none
def Oy:vO zF nM sP:=λ S Z ys z ds Q hz hv e hq=>by
 unfold nM at e
 split at e
 ·obtain⟨d,rfl,h1⟩:=vR hv
  split at e
  ·rename_i hc
   cases e
   cases h1.int
   exact⟨_,rfl,hc.1,hc.2,λ l hl=>hq _ _ (.new hl _) (su hz hl (i4 _ _))⟩
  ·cases e
 ·cases e
def sP.mo:vN sP:=λ ds S Q Q' hq ⟨j,h0,h1,h2,h3⟩=>⟨j,h0,h1,h2,λ l hl=>hq _ _ (h3 l hl)⟩
def VQ {H:Hp}(n:Nat):zl K H (ve 0 n) ((List.range n).map λ(k:Nat)=>V.int (k:Int)):=by
 unfold ve
 induction List.range n with
 | nil=>exact .nil
 | cons k l ih=>exact .cons (by simp only[zg];rw[Dk]) ih
def sP.fits:uP K sP (λ xs H Q=>∃ j,xs=[.int j]/\∀ r,H r=none->∃ r' j',[V.ref r]=[.ref r']/\(upd H r (.ext (uv r j))) r'=some (.ext (uv r' j'))/\0<=j'/\j'<=16777216/\
  ∀ l,(upd H r (.ext (uv r j))) l=none->Q (.ref l) (upd (upd H r (.ext (uv r j))) l (.lst ((List.range j'.toNat).map λ(k:Nat)=>V.int (k:Int))))):=λ xs ds H S Q h0 h2 h=>by
 obtain⟨j,rfl,c1,c2,h⟩:=h
 obtain⟨x,hx,h1⟩:=h0.one;subst hx
 simp only[zg] at h1
 subst h1
 refine⟨j,rfl,λ r hr=>⟨r,j,rfl,y7,c1,c2,λ l hl=>?_⟩⟩
 have x1:Ext H (upd H r (.ext (uv r j))):=.new hr _
 have BU:l≠r:=λ z=>by subst z;rw[y7] at hl;cases hl
 have hlH:H l=none:=by rw[yq BU] at hl;exact hl
 have x2:Ext (upd H r (.ext (uv r j))) (upd (upd H r (.ext (uv r j))) l (.lst ((List.range j.toNat).map λ(k:Nat)=>V.int (k:Int)))):=.new hl _
 exact h l (h2.none hlH) _ _ (by simp only[zg]) (x1.trans x2) ((h2.new hr).ups x2 ⟨_,y7,VQ _⟩)
def TK (hm:X.mg "list"=none) (Hs:X.mg "range"=none) (ha:xm X [e] tA) (hc:X.calm=true:=by rfl) (hg:Gl X "list":=by rfl) (G2:Gl X "range":=by rfl)
  (IX:starEach [e] X.env=(false,eval e X.env)::starEach [] X.env:=by rfl)
  (he:starEach [.Call (.Name "range" p2) [e] [] Gb] X.env=(false,eval (.Call (.Name "range" p2) [e] [] Gb) X.env)::starEach [] X.env:=by rfl) (Aq:(backTo pos (starEach [] X.env)).any (·.1)=false:=by rfl) (HX:(backTo Gb (starEach [] X.env)).any (·.1)=false:=by rfl):
  PD X (.Call (.Name "list" p) [.Call (.Name "range" p2) [e] [] Gb] [] pos) (x9 sP tA):=by
 have h:=nh (p:=p) (NT hc) hg hm PyProof.Rows.boot_list (qy (nh NN G2 Hs boot_range ha.pa (by decide) (by decide) IX HX) p0 he) (by decide) (by decide) he Aq
 exact⟨x9.mo sP.mo ha.mo,PE.imp h λ _ _ _ hu=>cB sP.mo sP.fits ha.mo hu⟩
end
end L5
namespace ST
open PySem PySem.SetTable PySem.Spec PyProof.Rows L2
def PZ {us Hv:Af}(p:Hv.Perm us):∀ {ms:List Int},IntsAre us ms->∃ Gq,IntsAre Hv Gq/\Gq.Perm ms:=by
 induction p with
 | nil=>intro ms h;exact⟨ms,h,.refl _⟩
 | cons x _ ih=>
  intro ms h
  cases h with
  | cons n t h=>
   obtain⟨Gq,h1,h2⟩:=ih h
   exact⟨n::Gq,.cons n t h1,h2.cons n⟩
 | swap x y l=>
  intro ms h
  cases h with
  | cons n t h=>
   cases h with
   | cons m u h=>exact⟨m::n::_,.cons m u (.cons n t h),.swap _ _ _⟩
 | trans _ _ JQ JP=>
  intro ms h
  obtain⟨m1,h1,h2⟩:=JP h
  obtain⟨m2,h3,h4⟩:=JQ h1
  exact⟨m2,h3,h4.trans h2⟩
def vK.at {prog:Program}{w:World}{h:Heap}{a:Addr}{xs:List (Int×Tok)}(S:vK prog w h a xs (v7 w)):yJ w a (xs.map λ e=>Value.int e.1 e.2) h:=by
 obtain⟨⟨es,ep,t,ho,he,T,h1,h2,h3⟩,_⟩:=S
 have hm:7<=t.mask/\t.mask<=127:=by rcases T.mask with e | e | e <;> lia
 have hlen:es.size=xs.length:=by have:=congrArg List.length he;simpa using this
 exact⟨es,ep,t,⟨ho,fits_of (n:=xs.length) hlen T (by simp) (by lia),T.wG,h1,h2⟩,by rw[he,AJ];rfl⟩
theorem Z7:∀ xs:List (Int×Tok),IntsAre (xs.map λ e=>Value.int e.1 e.2) (xs.map (·.1))
 | []=>.nil
 | e::xs=>.cons e.1 e.2 (Z7 xs)
theorem cu:∀ {us:Af}{ns:List Int},IntsAre us ns->Vals (ns.map V.int) us
 | _,_,.nil=>.nil
 | _,_,.cons n t h=>.cons ⟨t,rfl⟩ (cu h)
section
variable {X:Cx}
def NK (hc:X.calm=true):yA X (.type "set") (λ xs H Q=>∃ p,∃ ns:List Int,xs=[.ref p]/\zM X.K H p (ns.map V.int)/\ns.length<64/\
  ∀ (l:Addr) (us:Af) (ms:List Int),H l=none->IntsAre us ms->ms.Nodup->(∀ n,n∈ms↔n∈ns)->Q (.ref l) (upd H l (.ext (yJ X.w l us)))):=by
 intro EH s B H xs us Q I r h
 obtain⟨p,ns,rfl,hq,Gu,q⟩:=h
 obtain⟨u,rfl,ru⟩:=vals1 r
 cases ru
 obtain⟨its,rv,pl,hz⟩:=I.list hq
 have hl:=rv.length
 rw[Ay] at hl
 have iA:IntsAre its ns:=intsAre_of rv
 have nums:Nums its.toArray ns:=λ i v hv=>by
  have Hc:its[i]?=some v:=by simpa using hv
  have hi:i<ns.length:=by rw[hl];exact (AL.mp Hc).1
  obtain⟨u,e1,t,e2⟩:=rv.get (i:=i) (x:=V.int ns[i]) (by simp[hi])
  rw[Hc] at e1;cases e1
  exact⟨ns[i],t,e2,by simp[hi]⟩
 have hh:X.A.handled=none:=I.ok.hd hc
 refine NL (A:=X.A) hh pl.isList nums (by rw[Ax];lia) λ h' tk xs S U k=>?_
 have kk:∀ b o,s.heap.get? b=some o->h'.get? b=some o:=λ b o e=>k b o (Ap e) e
 have Im:=S.at
 refine⟨.ref s.heap.objs.size,_,I.laid (t':=tk) (o:=.ext (yJ X.w s.heap.objs.size (xs.map λ e=>Value.int e.1 e.2))) kk (Ah _) ?_,rfl,q _ _ (xs.map (·.1)) (I.zC.fresh (Ah _)) (Z7 xs) S.nd λ n=>⟨λ hn=>?_,λ hn=>?_⟩⟩
 ·obtain⟨es,ep,t,St,e⟩:=id Im
  exact⟨Im,⟨_,St.get⟩,λ h1 h2 S1 k=>S1.se k⟩
 ·obtain⟨e,he,rfl⟩:=Al.mp hn
  obtain⟨j,_,hj⟩:=U.own e he
  exact Bg hj
 ·obtain⟨j,hj⟩:=Dn.mp hn
  exact U.all j n (by have:=(AL.mp hj).1;rw[Ax];lia) hj
def NG (hc:X.calm=true):yA X (.builtin "sorted") (λ xs H Q=>∃ l us,∃ ms:List Int,xs=[.ref l]/\H l=some (.ext (yJ X.w l us))/\IntsAre us ms/\ms.length<64/\
  ∀ (p:Addr) (ns:List Int),H p=none->ns.Perm ms->ns.Pairwise (·<=·)->Q (.ref p) (upd H p (.lst (ns.map V.int)))):=by
 intro EH s B H xs us0 Q I r h
 obtain⟨l,us,ms,rfl,hl,hm,Gu,q⟩:=h
 obtain⟨u,rfl,ru⟩:=vals1 r
 cases ru
 obtain⟨⟨es,ep,t,S,eu⟩,-,-⟩:=(show yW X.prog X.w H s.heap l (.ext (yJ X.w l us)) from I.zC l _ hl)
 have hlen:es.size=us.length:=by rw[<- eu];simp
 have hml:=hm.length
 have hh:X.A.handled=none:=I.ok.hd hc
 have hp:((comes X.w l es ep).toList.map (·.2)).Perm us:=by rw[<- eu];exact (pS X.w l es ep).map _
 obtain⟨Gq,i1,i2⟩:=PZ hp hm
 have AN:=hp.length_eq
 have hl24:sizeLine=16777216:=rfl
 refine cJ (Out:=λ out=>∃ Gp,IntsAre out.toList Gp/\Gp.Perm Gq/\Gp.Pairwise (·<=·)) hh S (by rw[hlen,hml];lia) (λ s6 h2 k=>L4.N3 i1 (by rw[AN,<- hlen];exact h2) (by rw[AN,hml];exact Gu)) (λ h1=>⟨Gq,by simpa using i1,.refl _,?_⟩) λ out h' tk p ho hs G0 k EG=>?_
 ·have:Gq.length<2:=by rw[<- i1.length,AN,<- hlen];exact h1
  match Gq,this with
  | [],_=>exact .nil
  | [_],_=>exact List.pairwise_singleton _ _
 ·obtain⟨ns,g1,g2,g3⟩:=ho
  obtain⟨e,he⟩:=EG
  refine⟨.ref p,_,I.laid (t':=tk) (o:=.lst (ns.map V.int)) k G0 ?_,rfl,q p ns (I.zC.fresh G0) (g2.trans i2) g3⟩
  exact⟨by rw[Ay,g2.length_eq,i2.length_eq];lia,out.toList,e,cu g1,by simpa using he⟩
end
end ST
namespace L5
open PySem PySem.Spec L2 L3
open PyProof.Rows hiding St
noncomputable def insI (n:Int):List Int->List Int
 | []=>[n]
 | m::l=>if n<m then n::m::l else if n=m then m::l else m::insI n l
noncomputable def wF:List Int->List Int
 | []=>[]
 | n::ns=>insI n (wF ns)
theorem gQ {n k:Int}:∀ {l:List Int},k∈insI n l↔k=n\/k∈l
 | []=>by simp[insI]
 | m::l=>by
  unfold insI
  split
  ·simp
  ·split
   ·rename_i h;subst h;simp
   ·rw[Aj,gQ,Aj]
    constructor
    ·rintro (h | h | h)
     ·exact .inr (.inl h)
     ·exact .inl h
     ·exact .inr (.inr h)
    ·rintro (h | h | h)
     ·exact .inr (.inl h)
     ·exact .inl h
     ·exact .inr (.inr h)
theorem kO {k:Int}:∀ {l:List Int},k∈wF l↔k∈l
 | []=>.rfl
 | n::l=>by unfold wF;rw[gQ,kO,Aj]
theorem Z9 {n:Int}:∀ {l:List Int},l.Pairwise (· < ·)->(insI n l).Pairwise (· < ·)
 | [],_=>List.pairwise_singleton _ _
 | m::l,h=>by
  have h':=Ba.mp h
  unfold insI
  split
  ·rename_i c
   refine Ba.mpr ⟨λ x hx=>?_,h⟩
   rcases Aj.mp hx with e | e
   ·rw[e];exact c
   ·exact Int.lt_trans c (h'.1 x e)
  ·split
   ·exact h
   ·rename_i c1 c2
    refine Ba.mpr ⟨λ x hx=>?_,Z9 h'.2⟩
    rcases gQ.mp hx with e | e
    ·rw[e];lia
    ·exact h'.1 x e
theorem c8:∀ l:List Int,(wF l).Pairwise (· < ·)
 | []=>.nil
 | n::l=>Z9 (c8 l)
def Wa {l m:List Int}(h1:l.Nodup) (h2:l.Pairwise (·<=·)) (h3:m.Pairwise (· < ·)) (h:∀ k,k∈l↔k∈m):l=m:=by
 have nm:m.Nodup:=h3.imp λ h e=>by lia
 refine L4.gu (r:=λ a b:Int=>a<=b) (λ a b p q=>by lia) ((DS h1 nm).mpr h) h2 (h3.imp λ h=>by lia)
section
variable {X:Cx}{K:Ab}{e:Expr}{tA:yi}{pos Gb p p2:Pos}
def me:xB:=λ ds S Q=>uF ds S Q\/∃ d,∃ ns:List Int,ds=[d]/\(∀ ts,d≠.tup ts)/\zQ d S=some (ns.map D.int)/\ns.length<64/\∀ l,S l=none->Q (.ref l) (ups S l (.lst ((wF ns).map D.int)))
noncomputable def sg:List T->Option T
 | [.lst ts]=>match ud ts with
  | some ns=>if ns.length<64 then some (.lst ((wF ns).map T.int)) else none
  | none=>lT [.lst ts]
 | _=>none
def Oq:vO zF sg me:=λ S Z ys z ds Q hz hv e hq=>by
 unfold sg at e
 split at e
 ·split at e
  ·rename_i ns CC
   split at e
   ·rename_i hc
    cases e
    cases nW CC
    obtain⟨d,rfl,h1⟩:=vR hv
    obtain⟨es,h2,h3⟩:=h1.seq rfl
    cases sk.mp h3
    refine .inr ⟨d,ns,rfl,?_,h2,hc,λ l hl=>hq _ _ (.new hl _) (su hz hl (sk.mpr rfl))⟩
    obtain⟨_,q | ⟨a,q,_⟩,_⟩:=h1.lst <;> subst q <;> exact λ _=>nofun
   ·cases e
  ·exact .inl (Ot S Z _ z ds Q hz hv e hq)
 ·cases e
theorem me.mo:vN me:=λ ds S Q Q' hq h=>by
 rcases h with h | ⟨d,ns,h1,h2,h3,h4,h5⟩
 ·exact .inl (uF.mo ds S Q Q' hq h)
 ·exact .inr ⟨d,ns,h1,h2,h3,h4,λ l hl=>hq _ _ (h5 l hl)⟩
def OG {w:World}{xs:List V}{H:Hp}{S:SS}{Q:VK}{d:D}{ns:List Int}(h0:zl K H [d] xs) (h2:zJ K H S) (hn:∀ ts,d≠.tup ts) (e:zQ d S=some (ns.map D.int)) (Gu:ns.length<64) (h:∀ l,S l=none->wA K H Q (.ref l) (ups S l (.lst ((wF ns).map D.int)))):
  ∃ p,∃ Gp:List Int,xs=[.ref p]/\zM K H p (Gp.map V.int)/\Gp.length<64/\
   ∀ (l:Addr) (us:Af) (ms:List Int),H l=none->IntsAre us ms->ms.Nodup->(∀ n,n∈ms↔n∈Gp)->
    ∃ l' Hv,∃ Gq:List Int,[V.ref l]=[.ref l']/\(upd H l (.ext (ST.yJ w l us))) l'=some (.ext (ST.yJ w l' Hv))/\IntsAre Hv Gq/\Gq.length<64/\
     ∀ (p:Addr) (ns:List Int),(upd H l (.ext (ST.yJ w l us))) p=none->ns.Perm Gq->ns.Pairwise (·<=·)->Q (.ref p) (upd (upd H l (.ext (ST.yJ w l us))) p (.lst (ns.map V.int))):=by
 obtain⟨x,hx,h1⟩:=h0.one;subst hx
 obtain⟨a,ys,rfl,g1,g2⟩:=rC h1 h2 e hn
 rw[g2.ints] at g1
 refine⟨a,ns,rfl,g1,Gu,λ l us ms hf hi nd AI=>⟨l,us,ms,rfl,y7,hi,?_,λ p JL hp pm srt=>?_⟩⟩
 ·have:=ST.gK ms ns nd λ x hx=>(AI x).mp hx
  lia
 ·have x1:Ext H (upd H l (.ext (ST.yJ w l us))):=.new hf _
  have Aq:p≠l:=λ z=>by subst z;rw[y7] at hp;cases hp
  have JZ:H p=none:=by rw[yq Aq] at hp;exact hp
  have x2:Ext (upd H l (.ext (ST.yJ w l us))) (upd (upd H l (.ext (ST.yJ w l us))) p (.lst (JL.map V.int))):=.new hp _
  have heq:JL=wF ns:=Wa (pm.nodup_iff.mpr nd) srt (c8 ns) λ k=>by rw[pm.mem_iff,AI,kO]
  refine h p (h2.none JZ) _ _ (by simp only[zg]) (x1.trans x2) ((h2.new hf).ups x2 ⟨_,y7,?_⟩)
  rw[<- heq]
  exact zl.gI JL
def b_ {k:Nat}(hr:yt k X.A) (hm:X.mg "sorted"=none) (Hs:X.mg "set"=none) (ha:xm X [e] tA) (hc:X.calm=true:=by rfl) (hg:Gl X "sorted":=by rfl) (G2:Gl X "set":=by rfl)
  (IX:starEach [e] X.env=(false,eval e X.env)::starEach [] X.env:=by rfl)
  (he:starEach [.Call (.Name "set" p2) [e] [] Gb] X.env=(false,eval (.Call (.Name "set" p2) [e] [] Gb) X.env)::starEach [] X.env:=by rfl) (Aq:(backTo pos (starEach [] X.env)).any (·.1)=false:=by rfl) (HX:(backTo Gb (starEach [] X.env)).any (·.1)=false:=by rfl):
  PD X (.Call (.Name "sorted" p) [.Call (.Name "set" p2) [e] [] Gb] [] pos) (x9 me tA):=by
 have h:=u_ (p:=p) (yA.or (ST.NH hc) (ST.NG hc)) hg hm boot_sorted (qy (nh (yA.or (ST.NJ hc hr.units) (ST.NK hc)) G2 Hs PyProof.Rows.boot_set ha.pa (by decide) (by decide) IX HX) p0 he) (by decide) (by decide) he Aq
 refine⟨x9.mo me.mo ha.mo,PE.imp h fun B H Q hu=>?_⟩
 obtain⟨Y,S,r1,r2,z⟩:=hu
 refine xQ.go ha.mo r1 r2 z λ ds S1 xs H1 h1 q1 e1 p1=>?_
 rcases h1 with h1 | ⟨d,ns,rfl,c1,c2,c3,h1⟩
 ·obtain⟨p,ys,rows,a1,a2,a3,a4,a5⟩:=uF.fits (w:=X.w) xs ds H1 S1 Q q1 p1 (uF.mo ds S1 _ _ (λ d S' z=>z.ext e1) h1)
  exact .inl ⟨p,ys,rows,a1,a2,a3,a4,λ l us vs rs b1 b2 b3=>.inl (a5 l us vs rs b1 b2 b3)⟩
 ·obtain⟨p,Gp,a1,a2,a3,a4⟩:=OG (w:=X.w) q1 p1 c1 c2 c3 (λ l hl=>(h1 l hl).ext e1)
  exact .inr ⟨p,Gp,a1,a2,a3,λ l us ms b1 b2 b3 b4=>.inr (a4 l us ms b1 b2 b3 b4)⟩
end
end L5
namespace L5
open PySem PySem.Spec L2 L3
open PyProof.Rows hiding St
section
variable {X:Cx}{e st:Expr}
noncomputable def pA:Sm:=λ _=>none
def Yn:yI:=λ _ _ _=>False
def nj {st:Stmt}:vL X st Yn:=⟨λ _ _ _ _ _ h=>h.elim,λ _ _ _ _ _ _ ⟨_,_,_,_,h⟩=>h.elim⟩
def SU {R:Rk}:yy R pA Yn:=λ S0 Z0 S Z Y J o E F e P=>by cases e
end
end L5
namespace L5
open PySem L2 L3
def fC:Good2 zF sI jl:=jf (λ _ _ _=>wV) λ _ _ _=>nofun
def fD:Good2 zF f7 fM:=jf (λ _ _ _=>wV) λ _ _ _=>nofun
def fE:Good2 zF n_ fN:=jf (λ _ _ _=>wV) λ _ _ _=>nofun
end L5
namespace L5
open PySem PySem.Spec L2 L3
open PyProof.Rows hiding St
section
variable {X:Cx}{e:Expr}{te:zu}{pos p q:Pos}
def TN (T:Bt X.mg) (he:PD X e te) (hg:Gl X "isinstance":=by rfl) (G2:Gl X "str":=by rfl) (h1:starEach (e::[.Name "str" q]) X.env=(false,eval e X.env)::starEach [.Name "str" q] X.env:=by rfl) (h2:(backTo pos (starEach [.Name "str" q] X.env)).any (·.1)=false:=by rfl) (h3:starEach [.Name "str" q] X.env=(false,eval (.Name "str" q) X.env)::starEach [] X.env:=by rfl):
  PD X (.Call (.Name "isinstance" p) [e,.Name "str" q] [] pos) (pR "str" te):=kD (by simp) T.isinstance T.str PyProof.Rows.boot_str G2 (by decide) (by decide) he hg h1 h2 h3
end
end L5
namespace L3
open PySem PyProof.Rows L2
section
variable {X:Cx}{pos:Pos}
noncomputable def wE (E:qj) (W:Nat->yj->SS->Prop) (m:Nat):qj:={ E with nx:=fun Y' S'=>∃ m',m'<m/\W m' Y' S',ct:=fun Y' S'=>∃ m',m'<m/\W m' Y' S',bk:=E.nx }
def mn (c:y9) (tb:yI):yI:=λ E Y S=>∃ W:Nat->yj->SS->Prop,(∃ m,W m Y S)/\∀ m Y S,W m Y S->
 c Y S λ b S1=>if b=true then tb (wE E W m) Y S1 else E.nx Y S1
def mn.mo {c:y9}{tb:yI}(hc:wU c) (hb:tW tb):tW (mn c tb):=λ E E' Y S hE ⟨W,w0,ws⟩=>
 ⟨W,w0,λ m Y S hw=>hc Y S _ _ (λ b S1 z=>w_ (λ z=>hb (wE E W m) (wE E' W m) Y S1 ⟨λ _ _ q=>q,hE.rt,hE.nx,λ _ _ q=>q⟩ z) (λ z=>hE.nx _ _ z) z) (ws m Y S hw)⟩
def bW {c:Expr}{body:List Stmt}{tc:y9}{tb:yI}(hp:PassesOwn (model X.prog X.w) X.A X.env X.xe) (hc:xC X c tc) (hb:uw X body tb):vL X (.While c body [] pos) (mn tc tb):=by
 refine⟨mn.mo hc.mo hb.mo,PS.imp (Ur hp hc.pt hb.ps) λ D B H hu=>?_⟩
 obtain⟨Y,S,r1,r2,W,⟨m0,w0⟩,ws⟩:=hu
 refine⟨λ m B' H'=>Ext H H'/\∃ Y S,yK X.K H' Y B'/\zJ X.K H' S/\W m Y S,⟨m0,.refl _,Y,S,r1,r2,w0⟩,?_⟩
 rintro m B2 H2 ⟨x2,Y2,S2,q1,q2,w2⟩
 refine wx.go hc.mo q1 q2 (ws m Y2 S2 w2) λ k S3 H3 h3 e3 p3=>w_ (λ z=>?_) (λ z=>?_) h3
 ·refine⟨fun B' H'=>Ext H H'/\∃ Y S m',m'<m/\yK X.K H' Y B'/\zJ X.K H' S/\W m' Y S,fun B' H' ⟨a,Y',S',m',b,c,d,e⟩=>⟨m',b,a,Y',S',c,d,e⟩,Y2,S3,q1.ext e3,p3,?_⟩
  exact hb.mo (wE (tM X.K H D) W m) _ Y2 S3 ⟨fun Y5 S5 ⟨m',b,w5⟩ B5 H5 b1 b2 b3=>⟨(x2.trans e3).trans b2,Y5,S5,m',b,b1,b3,w5⟩,λ _ _ q=>wA.ext (x2.trans e3) q,λ _ _ q=>vi.ext (x2.trans e3) q,fun Y5 S5 ⟨m',b,w5⟩ B5 H5 b1 b2 b3=>⟨(x2.trans e3).trans b2,Y5,S5,m',b,b1,b3,w5⟩⟩ z
 ·exact z B2 H3 (q1.ext e3) (x2.trans e3) p3
end
end L3
namespace L5
open PySem PyProof.Rows L2 L3
noncomputable def w6 (is:List Nat) (c:Ev->Option Bool) (b:Sm):Nat->Ev->Option Out
 | 0,_=>none
 | n+1,J=>(c (yu is J)).bind λ k=>if k=true then (b (yu is J)).bind λ o=>match o with
   | .nx J2=>w6 is c b n J2
   | .ct J2=>w6 is c b n J2
   | .bk J2=>some (.nx (yu is J2))
   | .rt t=>some (.rt t)
  else some (.nx (yu is J))
def o7 (n:Nat) (is:List Nat) (c:Ev->Option Bool) (b:Sm):Sm:=w6 is c b n
def SO {R:Rk} [Lo R] {n:Nat}{is:List Nat}{c:Ev->Option Bool}{tc:y9}{b:Sm}{tb:yI}(hc:vc c tc) (hb:yy R b tb):yy R (o7 n is c b) (mn tc tb):=λ S0 Z0 S Z Y J o E F e P=>by
 obtain⟨SB,b1,FB,b2⟩:=F.rebase
 have lo:∀ S' d y,R SB S' Z0 y d->R S0 S' Z0 y d:=λ S' d y r=>Lo.lo b1 (λ _ z=>z) r
 refine⟨λ m Y' S'=>∃ Z' J',FR SB Z0 S' Z' Y' J'/\w6 is c b m J'=some o,⟨n,Z,J,FB,e⟩,λ m Y' S' ⟨Z',J',F',e'⟩=>?_⟩
 cases m with
 | zero=>cases e'
 | succ m=>
  unfold w6 at e'
  obtain⟨k,c1,e'⟩:=Ai.mp e'
  have G:=F'.yu is
  refine hc S' Z' Y' _ k _ G.er c1 λ S3 s3=>?_
  cases k with
  | true=>
   rw[if_pos rfl] at e' ⊢
   obtain⟨o1,g2,e'⟩:=Ai.mp e'
   refine hb SB Z0 S3 Z' Y' _ o1 _ (G.grow s3) g2 ?_
   cases o1 with
   | nx J2=>exact λ S3 Z3 Y3 F3=>⟨m,Cj m,Z3,J2,F3,e'⟩
   | ct J2=>exact λ S3 Z3 Y3 F3=>⟨m,Cj m,Z3,J2,F3,e'⟩
   | bk J2=>cases e';exact λ S3 Z3 Y3 F3=>P S3 Z3 Y3 ((F3.yu is).back b1 F.z0)
   | rt y=>cases e';exact λ d S3 s3 r3=>P d S3 (b1.trans s3) (lo _ _ _ r3)
  | false=>
   rw[if_neg (by decide)] at e' ⊢
   cases e'
   exact P S3 Z' Y' ((G.grow s3).back b1 F.z0)
end L5
namespace ZP
open PySem PyProof.Rows
def QQ (k:Bool) (l:Addr) (xs:Ar):Meets (Builtin.«enumerate.__new__» ⟨[.type "enumerate",.ref l],[]⟩) (λ _ R s=>SQ s.heap k l xs/\
   R (.ok (.ret (.ref (s.heap.push (v9 k l)).objs.size))) { s with heap:=(s.heap.push (v9 k l)).push { cls:=.type "enumerate",data:=.fields #[.none,.bool false,.ref s.heap.objs.size,rawInt 0,.none,.none] } }):=
 .of_wp λ prog w A R s h=>by
  obtain⟨hp,g,d,tk,os⟩:=s
  obtain⟨q,h⟩:=h
  have Ed:=sub_enumerate
  have hL:SQ (Shared.heap ⟨hp,g,d,tk,os⟩) k l xs:=q
  obtain⟨⟨c,yh,dt,sl⟩,hl,hc⟩:=q.cls
  replace hc:c=.type (cond k "tuple" "list"):=hc
  subst hc
  wp_walk using AutoSeq1.wpAny_loadPart' hl
  refine wpAny_stack_any λ st=>Ac ?_
  split
  ·rename_i c _ _ _ _ _
   cases (c == Value.type "enumerate")
   ·wp_walk using AutoSeq1.wpAny_loadPart' hl,made hL
    exact⟨_,rfl,h⟩
   ·wp_walk using AutoSeq1.wpAny_loadPart' hl,made hL
    exact⟨_,rfl,h⟩
  ·wp_walk using AutoSeq1.wpAny_loadPart' hl,made hL
   exact⟨_,rfl,h⟩
section
variable {prog:Program}{w:World}{A:Around}{E:Ad}{s:Shared}
def OY {k:Bool}{l:Addr}{xs:Ar}{Q:Ad}(hL:SQ s.heap k l xs)
  (h:∀ h',IsEnum h' (s.heap.objs.size+1) s.heap.objs.size 0 .none->SI h' k s.heap.objs.size l 0->(∀ b o,s.heap.get? b=some o->h'.get? b=some o)->Q (.ref (s.heap.objs.size+1)) { s with heap:=h' }):
  wpAny (model prog w) A (call (.type "enumerate") [.ref l]) Q E s:=by
 refine callType_new F.called_enumerate (by decide) (F.typeCall_enumerate_1 _) (F.newCall_enumerate_1 _) (λ obj=>F.args_object_init_2 obj _) F.entry_enumerate_new (QQ k l xs) ⟨hL,?_⟩
 have hz:(s.heap.push (v9 k l)).objs.size=s.heap.objs.size+1:=Heap.size_push ..
 show _/\_
 rw[hz]
 have he:IsEnum ((s.heap.push (v9 k l)).push { cls:=.type "enumerate",data:=.fields #[.none,.bool false,.ref s.heap.objs.size,rawInt 0,.none,.none] }) (s.heap.objs.size+1) s.heap.objs.size 0 .none:=by
  have:=AF (s.heap.push (v9 k l)) (o:={ cls:=.type "enumerate",data:=.fields #[.none,.bool false,.ref s.heap.objs.size,rawInt 0,.none,.none] }) rfl
  rw[hz] at this;exact this
 exact⟨⟨_,he,rfl⟩,h _ he ⟨_,Kr _ (AF _ rfl),rfl,rfl⟩ λ b o x=>Kr _ (Kr _ x)⟩
def Nh (hh:A.handled=none) (k:Bool) (it l:Addr) (Am:l≠it) (xs:Ar):Draws prog w A it [it,l] xs.size (λ i v=>xs[i]?=some v) (λ i h=>SI h k it l i/\SQ h k l xs) where
 live:=λ _ _ st=>let ⟨o,ho,_⟩:=st.1;⟨o,ho⟩
 frame:=λ _ _ _ st hk=>⟨st.1.on λ o e=>hk it (by simp) o e,st.2.on λ o e=>hk l (by simp) o e⟩
 item:=λ i s Q E hi st hQ=>draw st.1 st.2 (x:=xs[i]) (by simp[hi]) λ h' Ex G7=>hQ _ h' s.toks (by simp[hi]) ⟨Ex,st.2.on λ o e=>(G7.2 l Am).trans e⟩ G7
 done:=λ s Q E st hE=>jq hh st.1 st.2 (by simp) hE
end
end ZP
namespace L2
open PySem PySem.Spec PyProof.Rows ZP
section
variable {X:Cx}{EH:Ag}{B:St}{H:Hp}{s:Shared}
def Xf (K:Ab) (k:Bool) (a:Addr):It:=
 ⟨λ i H=>∃ xs x,wo K H k a xs/\xs[i]?=some x,
   λ i H v H'=>∃ p x,v=.ref p/\H p=none/\H'=upd H p (.tup [.int i,x])/\∀ xs,wo K H k a xs->xs[i]?=some x,
   λ i H=>∃ xs,wo K H k a xs/\xs.length<=i⟩
def Wq {P:Program}{w:World}{K:Ab}{es:List Expr}{kk} {pos:Pos}{k:Bool}{e it a:Addr}(EB:e≠it) (hea:e≠a) (hai:a≠it):
  Turn P w K (.Tuple es kk pos) (Xf K k a) [e,it] e (λ i h=>(∃ old,IsEnum h e it i old)/\SI h k it a i) where
 mem:=by simp
 obj:=λ i h st b hb=>by
  obtain⟨⟨old,q1⟩,o1,q2,_,d1⟩:=st
  simp only[Aj,A3,or_false] at hb
  rcases hb with e | e <;> subst e
  ·exact⟨_,q1,λ v z=>by cases z⟩
  ·exact⟨_,q2,λ v z=>by rw[d1] at z;cases z⟩
 keep:=λ i h h' st k=>⟨let ⟨old,q⟩:=st.1;⟨old,k e (by simp) _ q⟩,st.2.on λ o q=>k it (by simp) o q⟩
 item:=by
  intro X hP hw hK hc i EH s B H E I hf st hg
  subst hP hw hK
  obtain⟨xs,x,g1,hx⟩:=hg
  obtain⟨its,rv,q1⟩:=g1.of I
  obtain⟨u1,e1,r1⟩:=rv.get hx
  obtain⟨⟨old,he⟩,si⟩:=st
  have An:i<its.toArray.size:=by have:=(AL.mp e1).1;simpa using this
  have D:=Nh (prog:=X.prog) (w:=X.w) (A:=X.A.in1) (show X.A.in1.handled=none from I.ok.hd hc) k it a hai its.toArray
  refine wpAny_pyNext_enum_itemD D he ⟨si,q1⟩ An EB (by simp[EB,hea]) λ u h' tk hP ho G7 hT hsz hk=>⟨_,rfl,?_⟩
  have hu:u=u1:=by simp only[List.getElem?_toArray,e1] at hP;exact (A5 hP).symm
  subst hu
  have nT:s.heap.objs.size∉[e,it]:=λ hb=>by
   simp only[Aj,A3,or_false] at hb
   obtain⟨oi,qi,_⟩:=si
   rcases hb with z | z
   ·exact absurd (Ap he) (by rw[<- z];exact BX _)
   ·exact absurd (Ap qi) (by rw[<- z];exact BX _)
  have ne:s.heap.objs.size≠e:=λ z=>nT (by simp[z])
  refine wpAny_letOwnedTupleGo_enum ho λ h2 IX sb=>?_
  have fr:H s.heap.objs.size=none:=I.zC.fresh (Ah _)
  have I1:Inv X EH B (upd H s.heap.objs.size (.tup [.int i,x])) { s with heap:=s.heap.push { cls:=.type "tuple",data:=.seq [.int i tk,u].toArray },toks:=s.toks }:=
   I.laid (o:=.tup [.int i,x]) (λ b u q=>Kr _ q) (Ah _) ⟨by show 2<=sizeLine;decide,[.int i tk,u],.cons ⟨tk,rfl⟩ (.cons r1 .nil),IsTup.new _ _⟩
  have G3:∀ b∈[e,it],upd H s.heap.objs.size (.tup [.int i,x]) b=none:=λ b hb=>by
   rw[yq (λ z=>nT (by rw[<- z];exact hb))]
   exact (hf b hb).1
  have kk:∀ b o,b∉[e,it]->(s.heap.push { cls:=.type "tuple",data:=.seq [.int i tk,u].toArray }).get? b=some o->h2.get? b=some o:=λ b o hb q=>by
   have BJ:b≠e:=λ z=>hb (by simp[z])
   have hbi:b≠it:=λ z=>hb (by simp[z])
   by_cases Dj:b=s.heap.objs.size
   ·subst Dj
    rw[AF _ rfl] at q
    cases q
    exact sb.extBut _ _ BJ hT
   ·have q':s.heap.get? b=some o:=by rw[Heap.get?_push_ne _ _ _ Dj] at q;exact q
    exact sb.extBut _ _ BJ (hk b o BJ hbi q')
  have I2:=Inv.lL (h':=h2) (t':=tk+1) (fp:=[e,it]) I1 kk λ b hb=>⟨G3 b hb,(hf b hb).2⟩
  refine⟨.ref s.heap.objs.size,_,I2,rfl,⟨_,x,rfl,fr,rfl,λ zs hz=>by rw[hz.inj I g1];exact hx⟩,⟨⟨_,by simpa using IX⟩,G7.1.on λ o q=>(sb.2 it (Ne.symm EB)).trans q⟩,G3⟩
 done:=by
  intro X hP hw hK hc i EH s B H E I hf st hg
  subst hP hw hK
  obtain⟨xs,g1,hx⟩:=hg
  obtain⟨its,rv,q1⟩:=g1.of I
  have l1:=rv.length
  obtain⟨⟨old,he⟩,si⟩:=st
  have hT:s.TypeIs (.ref e) "enumerate":=⟨_,he,rfl⟩
  unfold pyNext
  refine JC (wpAny_attempt (KD (name:=Str.ofString "__next__") hT F.slot_enumerate_next
   (Kw F.slot_enumerate_next hT F.entry_enumerate_next ?_ (F.args_enumerate_next_1 _))))
  show wpAny _ _ (field (.ref e) 2 >>= _) _ _ _
  refine JC (Ku he rfl (x:=.ref it) rfl ?_)
  refine JC (jq (show X.A.in1.handled=none from I.ok.hd hc) si q1 (by simp;lia) λ h' x J6 G6=>?_)
  obtain⟨o,ho,hc⟩:=G6
  refine JC (wpAny_isInstance (T:="StopIteration") (b:=true) ⟨o,ho,hc⟩ isSubtype_stop ?_)
  exact Ac ⟨rfl,I.lL (t':=s.toks) (fp:=[e,it]) (λ b o hb q=>J6 b o (λ z=>hb (by simp[z])) q) hf⟩
 self:=λ _ _ _ _ _ st h=>let ⟨_,q⟩:=st.1;wpAny_pyIter_enum q h
def Od (K:Ab) (ta:TA):TI:=fun B H R=>ta B H λ vs H1=>∃ a k,vs=[.ref a]/\(∃ xs,wo K H1 k a xs)/\R (Xf K k a) H1
def UG {a:Expr}{ta:TA}{p pos pos':Pos}{es:List Expr}{kk} (hg:Gl X "enumerate") (hm:X.mg "enumerate"=none) (ha:PA X [a] ta) (hs:starEach [a] X.env=[(false,eval a X.env)]:=by rfl):
  PI X (.Tuple es kk pos') (.Call (.Name "enumerate" p) [a] [] pos) (Od X.K ta):=by
 intro EH s B H R I h
 refine Call_ (rO I hg hm boot_enumerate (PyProof.Rows.callWith_type1 (zE (ha pos EH s B H _ I h) λ us s1 ⟨vs,H1,I1,r1,q1⟩=>?_) (by rw[hs];rfl) rfl))
 obtain⟨a1,k,rfl,⟨xs,g1⟩,q⟩:=q1
 cases r1 with
 | cons r rr=>
  cases rr
  cases r
  obtain⟨JO,_,q1⟩:=g1.of I1
  have la:=q1.lt
  refine ZP.OY q1 λ h' E S up=>wpAny_pyIter_enum E ?_
  have nw:∀ b∈[s1.heap.objs.size+1,s1.heap.objs.size],s1.heap.objs.size<=b:=λ b hb=>by
   simp only[Aj,A3,or_false] at hb
   rcases hb with z | z <;> rw[z]
   ·exact C0 _
   ·exact Ah _
  exact⟨_,[s1.heap.objs.size+1,s1.heap.objs.size],_,_,H1,rfl,I1.kept (t':=s1.toks) up,Wq (Nat.succ_ne_self _) (BO (Bv la)) (Aw la),⟨⟨_,E⟩,S⟩,λ b hb=>I1.ma (nw b hb) (I1.zC.fresh (nw b hb)),q⟩
end
end L2
namespace L5
open PySem PySem.Spec L2 L3
open PyProof.Rows hiding St
noncomputable def tL (k:Nat):List D->List D
 | []=>[]
 | d::ds=>.tup [.int k,d]::tL (k+1) ds
noncomputable def rS (k:Nat):List T->List T
 | []=>[]
 | d::ds=>.tup [.int k,d]::rS (k+1) ds
theorem Yb:∀ (ds:List D) (k i:Nat),(tL k ds)[i]?=(ds[i]?).map λ d=>D.tup [.int ((k+i:Nat):Int),d]
 | [],k,i=>by simp[tL]
 | d::ds,k,0=>by simp[tL]
 | d::ds,k,i+1=>by
  unfold tL
  rw[DU,DU,Yb ds (k+1) i,show k+1+i=k+(i+1) from by lia]
theorem Ya:∀ (ds:List D) (k:Nat),(tL k ds).length=ds.length
 | [],k=>rfl
 | d::ds,k=>by unfold tL;rw[AX,Ya ds];rfl
theorem cO {S:SS}:∀ {ts:List T}{ds:List D}(k:Nat),zk S ts ds->zk S (rS k ts) (tL k ds)
 | [],ds,k,h=>by simp only[zk] at h;subst h;exact zk.nil
 | t::ts,ds,k,h=>by
  simp only[zk] at h
  obtain⟨c,cs,rfl,h1,h2⟩:=h
  exact zk.cons (qp (zk.cons (by simp only[Sn]) (zk.cons h1 zk.nil))) (cO (k+1) h2)
section
variable {X:Cx}{a:Expr}{tA:yi}{pos p pos':Pos}{es:List Expr}{kk:Nat}
def Zn (t:yi):wj:=fun Y S R=>t Y S λ ds S1=>∃ d xs,ds=[d]/\zQ d S1=some xs/\R ⟨tL 0 xs,λ S=>zQ d S=some xs⟩ S1
def bZ (hm:X.mg "enumerate"=none) (ha:xm X [a] tA) (hg:Gl X "enumerate":=by rfl) (hs:starEach [a] X.env=[(false,eval a X.env)]:=by rfl):
  uN X (.Tuple es kk pos') (.Call (.Name "enumerate" p) [a] [] pos) (Zn tA):=by
 refine⟨fun Y S Q Q' hq z=>ha.mo Y S _ _ (λ ds S1 ⟨d,xs,h1,h2,h4⟩=>⟨d,xs,h1,h2,hq _ _ h4⟩) z,PI.imp (UG hg hm ha.pa hs) fun B H R hu=>?_⟩
 obtain⟨Y,S,r1,r2,z⟩:=hu
 refine xQ.go ha.mo r1 r2 z λ ds S1 vs H1 h1 q1 e1 p1=>?_
 obtain⟨d,xs,rfl,s1,h⟩:=h1
 obtain⟨v,rfl,d1⟩:=q1.one
 obtain⟨a1,us,rfl,g1,g2⟩:=zQ.k d1 p1 s1
 refine⟨a1,nR d,rfl,⟨us,g1⟩,h _ H1 e1 p1 λ i H2 S2 x1 x2 hk=>?_⟩
 obtain⟨b1,Ir,q1,m1,m2⟩:=zQ.k (zg.ext x1 d d1) x2 hk
 cases q1
 have l1:=m2.length
 refine⟨λ dd hd=>?_,λ hl=>⟨Ir,m1,?_⟩⟩
 ·rw[Yb,Nat.zero_add] at hd
  obtain⟨dx,hx,rfl⟩:=AE.mp hd
  obtain⟨x,G6,rx⟩:=m2.get hx
  refine⟨⟨Ir,x,m1,G6⟩,λ v H' q=>?_⟩
  obtain⟨pp,x',rfl,hp,rfl,f1⟩:=q
  have ex:x'=x:=by have:=f1 _ m1;rw[G6] at this;exact (A5 this).symm
  subst ex
  refine⟨.new hp _,x2.new hp,?_⟩
  simp only[zg]
  exact⟨pp,_,rfl,zT.of y7,zl.ext (.new hp _) _ (.cons (by simp only[zg]) (.cons rx .nil))⟩
 ·have GO:(tL 0 xs).length<=i:=hl
  rw[Ya] at GO
  lia
@[simp] noncomputable def rV:List T->Option (List T)
 | [x]=>(xX x).map λ xs=>rS 0 xs
 | _=>none
def Ri {g:Ev->Option (List T)}(h:ra g tA):s_ false (xa rV g) (Zn tA):=λ S Z Y J ts Q hE e hq=>by
 obtain⟨ys,e1,e2⟩:=Ai.mp e
 refine h S Z Y J ys _ hE e1 λ ds S1 s1 r1=>?_
 unfold rV at e2
 split at e2
 ·obtain⟨xs,e3,rfl⟩:=AE.mp e2
  obtain⟨d,rfl,h1⟩:=vR r1
  obtain⟨es,g1,g2⟩:=h1.seq e3
  exact⟨d,es,rfl,g1,hq _ S1 s1 (cO 0 g2) λ Ig s=>zQ.sx g1 s⟩
 ·cases e2
end
end L5
namespace TM
open PySem PyProof.Rows
def Nr (i:Int) (t:Tok) (l:Addr) (items:Ar) (n:Nat) (dd:Option Addr) (sl:Array (Option Value)):
  Meets (Builtin.«int.__rmul__» ⟨[.int i t,.ref l],[]⟩) (λ _ R s=>s.heap.get? l=some { cls:=.type "list",dict:=dd,data:=.seq items n,slots:=sl }/\R (.ok (.ret Value.notImplemented)) s):=
 .of_wp λ prog w A R s h=>by
  obtain⟨hp,g,d,tk,os⟩:=s
  obtain⟨hl,h⟩:=h
  wp_walk
  exact⟨_,rfl,h⟩
def mulL (l:Addr) (items:Ar) (n:Nat) (x:Int) (u:Tok) (dd:Option Addr) (sl:Array (Option Value)) (hc0:¬(!Builtin.List.listFitsIndex x)=true) (Ht:¬items.size*x.toNat>(2 ^ 63-1)/8) (Gm:¬Builtin.List.listTooLong (items.size*x.toNat)=true):
  Meets (Builtin.«list.__mul__» ⟨[.ref l,.int x u],[]⟩) (λ _ R s=>s.heap.get? l=some { cls:=.type "list",dict:=dd,data:=.seq items n,slots:=sl }/\R (.ok (.ret (Value.ref s.heap.objs.size))) { s with heap:=s.heap.push { cls:=.type "list",data:=.seq (List.foldl (λ x1 x2=>x1++x2) #[] (List.replicate (if items.isEmpty=true then 0 else x.toNat) items)) } }):=
 .of_wp λ prog w A R s h=>by
  obtain⟨hp,g,d,tk,os⟩:=s;obtain⟨hl,h⟩:=h
  have hsz:=AutoListH.joined_fits Gm
  wp_walk;refine wpAny_ite_false (Kv (Nat.not_lt.mpr hsz)) ?_;wp_walk;exact⟨_,rfl,h⟩
section
variable {prog:Program}{w:World}{A:Around}{E:Ad}{s:Shared}
def Wu {l:Addr}{its:Af}{k:Int}{t:Tok}{Q:Ad}(ht:PlainL s.heap l its.toArray) (Am:its≠[]) (h0:0<=k) (hz:its.length*k.toNat<=sizeLine)  (hk:k<=1000000)
  (more:Q (.ref s.heap.objs.size) { s with heap:=s.heap.push { cls:=.type "list",data:=.seq (List.replicate k.toNat its).flatten.toArray } }):
  wpAny (model prog w) A (binaryOp .Mult (.ref l) (.int k t)) Q E s:=by
 obtain⟨⟨cls,dd,data,sl⟩,n,ho,hc,he,hd⟩:=id ht
 simp only at hc hd he
 subst hc hd he
 have hl:sizeLine=16777216:=rfl
 have DI:its.toArray.isEmpty=false:=by cases its with
  | nil=>exact absurd rfl Am
  | cons a r=>rfl
 have hf:List.foldl (λ x1 x2=>x1++x2) #[] (List.replicate (if its.toArray.isEmpty=true then 0 else k.toNat) its.toArray)=(List.replicate k.toNat its).flatten.toArray:=by
  rw[DI,if_neg (by decide)]
  have:=fL its k.toNat #[]
  simpa using this
 refine wpAny_binaryOp_repeat_ref (T:="list") (U:="int") (by decide) ⟨_,ho,rfl⟩ (λ s'=>typeIs_int s' k t) noFill_list_mul F.fills_int_mul F.slot_int_rmul repeat_list F.slot_int_index.lookup
  (call_meets F.slot_int_rmul (typeIs_int s k t) F.entry_int_rmul (F.args_int_rmul_2 _ _) (Nr k t l its.toArray n none sl)
   ⟨ho,rfl,⟨_,ho,rfl⟩,call_meets F.slot_list_mul ⟨_,ho,rfl⟩ F.entry_list_mul (F.args_list_mul_2 _ _)
    (mulL l its.toArray n k t none sl (by simp[Builtin.List.listFitsIndex];lia) (by simp;lia) (by simp[Builtin.List.listTooLong];lia)) ⟨ho,?_⟩⟩)
 rw[hf];exact more
end
end TM
namespace L2
open PySem PySem.Spec PyProof.Rows
def gj (K:Ab):R2:=λ x y H Q=>∃ a k xs,x=.ref a/\y=.int k/\zM K H a xs/\xs≠[]/\0<=k/\k<=1000000/\xs.length*k.toNat<=sizeLine/\∀ p,H p=none->Q (.ref p) (upd H p (.lst (List.replicate k.toNat xs).flatten))
def Ss {X:Cx}:yc X (binaryOp .Mult) (gj X.K):=by
 intro EH s B H x y v u Q I rx ry h
 obtain⟨a,k,xs,rfl,rfl,hx,Am,h1,h2,hz,q⟩:=h
 cases rx
 obtain⟨t,rfl⟩:=ry
 obtain⟨its,r,ht,_⟩:=I.list hx
 have hl:=r.length
 refine TM.Wu ht (λ z=>Am (r.nH.mp z)) h1 (by rw[<- hl];exact hz) h2 ?_
 have hlen:(List.replicate k.toNat xs).flatten.length<=sizeLine:=by
  have:(List.replicate k.toNat xs).flatten.length=k.toNat*xs.length:=by simp
  rw[this,Ds];exact hz
 exact⟨.ref _,_,I.laid (t':=s.toks) (o:=.lst (List.replicate k.toNat xs).flatten) (λ b ob q=>Kr _ q) (Ah _) ⟨hlen,_,0,r.rep k.toNat,AF _ rfl⟩,rfl,q _ (I.zC.fresh (Ah _))⟩
end L2
namespace L5
open PySem PySem.Spec L2 L3
open PyProof.Rows hiding St
section
variable {X:Cx}{K:Ab}{a b:Expr}{ta tb:zu}{pos:Pos}
noncomputable def PH:D->Bool
 | .tup _=>true
 | _=>false
def jk:yD:=λ x y S Q=>∃ k ds,y=.int k/\PH x=false/\zQ x S=some ds/\(ds≠[]/\0<=k/\k<=1000000/\ds.length*k.toNat<=sizeLine)/\∀ p,S p=none->Q (.ref p) (ups S p (.lst (List.replicate k.toNat ds).flatten))
def rR:yD:=λ x y S Q=>tJ x y S Q\/jk x y S Q
noncomputable def t9:T->T->Option T
 | .lst ts,.int k=>if ts≠[]/\0<=k/\k<=1000000/\ts.length*k.toNat<=sizeLine then some (.lst (List.replicate k.toNat ts).flatten) else none
 | x,y=>gO x y
theorem rR.mo:xr rR:=λ x y S Q Q' hq h=>by
 rcases h with h | ⟨k,ds,h1,h2,h3,h4,h5⟩
 ·exact .inl (tJ.mo x y S Q Q' hq h)
 ·exact .inr ⟨k,ds,h1,h2,h3,h4,λ p hp=>hq _ _ (h5 p hp)⟩
def jk.fits:xn K jk (gj K):=λ x y d e H S Q h1 h2 h3 h=>by
 obtain⟨k,ds,rfl,ht,hs,⟨c1,c2,c3,c4⟩,h⟩:=h
 simp only[zg] at h2
 obtain⟨a,xs,rfl,g1,g2⟩:=rC h1 h3 hs λ ts z=>by subst z;cases ht
 have hl:=g2.length
 refine⟨a,k,xs,rfl,h2,g1,λ z=>c1 (by subst z;cases ds with | nil=>rfl | cons _ _=>simp at hl),c2,c3,by rw[<- hl];exact c4,λ p hp=>?_⟩
 exact h p (h3.none hp) _ _ (by simp only[zg]) (.new hp _) (h3.ups (.new hp _) ⟨_,y7,zl.ext (.new hp _) _ (zl.rep g2 _)⟩)
theorem rR.fits:xn K rR (λ x y H Q=>(rI vQ (λ i j=>.int (i*j)) x y H Q\/gi K x y H Q)\/gj K x y H Q):=λ x y d e H S Q h1 h2 h3 h=>by
 rcases h with h | h
 ·exact .inl (tJ.fits x y d e H S Q h1 h2 h3 h)
 ·exact .inr (jk.fits x y d e H S Q h1 h2 h3 h)
def Ov:Good2 zF t9 rR:=λ S Z x y z d e Q hz hx hy ef hq=>by
 unfold t9 at ef
 split at ef
 ·rename_i ts k
  split at ef
  ·rename_i hc
   cases ef
   obtain⟨ds,g1,g2⟩:=hx.seq (ts:=ts) rfl
   cases hy.int
   have hl:=g2.len
   refine .inr ⟨_,ds,rfl,?_,g1,⟨λ q=>hc.1 (by subst q;simpa using hl.symm),hc.2.1,hc.2.2.1,by rw[hl];exact hc.2.2.2⟩,λ p hp=>hq _ _ (.new hp _) (su hz hp (zk.rep g2 _))⟩
   cases d with
   | tup es=>exact absurd hx (by
     intro q
     rcases q with q | ⟨us,p,F8,_,q,_⟩
     ·simp only[Sn] at q;obtain⟨_,⟨q,_⟩ | ⟨_,q,_⟩,_⟩:=q <;> cases q
     ·cases q)
   | _=>rfl
  ·cases ef
 ·exact .inl (ZE S Z x y z d e Q hz hx hy ef hq)
def kB (ha:PD X a ta) (hb:PD X b tb):PD X (.BinOp a .Mult b pos) (yn rR ta tb):=rJ ((Sv.or Sq).or Ss) rR.fits rR.mo ha hb
end
end L5
namespace L3
open PySem PySem.Spec PyProof.Rows L2
section
variable {X:Cx}{K:Ab}{e o:Expr}{te to:zu}{apos Ak:Pos}
def rY (to te:zu):zu:=fun Y S Q=>to Y S λ x S1=>match x with
 | .ref p=>(∃ ds,S1 p=some (.lst ds))/\te Y S1 λ y S2=>∃ q ds es,y=.ref q/\S2 p=some (.lst ds)/\S2 q=some (.lst es)/\ds.length+es.length<=sizeLine/\Q .zr (ups S2 p (.lst (ds++es)))
 | _=>False
def rY.mo (h:yk to) (h':yk te):yk (rY to te):=fun Y S Q Q' hq z=>h Y S _ _ (λ x S1 z=>by
 cases x with
 | ref p=>exact⟨z.1,h' Y S1 _ _ (λ y S2 ⟨q,ds,es,a,b,c,d,w⟩=>⟨q,ds,es,a,b,c,d,hq _ _ w⟩) z.2⟩
 | _=>exact z) z
def TR {e0:Expr}(Eg:PE X e0 (iw X.K "list" bH (zO X.K to) (ir (zO X.K te) ip))) (h:yk to) (h':yk te):PD X e0 (rY to te):=by
 refine⟨rY.mo h h',PE.imp Eg fun B H Q hu=>?_⟩
 obtain⟨Y,S,r1,r2,z⟩:=hu
 refine zO.go h r1 r2 z λ x S1 v H1 h1 q1 e1 p1=>?_
 cases x with
 | ref p=>
  obtain⟨⟨ds,hd⟩,h1⟩:=h1
  simp only[zg] at q1
  subst q1
  obtain⟨xs,g1,g2⟩:=p1 _ _ hd
  refine⟨.inl ⟨rfl,xs,zM.of g1⟩,?_⟩
  refine zO.go h' (r1.ext e1) p1 h1 λ y S2 w H2 h2 q2 e2 p2=>?_
  obtain⟨q,Hl,es,rfl,b1,b2,b3,b4⟩:=h2
  simp only[zg] at q2
  subst q2
  obtain⟨Fi,g3,g4⟩:=p2 _ _ b1
  obtain⟨Jh,g5,g6⟩:=p2 _ _ b2
  refine⟨p,q,Fi,Jh,rfl,rfl,g3,g5,by rw[<- g4.length,<- g6.length];exact b3,?_⟩
  have e4:Ext H2 (upd H2 p (.lst (Fi++Jh))):=.lst g3 _
  exact b4 _ _ (by simp only[zg]) ((e1.trans e2).trans e4) (p2.ups e4 ⟨_,y7,zl.ext e4 _ (g4.append g6)⟩)
 | _=>exact h1.elim
def ae (ho:PD X o to) (he:PD X e te)
  (GI:attributeBase o "extend" X.env (eval o X.env)=eval o X.env:=by rfl)
  (AM:((backTo Ak (starEach [e] X.env)).all (λ x=>!x.1)&&(backToKw Ak (keywordEach [] X.env)).all (λ x=>x.1.isSome)
   && decide ([e].length+([]:List Keyword).length+(if ([]:List Keyword).isEmpty then 0 else 1)<30))=true:=by rfl)
  (GF:(apos.endLine == Ak.line)=true:=by rfl) (hs:starEach [e] X.env=(false,eval e X.env)::starEach [] X.env:=by rfl) (Ge:(backTo Ak (starEach [] X.env)).any (·.1)=false:=by rfl):
  PD X (.Call (.Attribute o "extend" apos) [e] [] Ak) (rY to te):=
 TR (bU PySem.F.plainAttrs_list PySem.F.slot_list_extend PySem.F.type_list_extend QM ho.pe (qy he.pe p0 hs) GI AM GF hs Ge) ho.mo he.mo
end
end L3
namespace L5
open PySem L2 L3
@[simp] noncomputable def jm (i:Nat) (f:Ev->Option T):Sm:=fun J=>match J[i]? with
 | some (some (.own (.lst ts)))=>(f J).bind λ y=>match y with
  | .lst us=>if ts.length+us.length<=sizeLine then some (.nx (J.set i (some (.own (.lst (ts++us)))))) else none
  | _=>none
 | _=>none
section
variable {R:Rk}{f:Ev->Option T}{te:zu}
def SX (i:Nat) (hf:xy f te):yy R (jm i f) (jw (rY (y6 i) te)):=λ S0 Z0 S Z Y J o E F e P=>by
 unfold jm at e
 split at e
 ·rename_i ts h
  obtain⟨y,e1,e2⟩:=Ai.mp e
  split at e2
  ·rename_i us
   split at e2
   ·rename_i hl
    cases e2
    obtain⟨p,ob,h1,h2,h3,h4⟩:=F.er.ow i _ h
    obtain⟨ds,rfl⟩:∃ ds,ob=.lst ds:=by
     cases ob with
     | lst ds=>exact⟨ds,rfl⟩
     | yh _=>exact h3.elim
    replace h3:zk (zR S Z) ts ds:=h3
    show rY (y6 i) te Y S _
    unfold rY y6
    rw[h1]
    refine⟨⟨ds,h2⟩,hf S Z Y J _ _ F.er e1 λ d S1 s1 r1=>?_⟩
    obtain⟨q,es,rfl,g1,g2,g3⟩:=r1.2 us rfl
    have F1:=F.grow s1
    have g4:zk (zR S1 Z) us es:=zk.sx (tH λ a z=>.inl z) us g3
    refine⟨q,ds,es,rfl,s1 _ _ h2,g2,by rw[h3.len,g4.len];exact hl,P _ Z Y (F1.mut (us:=.lst (ts++us)) (es:=.lst (ds++es)) i h h1 ((zk.sx (wN s1) ts h3).append g4))⟩
   ·cases e2
  ·cases e2
 ·cases e
end
section
variable {α:Type}{P:List α->Prop}
def vn (h:∀ a,P [a]) (us:List α) (hl:us.length=1):P us:=match us,hl with | [a],_=>h a
def we (h:∀ a b,P [a,b]) (us:List α) (hl:us.length=2):P us:=match us,hl with | [a,b],_=>h a b
def tS (h:∀ a b c,P [a,b,c]) (us:List α) (hl:us.length=3):P us:=match us,hl with | [a,b,c],_=>h a b c
def YO (h:∀ a b c d,P [a,b,c,d]) (us:List α) (hl:us.length=4):P us:=match us,hl with | [a,b,c,d],_=>h a b c d
def ar5 (h:∀ a b c d e,P [a,b,c,d,e]) (us:List α) (hl:us.length=5):P us:=match us,hl with | [a,b,c,d,e],_=>h a b c d e
def ar6 (h:∀ a b c d e f,P [a,b,c,d,e,f]) (us:List α) (hl:us.length=6):P us:=match us,hl with | [a,b,c,d,e,f],_=>h a b c d e f
def ar7 (h:∀ a b c d e f g,P [a,b,c,d,e,f,g]) (us:List α) (hl:us.length=7):P us:=match us,hl with | [a,b,c,d,e,f,g],_=>h a b c d e f g
def ar8 (h:∀ a b c d e f g i,P [a,b,c,d,e,f,g,i]) (us:List α) (hl:us.length=8):P us:=match us,hl with | [a,b,c,d,e,f,g,i],_=>h a b c d e f g i
end
end L5
namespace L5
open PySem PySem.Spec L2 L3
open PyProof.Rows hiding St
section
variable {P:Program}{w:World}{K:Ab}{mg:AG}{base h:Heap}{x:Str}{st:Stmt}
def Fx (K:Ab) (x:Str) (st:Stmt):Prop:=∃ (f:Addr) (oc:Value) (od:Option Addr) (kV dc pm:Value) (an:Option Addr) (cd ct:Value) (sl:Array (Option Value)),
 PySem.W.nsIn K mainGlobals x=some (some (.ref f))/\K.lookup f=some ⟨oc,od,.func (PySem.W.fnOf x x (sR st) (vj st) (zB st) .none kV dc pm an cd ct),sl⟩/\PySem.W.codeIn K cd x=true/\PySem.W.keepIn K (.ref f)=true
def Fx.i {f:Addr}{oc:Value}{od:Option Addr}{kV dc pm:Value}{an:Option Addr}{cd ct:Value}{sl:Array (Option Value)}(a:PySem.W.nsIn K mainGlobals x=some (some (.ref f))) (l:K.lookup f=some ⟨oc,od,.func (PySem.W.fnOf x x (sR st) (vj st) (zB st) .none kV dc pm an cd ct),sl⟩) (c:PySem.W.codeIn K cd x=true) (k:PySem.W.keepIn K (.ref f)=true):Fx K x st:=⟨f,oc,od,kV,dc,pm,an,cd,ct,sl,a,l,c,k⟩
def Fy (K:Ab) (mg:AG) (x:Str) (st:Stmt):Prop:=∃ (f:Addr) (fd:FuncData),uO K x x st f fd/\mg x=some (.ref f)
def Fx.mk (H:Fx K x st) (X:K.In h) (G:h.Ns mainGlobals mg):Fy K mg x st:=by
 obtain⟨f,oc,od,kV,dc,pm,an,cd,ct,sl,a,l,c,k⟩:=H
 exact⟨f,_,ZN l c k,PySem.W.mg_of X G a⟩
theorem Fx.law {fa:Addr}{p:Str}(H:Fx K "law" st) (X:K.In h) (G:h.Ns mainGlobals mg) (EA:mg "law"=some (.ref fa)) (hb:∀ (kV dc pm:Value) (an:Option Addr) (cd ct:Value) (s:Shared) (v:Value),BindsTo s (PySem.W.fnOf "law" "law" (sR st) (vj st) (zB st) .none kV dc pm an cd ct) ⟨[v],[]⟩ [(p,v)]):∃ fd:FuncData,uO K "law" "law" st fa fd/\∀ (s:Shared) (v:Value),BindsTo s fd ⟨[v],[]⟩ [(p,v)]:=by
 obtain⟨f,oc,od,kV,dc,pm,an,cd,ct,sl,a,l,c,k⟩:=H
 have e:=EA.symm.trans (PySem.W.mg_of X G a)
 cases e
 exact⟨_,ZN l c k,hb kV dc pm an cd ct⟩
def Cn (K:Ab) (x:Str) (t:V):Prop:=∃ u,PySem.W.nsIn K mainGlobals x=some (some u)/\L2.RelV t u
def Cn.i {t:V}{u:Value}(a:PySem.W.nsIn K mainGlobals x=some (some u)) (r:L2.RelV t u):Cn K x t:=⟨u,a,r⟩
def Cn.mk {t:V}(H:Cn K x t) (X:K.In h) (G:h.Ns mainGlobals mg):∃ u,mg x=some u/\L2.RelV t u:=by
 obtain⟨u,a,r⟩:=H
 exact⟨u,PySem.W.mg_of X G a,r⟩
def yg {R:Rk} [Lo R] {N ps:List Str}{k n:Nat}{g:Sm}(F:Fy K mg x st) (Sc:zU N ps (zB st)) (hn:n=ps.length)
  (hb:∀ (kV doc pm:Value) (an:Option Addr) (Ae ct:Value) (us:Af),us.length=ps.length->bindArgs (PySem.W.fnOf x x (sR st) (vj st) (zB st) .none kV doc pm an Ae ct) ⟨us,[]⟩=pure (ps.zip us))
  (FO:∀ (f:Addr) (Ae:Value) (A:Around) (outer:List Env) (s:Shared) (H:Hp) (E:XK),yt k (A.deeper (envOfC x (zB st) s.heap.objs.size f Ae))->
   ∃ t,uw (tP vq P w K mg base N x (zB st) f Ae A outer s H E).rM (vj st) t/\yy R g t):FD P w K mg base x (k+1) ps (zL R (zV N n g)):=by
 obtain⟨f,fd,F,hm⟩:=F
 exact OM F hm Sc hn hb (FO f)
end
end L5
namespace L2
open PySem PySem.Spec PyProof.Rows
def jJ (lo c:Int) (n:Nat):It:=⟨λ i _=>i<n,λ i H x H'=>H'=H/\x=.int (lo+i*c),λ i _=>n<=i⟩
def Wm {P:Program}{w:World}{K:Ab}{tg:Expr}(it:Addr) (lo c:Int) (n:Nat):Turn P w K tg (jJ lo c n) [it] it (λ i h=>IsRangeIter h it (lo+(i:Nat)*c) ((n:Int)-(i:Nat)) c) where
 mem:=by simp
 obj:=λ i h st b hb=>by
  have e:b=it:=by simpa using hb
  subst e
  exact⟨_,st,λ v z=>by
   have z':Data.fields _=Data.cell v:=z
   cases z'⟩
 keep:=λ i h h' st k=>k it (by simp) _ st
 item:=by
  intro X hP hw hK hc i EH s B H E I hf st hg
  subst hP hw hK
  obtain⟨f0,f1,f2,f3,f4,f5⟩:=hf it (by simp)
  have W:=Walks.range (prog:=X.prog) (w:=X.w) (I.ok.hd hc) it lo c n
  refine W.item i s _ _ hg st λ v h' tk hv GC kk=>?_
  obtain⟨t,rfl⟩:=hv
  have I1:Inv X EH B H { s with heap:=h',toks:=tk }:=I.turned (λ b o hb e=>kk b o (by simpa using hb) e) f0 f1 f3 f4 f5
  exact⟨_,rfl,jg (s:={ s with heap:=h',toks:=tk }) (n:="range_iterator") GC rfl rfl (by decide) ⟨.int (lo+i*c),H,I1,⟨t,rfl⟩,⟨rfl,rfl⟩,GC,λ b hb=>(hf b hb).1⟩⟩
 done:=by
  intro X hP hw hK hc i EH s B H E I hf st hg
  subst hP hw hK
  obtain⟨f0,f1,f2,f3,f4,f5⟩:=hf it (by simp)
  exact wpAny_pyNext_range_end (I.ok.hd hc) st (by have:n<=i:=hg;lia) λ h' eb=>⟨rfl,I.turned (t':=s.toks) (λ b o hb e=>eb b o hb e) f0 f1 f3 f4 f5⟩
 self:=λ _ _ _ _ _ st h=>wpAny_pyIter_rangeiter st h
noncomputable def uA (i j c:Int):Nat:=if i<j then ((j-i-1)/c+1).toNat else 0
def aO {i j c:Int}(hc:0<c):((uA i j c:Nat):Int)=Builtin.Range.rangeSize i j c:=by
 unfold uA Builtin.Range.rangeSize
 rw[if_pos hc]
 split
 ·rename_i h
  have:0<=(j-i-1)/c:=Int.ediv_nonneg (by lia) (by lia)
  lia
 ·rfl
def W_ {a b c:Int}(ha:-(2 ^ 31)<=a) (ha':a<2 ^ 31) (hb:-(2 ^ 31)<=b) (HI:b<2 ^ 31) (hc:0<c) (J7:c<1000000):Builtin.Range.small a b c=true:=by
 have e:=aO (i:=a) (j:=b) hc
 have h1:(b-a-1)/c<=(b-a-1)\/¬ a<b:=by
  by_cases h:a<b
  ·exact .inl (Int.ediv_le_self _ (by lia))
  ·exact .inr h
 have h2:0<=Builtin.Range.rangeSize a b c/\Builtin.Range.rangeSize a b c<=2 ^ 33:=by
  refine⟨by lia,?_⟩
  unfold Builtin.Range.rangeSize
  rw[if_pos hc]
  split <;> lia
 have h3:Builtin.Range.rangeSize a b c*c<=2 ^ 33*1000000:=by
  refine Int.le_trans (DQ h2.2 (by lia)) ?_
  exact Int.mul_le_mul_of_nonneg_left (by lia) (by decide)
 have h4:0<=Builtin.Range.rangeSize a b c*c:=Int.mul_nonneg h2.1 (by lia)
 unfold Builtin.Range.small
 simp only[Builtin.Range.rangeFitsLong,Be,DR,decide_eq_true_eq,beq_iff_eq,hc,if_true]
 lia
section
variable {X:Cx}{tg:Expr}
def VU {EH:Ag}{B:St}{H:Hp}{s:Shared}{R:It->Hp->Prop}{E:Ad}{lo hi c:Int}{t u v:Tok}{tk:Nat}(I:Inv X EH B H s) (h1:-(2 ^ 31)<=lo) (h2:lo<2 ^ 31) (h3:-(2 ^ 31)<=hi) (h4:hi<2 ^ 31) (h5:0<c) (h6:c<1000000)
  (q:R (jJ lo c (uA lo hi c)) H):wpAny (model X.prog X.w) X.A (pyIter (.ref s.heap.objs.size)) (eP X EH B tg R) E { s with heap:=s.heap.push { cls:=.type "range",data:=.fields #[.int lo t,.int hi u,.int c v] },toks:=tk }:=by
 refine wpAny_pyIter_range (IsRange.new ..) (W_ h1 h2 h3 h4 h5 h6) ?_
 have I1:Inv X EH B H { s with heap:=s.heap.push { cls:=.type "range",data:=.fields #[.int lo t,.int hi u,.int c v] },toks:=tk }:=I.kept λ b o e=>Kr _ e
 refine⟨(s.heap.push { cls:=.type "range",data:=.fields #[.int lo t,.int hi u,.int c v] }).objs.size,[(s.heap.push { cls:=.type "range",data:=.fields #[.int lo t,.int hi u,.int c v] }).objs.size],_,_,H,rfl,
  I1.kept (t':=tk) λ b o e=>Kr _ e,Wm _ lo c (uA lo hi c),?_,λ b hb=>?_,q⟩
 ·have e1:lo+((0:Nat):Int)*c=lo:=by simp
  have e2:((uA lo hi c:Nat):Int)-((0:Nat):Int)=Builtin.Range.rangeSize lo hi c:=by rw[aO h5];simp
  show IsRangeIter _ _ (lo+((0:Nat):Int)*c) (((uA lo hi c:Nat):Int)-((0:Nat):Int)) c
  rw[e1,e2]
  exact AF _ rfl
 ·have e:b=(s.heap.push { cls:=.type "range",data:=.fields #[.int lo t,.int hi u,.int c v] }).objs.size:=by simpa using hb
  subst e
  exact I1.ma (Ah _) (I1.zC.fresh (Ah _))
def Oc (ta:TA):TI:=fun B H R=>ta B H λ vs H1=>∃ i j c:Int,vs=[.int i,.int j,.int c]/\(-(2 ^ 31)<=i/\i<2 ^ 31/\-(2 ^ 31)<=j/\j<2 ^ 31/\0<c/\c<1000000)/\R (jJ i c (uA i j c)) H1
def UC {a b c:Expr}{ta:TA}{p pos:Pos}(hg:Gl X "range") (hm:X.mg "range"=none) (ha:PA X [a,b,c] ta) (hs:starEach [a,b,c] X.env=[(false,eval a X.env),(false,eval b X.env),(false,eval c X.env)]:=by rfl) (GD:starEach [b,c] X.env=[(false,eval b X.env),(false,eval c X.env)]:=by rfl):
  PI X tg (.Call (.Name "range" p) [a,b,c] [] pos) (Oc ta):=by
 intro EH s B H R I h
 refine Call_ (rO I hg hm boot_range (PyProof.Rows.callWith_type1 (zE (ha pos EH s B H _ I h) λ us s1 ⟨vs,H1,I1,r1,q1⟩=>?_) (by rw[hs,GD]) (by rw[GD];rfl)))
 obtain⟨i,j,c,e,⟨q1,q2,q3,q4,q5,q6⟩,q⟩:=q1
 subst e
 cases r1 with
 | cons r rr=>
  cases rr with
  | cons r' rr=>
   cases rr with
   | cons r2 rr=>
    cases rr
    obtain⟨t,rfl⟩:=r
    obtain⟨t',rfl⟩:=r'
    obtain⟨t2,rfl⟩:=r2
    exact call_range_3 (by lia) (VU I1 q1 q2 q3 q4 q5 q6 q) (.inl (PyProof.noPylong_small (by lia)))
end
end L2
namespace L3
open PySem PySem.Spec L2
open PyProof.Rows hiding St
section
variable {X:Cx}{K:Ab}{tg e a b c:Expr}{es:List Expr}{tA:yi}{pos p:Pos}
noncomputable def sy (lo c:Int) (n:Nat):List D:=(List.range n).map λ(k:Nat)=>D.int (lo+(k:Int)*c)
def VY {lo c:Int}{n i:Nat}{d:D}(h:(sy lo c n)[i]?=some d):i<n/\d=.int (lo+(i:Int)*c):=by
 unfold sy at h
 rw[AA] at h
 cases q:(List.range n)[i]? with
 | none=>rw[q] at h;cases h
 | some k=>
  rw[q] at h
  obtain⟨h1,h2⟩:=AL.mp q
  rw[BR] at h1
  rw[Dv] at h2
  subst h2
  cases h
  exact⟨h1,rfl⟩
def m_.VV {H1:Hp}{lo c:Int}{n:Nat}:m_ K H1 (jJ lo c n) ⟨sy lo c n,λ _=>True⟩:=λ i H S _ x2 _=>by
 refine⟨λ d hd=>?_,λ hl=>by rw[show (o5.mk (sy lo c n) λ _=>True).items=sy lo c n from rfl] at hl;unfold sy at hl;rw[Ay,BR] at hl;exact hl⟩
 obtain⟨h1,rfl⟩:=VY hd
 refine⟨h1,λ x H' q=>?_⟩
 obtain⟨rfl,rfl⟩:=q
 exact⟨.refl _,x2,by simp only[zg]⟩
def Zm (t:yi):wj:=fun Y S R=>t Y S λ ds S1=>match ds with
 | [.int i,.int j,.int c]=>(-(2 ^ 31)<=i/\i<2 ^ 31/\-(2 ^ 31)<=j/\j<2 ^ 31/\0<c/\c<1000000)/\R ⟨sy i c (uA i j c),λ _=>True⟩ S1
 | _=>False
def zl.three {H:Hp}{d d' d2:D}{xs:List V}(h:zl K H [d,d',d2] xs):∃ x y z,xs=[x,y,z]/\zg K H d x/\zg K H d' y/\zg K H d2 z:=by
 simp only[zl] at h
 obtain⟨x,r,rfl,h1,y,r',rfl,h2,z,r2,rfl,h3,rfl⟩:=h
 exact⟨x,y,z,rfl,h1,h2,h3⟩
def T4 (hm:X.mg "range"=none) (ha:xm X [a,b,c] tA) (hg:Gl X "range":=by rfl) (hs:starEach [a,b,c] X.env=[(false,eval a X.env),(false,eval b X.env),(false,eval c X.env)]:=by rfl) (GD:starEach [b,c] X.env=[(false,eval b X.env),(false,eval c X.env)]:=by rfl):uN X tg (.Call (.Name "range" p) [a,b,c] [] pos) (Zm tA):=by
 refine⟨fun Y S Q Q' hq z=>ha.mo Y S _ _ (λ ds S1 z=>?_) z,PI.imp (UC hg hm ha.pa hs GD) fun B H R hu=>?_⟩
 ·split at z
  ·exact⟨z.1,hq _ _ z.2⟩
  ·exact z.elim
 ·obtain⟨Y,S,r1,r2,z⟩:=hu
  refine xQ.go ha.mo r1 r2 z λ ds S1 xs H1 h1 q1 e1 p1=>?_
  split at h1
  ·obtain⟨x,y,w,rfl,q,q',q2⟩:=q1.three
   simp only[zg] at q q' q2
   subst q q' q2
   exact⟨_,_,_,rfl,h1.1,h1.2 _ H1 e1 p1 .VV⟩
  ·exact h1.elim
def tK:xB:=λ ds S Q=>match ds with
 | [.int i]=>Q (.int (if i<0 then -i else i)) S
 | _=>False
def tK.mo:vN tK:=λ ds S Q Q' hq h=>by
 unfold tK at h ⊢
 split at h
 ·exact hq _ _ h
 ·exact h.elim
def tK.fits:uP K tK (λ xs H Q=>∃ i,xs=[.int i]/\Q (.int (if i<0 then -i else i)) H):=λ xs ds H S Q h0 h2 h=>by
 unfold tK at h
 split at h
 ·obtain⟨x,rfl,h1⟩:=h0.one
  simp only[zg] at h1;subst h1
  exact⟨_,rfl,h _ H (by simp only[zg]) (.refl H) h2⟩
 ·exact h.elim
def Sd (hm:X.mg "abs"=none) (ha:xm X (e::es) tA) (hg:Gl X "abs":=by rfl) (he:starEach (e::es) X.env=(false,eval e X.env)::starEach es X.env:=by rfl) (Aq:(backTo pos (starEach es X.env)).any (·.1)=false:=by rfl):PD X (.Call (.Name "abs" p) (e::es) [] pos) (x9 tK tA):=
 tp (u_ N_ hg hm boot_abs ha.pa (by decide) (by decide) he Aq) tK.mo tK.fits ha.mo
def uT (_ j:Int):Prop:=0<j/\j<2 ^ 200
def rp (i j:Int):Prop:=i.natAbs<2 ^ 200/\j.natAbs<2 ^ 200
instance (i j:Int):Decidable (uT i j):=by unfold uT;infer_instance
instance (i j:Int):Decidable (rp i j):=by unfold rp;infer_instance
def aZ {n:Nat}(h:n<2 ^ 200):n.log2<200:=by
 rcases D0 n with h0 | hp
 ·rw[h0];decide
 ·exact (Nat.log2_lt (BO hp)).mpr h
def YE {i:Int}(h:i.natAbs<2 ^ 200):Builtin.Int.intBits i<=2 ^ 20:=by
 have:=aZ h
 unfold Builtin.Int.intBits
 split <;> lia
def SE:yc X (binaryOp .FloorDiv) (rI uT λ i j=>.int (i/j)):=p8 λ i j _ _ _ _ _ hc q=>by
 have h1:(0:Int)<j:=hc.1
 have h2:j.natAbs<2 ^ 200:=by have:=hc.2;lia
 have h3:=aZ h2
 exact floordiv_int (by lia) (by rw[Int.fdiv_eq_ediv_of_nonneg i (by lia)];exact q) (.inl (PyProof.noPylong_of_log2 (by lia)))
def Su:yc X (binaryOp .Mult) (rI rp λ i j=>.int (i*j)):=p8 λ _ _ _ _ _ _ _ hc q=>mul_int q (PySem.IntMulOk.of_bits (YE hc.1) (YE hc.2))
variable {ta tb:zu}
def nA (ha:PD X a ta) (hb:PD X b tb):PD X (.BinOp a .FloorDiv b pos) (yn (fI uT λ i j=>.int (i/j)) ta tb):=rJ SE (fI.fits λ _ _ _=>by simp only[zg]) fI.mo ha hb
def gy (ha:PD X a ta) (hb:PD X b tb):PD X (.BinOp a .Mult b pos) (yn (fI rp λ i j=>.int (i*j)) ta tb):=rJ Su (fI.fits λ _ _ _=>by simp only[zg]) fI.mo ha hb
end
end L3
namespace L5
open PySem PySem.Spec L2 L3
open PyProof.Rows hiding St
structure XN (mg:AG):Prop extends Bq mg where
 abs:mg "abs"=none
@[simp] noncomputable def eL:List T->Option T
 | [.int i]=>some (.int (if i<0 then -i else i))
 | _=>none
def ZI:vO zF eL tK:=λ S Z ys z ds Q hz hv e hq=>by
 unfold eL at e
 split at e
 ·cases e
  obtain⟨d,rfl,h1⟩:=vR hv
  cases h1.int
  exact hq _ S (.refl S) (Cl.of (λ _=>nofun) wy)
 ·cases e
@[simp] def wc:T->T->Option T:=qC uT λ i j=>.int (i/j)
@[simp] def vz:T->T->Option T:=qC rp λ i j=>.int (i*j)
def p9 {fa fb:Ev->Option T}{ta tb:zu}(ha:yv fa ta) (hb:yv fb tb):xy (ze wc fa fb) (yn (fI uT λ i j=>.int (i/j)) ta tb):=wI (nY (λ _ _ _=>wy) λ _ _ _=>nofun) ha hb
def kM {fa fb:Ev->Option T}{ta tb:zu}(ha:yv fa ta) (hb:yv fb tb):xy (ze vz fa fb) (yn (fI rp λ i j=>.int (i*j)) ta tb):=wI (nY (λ _ _ _=>wy) λ _ _ _=>nofun) ha hb
noncomputable def sM (j:Int):Bool:=decide (-1000000<=j)&&decide (j<1000000)
noncomputable def kx (lo c:Int) (n:Nat):List T:=(List.range n).map λ(k:Nat)=>T.int (lo+(k:Int)*c)
def WZ {S:SS}(lo c:Int) (n:Nat):zk S (kx lo c n) (sy lo c n):=by
 unfold kx sy
 induction List.range n with
 | nil=>exact .nil
 | cons k l ih=>exact .cons wy ih
noncomputable def oV:List T->Option (List T)
 | [.int i,.int j,.int c]=>if (sM i=true/\sM j=true)/\sM c=true/\0<c then some (kx i c (uA i j c)) else none
 | _=>none
def X_ {S:SS}{Z:Addr->Prop}{a b c:T}{ds:List D}(h:og S Z [a,b,c] ds):∃ d d' d2,ds=[d,d',d2]/\Vw S Z a d/\Vw S Z b d'/\Vw S Z c d2:=by
 obtain⟨d,cs,rfl,h1,d',cs2,rfl,h2,d2,cs3,rfl,h3,h4⟩:=h
 cases h4
 exact⟨d,d',d2,rfl,h1,h2,h3⟩
def Rg {b:Bool}{g:Ev->Option (List T)}{tA:yi}(h:ra g tA):s_ b (xa oV g) (Zm tA):=λ S Z Y J ts Q hE e hq=>by
 obtain⟨ys,e1,e2⟩:=Ai.mp e
 refine h S Z Y J ys _ hE e1 λ ds S1 s1 r1=>?_
 unfold oV at e2
 split at e2
 ·split at e2
  ·rename_i hc
   cases e2
   obtain⟨d,d',d2,rfl,h1,h2,h3⟩:=X_ r1
   cases h1.int;cases h2.int;cases h3.int
   simp only[sM,Be,decide_eq_true_eq] at hc
   exact⟨⟨by lia,by lia,by lia,by lia,by lia,by lia⟩,hq _ S1 s1 (WZ _ _ _) λ _ _=>trivial⟩
  ·cases e2
 ·cases e2
end L5
namespace L5
open PySem PySem.Spec L2 L3
noncomputable def wM:T->Bool
 | .err _ _ _=>true
 | _=>false
@[simp] theorem zai (c f:Str) (t:T):wM (.err c f t)=true:=rfl
@[simp] theorem zaf:wM .zr=false:=rfl
@[simp] theorem zak (b:Bool):wM (.bl b)=false:=rfl
@[simp] theorem zah (b:Int):wM (.int b)=false:=rfl
@[simp] theorem zae (b:Str):wM (.str b)=false:=rfl
@[simp] theorem zad (b:List T):wM (.tup b)=false:=rfl
@[simp] theorem zag (b:List T):wM (.lst b)=false:=rfl
@[simp] theorem zaj:wM .xf=false:=rfl
end L5
namespace L3
open PySem PySem.Spec L2
open PyProof.Rows hiding St
section
variable {X:Cx}{e:Expr}{es:List Expr}{tA:yi}{pos p:Pos}
def za (i:Nat) {x:Str}(hN:X.N[i]?=some x:=by rfl) (hv:j6 X.env.scope x:=by first | exact Or.inl rfl | exact Or.inr (Or.inl rfl) | exact Or.inr (Or.inr rfl)) (hd:(x == ("__debug__":Str))=false:=by decide) (Bs:(x == ("__classdict__":Str))=false:=by decide):PD X (.Name x pos) (y6 i):=TC i (pv i hN hv hd Bs)
def zH {x:Str}{k k':Nat}{ps:List Str}{sp:sY}(F:FD X.prog X.w X.K X.mg X.base x k ps sp) (hr:yt k' X.A) (ha:xm X (e::es) tA) (hk:k<=k':=by decide) (hg:Gl X x:=by rfl) (Cc:(x == ("__debug__":Str))=false:=by decide)
  (he:starEach (e::es) X.env=(false,eval e X.env)::starEach es X.env:=by rfl) (Aq:(backTo pos (starEach es X.env)).any (·.1)=false:=by rfl):PD X (.Call (.Name x p) (e::es) [] pos) (jy sp tA):=TZ F (hr.mono hk) ha hg Cc he Aq
end
def yd {N P:List Str}{sc:Scope}(h1:sc.kind=.function:=by rfl) (h2:sc.isCoroutine=false:=by rfl) (h3:sc.isGenerator=false:=by rfl) (h4:N.Nodup:=by decide +kernel) (h5:N.take P.length=P:=by rfl) (h6:∀ x∈P,sc.names.lookup x=some .local\/sc.names.lookup x=some .cell:=by decide +kernel) (h7:∀ y∈sc.names,y.2≠.free:=by decide +kernel):zU N P sc:=⟨h1,h2,h3,h4,h5,h6,h7⟩
def yR (l:List Str) (h:l.Nodup:=by decide +kernel):l.Nodup:=h
end L3
namespace L5
open L2 L3
def ye {R:Rk}{g:Sm}{t:yI}(h:yy R g t:=by
 repeat' first
  | (with_reducible first | exact vy _ | apply Q2 | apply RA | apply Qa)
  | (with_reducible first | exact a9 _ | refine wI (R:=xO) ZF ?_ ?_ | refine gH (R:=xO) ?_ | apply aC | apply aD)
  | ((try first | refine xx.fr ?_ | refine xx.fe ?_);with_reducible first | exact xi _ | refine wI (R:=zF) (by with_reducible first | exact good_add | exact fB | exact ZH | exact O2 | exact O1 | exact fC | exact fD | exact fE | exact Ov | exact ZE) ?_ ?_ | refine gH (R:=zF) ?_ | refine aE (R:=zF) (by with_reducible first | exact O0 | exact Oo | exact Oz | exact Ox | exact Ow | exact O3 | exact Ou | exact Oq | exact Oy | exact ZI) ?_ | apply Rx | apply R0 | apply nF | apply Qd | apply aB | exact Qu _ | exact R3 _ | exact RB | apply RH | apply R_ | apply RE | refine Qm (by with_reducible first | exact fB | exact fC | exact fD | exact fE) (by with_reducible first | exact fB | exact fC | exact fD | exact fE) ?_ ?_ ?_ | apply rL | apply R5 | exact Qj _ | apply p9 | apply kM)
  | (refine xx.er ?_;with_reducible first | exact a9 _ | refine wI (R:=xO) ZF ?_ ?_ | refine gH (R:=xO) ?_ | apply aC | apply aD)
  | (with_reducible first | apply sF | apply nE | apply ax | exact aw | apply SR | apply gE | apply ay | apply gD | apply SO | exact kJ _ | apply SY | exact SU | apply SW | apply SX | exact Ra _ | apply S_ | apply SV)
  | (with_reducible first | exact kK | apply kL | exact az | apply Ru | apply aA | apply Rz | apply Qg | apply Qe | apply Qi | exact Ry | exact gG _ | exact Rj | apply Rl | exact Rn | apply Ro | apply gF | apply Rh | apply Rc | apply Rf | apply Ri | apply Rb | apply Rg | exact Rt | apply Rr)
  | (first | exact Rq _ | apply Rm | apply Rp)
  | exact yy.fv (kJ _)
  | exact Bool.false):yy R g t:=h
end L5
namespace RN
open L5
abbrev Bd:=List (Int×Int)
def ym (b c:Bd):Prop:=∀ q,zN b q=true->zN c q=true
def ym.refl (b:Bd):ym b b:=λ _ h=>h
def ym.of {b c:Bd}(h:∀ p∈b,∃ r∈c,r.1<=p.1/\r.2<=p.2):ym b c:=λ q x=>by
 obtain⟨p,hp,h1,h2⟩:=y_.mp x
 obtain⟨r,hr,h3,h4⟩:=h p hp
 exact y_.mpr ⟨r,hr,by lia,by lia⟩
def ym.at {b c:Bd}(h:ym b c) {p:Int×Int}(hp:p∈b):∃ r∈c,r.1<=p.1/\r.2<=p.2:=y_.mp (h p (y_.mpr ⟨p,hp,AK _,AK _⟩))
structure Gd (A B:Int) (b:Bd):Prop where
 kX:wD b
 ue:∀ p∈b,(0<=p.1/\p.1<=A)/\0<=p.2/\p.2<=B
noncomputable def xV:Bd:=[(0,0)]
theorem Gd.xV {A B:Int}(hA:0<=A) (hB:0<=B):Gd A B xV:=⟨by unfold RN.xV wD;simp,λ p hp=>by
 unfold RN.xV at hp;cases AR.mp hp;exact⟨⟨AK _,hA⟩,AK _,hB⟩⟩
def Gd.Pg {A B:Int}{b:Bd}(h:Gd A B b):ym b RN.xV:=ym.of λ p hp=>⟨(0,0),by unfold RN.xV;simp,(h.ue p hp).1.1,(h.ue p hp).2.1⟩
theorem Gd.eq {A B:Int}{b c:Bd}(h:Gd A B b) (h':Gd A B c) (x:ym b c) (y:ym c b):b=c:=wD.eq h.kX h'.kX λ q=>by
 rw[Bn];exact⟨x q,y q⟩
def Gd.least {A B:Int}{ps:Bd}(h:∀ p∈ps,(0<=p.1/\p.1<=A)/\0<=p.2/\p.2<=B):Gd A B (wa ps):=⟨nN ps,λ p hp=>h p (Zc hp)⟩
def kS {ps qs:Bd}(h:∀ p∈ps,∃ r∈qs,r.1<=p.1/\r.2<=p.2):ym (wa ps) (wa qs):=λ q x=>by
 rw[nP] at x ⊢;exact ym.of h q x
theorem Zv:∀ {b:Bd}{lo hi:Int},wD b->(∀ p∈b,lo<=p.1/\p.1<=hi)->(b.length:Int)<=hi+1-lo\/b=[]
 | [],_,_,_,_=>.inr rfl
 | p::b,lo,hi,h,hb=>by
  have h1:=Ba.mp h
  have hp:=hb p Ao
  refine .inl ?_
  rcases Zv (lo:=p.1+1) (hi:=hi) h1.2 (λ q hq=>⟨by have:=(h1.1 q hq).1;lia,(hb q (Av _ hq)).2⟩) with x | x
  ·rw[AX];lia
  ·subst x;simp;lia
theorem Zu:∀ {b:Bd}{lo hi:Int},wD b->(∀ p∈b,lo<=p.2/\p.2<=hi)->(b.length:Int)<=hi+1-lo\/b=[]
 | [],_,_,_,_=>.inr rfl
 | p::b,lo,hi,h,hb=>by
  have h1:=Ba.mp h
  have hp:=hb p Ao
  refine .inl ?_
  rcases Zu (lo:=lo) (hi:=p.2-1) h1.2 (λ q hq=>⟨(hb q (Av _ hq)).1,by have:=(h1.1 q hq).2;lia⟩) with x | x
  ·rw[AX];lia
  ·subst x;simp;lia
def Gd.sH {A B:Int}{b:Bd}(h:Gd A B b) (hA:0<=A):(b.length:Int)<=A+1:=by
 rcases Zv (lo:=0) (hi:=A) h.kX (λ p hp=>(h.ue p hp).1) with x | x
 ·lia
 ·subst x;simp;lia
def Gd.Pc {A B:Int}{b:Bd}(h:Gd A B b) (hB:0<=B):(b.length:Int)<=B+1:=by
 rcases Zu (lo:=0) (hi:=B) h.kX (λ p hp=>(h.ue p hp).2) with x | x
 ·lia
 ·subst x;simp;lia
noncomputable def xT (x:Int):Int:=if x>0 then x else 0
def gN (x:Int):0<=xT x:=by unfold xT;split <;> lia
def pB {x y:Int}(h:x<=y):xT x<=xT y:=by unfold xT;split <;> split <;> lia
def QH {x g:Int}(h:0<=x) (hg:0<=g):xT (x-g)<=x:=by unfold xT;split <;> lia
def xl (a b:Int) (p:Int×Int):Int×Int:=(xT (p.1-a),xT (p.2-b))
noncomputable def vg (A B:Int) (p:Int×Int):Bool:=decide (p.1<=A)&&decide (p.2<=B)
def sV (A B a b:Int) (bd:Bd):Bd:=wa ((bd.map (xl a b)).filter (vg A B))
def Mn (A B a b:Int) (bd:Bd):Gd A B (sV A B a b bd):=Gd.least λ p hp=>by
 obtain⟨h1,h2⟩:=AW.mp hp
 obtain⟨q,_,rfl⟩:=Al.mp h1
 have h3:(xl a b q).1<=A/\(xl a b q).2<=B:=by simpa [vg] using h2
 exact⟨⟨gN _,h3.1⟩,gN _,h3.2⟩
def YU (A B a b:Int) {bd Jg:Bd}(h:ym bd Jg):ym (sV A B a b bd) (sV A B a b Jg):=kS λ p hp=>by
 obtain⟨h1,h2⟩:=AW.mp hp
 obtain⟨q,hq,rfl⟩:=Al.mp h1
 obtain⟨r,hr,r1,r2⟩:=h.at hq
 have h3:(xl a b q).1<=A/\(xl a b q).2<=B:=by simpa [vg] using h2
 have m1:(xl a b r).1<=(xl a b q).1:=pB (by lia)
 have m2:(xl a b r).2<=(xl a b q).2:=pB (by lia)
 exact⟨xl a b r,AW.mpr ⟨Al.mpr ⟨r,hr,rfl⟩,by simp[vg];lia⟩,m1,m2⟩
def uk (b c:Bd):Bd:=wa (b++c)
def Nd (b c:Bd) (q:Int×Int):zN (uk b c) q=(zN b q||zN c q):=by unfold uk;rw[nP,N1]
def Nc {A B:Int}{b c:Bd}(h:Gd A B b) (h':Gd A B c):Gd A B (uk b c):=Gd.least λ p hp=>by
 rcases AY.mp hp with x | x
 ·exact h.ue p x
 ·exact h'.ue p x
noncomputable def kQ (p q:Int×Int):Int×Int:=(if q.1>p.1 then q.1 else p.1,if q.2>p.2 then q.2 else p.2)
def vG (b c:Bd):Bd:=wa (b.flatMap λ p=>c.map (kQ p))
def Y8 (b c:Bd) (q:Int×Int):zN (vG b c) q=(zN b q&&zN c q):=by
 unfold vG
 rw[nP,Bn,Be,y_,y_,y_]
 constructor
 ·rintro⟨p,hp,h1,h2⟩
  obtain⟨x,hx,hp⟩:=BK.mp hp
  obtain⟨y,hy,rfl⟩:=Al.mp hp
  unfold kQ at h1 h2
  dsimp only at h1 h2
  refine⟨⟨x,hx,?_,?_⟩,⟨y,hy,?_,?_⟩⟩ <;> (first | (split at h1 <;> lia) | (split at h2 <;> lia))
 ·rintro⟨⟨x,hx,h1,h2⟩,⟨y,hy,h3,h4⟩⟩
  refine⟨kQ x y,BK.mpr ⟨x,hx,Al.mpr ⟨y,hy,rfl⟩⟩,?_,?_⟩
  ·show (if y.1>x.1 then y.1 else x.1)<=q.1
   split <;> lia
  ·show (if y.2>x.2 then y.2 else x.2)<=q.2
   split <;> lia
def Md {A B:Int}{b c:Bd}(h:Gd A B b) (h':Gd A B c):Gd A B (vG b c):=Gd.least λ p hp=>by
 obtain⟨x,hx,hp⟩:=BK.mp hp
 obtain⟨y,hy,rfl⟩:=Al.mp hp
 have a1:=h.ue x hx
 have a2:=h'.ue y hy
 unfold kQ
 dsimp only
 refine⟨⟨?_,?_⟩,?_,?_⟩ <;> split <;> lia
def um (bs:List Bd):Bd:=bs.foldl uk []
def mO (bs:List Bd):Bd:=bs.foldl vG xV
theorem fR:∀ (bs:List Bd) (b:Bd) (q:Int×Int),zN (bs.foldl uk b) q=true↔zN b q=true\/∃ c∈bs,zN c q=true
 | [],b,q=>by simp
 | c::bs,b,q=>by
  rw[Dp,fR bs,Nd,DR]
  constructor
  ·rintro ((h | h) | ⟨d,hd,h⟩)
   ·exact .inl h
   ·exact .inr ⟨c,Ao,h⟩
   ·exact .inr ⟨d,Av _ hd,h⟩
  ·rintro (h | ⟨d,hd,h⟩)
   ·exact .inl (.inl h)
   ·rcases Aj.mp hd with e | e
    ·subst e;exact .inl (.inr h)
    ·exact .inr ⟨d,e,h⟩
theorem jo {A B:Int}:∀ (bs:List Bd) (b:Bd),Gd A B b->(∀ c∈bs,Gd A B c)->Gd A B (bs.foldl uk b)
 | [],b,h,_=>h
 | c::bs,b,h,hb=>jo bs _ (Nc h (hb c Ao)) λ d hd=>hb d (Av _ hd)
def Gd.nil {A B:Int}:Gd A B []:=⟨by unfold wD;simp,λ p hp=>by cases hp⟩
theorem ei:∀ (bs:List Bd) (b:Bd) (q:Int×Int),zN (bs.foldl vG b) q=true↔zN b q=true/\∀ c∈bs,zN c q=true
 | [],b,q=>by simp
 | c::bs,b,q=>by
  rw[Dp,ei bs,Y8,Be]
  constructor
  ·rintro⟨⟨h1,h2⟩,h3⟩
   exact⟨h1,λ d hd=>by
    rcases Aj.mp hd with e | e
    ·subst e;exact h2
    ·exact h3 d e⟩
  ·rintro⟨h1,h2⟩
   exact⟨⟨h1,h2 c Ao⟩,λ d hd=>h2 d (Av _ hd)⟩
theorem eh {A B:Int}:∀ (bs:List Bd) (b:Bd),Gd A B b->(∀ c∈bs,Gd A B c)->Gd A B (bs.foldl vG b)
 | [],b,h,_=>h
 | c::bs,b,h,hb=>eh bs _ (Md h (hb c Ao)) λ d hd=>hb d (Av _ hd)
noncomputable def sA (pu:Bool) (g t:Int):Int×Int:=if pu=true then (t,g) else (g,t)
noncomputable def va (pu:Bool) (p:Int×Int):Int:=if pu=true then p.2 else p.1
noncomputable def uD (pu:Bool) (p:Int×Int):Int:=if pu=true then p.1 else p.2
noncomputable def xw (pu:Bool) (ya give get:Int):Nat->Int->Int->Bd
 | 0,_,_=>[]
 | n+1,g,t=>if g<=ya then sA pu g t::xw pu ya give get n (g+give) (xT (t-get)) else []
def bN {pu:Bool}{g t g' t':Int}(h:g'<=g) (h':t'<=t):(sA pu g' t').1<=(sA pu g t).1/\(sA pu g' t').2<=(sA pu g t).2:=by
 cases pu
 ·exact⟨h,h'⟩
 ·exact⟨h',h⟩
theorem Y3 (pu:Bool) (ya give get:Int):∀ (n:Nat) (g t g' t':Int),g'<=g->t'<=t->∀ e∈xw pu ya give get n g t,∃ r∈xw pu ya give get n g' t',r.1<=e.1/\r.2<=e.2
 | 0,_,_,_,_,_,_,e,he=>by cases he
 | n+1,g,t,g',t',h1,h2,e,he=>by
  unfold xw at he ⊢
  split at he
  ·rw[if_pos (by lia)]
   rcases Aj.mp he with x | x
   ·subst x;exact⟨_,Ao,bN h1 h2⟩
   ·obtain⟨r,hr,r1⟩:=Y3 pu ya give get n _ _ (g' + give) (xT (t'-get)) (by lia) (pB (by lia)) e x
    exact⟨r,Av _ hr,r1⟩
  ·cases he
theorem fY (pu:Bool) (ya give get most:Int) (hg:1<=give) (hgt:0<=get):∀ (n:Nat) (g t:Int),0<=g->0<=t->t<=most->∀ e∈xw pu ya give get n g t,(0<=va pu e/\va pu e<=ya)/\0<=uD pu e/\uD pu e<=most
 | 0,_,_,_,_,_,e,he=>by cases he
 | n+1,g,t,h1,h2,h3,e,he=>by
  unfold xw at he
  split at he
  ·rcases Aj.mp he with x | x
   ·subst x
    cases pu <;> exact⟨⟨h1,by assumption⟩,h2,h3⟩
   ·exact fY pu ya give get most hg hgt n _ _ (by lia) (gN _) (Int.le_trans (QH h2 hgt) h3) e x
  ·cases he
theorem Y4 (pu:Bool) (ya give get:Int) (hg:1<=give):∀ (n:Nat) (g t:Int),g<=ya+1->((xw pu ya give get n g t).length:Int)<=ya+1-g
 | 0,g,t,h=>by simp[xw];lia
 | n+1,g,t,h=>by
  unfold xw
  split
  ·rw[AX]
   by_cases hh:g+give<=ya+1
   ·have:=Y4 pu ya give get hg n (g+give) (xT (t-get)) hh
    lia
   ·have e:xw pu ya give get n (g+give) (xT (t-get))=[]:=by
     cases n with
     | zero=>rfl
     | succ n=>unfold xw;rw[if_neg (by lia)]
    rw[e];simp;lia
  ·simp;lia
structure Wy where
 f:Nat
 t:Nat
 a:Int
 b:Int
structure Sl where
 p:Nat
 pu:Bool
 gv:Int
 gt:Int
structure zK where
 A:Int
 B:Int
 os:List Bool
 ws:List Wy
 ss:List Sl
structure zK.Ok (F:zK):Prop where
 a0:0<=F.A
 a1:F.A<=12
 b0:0<=F.B
 b1:F.B<=12
 n1:1<=F.os.length
 n8:F.os.length<=8
 ws:∀ w∈F.ws,w.f<F.os.length/\w.t<F.os.length
 o8:F.ws.length<=60
 ss:∀ s∈F.ss,1<=s.gv/\0<=s.gt
 sl:F.ss=[]\/(F.A+1)*(F.B+1)<64
 s8:F.ss.length<=60
noncomputable def zK.ya (F:zK) (pu:Bool):Int:=if pu=true then F.B else F.A
def yU (F:zK) (s:Sl) (p:Int×Int):Bd:=xw s.pu (F.ya s.pu) s.gv s.gt 100 (va s.pu p) (uD s.pu p)
def qG (F:zK) (s:Sl) (bd:Bd):Bd:=wa (bd.flatMap (yU F s))
def N9 (F:zK) (s:Sl) {b c:Bd}(h:ym b c):ym (qG F s b) (qG F s c):=kS λ p hp=>by
 obtain⟨x,hx,hp⟩:=BK.mp hp
 obtain⟨r,hr,r1,r2⟩:=h.at hx
 obtain⟨e,he,e1⟩:=Y3 s.pu (F.ya s.pu) s.gv s.gt 100 (va s.pu x) (uD s.pu x) (va s.pu r) (uD s.pu r) (by unfold va;split <;> assumption) (by unfold uD;split <;> assumption) p hp
 exact⟨e,BK.mpr ⟨r,hr,he⟩,e1⟩
def N8 {F:zK}{s:Sl}(hs:1<=s.gv/\0<=s.gt) {p:Int×Int}(hp:(0<=p.1/\p.1<=F.A)/\0<=p.2/\p.2<=F.B):∀ e∈yU F s p,(0<=e.1/\e.1<=F.A)/\0<=e.2/\e.2<=F.B:=λ e he=>by
 obtain⟨p,pu,gv,gt⟩:=s
 unfold yU zK.ya at he
 cases pu with
 | true=>exact (fY true F.B gv gt F.A hs.1 hs.2 100 _ _ hp.2.1 hp.1.1 hp.1.2 e he).symm
 | false=>exact fY false F.A gv gt F.B hs.1 hs.2 100 _ _ hp.1.1 hp.2.1 hp.2.2 e he
def NB {F:zK}{s:Sl}(hs:1<=s.gv/\0<=s.gt) {b:Bd}(h:Gd F.A F.B b):Gd F.A F.B (qG F s b):=Gd.least λ p hp=>by
 obtain⟨x,hx,hp⟩:=BK.mp hp
 exact N8 hs (h.ue x hx) p hp
def wB (F:zK) (EI:List Bd) (p:Nat):List Bd:=(F.ws.filter λ w=>decide (w.f=p)).map λ w=>sV F.A F.B w.a w.b (EI.getD w.t [])
noncomputable def zK.F4 (F:zK) (p:Nat):Option Sl:=F.ss.find? λ s=>decide (s.p=p)
def yB (F:zK) (EI:List Bd) (p:Nat):Bd:=
 if F.os.getD p false=true then match F.F4 p with
  | none=>um (wB F EI p)
  | some s=>qG F s (um (wB F EI p))
 else mO (wB F EI p)
def eJ (F:zK) (EI:List Bd) (p:Nat):∀ c∈wB F EI p,Gd F.A F.B c:=λ c hc=>by
 obtain⟨w,_,rfl⟩:=Al.mp hc
 exact Mn ..
def aN {F:zK}(ok:F.Ok) (EI:List Bd) (p:Nat):Gd F.A F.B (yB F EI p):=by
 unfold yB
 have h1:Gd F.A F.B (um (wB F EI p)):=jo _ _ Gd.nil (eJ F EI p)
 split
 ·split
  ·exact h1
  ·rename_i s e
   exact NB (ok.ss s (List.mem_of_find?_eq_some e)) h1
 ·exact eh _ _ (Gd.xV ok.a0 ok.b0) (eJ F EI p)
def QE (F:zK) {l m:List Bd}(p:Nat) (h:∀ w∈F.ws,w.f=p->ym (l.getD w.t []) (m.getD w.t [])):ym (yB F l p) (yB F m p):=by
 have h1:ym (um (wB F l p)) (um (wB F m p)):=λ q hq=>by
  unfold um at hq ⊢
  rw[fR] at hq ⊢
  rcases hq with x | ⟨c,hc,x⟩
  ·exact .inl x
  ·obtain⟨w,hw,rfl⟩:=Al.mp hc
   obtain⟨w1,w2⟩:=AW.mp hw
   exact .inr ⟨_,Al.mpr ⟨w,hw,rfl⟩,YU _ _ _ _ (h w w1 (by simpa using w2)) q x⟩
 unfold yB
 split
 ·split
  ·exact h1
  ·exact N9 F _ h1
 ·intro q hq
  unfold mO at hq ⊢
  rw[ei] at hq ⊢
  refine⟨hq.1,λ c hc=>?_⟩
  obtain⟨w,hw,rfl⟩:=Al.mp hc
  obtain⟨w1,w2⟩:=AW.mp hw
  exact YU _ _ _ _ (h w w1 (by simpa using w2)) q (hq.2 _ (Al.mpr ⟨w,hw,rfl⟩))
def QD (F:zK) {l m:List Bd}(p:Nat) (h:∀ w∈F.ws,w.f=p->l.getD w.t []=m.getD w.t []):yB F l p=yB F m p:=by
 have:wB F l p=wB F m p:=by
  unfold wB
  refine CL λ w hw=>?_
  obtain⟨w1,w2⟩:=AW.mp hw
  rw[h w w1 (by simpa using w2)]
 unfold yB;rw[this]
noncomputable def box:List (Int×Int):=(List.range 13).flatMap λ(i:Nat)=>(List.range 13).map λ(j:Nat)=>((i:Int),(j:Int))
def mu (b:Bd):Nat:=box.countP (zN b)
def Mc {p:Int×Int}(h:(0<=p.1/\p.1<=12)/\0<=p.2/\p.2<=12):p∈box:=by
 obtain⟨x,y⟩:=p
 dsimp only at h
 refine BK.mpr ⟨x.toNat,Az.mpr (by lia),Al.mpr ⟨y.toNat,Az.mpr (by lia),?_⟩⟩
 rw[Ct h.1.1,Ct h.2.1]
theorem Yy {α:Type}{p q:α->Bool}:∀ {l:List α},(∀ x,q x=true->p x=true)->(∃ x∈l,p x=true/\q x=false)->l.countP q<l.countP p
 | [],_,⟨x,hx,_⟩=>by cases hx
 | a::l,h,⟨x,hx,h1,h2⟩=>by
  have hle:l.countP q<=l.countP p:=List.countP_mono_left λ y _=>h y
  rw[List.countP_cons,List.countP_cons]
  rcases Aj.mp hx with e | e
  ·subst e;rw[if_neg (by rw[h2];decide),if_pos h1];lia
  ·have:=Yy h ⟨x,e,h1,h2⟩
   by_cases c:q a=true
   ·rw[if_pos c,if_pos (h a c)];lia
   ·rw[if_neg c];split <;> lia
def QK {A B:Int}(hA:A<=12) (hB:B<=12) {b c:Bd}(hb:Gd A B b) (hc:Gd A B c) (h:ym b c) (Am:b≠c):mu b<mu c:=by
 refine Yy h ?_
 by_cases x:∃ p∈c,zN b p=false
 ·obtain⟨p,hp,e⟩:=x
  have q:=hc.ue p hp
  exact⟨p,Mc ⟨⟨q.1.1,by lia⟩,q.2.1,by lia⟩,y_.mpr ⟨p,hp,AK _,AK _⟩,e⟩
 ·exact absurd (hb.eq hc h (ym.of λ p hp=>by
   cases e:zN b p with
   | true=>exact y_.mp e
   | false=>exact absurd ⟨p,hp,e⟩ x)) Am
def QL (b:Bd):mu b<=169:=by
 have:box.length=169:=by decide
 rw[<- this];exact List.countP_le_length
def v5 (l:List Bd):Nat:=(l.map mu).sum
theorem aP:∀ (l:List Bd),v5 l<=169*l.length
 | []=>by simp[v5]
 | b::l=>by
  have h1:=aP l
  have h2:=QL b
  unfold v5 at h1 ⊢
  rw[Au,List.sum_cons,AX];lia
theorem gP {A B:Int}(hA:A<=12) (hB:B<=12):∀ {l m:List Bd},l.length=m.length->(∀ b∈l,Gd A B b)->(∀ b∈m,Gd A B b)->(∀ i,ym (l.getD i []) (m.getD i []))->l≠m->v5 l<v5 m
 | [],[],_,_,_,_,h=>absurd rfl h
 | [],_::_,h,_,_,_,_=>by simp at h
 | _::_,[],h,_,_,_,_=>by simp at h
 | b::l,c::m,hl,gb,gc,h,Am=>by
  have GO:l.length=m.length:=by simpa using hl
  have h0:ym b c:=h 0
  have hs:∀ i,ym (l.getD i []) (m.getD i []):=λ i=>by simpa using h (i+1)
  have key:v5 l<=v5 m:=by
   by_cases e:l=m
   ·rw[e];exact Ah _
   ·exact BE (gP hA hB GO (λ x hx=>gb x (Av _ hx)) (λ x hx=>gc x (Av _ hx)) hs e)
  show (List.map mu (b::l)).sum<(List.map mu (c::m)).sum
  rw[Au,List.sum_cons,Au,List.sum_cons]
  by_cases e:b=c
  ·subst e
   have:l≠m:=λ q=>Am (by rw[q])
   have:=gP hA hB GO (λ x hx=>gb x (Av _ hx)) (λ x hx=>gc x (Av _ hx)) hs this
   unfold v5 at this;lia
  ·have:=QK hA hB (gb b Ao) (gc c Ao) h0 e
   unfold v5 at key;lia
noncomputable def uC (F:zK) (fresh:List Nat) (p:Nat):Bool:=F.ws.any λ w=>decide (w.f=p)&&fresh.contains w.t
def yf (F:zK) (EI:List Bd) (fresh:List Nat):List Bd:=(List.range EI.length).map λ p=>if uC F fresh p=true then yB F EI p else EI.getD p []
noncomputable def xu (EI Gv:List Bd):List Nat:=(List.range Gv.length).filter λ p=>decide (Gv.getD p []≠EI.getD p [])
def rF (F:zK):Nat->List (List Bd)->List Bd->List Nat->Option (List (List Bd))
 | 0,_,_,_=>none
 | n+1,FJ,EI,fresh=>if fresh=[] then some (FJ++[EI]) else
   let fo:=yf F EI fresh
   let fr:=xu EI fo
   if fr=[] then some (FJ++[EI]) else rF F n (FJ++[EI]) fo fr
structure St (F:zK) (EI:List Bd) (fresh:List Nat):Prop where
 len:EI.length=F.os.length
 gd:∀ b∈EI,Gd F.A F.B b
 fr:∀ p<F.os.length,uC F fresh p=false->(∃ w∈F.ws,w.f=p)->yB F EI p=EI.getD p []
 le:∀ p<F.os.length,(∃ w∈F.ws,w.f=p)->ym (yB F EI p) (EI.getD p [])
def jh {α:Type}(f:Nat->α) (n p:Nat) (d:α) (h:p<n):((List.range n).map f).getD p d=f p:=by
 rw[AZ,AA,List.getElem?_range h];rfl
def rN (F:zK) (EI:List Bd) (fresh:List Nat):(yf F EI fresh).length=EI.length:=by unfold yf;simp
def St.at {F:zK}{EI:List Bd}{fresh:List Nat}(s:St F EI fresh) {p:Nat}(hp:p<F.os.length) (hw:∃ w∈F.ws,w.f=p):(yf F EI fresh).getD p []=yB F EI p:=by
 unfold yf
 rw[jh _ _ _ _ (by rw[s.len];exact hp)]
 split
 ·rfl
 ·rename_i h;exact (s.fr p hp (by simpa using h) hw).symm
def Oj {F:zK}{fresh:List Nat}{p:Nat}(h:uC F fresh p=true):∃ w∈F.ws,w.f=p:=by
 unfold uC at h
 obtain⟨w,h1,h2⟩:=A6.mp h
 exact⟨w,h1,by simp at h2;exact h2.1⟩
def St.no {F:zK}{EI:List Bd}{fresh:List Nat}(s:St F EI fresh) {p:Nat}(hp:p<F.os.length) (hw:¬ ∃ w∈F.ws,w.f=p):(yf F EI fresh).getD p []=EI.getD p []:=by
 unfold yf
 rw[jh _ _ _ _ (by rw[s.len];exact hp),if_neg (λ h=>hw (Oj h))]
def St.Y2 {F:zK}{EI:List Bd}{fresh:List Nat}(s:St F EI fresh) (p:Nat):ym ((yf F EI fresh).getD p []) (EI.getD p []):=by
 by_cases hp:p<F.os.length
 ·by_cases hw:∃ w∈F.ws,w.f=p
  ·rw[s.at hp hw];exact s.le p hp hw
  ·rw[s.no hp hw];exact ym.refl _
 ·have h1:(yf F EI fresh).getD p []=[]:=by
   rw[AZ,D1 (by rw[rN,s.len];lia)];rfl
  rw[h1];intro q x;cases x
def St.next {F:zK}(ok:F.Ok) {EI:List Bd}{fresh:List Nat}(s:St F EI fresh):St F (yf F EI fresh) (xu EI (yf F EI fresh)) where
 len:=by rw[rN,s.len]
 gd:=λ b hb=>by
  unfold yf at hb
  obtain⟨p,hp,rfl⟩:=Al.mp hb
  split
  ·exact aN ok EI p
  ·have An:=Az.mp hp
   rw[AZ,A2 An]
   exact s.gd _ (Cu An)
 fr:=λ p hp hn hw=>by
  rw[s.at hp hw]
  refine QD F p λ w w1 w2=>?_
  have hwt:=(ok.ws w w1).2
  by_cases e:(yf F EI fresh).getD w.t []=EI.getD w.t []
  ·exact e
  ·have:uC F (xu EI (yf F EI fresh)) p=true:=by
    unfold uC
    refine A6.mpr ⟨w,w1,?_⟩
    have:w.t∈xu EI (yf F EI fresh):=by
     unfold xu
     exact AW.mpr ⟨Az.mpr (by rw[rN,s.len];exact hwt),by simpa using e⟩
    simp[w2,this]
   rw[this] at hn;cases hn
 le:=λ p hp hw=>by
  rw[s.at hp hw]
  exact QE F p λ w w1 w2=>s.Y2 w.t
def OA {EI fo:List Bd}(hl:fo.length=EI.length) (h:xu EI fo≠[]):fo≠EI:=λ e=>h (by
 subst e;unfold xu;simp)
def start (F:zK):List Bd:=List.replicate F.os.length xV
theorem St.start {F:zK}(ok:F.Ok):St F (start F) (List.range F.os.length) where
 len:=by unfold RN.start;simp
 gd:=λ b hb=>by rw[List.eq_of_mem_replicate hb];exact Gd.xV ok.a0 ok.b0
 fr:=λ p hp hn ⟨w,w1,w2⟩=>by
  have:uC F (List.range F.os.length) p=true:=by
   unfold uC
   refine A6.mpr ⟨w,w1,?_⟩
   have:=(ok.ws w w1).2
   simp[w2,this]
  rw[this] at hn;cases hn
 le:=λ p hp hw=>by
  have e:(RN.start F).getD p []=xV:=by
   unfold RN.start
   rw[AZ,Dz,if_pos hp];rfl
  rw[e]
  exact (aN ok _ p).Pg
theorem bw {F:zK}(ok:F.Ok):∀ (n:Nat) (FJ:List (List Bd)) (EI:List Bd) (fresh:List Nat),St F EI fresh->v5 EI<n->
  ∃ more GU,rF F n FJ EI fresh=some (FJ++EI::more)/\(∀ r∈EI::more,r.length=F.os.length/\∀ b∈r,Gd F.A F.B b)/\(EI::more).getLast?=some GU/\more.length<=v5 EI
 | 0,_,_,_,_,h=>by lia
 | n+1,FJ,EI,fresh,s,h=>by
  unfold rF
  split
  ·exact⟨[],EI,rfl,λ r hr=>by cases AR.mp hr;exact⟨s.len,s.gd⟩,rfl,AO _⟩
  ·dsimp only
   split
   ·exact⟨[],EI,rfl,λ r hr=>by cases AR.mp hr;exact⟨s.len,s.gd⟩,rfl,AO _⟩
   ·rename_i hf
    have s':=s.next ok
    have An:v5 (yf F EI fresh)<v5 EI:=gP ok.a1 ok.b1 (rN ..) s'.gd s.gd s.Y2 (OA (rN ..) hf)
    obtain⟨more,GU,e1,e2,e3,e4⟩:=bw ok n (FJ++[EI]) _ _ s' (by lia)
    refine⟨yf F EI fresh::more,GU,by rw[e1];simp,λ r hr=>?_,by rw[List.getLast?_cons_cons];exact e3,by rw[AX];lia⟩
    rcases Aj.mp hr with e | e
    ·subst e;exact⟨s.len,s.gd⟩
    ·exact e2 r e
def O4 {pu:Bool}{p q:Int×Int}:(p.1<=q.1/\p.2<=q.2)↔va pu p<=va pu q/\uD pu p<=uD pu q:=by
 cases pu
 ·exact Iff.rfl
 ·exact And.comm
noncomputable def yC (F:zK):Nat->List Bd
 | 0=>start F
 | k+1=>(List.range F.os.length).map λ p=>yB F (yC F k) p
theorem fm (F:zK):∀ k,(yC F k).length=F.os.length
 | 0=>by unfold yC start;simp
 | k+1=>by unfold yC;simp
def QC {F:zK}{EI:List Bd}{fresh:List Nat}(s:St F EI fresh) (hw:∀ p<F.os.length,∃ w∈F.ws,w.f=p):yf F EI fresh=(List.range F.os.length).map λ p=>yB F EI p:=by
 refine BC (by rw[rN,s.len];simp) λ i h1 h2=>?_
 have hi:i<F.os.length:=by simpa using h2
 have e:=s.at hi (hw i hi)
 rw[AZ,A2 h1] at e
 simpa using e
def OB {EI fo:List Bd}(hl:fo.length=EI.length) (h:xu EI fo=[]):fo=EI:=by
 refine BC hl λ i h1 h2=>?_
 have:i∉xu EI fo:=by rw[h];simp
 unfold xu at this
 rw[AW] at this
 have e:fo.getD i []=EI.getD i []:=Classical.byContradiction λ Am=>this ⟨Az.mpr h1,by simpa using Am⟩
 rw[AZ,A2 h1,AZ,A2 h2] at e
 simpa using e
theorem bx {F:zK}(ok:F.Ok) (hw:∀ p<F.os.length,∃ w∈F.ws,w.f=p):∀ (n:Nat) (FJ:List (List Bd)) (k:Nat) (fresh:List Nat) (res:List (List Bd)),St F (yC F k) fresh->fresh≠[]->FJ=(List.range k).map (yC F)->
  rF F n FJ (yC F k) fresh=some res->∃ m,res=(List.range (m+1)).map (yC F)/\yC F (m+1)=yC F m
 | 0,_,_,_,_,_,_,_,h=>by cases h
 | n+1,FJ,k,fresh,res,s,hf,ht,h=>by
  unfold rF at h
  rw[if_neg hf] at h
  dsimp only at h
  have e:yf F (yC F k) fresh=yC F (k+1):=QC s hw
  have et:FJ++[yC F k]=(List.range (k+1)).map (yC F):=by rw[ht,List.range_succ,Bz];rfl
  rw[e,et] at h
  split at h
  ·rename_i Bo
   cases h
   exact⟨k,rfl,OB (by rw[fm,fm]) Bo⟩
  ·rename_i Bo
   have s':=s.next ok
   rw[e] at s'
   exact bx ok hw n _ (k+1) _ res s' Bo rfl h
theorem Zp {F:zK}{m:Nat}(h:yC F (m+1)=yC F m):∀ k,yC F (m+k)=yC F m
 | 0=>rfl
 | k+1=>by
  have ih:=Zp h k
  show (List.range F.os.length).map (λ p=>yB F (yC F (m+k)) p)=_
  rw[ih];exact h
def Mm {A B A' B' a b:Int}(hA:A<=A') (hB:B<=B') {bd Jg:Bd}(h:ym bd Jg):ym (sV A B a b bd) (sV A' B' a b Jg):=kS λ p hp=>by
 obtain⟨h1,h2⟩:=AW.mp hp
 obtain⟨x,hx,rfl⟩:=Al.mp h1
 obtain⟨r,hr,r1,r2⟩:=h.at hx
 have e1:(xl a b r).1<=(xl a b x).1:=pB (by lia)
 have e2:(xl a b r).2<=(xl a b x).2:=pB (by lia)
 refine⟨xl a b r,AW.mpr ⟨Al.mpr ⟨r,hr,rfl⟩,?_⟩,e1,e2⟩
 unfold vg at h2 ⊢
 simp only[Be,decide_eq_true_eq] at h2 ⊢
 lia
theorem Y5 (pu:Bool) {ya HL:Int}(hb:ya<=HL) (give get:Int):∀ (n:Nat) (g t g' t':Int),g'<=g->t'<=t->∀ e∈xw pu ya give get n g t,∃ r∈xw pu HL give get n g' t',r.1<=e.1/\r.2<=e.2
 | 0,g,t,g',t',_,_,e,he=>by simp[xw] at he
 | n+1,g,t,g',t',h1,h2,e,he=>by
  unfold xw at he ⊢
  split at he
  ·rw[if_pos (by lia)]
   rcases Aj.mp he with rfl | he
   ·exact⟨_,Ao,bN h1 h2⟩
   ·obtain⟨r,hr,h⟩:=Y5 pu hb give get n _ _ (g' + give) (xT (t'-get)) (by lia) (pB (by lia)) e he
    exact⟨r,Av _ hr,h⟩
  ·cases he
structure eS (F G:zK):Prop where
 os:G.os=F.os
 ws:G.ws=F.ws
 ss:G.ss=F.ss
 a:F.A<=G.A
 b:F.B<=G.B
def NA {F G:zK}(L:eS F G) (s:Sl) {b c:Bd}(h:ym b c):ym (qG F s b) (qG G s c):=kS λ p hp=>by
 obtain⟨x,hx,hp⟩:=BK.mp hp
 obtain⟨r,hr,r1⟩:=h.at hx
 have hb:F.ya s.pu<=G.ya s.pu:=by
  unfold zK.ya
  split
  ·exact L.b
  ·exact L.a
 have hg:=(O4 (pu:=s.pu)).mp r1
 obtain⟨e,he,e1⟩:=Y5 s.pu hb s.gv s.gt 100 _ _ _ _ hg.1 hg.2 p hp
 exact⟨e,BK.mpr ⟨r,hr,he⟩,e1⟩
def QF {F G:zK}(L:eS F G) {l m:List Bd}(p:Nat) (h:∀ t,ym (l.getD t []) (m.getD t [])):ym (yB F l p) (yB G m p):=by
 have h0:∀ w:Wy,ym (sV F.A F.B w.a w.b (l.getD w.t [])) (sV G.A G.B w.a w.b (m.getD w.t [])):=λ w=>Mm L.a L.b (h w.t)
 have h1:ym (um (wB F l p)) (um (wB G m p)):=λ q hq=>by
  unfold um at hq ⊢
  rw[fR] at hq ⊢
  rcases hq with x | ⟨c,hc,x⟩
  ·exact .inl x
  ·obtain⟨w,hw,rfl⟩:=Al.mp hc
   exact .inr ⟨_,Al.mpr ⟨w,by rw[L.ws];exact hw,rfl⟩,h0 w q x⟩
 have hs:G.F4 p=F.F4 p:=by unfold zK.F4;rw[L.ss]
 unfold yB
 rw[L.os,hs]
 split
 ·split
  ·exact h1
  ·exact NA L _ h1
 ·intro q hq
  unfold mO at hq ⊢
  rw[ei] at hq ⊢
  refine⟨hq.1,λ c hc=>?_⟩
  obtain⟨w,hw,rfl⟩:=Al.mp hc
  rw[L.ws] at hw
  exact h0 w q (hq.2 _ (Al.mpr ⟨w,hw,rfl⟩))
theorem Zq {F G:zK}(L:eS F G):∀ (k t:Nat),ym ((yC F k).getD t []) ((yC G k).getD t [])
 | 0,t=>by
  show ym ((RN.start F).getD t []) ((RN.start G).getD t [])
  unfold RN.start
  rw[L.os]
  exact ym.refl _
 | k+1,t=>by
  show ym (((List.range F.os.length).map (yB F (yC F k))).getD t []) (((List.range G.os.length).map (yB G (yC G k))).getD t [])
  rw[L.os]
  by_cases ht:t<F.os.length
  ·rw[jh _ _ _ _ ht,jh _ _ _ _ ht]
   exact QF L t (Zq L k)
  ·have e:∀ f:Nat->Bd,((List.range F.os.length).map f).getD t []=[]:=λ f=>by
    rw[AZ,D1 (by simp;lia)];rfl
   rw[e,e]
   exact ym.refl _
end RN
namespace yp
open PySem L2 L3 L5
def jT:Sm:=
 (retS (vI (Fz "int" (zf 0)) (aF (Fz "bool" (zf 0)))))
def rf:List T->Option T:=zV ["thing"] 1 jT
def pV:Ev->Option T:=
 yO [none,none] (xa qW (zb (zf 0) (zb (lV (zf 0) (some (cI 1)) none) zi))) (vT 2 (xM (zA 0) (xM (zA 1) tw))) xN (ze x_ (zf 0) (zf 1))
def jW:Sm:=
 (retS (zq (wO λ bs=>bs.all id) (zb pV zi)))
def rj:List T->Option T:=zV ["things"] 1 jW
def XR:Sm:=
 (retS (vI (Fz "str" (zf 0)) (ze (uB false) (zf 0) (tupS (zb (cS (.str "keeper")) (zb (cS (.str "taker")) zi))))))
def eV:List T->Option T:=zV ["thing"] 1 XR
def dr:Sm:=
 (retS (zq xt (zb (ze zo (zf 0) (cI 1)) zi)))
def qQ:List T->Option T:=zV ["floor"] 1 dr
def cf:Sm:=
 (retS (vI (ze n_ (ze zo (zf 0) (cI 0)) (ze zo (zf 1) (cI 0))) (ze n_ (ze zo (zf 0) (cI 1)) (ze zo (zf 1) (cI 1)))))
def o3:List T->Option T:=zV ["pair","other"] 2 cf
def pZ:Sm:=
 (yG (uJ (xv (yw (zf 1))) (yE (ze x_ (ze zo (zf 2) (cI 1)) (ze zo (ze zo (zf 1) (nI (cI 1))) (cI 1))))) (wg 1 (zp 2)) yF)
def d7:Sm:=
 (zv (uq 1 (wL zi))
 (zv (xJ [2] (y8 (zq vV (zb (zf 0) zi))) (zA 2) pZ)
 (retS (zq sd (zb (zf 1) zi)))))
def uz:List T->Option T:=zV ["pairs","least","pair"] 1 d7
def qa:Sm:=
 (zv (wg 4 (ZA (yE (ze (z_ false) (zf 3) (cI 0))) (tupS (zb (zp 5) (zb (zp 6) zi))) (tupS (zb (zp 6) (zb (zp 5) zi)))))
 (zv (yb 5 (ze yo (zf 5) (ze zo (zf 1) (cI 2))))
 (yb 6 (zq pC (zb (cI 0) (zb (ze vU (zf 6) (ze zo (zf 1) (cI 3))) zi))))))
def dv:Sm:=
 (zv (yb 3 (ze zo (zf 1) (cI 1)))
 (zv (uq 4 (wL zi))
 (zv (yb 5 (ze zo (zf 2) (zf 3)))
 (zv (yb 6 (ze zo (zf 2) (ze vU (cI 1) (zf 3))))
 (zv (o7 1000000 [] (yE (ze sI (zf 5) (ze zo (zf 0) (zf 3)))) qa)
 (rG 4))))))
def lg:List T->Option T:=zV ["brims","stall","pair","purse","pairs","given","got"] 3 dv
def Y7:Ev->Option T:=
 yO [none,some 2] (xa xZ (zb (ze yo (zf 0) (cI 1)) zi)) (zA 0) xN (tupS (zb (zp 1) (zb (zp 0) zi)))
def YM:Sm:=
 (jm 1 Y7)
def XS:Sm:=
 (zv (uq 1 (wL zi))
 (zv (xJ [2] (xa xZ (zb (ze yo (zf 0) (cI 1)) zi)) (zA 2) YM)
 (rG 1)))
def oy:List T->Option T:=zV ["most","told","first"] 1 XS
def dG:Sm:=
 (zv (yG (yE (ze x_ (zf 1) (zq xt (zb (zf 0) zi)))) (retS (ze zo (zf 0) (zf 1))) yF)
 (retS (cI 0)))
def tY:List T->Option T:=zV ["_law_script","_law_k"] 2 dG
def YL:Sm:=
 (zv (wg 2 (ze y4 (zf 3) (ze xF (cI 10) (cI 6))))
 (yb 3 (ze wc (zf 3) (ze xF (cI 10) (cI 6)))))
def YK:Sm:=
 (zv (yb 3 (ze y4 (ze yo (ze yo (ze vz (zf 3) (cI 52027)) (ze wc (zf 3) (ze xF (cI 10) (cI 22)))) (ze vz (cI 13) (zf 4))) (ze yo (ze xF (cI 10) (cI 45)) (cI 9))))
 (wg 2 (ze wc (ze vz (zf 3) (ze yo (ze wc (zf 3) (ze xF (cI 10) (cI 23))) (cI 7))) (ze xF (cI 10) (cI 9)))))
def XO:Sm:=
 (zv (uq 2 (wL zi))
 (zv (yb 3 (zq eL (zb (ze wc (zf 0) (cI 2)) zi)))
 (zv (yG (yE (ze (z_ false) (ze y4 (zf 0) (cI 2)) (cI 1))) (zv (xJ [4] (xa xZ (zb (zf 1) zi)) (zA 4) YL)
 (rG 2)) yF)
 (zv (yb 3 (ze yo (ze y4 (zf 3) (ze yo (ze xF (cI 10) (cI 45)) (cI 9))) (cI 77003)))
 (zv (xJ [4] (xa xZ (zb (zf 1) zi)) (zA 4) YK)
 (rG 2))))))
def oq:List T->Option T:=zV ["_law_cell","_law_count","_law_found","_law_number","_law_k"] 2 XO
def dH:Sm:=
 (retS (zq nK (zb (cI 12) (zb (ze yo (ze vU (ze y4 (ze y4 (zf 0) (cI 25)) (ze yo (ze t9 (cI 2) (zf 1)) (cI 1))) (zf 1)) (ze y4 (ze vB (zf 0) (cI 25)) (cI 2))) zi))))
def ou:List T->Option T:=zV ["_law_number","_law_most"] 2 dH
def XQ:Sm:=
 (retS (vI (ze n_ (ze zo (zf 0) (cI 0)) (ze zo (zf 1) (cI 0))) (ze n_ (ze zo (zf 0) (cI 1)) (ze zo (zf 1) (cI 1)))))
def qg:List T->Option T:=zV ["_law_pair","_law_other"] 2 XQ
def jS:Sm:=
 (retS (vI (zq rf (zb (zp 0) zi)) (fZ sI sI (zf 1) (zf 0) (zf 2))))
def uR:List T->Option T:=zV ["thing","least","most"] 3 jS
def mN:Ev->Option T:=
 yO [none] (y8 (zf 0)) (zA 0) xN (zq eV (zb (zp 0) zi))
def cm:Sm:=
 (zv (yG (uJ (xv (yw (Fz "tuple" (zf 0)))) (xv (yE (fZ sI sI (cI 1) (zq xt (zb (zf 0) zi)) (cI 8))))) (retS (cS (.bl false))) yF)
 (retS (zq (wO λ bs=>bs.all id) (zb mN zi))))
def l8:List T->Option T:=zV ["thing"] 1 cm
def mH:Ev->Option T:=
 yO [none,some 1] (y8 (zf 0)) (zA 0) xN (zq o3 (zb (zp 1) (zb (zp 0) zi)))
def dN:Sm:=
 (retS (zq (wO λ bs=>bs.any id) (zb mH zi)))
def jM:List T->Option T:=zV ["border","pair"] 2 dN
def ea:Ev->Option T:=
 yO [none] (y8 (zf 0)) (zA 0) xN (tupS (zb (ze zo (zf 0) (cI 0)) (zb (cI 0) (zb (ze zo (zf 0) (cI 1)) zi))))
def f_:Ev->Option T:=
 yO [none] (y8 (zf 1)) (zA 0) xN (tupS (zb (ze zo (zf 0) (cI 0)) (zb (cI 1) (zb (ze zo (zf 0) (cI 1)) zi))))
def mT:Sm:=
 (zv (Yf 3 (zf 6) (zq nK (zb (zf 7) (zb (Yh 3 (zf 6) (zp 7)) zi))))
 (yG (yE (ze (z_ false) (fS 3) (cI 2))) (wg 4 (tupS (zb (zp 5) (zb (zq pC (zb (fT 3 (cI 0)) (zb (fT 3 (cI 1)) zi))) zi)))) yF))
def dW:Sm:=
 (zv (yb 2 (ze yo ea f_))
 (zv (Yg 3)
 (zv (uq 4 (wL zi))
 (zv (xJ [5,6,7] (y8 (zq vV (zb (zf 2) zi))) (vT 3 (xM (zA 5) (xM (zA 6) (xM (zA 7) tw)))) mT)
 (fJ 4 (retS (zq uz (zb (zp 4) zi))))))))
def lx:List T->Option T:=zV ["border","other","steps","lows","shared","first","side","second"] 2 dW
def dR:Sm:=
 (retS (zq uz (zb (ze yo (zq listS (zb (zf 0) zi)) (zq listS (zb (zf 1) zi))) zi)))
def lu:List T->Option T:=zV ["border","other"] 2 dR
def mJ:Ev->Option T:=
 yO [none,some 1] (y8 (zf 2)) (zA 0) xN (tupS (zb (zq pC (zb (cI 0) (zb (ze vU (ze zo (zf 0) (cI 0)) (ze zo (zf 1) (cI 2))) zi))) (zb (zq pC (zb (cI 0) (zb (ze vU (ze zo (zf 0) (cI 1)) (ze zo (zf 1) (cI 3))) zi))) zi)))
def m7:Ev->Option T:=
 yO [none,some 0] (y8 (zf 3)) (zA 0) (yw (zq o3 (zb (zp 1) (zb (zp 0) zi)))) (zp 0)
def d_:Sm:=
 (zv (yb 3 mJ)
 (retS (zq uz (zb m7 zi))))
def l5:List T->Option T:=zV ["brims","way","border","pairs"] 3 d_
def mG:Ev->Option T:=
 yO [none] (y8 (zf 0)) (zA 0) xN (zq rf (zb (zp 0) zi))
def dJ:Sm:=
 (retS (vI (Fz "tuple" (zf 0)) (vI (ze (z_ false) (zq xt (zb (zf 0) zi)) (cI 4)) (zq (wO λ bs=>bs.all id) (zb mG zi)))))
def jL:List T->Option T:=zV ["thing"] 1 dJ
def dB:Sm:=
 (retS (tupS (zb (zp 0) (zb (ze y4 (ze y4 (zf 2) (cI 8)) (zf 1)) (zb (zq ou (zb (ze y4 (ze vB (zf 2) (cI 8)) (cI 50)) (zb (zp 3) zi))) (zb (zq ou (zb (ze y4 (ze vB (zf 2) (cI 400)) (cI 50)) (zb (zp 3) zi))) zi))))))
def qf:List T->Option T:=zV ["_law_place","_law_many","_law_number","_law_size"] 4 dB
def p_:Sm:=
 (yG (uJ (xv (yw (Fz "int" (zf 3)))) (uJ (yw (Fz "bool" (zf 3))) (uJ (yE (ze x_ (zf 3) (cI 0))) (yE (ze f7 (zf 3) (zf 1)))))) (retS (cS (.bl false))) yF)
def pX:Sm:=
 (zv (yG (uJ (xv (yw (Fz "tuple" (zf 2)))) (yE (ze (z_ true) (zq xt (zb (zf 2) zi)) (cI 2)))) (retS (cS (.bl false))) yF)
 (xJ [3] (y8 (zp 2)) (zA 3) p_))
def pW:Sm:=
 (yG (uJ (xv (yE (ze x_ (ze zo (zf 0) (ze vU (zf 4) (cI 1))) (ze zo (zf 0) (zf 4))))) (yw (zq qg (zb (ze zo (zf 0) (zf 4)) (zb (ze zo (zf 0) (ze vU (zf 4) (cI 1))) zi))))) (retS (cS (.bl false))) yF)
def dE:Sm:=
 (zv (yG (xv (yw (Fz "tuple" (zf 0)))) (retS (cS (.bl false))) yF)
 (zv (xJ [2,3] (y8 (zp 0)) (zA 2) pX)
 (zv (xJ [4] (xa oW (zb (cI 1) (zb (zq xt (zb (zf 0) zi)) zi))) (zA 4) pW)
 (retS (cS (.bl true))))))
def ot:List T->Option T:=zV ["_law_found","_law_most","_law_pair","_law_part","_law_k"] 2 dE
def j0:Ev->Option T:=
 yO [none,none] (xa qW (zb (zf 0) (zb (zf 1) zi))) (vT 2 (xM (zA 0) (xM (zA 1) tw))) xN (zq uR (zb (zp 0) (zb (ze zo (zf 1) (cI 0)) (zb (ze zo (zf 1) (cI 1)) zi))))
def jU:Sm:=
 (zv (yG (uJ (xv (yw (Fz "tuple" (zf 0)))) (yE (ze (z_ true) (zq xt (zb (zf 0) zi)) (zq xt (zb (zf 1) zi))))) (retS (cS (.bl false))) yF)
 (retS (zq (wO λ bs=>bs.all id) (zb j0 zi))))
def rg:List T->Option T:=zV ["thing","bounds"] 2 jU
def dS:Sm:=
 (yG (xv (yw (zq uR (zb (zp 1) (zb (cI 0) (zb (ze vU (zq qQ (zb (zp 0) zi)) (cI 1)) zi)))))) pA yF)
def rh:List T->Option T:=zV ["floor","place"] 2 dS
def mU:Sm:=
 (yb 1 (zq lu (zb (zp 1) (zb (zp 2) zi))))
def dY:Sm:=
 (zv (yb 1 (tupS zi))
 (zv (xJ [2] (y8 (zp 0)) (zA 2) mU)
 (retS (zp 1))))
def ly:List T->Option T:=zV ["borders","joined","border"] 1 dY
def mV:Sm:=
 (yb 1 (zq lx (zb (zp 1) (zb (zp 2) zi))))
def dZ:Sm:=
 (zv (yb 1 (tupS (zb (tupS (zb (cI 0) (zb (cI 0) zi))) zi)))
 (zv (xJ [2] (y8 (zp 0)) (zA 2) mV)
 (retS (zp 1))))
def l4:List T->Option T:=zV ["borders","joined","border"] 1 dZ
def mS:Sm:=
 (wg 6 (zq qf (zb (zp 8) (zb (zp 4) (zb (ze zo (zf 3) (ze yo (ze yo (cI 3) (ze t9 (cI 4) (zf 8))) (zf 11))) (zb (zp 10) zi))))))
def qI:Sm:=
 (zv (yb 9 (ze zo (zf 3) (ze yo (cI 2) (ze t9 (cI 4) (zf 8)))))
 (zv (wg 5 (ze zo (wL (zb (cS (.str "keeper")) (zb (cS (.str "taker")) zi))) (ze y4 (zf 9) (cI 2))))
 (zv (yb 10 (ze zo (wL (zb (cI 2) (zb (cI 3) (zb (cI 3) (zb (cI 12) zi))))) (ze y4 (ze vB (zf 9) (cI 2)) (cI 4))))
 (zv (xJ [11] (xa xZ (zb (ze yo (cI 1) (ze y4 (ze vB (zf 9) (cI 8)) (cI 3))) zi)) (zA 11) mS)
 (yG (Ye (yE (ze (z_ false) (ze zo (zf 5) (zf 8)) (cS (.str "keeper")))) (yE (ze (z_ false) (ze y4 (ze vB (zf 9) (cI 24)) (cI 3)) (cI 0)))) (wg 7 (tupS (zb (zp 8) (zb (ze y4 (ze vB (zf 9) (cI 72)) (cI 2)) (zb (ze yo (cI 1) (ze y4 (ze vB (zf 9) (cI 144)) (cI 4))) (zb (ze y4 (ze vB (zf 9) (cI 576)) (cI 5)) zi)))))) yF)))))
def mQ:Sm:=
 (wg 6 (zq qf (zb (ze y4 (ze y4 (ze vB (ze zo (zf 3) (cI 0)) (cI 64)) (cI 8)) (zf 4)) (zb (zp 4) (zb (ze zo (zf 3) (ze yo (cI 34) (zf 11))) (zb (cI 3) zi))))))
def dF:Sm:=
 (zv (yb 3 (zq oq (zb (zp 0) (zb (cI 43) zi))))
 (zv (yb 4 (ze yo (cI 1) (ze y4 (ze zo (zf 3) (cI 0)) (zf 1))))
 (zv (uq 5 (wL zi))
 (zv (uq 6 (wL zi))
 (zv (uq 7 (wL zi))
 (zv (xJ [8,9,10,11] (xa xZ (zb (zf 4) zi)) (zA 8) qI)
 (zv (yG (yE (ze (z_ false) (ze y4 (ze vB (ze zo (zf 3) (cI 0)) (cI 8)) (cI 8)) (cI 1))) (xJ [11] (xa xZ (zb (zq nK (zb (cI 9) (zb (ze vU (cI 24) (zq xt (zb (zf 6) zi))) zi))) zi)) (zA 11) mQ) yF)
 (zv (yb 12 (tupS (zb (ze y4 (ze zo (zf 3) (cI 1)) (ze yo (zf 2) (cI 1))) (zb (ze y4 (ze vB (ze zo (zf 3) (cI 1)) (cI 13)) (ze yo (zf 2) (cI 1))) zi))))
 (retS (tupS (zb (zp 12) (zb (zq sd (zb (zf 5) zi)) (zb (zq sd (zb (zq sg (zb (zf 6) zi)) zi)) (zb (zq sd (zb (zf 7) zi)) zi))))))))))))))
def qS:List T->Option T:=zV ["_law_cell","_law_most","_law_brim","_law_xs","_law_many","_law_owners","_law_ways","_law_stalls","_law_place","_law_number","_law_size","_law_k","_law_brims"] 3 dF
def mM:Ev->Option T:=
 yO [none,some 1] (y8 (zf 0)) (zA 0) xN (zq rg (zb (zp 0) (zb (zp 1) zi)))
def ck:Sm:=
 (retS (vI (Fz "tuple" (zf 0)) (zq (wO λ bs=>bs.all id) (zb mM zi))))
def qU:List T->Option T:=zV ["thing","bounds"] 2 ck
def cn:Sm:=
 (retS (zq rg (zb (zp 0) (zb (tupS (zb (tupS (zb (cI 0) (zb (cI 12) zi))) (zb (tupS (zb (cI 0) (zb (cI 12) zi))) zi))) zi))))
def l9:List T->Option T:=zV ["thing"] 1 cn
def dU:Sm:=
 (yG (xv (yw (zq rg (zb (zp 1) (zb (tupS (zb (tupS (zb (cI 0) (zb (ze zo (ze zo (zf 0) (cI 0)) (cI 0)) zi))) (zb (tupS (zb (cI 0) (zb (ze zo (ze zo (zf 0) (cI 0)) (cI 1)) zi))) zi))) zi))))) pA yF)
def jN:List T->Option T:=zV ["floor","pair"] 2 dU
def mC:Ev->Option T:=
 yO [none,none,some 1] (xa rV (zb (ze zo (zf 0) (cI 2)) zi)) (vT 2 (xM (zA 0) (xM (zA 1) tw))) (yE (ze (z_ false) (ze zo (zf 1) (cI 0)) (zf 2))) (zp 0)
def dm:Sm:=
 (zv (pP (zq rh (zb (zp 0) (zb (zp 1) zi))))
 (retS mC))
def lb:List T->Option T:=zV ["floor","place"] 2 dm
def pY:Sm:=
 (yG (yE (ze (z_ false) (ze zo (zf 2) (cI 0)) (zf 1))) (retS (zp 2)) yF)
def dn:Sm:=
 (zv (pP (zq rh (zb (zp 0) (zb (zp 1) zi))))
 (zv (xJ [2] (y8 (ze zo (zf 0) (cI 3))) (zA 2) pY)
 (retS (cS .zr))))
def qP:List T->Option T:=zV ["floor","place","stall"] 2 dn
def mK:Ev->Option T:=
 yO [none] (y8 (zf 0)) (zA 0) xN (ze zo (zf 0) (cI 0))
def m9:Ev->Option T:=
 yO [none,some 4] (xa xZ (zb (zf 1) zi)) (zA 0) xN (ze (uB false) (zf 0) (zf 1))
def cg:Sm:=
 (zv (yb 2 (tupS (zb (cI 0) (zb (ze vU (zf 1) (cI 1)) zi))))
 (zv (yb 3 (tupS (zb (nI (cI 12)) (zb (cI 12) zi))))
 (zv (yG (xv (yw (zq qU (zb (zp 0) (zb (tupS (zb (zp 2) (zb (zp 2) (zb (zp 3) (zb (zp 3) zi))))) zi))))) (retS (cS (.bl false))) yF)
 (zv (yb 4 mK)
 (retS (vI (ze sI (zq xt (zb (zf 0) zi)) (cI 24)) (vI (zq rj (zb (zp 0) zi)) (zq (wO λ bs=>bs.all id) (zb m9 zi)))))))))
def l6:List T->Option T:=zV ["thing","places","place","coins","starts"] 2 cg
def mL:Ev->Option T:=
 yO [none] (y8 (zf 0)) (zA 0) xN (ze zo (zf 0) (cI 0))
def mB:Ev->Option T:=
 yO [none,some 1] (y8 (zf 0)) (zA 0) xN (ze (z_ false) (ze zo (zf 1) (ze zo (zf 0) (cI 0))) (cS (.str "keeper")))
def cj:Sm:=
 (zv (yb 2 (tupS (zb (cI 0) (zb (ze vU (zq xt (zb (zf 1) zi)) (cI 1)) zi))))
 (zv (yG (xv (yw (zq qU (zb (zp 0) (zb (tupS (zb (zp 2) (zb (tupS (zb (cI 0) (zb (cI 1) zi))) (zb (tupS (zb (cI 1) (zb (cI 12) zi))) (zb (tupS (zb (cI 0) (zb (cI 12) zi))) zi))))) zi))))) (retS (cS (.bl false))) yF)
 (retS (vI (zq rj (zb mL zi)) (zq (wO λ bs=>bs.all id) (zb mB zi))))))
def l7:List T->Option T:=zV ["thing","owners","place"] 2 cj
def mW:Sm:=
 (jm 4 (zq lg (zb (ze zo (zf 0) (cI 0)) (zb (zp 3) (zb (zp 5) zi)))))
def jV:Sm:=
 (zv (yb 3 (zq qP (zb (zp 0) (zb (zp 1) zi))))
 (zv (yG (yE (ze (nV false) (zf 3) (cS .zr))) (retS (zp 2)) yF)
 (zv (uq 4 (wL zi))
 (zv (xJ [5] (y8 (zp 2)) (zA 5) mW)
 (fJ 4 (retS (zq uz (zb (zp 4) zi))))))))
def oz:List T->Option T:=zV ["floor","place","border","stall","pairs","pair"] 3 jV
def dM:Sm:=
 (zv (yG (uJ (xv (yw (Fz "tuple" (zf 0)))) (yE (ze (z_ true) (zq xt (zb (zf 0) zi)) (cI 4)))) (retS (cS (.bl false))) yF)
 (zv (yG (uJ (xv (yw (zq l9 (zb (ze zo (zf 0) (cI 0)) zi)))) (xv (yw (zq l8 (zb (ze zo (zf 0) (cI 1)) zi))))) (retS (cS (.bl false))) yF)
 (retS (vI (zq l6 (zb (ze zo (zf 0) (cI 2)) (zb (zq xt (zb (ze zo (zf 0) (cI 1)) zi)) zi))) (zq l7 (zb (ze zo (zf 0) (cI 3)) (zb (ze zo (zf 0) (cI 1)) zi)))))))
def lp:List T->Option T:=zV ["thing"] 1 dM
def mE:Ev->Option T:=
 yO [none,some 0] (y8 (zq lb (zb (zp 0) (zb (zp 1) zi)))) (zA 0) xN (ze zo (ze zo (zf 1) (cI 2)) (zf 0))
def m5:Ev->Option T:=
 yO [none,some 0,some 2] (y8 (zf 3)) (zA 0) xN (zq l5 (zb (ze zo (zf 1) (cI 0)) (zb (zp 0) (zb (ze zo (zf 2) (ze zo (zf 0) (cI 1))) zi))))
def d5:Sm:=
 (zv (yb 3 mE)
 (zv (yb 4 m5)
 (zv (yG (yE (ze (z_ false) (ze zo (ze zo (zf 0) (cI 1)) (zf 1)) (cS (.str "keeper")))) (retS (zq oz (zb (zp 0) (zb (zp 1) (zb (zq ly (zb (zp 4) zi)) zi))))) yF)
 (retS (zq l4 (zb (zp 4) zi))))))
def lh:List T->Option T:=zV ["floor","place","last","ways","ahead"] 3 d5
def mD:Ev->Option T:=
 yO [none,some 2] (y8 (ze zo (zf 0) (cI 2))) (zA 0) (yE (ze (uB false) (ze zo (zf 0) (cI 1)) (zf 1))) (ze zo (zf 0) (cI 0))
def mR:Sm:=
 (aV 3 (zf 4) (zq lh (zb (zp 0) (zb (zp 4) (zb (zp 1) zi)))))
def dw:Sm:=
 (zv (uq 3 (zq listS (zb (zf 1) zi)))
 (zv (xJ [4] (y8 (zq sg (zb mD zi))) (zA 4) mR)
 (rG 3)))
def oo:List T->Option T:=zV ["floor","last","fresh","following","place"] 3 dw
def mI:Ev->Option T:=
 yO [none] (y8 (ze yo (zf 2) (zf 3))) (zA 0) xN (zq jL (zb (zp 0) zi))
def dP:Sm:=
 (zv (yG (xv (yw (zq (wO λ bs=>bs.all id) (zb mI zi)))) pA yF)
 (zv (yb 4 (tupS (zb (zp 0) (zb (zq sd (zb (zf 1) zi)) (zb (zq sd (zb (zq vV (zb (zf 2) zi)) zi)) (zb (zq sd (zb (zq vV (zb (zf 3) zi)) zi)) zi))))))
 (zv (yG (xv (yw (zq lp (zb (zp 4) zi)))) pA yF)
 (retS (zp 4)))))
def lq:List T->Option T:=zV ["brims","owners","ways","stalls","floor"] 4 dP
def pT:Ev->Option T:=
 yO [none,none,some 3] (xa rV (zb (zf 4) zi)) (vT 2 (xM (zA 0) (xM (zA 1) tw))) (yE (ze (z_ true) (zf 1) (ze zo (zf 2) (zf 0)))) (zp 0)
def uL:Sm:=
 (zv (yb 3 (ze zo (zf 1) (nI (cI 1))))
 (zv (yb 4 (zq oo (zb (zp 0) (zb (zp 3) (zb (zp 2) zi)))))
 (zv (yb 2 pT)
 (yG (yw (zf 2)) (wg 1 (zp 4)) yF))))
def dq:Sm:=
 (zv (uq 1 (wL (zb (ze t9 (wL (zb (tupS (zb (tupS (zb (cI 0) (zb (cI 0) zi))) zi)) zi)) (zq qQ (zb (zp 0) zi))) zi)))
 (zv (yb 2 (zq nM (zb (zq qQ (zb (zp 0) zi)) zi)))
 (zv (o7 1000000 [3,4] (yw (zf 2)) uL)
 (rG 1))))
def om:List T->Option T:=zV ["floor","told","fresh","last","following"] 1 dq
def dk:Sm:=
 (retS (zq lq (zb (zp 1) (zb (ze zo (zf 0) (cI 1)) (zb (zq listS (zb (ze zo (zf 0) (cI 2)) zi)) (zb (zq listS (zb (ze zo (zf 0) (cI 3)) zi)) zi))))))
def qO:List T->Option T:=zV ["floor","brims"] 2 dk
def dX:Sm:=
 (retS (ze zo (zq om (zb (zp 0) zi)) (nI (cI 1))))
def qh:List T->Option T:=zV ["floor"] 1 dX
def dQ:Sm:=
 (zv (pP (zq rh (zb (zp 0) (zb (zp 1) zi))))
 (zv (pP (zq jN (zb (zp 0) (zb (zp 2) zi))))
 (retS (zq jM (zb (ze zo (zq qh (zb (zp 0) zi)) (zf 1)) (zb (zp 2) zi))))))
def qT:List T->Option T:=zV ["floor","place","pair"] 3 dQ
def pU:Ev->Option T:=
 yO [none,some 0,some 1] (y8 (zq oy (zb (zp 2) zi))) (zA 0) (yw (zq qT (zb (zq qO (zb (zp 1) (zb (zp 0) zi))) (zb (zp 2) (zb (zp 0) zi))))) (zp 0)
def dA:Sm:=
 (zv (pP (zq rh (zb (zp 0) (zb (zp 1) zi))))
 (zv (yG (xv (yw (zq uR (zb (zp 2) (zb (cI 0) (zb (cI 3) zi)))))) pA yF)
 (retS (zq uz (zb pU zi)))))
def uQ:List T->Option T:=zV ["floor","place","most"] 3 dA
def mF:Ev->Option T:=
 yO [none,some 6] (y8 (zf 7)) (zA 0) xN (zq qg (zb (zp 1) (zb (zp 0) zi)))
def m6:Ev->Option T:=
 yO [none,some 6] (y8 (zf 3)) (zA 0) xN (zq qg (zb (zp 1) (zb (zp 0) zi)))
def qb:Sm:=
 (zv (yb 6 (tupS (zb (zp 4) (zb (zp 5) zi))))
 (zv (yb 7 (ze zo (zq qh (zb (tupS (zb (zp 6) (zb (ze zo (zf 0) (cI 1)) (zb (ze zo (zf 0) (cI 2)) (zb (ze zo (zf 0) (cI 3)) zi))))) zi)) (zf 1)))
 (zv (yb 8 (zq (wO λ bs=>bs.any id) (zb mF zi)))
 (yG (yE (ze (z_ true) (zf 8) (zq (wO λ bs=>bs.any id) (zb m6 zi)))) (retS (cS (.bl false))) yF))))
def r_:Sm:=
 (xJ [5,6,7,8] (xa xZ (zb (ze yo (zf 2) (cI 1)) zi)) (zA 5) qb)
def dD:Sm:=
 (zv (yb 3 (zq uQ (zb (zp 0) (zb (zp 1) (zb (zp 2) zi)))))
 (zv (yG (xv (yw (zq ot (zb (zp 3) (zb (zp 2) zi))))) (retS (cS (.bl false))) yF)
 (zv (xJ [4,5,6,7,8] (xa xZ (zb (ze yo (zf 2) (cI 1)) zi)) (zA 4) r_)
 (zv (yG (yE (ze f7 (zf 2) (cI 1))) (retS (cS (.bl true))) yF)
 (zv (yb 9 (tupS (zb (tupS (zb (ze zo (ze zo (zf 0) (cI 0)) (cI 1)) (zb (ze zo (ze zo (zf 0) (cI 0)) (cI 0)) zi))) (zb (ze zo (zf 0) (cI 1)) (zb (ze zo (zf 0) (cI 2)) (zb (ze zo (zf 0) (cI 3)) zi))))))
 (retS (ze (z_ false) (zq uQ (zb (zp 9) (zb (zp 1) (zb (zp 2) zi)))) (zf 3))))))))
def qR:List T->Option T:=zV ["_law_floor_here","_law_place","_law_most","_law_found","_law_first","_law_second","_law_brims","_law_told","_law_due","_law_other"] 3 dD
def oa:Sm:=
 (zv (yb 4 (zq qS (zb (zq tY (zb (zp 0) (zb (zp 3) zi))) (zb (zp 2) (zb (cI 12) zi)))))
 (yG (xv (yw (zq qR (zb (zp 4) (zb (ze y4 (zq tY (zb (zp 0) (zb (ze yo (zf 3) (cI 1)) zi))) (zq xt (zb (ze zo (zf 4) (cI 1)) zi))) (zb (zp 1) zi)))))) (retS (cS (.bl false))) yF))
def dI:Sm:=
 (zv (yb 1 (ze y4 (zq tY (zb (zp 0) (zb (cI 0) zi))) (cI 4)))
 (zv (yb 2 (ze zo (wL (zb (cI 8) (zb (cI 8) (zb (cI 3) (zb (cI 2) zi))))) (zf 1)))
 (zv (xJ [3,4] (xa oV (zb (cI 1) (zb (zq pC (zb (cI 2) (zb (zq nK (zb (zq xt (zb (zf 0) zi)) (zb (cI 40) zi))) zi))) (zb (ze zo (wL (zb (cI 9) (zb (cI 13) (zb (cI 30) (zb (cI 60) zi))))) (zf 1)) zi)))) (zA 3) oa)
 (retS (cS (.bl true))))))
def ox:List T->Option T:=zV ["_law_script","_law_most","_law_many","_law_k","_law_floor_here"] 1 dI
def WY (ps:List (Int×Int)) (h:ps.length<64):vV [.lst (ps.map zm)]=some (.lst ((sj ps).map zm)):=by
 show (vw (ps.map zm)).bind _=_
 rw[VI,Bm,if_pos ⟨by simpa using h,λ r hr=>by obtain⟨p,_,rfl⟩:=Al.mp hr;simp[vx]⟩,<- cM,AJ]
 rfl
def Ol {qs p:List (Int×Int)}{x:Int×Int}(hr:∀ r,qs++yH r (qs.getLast?.map (·.2))=yH (p++r) none) (hb:tR (qs.getLast?.map (·.2)) x.2=true) (r:List (Int×Int)):
  (qs++[x])++yH r ((qs++[x]).getLast?.map (·.2))=yH (p++[x]++r) none:=by
 have:=hr (x::r)
 rw[show yH (x::r) (qs.getLast?.map (·.2))=x::yH r (some x.2) by rw[yH,if_pos hb]] at this
 simpa using this
def Om {qs p:List (Int×Int)}{x:Int×Int}(hr:∀ r,qs++yH r (qs.getLast?.map (·.2))=yH (p++r) none) (hb:tR (qs.getLast?.map (·.2)) x.2=false) (r:List (Int×Int)):
  qs++yH r (qs.getLast?.map (·.2))=yH (p++[x]++r) none:=by
 have:=hr (x::r)
 rw[show yH (x::r) (qs.getLast?.map (·.2))=yH r (qs.getLast?.map (·.2)) by rw[yH,if_neg (by rw[hb];nofun)]] at this
 simpa using this
def lj (ps:List (Int×Int)) (hl:ps.length<64):uz [.lst (ps.map zm)]=some (.tup ((wa ps).map zm)):=by
 obtain⟨J',h1,qs,h2,h3,h4⟩:=tE (is:=[2]) (g:=zA 2) (b:=pZ) zm (λ p J=>∃ qs:List (Int×Int),J=[some (.im (.lst (ps.map zm))),some (.own (.lst (qs.map zm))),none]/\qs.length<=p.length/\
   ∀ r,qs++yH r (qs.getLast?.map (·.2))=yH (p++r) none) (sj ps) [some (.im (.lst (ps.map zm))),some (.own (.lst [])),none] ⟨[],by simp,by simp,λ r=>by simp⟩ (by
  rintro p x q e J ⟨qs,rfl,hq,hr⟩
  have hlen:p.length<64:=by
   have:=congrArg List.length e
   rw[(i3 ps).length_eq] at this
   simp at this;lia
  have app:tR (qs.getLast?.map (·.2)) x.2=true->∃ Jm:List (Int×Int),yu [2] [some (.im (.lst (ps.map zm))),some (.own (.lst (qs.map zm++[zm x]))),some (.im (zm x))]=[some (.im (.lst (ps.map zm))),some (.own (.lst (Jm.map zm))),none]/\Jm.length<=(p++[x]).length/\∀ r,Jm++yH r (Jm.getLast?.map (·.2))=yH (p++[x]++r) none:=λ hb=>
   ⟨qs++[x],by simp,by simp;lia,Ol hr hb⟩
  rcases List.eq_nil_or_concat qs with rfl | ⟨init,l,rfl⟩
  ·refine⟨_,?_,app (by simp[tR])⟩
   simp[turn,pZ]
  ·simp only[List.concat_eq_append] at *
   by_cases hb:x.2<l.2
   ·refine⟨_,?_,app (by simp[tR,hb])⟩
    simp at hq
    simp[turn,pZ,zm,hb,x_]
    lia
   ·refine⟨[some (.im (.lst (ps.map zm))),some (.own (.lst ((init++[l]).map zm))),some (.im (zm x))],?_,init++[l],by simp,by simp at hq ⊢;lia,Om hr (by simp[tR];lia)⟩
    simp[turn,pZ,zm,hb,x_])
 have h5:=h4 []
 simp[yH] at h5
 unfold uz d7
 simp[WY ps hl,h1,h2,h5,wa]
def MF (b o:List (Int×Int)) (hl:b.length+o.length<64):lu [.tup (b.map zm),.tup (o.map zm)]=some (.tup ((wa (b++o)).map zm)):=by
 have h:=lj (b++o) (by simpa using hl)
 rw[Bz] at h
 have:b.length+o.length<=16777216:=by lia
 unfold lu dR
 simp[h,this]
noncomputable def r0 (p:Int×Int):List Int:=[p.1,0,p.2]
noncomputable def r1 (p:Int×Int):List Int:=[p.1,1,p.2]
noncomputable def yZ (l:Option Int) (v:Int):Int:=match l with
 | none=>v
 | some m=>if m<v then m else v
noncomputable def vY (l:Option Int) (sh:List (Int×Int)) (f:Int->Int×Int):List (Int×Int):=match l with
 | some m=>sh++[f m]
 | none=>sh
structure Sw (b o:List (Int×Int)) (p:List (List Int)) (l0 l1:Option Int) (sh:List (Int×Int)):Prop where
 gT:∀ x,r0 x∈p->∃ m,l0=some m/\m<=x.2
 gS:∀ x,r1 x∈p->∃ m,l1=some m/\m<=x.2
 eD:∀ m,l0=some m->∃ x,r0 x∈p/\x.2=m
 eC:∀ m,l1=some m->∃ x,r1 x∈p/\x.2=m
 len:sh.length<=p.length
 snd:∀ s∈sh,(∃ x,r0 x∈p/\x.1<=s.1/\x.2<=s.2)/\∃ x,r1 x∈p/\x.1<=s.1/\x.2<=s.2
 all:∀ x y,r0 x∈p->r1 y∈p->∃ s∈sh,(s.1<=x.1\/s.1<=y.1)/\(s.2<=x.2\/s.2<=y.2)
def kz {x y:Int×Int}(h:r0 x=r0 y):x=y:=by
 unfold r0 at h;injection h with h1 h2;injection h2 with _ h2;injection h2 with h2 _;exact Prod.ext h1 h2
def ky {x y:Int×Int}(h:r1 x=r1 y):x=y:=by
 unfold r1 at h;injection h with h1 h2;injection h2 with _ h2;injection h2 with h2 _;exact Prod.ext h1 h2
def pk {x y:Int×Int}(h:r0 x=r1 y):False:=by
 unfold r0 r1 at h;injection h with h1 h2;injection h2 with h2 _;lia
def tB {p:List (List Int)}{a x:List Int}(h:a∈p++[x]):a∈p\/a=x:=by simpa using h
def Sw.WQ {b o:List (Int×Int)}{p:List (List Int)}{l0 l1:Option Int}{sh:List (Int×Int)}(h:Sw b o p l0 l1 sh) (x:Int×Int) (hx:∀ y,r0 y∈p->y.1<=x.1) (hy:∀ y,r1 y∈p->y.1<=x.1):
  Sw b o (p++[r0 x]) (some (yZ l0 x.2)) l1 (vY l1 sh λ m=>(x.1,if m>yZ l0 x.2 then m else yZ l0 x.2)):=by
 have lo:yZ l0 x.2<=x.2/\∀ m,l0=some m->yZ l0 x.2<=m:=by
  unfold yZ
  cases l0 with
  | none=>exact⟨AK _,nofun⟩
  | some m=>dsimp only;split <;> refine⟨by lia,λ m' e=>?_⟩ <;> cases e <;> lia
 have la:∃ y,r0 y∈p++[r0 x]/\y.2=yZ l0 x.2:=by
  unfold yZ
  cases l0 with
  | none=>exact⟨x,by simp,rfl⟩
  | some m=>
   dsimp only
   split
   ·obtain⟨y,h1,h2⟩:=h.eD m rfl
    exact⟨y,by simp[h1],h2⟩
   ·exact⟨x,by simp,rfl⟩
 have G8:∀ s∈sh,(∃ x',r0 x'∈p++[r0 x]/\x'.1<=s.1/\x'.2<=s.2)/\∃ x',r1 x'∈p++[r0 x]/\x'.1<=s.1/\x'.2<=s.2:=λ s hs=>by
  obtain⟨⟨a,a1,a2⟩,c,c1,c2⟩:=h.snd s hs
  exact⟨⟨a,by simp[a1],a2⟩,c,by simp[c1],c2⟩
 refine⟨λ y hm=>?_,λ y hm=>?_,λ m e=>?_,λ m e=>?_,?_,λ s hs=>?_,λ y z hm hz=>?_⟩
 ·rcases tB hm with q | q
  ·obtain⟨m,e,q2⟩:=h.gT y q
   exact⟨_,rfl,by have:=lo.2 m e;lia⟩
  ·cases kz q;exact⟨_,rfl,lo.1⟩
 ·rcases tB hm with q | q
  ·exact h.gS y q
  ·exact (pk q.symm).elim
 ·cases e;exact la
 ·obtain⟨y,q1,q2⟩:=h.eC m e
  exact⟨y,by simp[q1],q2⟩
 ·have:=h.len
  cases l1 <;> simp[vY] <;> lia
 ·cases l1 with
  | none=>exact G8 s hs
  | some m=>
   rcases AY.mp hs with q | q
   ·exact G8 s q
   ·obtain rfl:s=_:=by simpa using q
    obtain⟨y,y1,y2⟩:=la
    obtain⟨z,z1,z2⟩:=h.eC m rfl
    have D5:=hy z z1
    refine⟨⟨y,y1,?_,by dsimp only;split <;> lia⟩,z,by simp[z1],D5,by dsimp only;split <;> lia⟩
    rcases tB y1 with w | w
    ·exact hx y w
    ·cases kz w;exact AK _
 ·have Jt:r1 z∈p:=by
   rcases tB hz with q | q
   ·exact q
   ·exact (pk q.symm).elim
  rcases tB hm with q | q
  ·obtain⟨s,s1,s2⟩:=h.all y z q Jt
   refine⟨s,?_,s2⟩
   cases l1 <;> simp[vY,s1]
  ·cases kz q
   obtain⟨m,e,hm⟩:=h.gS z Jt
   subst e
   refine⟨_,AU _ Ao,.inl (AK _),?_⟩
   have:=lo.1
   dsimp only
   split <;> lia
def Sw.swap {b o:List (Int×Int)}{p:List (List Int)}{l0 l1:Option Int}{sh:List (Int×Int)}(x:Int×Int) (h:Sw b o p l0 l1 sh) (hx:∀ y,r0 y∈p->y.1<=x.1) (hy:∀ y,r1 y∈p->y.1<=x.1):
  Sw b o (p++[r1 x]) l0 (some (yZ l1 x.2)) (vY l0 sh λ m=>(x.1,if yZ l1 x.2>m then yZ l1 x.2 else m)):=by
 have lo:yZ l1 x.2<=x.2/\∀ m,l1=some m->yZ l1 x.2<=m:=by
  unfold yZ
  cases l1 with
  | none=>exact⟨AK _,nofun⟩
  | some m=>dsimp only;split <;> refine⟨by lia,λ m' e=>?_⟩ <;> cases e <;> lia
 have la:∃ y,r1 y∈p++[r1 x]/\y.2=yZ l1 x.2:=by
  unfold yZ
  cases l1 with
  | none=>exact⟨x,by simp,rfl⟩
  | some m=>
   dsimp only
   split
   ·obtain⟨y,h1,h2⟩:=h.eC m rfl
    exact⟨y,by simp[h1],h2⟩
   ·exact⟨x,by simp,rfl⟩
 have G8:∀ s∈sh,(∃ x',r0 x'∈p++[r1 x]/\x'.1<=s.1/\x'.2<=s.2)/\∃ x',r1 x'∈p++[r1 x]/\x'.1<=s.1/\x'.2<=s.2:=λ s hs=>by
  obtain⟨⟨a,a1,a2⟩,c,c1,c2⟩:=h.snd s hs
  exact⟨⟨a,by simp[a1],a2⟩,c,by simp[c1],c2⟩
 refine⟨λ y hm=>?_,λ y hm=>?_,λ m e=>?_,λ m e=>?_,?_,λ s hs=>?_,λ y z hm hz=>?_⟩
 ·rcases tB hm with q | q
  ·exact h.gT y q
  ·exact (pk q).elim
 ·rcases tB hm with q | q
  ·obtain⟨m,e,q2⟩:=h.gS y q
   exact⟨_,rfl,by have:=lo.2 m e;lia⟩
  ·cases ky q;exact⟨_,rfl,lo.1⟩
 ·obtain⟨y,q1,q2⟩:=h.eD m e
  exact⟨y,by simp[q1],q2⟩
 ·cases e;exact la
 ·have:=h.len
  cases l0 <;> simp[vY] <;> lia
 ·cases l0 with
  | none=>exact G8 s hs
  | some m=>
   rcases AY.mp hs with q | q
   ·exact G8 s q
   ·obtain rfl:s=_:=by simpa using q
    obtain⟨y,y1,y2⟩:=la
    obtain⟨z,z1,z2⟩:=h.eD m rfl
    have D5:=hx z z1
    refine⟨⟨z,by simp[z1],D5,by dsimp only;split <;> lia⟩,y,y1,?_,by dsimp only;split <;> lia⟩
    rcases tB y1 with w | w
    ·exact hy y w
    ·cases ky w;exact AK _
 ·have Il:r0 y∈p:=by
   rcases tB hm with q | q
   ·exact q
   ·exact (pk q).elim
  rcases tB hz with q | q
  ·obtain⟨s,s1,s2⟩:=h.all y z Il q
   refine⟨s,?_,s2⟩
   cases l0 <;> simp[vY,s1]
  ·cases ky q
   obtain⟨m,e,hm⟩:=h.gT y Il
   subst e
   refine⟨_,AU _ Ao,.inr (AK _),?_⟩
   have:=lo.1
   dsimp only
   split <;> lia
structure Lw (d:List (Key×T)) (l0 l1:Option Int):Prop where
 v0:xo d (.inl 0)=l0.map T.int
 v1:xo d (.inl 1)=l1.map T.int
 len:d.length=(if l0.isSome then 1 else 0)+if l1.isSome then 1 else 0
def Lw.Uh {d:List (Key×T)}{l0 l1:Option Int}(h:Lw d l0 l1) (v:Int):Lw (vX d (.inl 0) (.int v)) (some v) l1:=by
 refine⟨by rw[lF];simp,by rw[lF];simpa using h.v1,?_⟩
 rw[Zb,h.v0,h.len]
 cases l0 <;> cases l1 <;> simp
def Lw.Ug {d:List (Key×T)}{l0 l1:Option Int}(h:Lw d l0 l1) (v:Int):Lw (vX d (.inl 1) (.int v)) l0 (some v):=by
 refine⟨by rw[lF];simpa using h.v0,by rw[lF];simp,?_⟩
 rw[Zb,h.v1,h.len]
 cases l0 <;> cases l1 <;> simp
def jj {rows p q:List (List Int)}{x:List Int}(e:L4.xD rows=p++x::q) {a:List Int}(ha:a∈p) {i j:Int}{as xs:List Int}(h1:a=i::as) (h2:x=j::xs):i<=j:=by
 have h:=L4.lU rows
 rw[e,DV] at h
 have:=h.2.2 a ha x Ao
 subst h1 h2
 rw[HT.tF] at this
 by_cases c:j=i
 ·lia
 ·rw[if_neg c] at this
  have:=of_decide_eq_false this
  lia
def MK (b o:List (Int×Int)) (hl:b.length+o.length<64):∃ sh:List (Int×Int),lx [.tup (b.map zm),.tup (o.map zm)]=some (.tup ((wa sh).map zm))/\sh.length<64/\∀ q,zN sh q=(zN b q&&zN o q):=by
 let a0:W:=.im (.tup (b.map zm))
 let a1:W:=.im (.tup (o.map zm))
 let rows:=b.map r0++o.map r1
 let a2:W:=.im (.lst (rows.map zD))
 have hlen:rows.length<64:=by simp[rows];exact hl
 have hs:vV [.lst (rows.map zD)]=some (.lst ((L4.xD rows).map zD)):=by
  show ((vw (rows.map zD)).bind λ rs=>_)=_
  rw[kr,Bm,if_pos ⟨hlen,λ r hr=>by
   rcases AY.mp hr with h | h <;> obtain⟨_,_,rfl⟩:=Al.mp h <;> simp[r0,r1]⟩]
 have JH:(L4.xD rows).length=rows.length:=(L4.uX rows).length_eq
 obtain⟨J1,h1,d,l0,l1,sh,e1,w1,s1⟩:=tE (is:=[5,6,7]) (g:=vT 3 (xM (zA 5) (xM (zA 6) (xM (zA 7) tw)))) (b:=mT) zD (λ p J=>∃ d l0 l1 sh,J=[some a0,some a1,some a2,some (.own (.yh d)),some (.own (.lst (sh.map zm))),none,none,none]/\Lw d l0 l1/\Sw b o p l0 l1 sh) (L4.xD rows) [some a0,some a1,some a2,some (.own (.yh [])),some (.own (.lst [])),none,none,none]
  ⟨[],none,none,[],by simp,⟨rfl,rfl,rfl⟩,⟨nofun,nofun,nofun,nofun,by simp,nofun,nofun⟩⟩ (by
  rintro p x q e J ⟨d,l0,l1,sh,rfl,hw,Cv⟩
  have hx:x∈rows:=(L4.uX rows).mem_iff.mp (by rw[e];simp)
  have Aq:p.length<64:=by
   have:=congrArg List.length e
   rw[JH] at this;simp at this;lia
  have Bp:sh.length<16777216:=by have:=Cv.len;lia
  have Cm:d.length<16777216:=by rw[hw.len];split <;> split <;> lia
  rcases AY.mp hx with hm | hm
  ·obtain⟨y,_,rfl⟩:=Al.mp hm
   have st:=Cv.WQ y (λ z hz=>jj e hz rfl rfl) (λ z hz=>jj e hz rfl rfl)
   have Hq:=hw.Uh (yZ l0 y.2)
   refine⟨[some a0,some a1,some a2,some (.own (.yh (vX d (.inl 0) (.int (yZ l0 y.2))))),some (.own (.lst ((vY l1 sh λ m=>(y.1,if m>yZ l0 y.2 then m else yZ l0 y.2)).map zm))),some (.im (.int y.1)),some (.im (.int 0)),some (.im (.int y.2))],?_,_,_,_,_,(by simp),Hq,st⟩
   have hr:zD (r0 y)=.tup [.int y.1,.int 0,.int y.2]:=rfl
   have v0:=Hq.v0
   have v1:=Hq.v1
   have ln:=Hq.len
   cases l0 <;> cases l1 <;> simp[turn,mT,hr,hw.v0,Cm,Bp,yZ,vY,z_,dep,eqT] at v0 v1 ln ⊢ <;> simp[v0,v1,ln,zm,vY]
  ·obtain⟨y,_,rfl⟩:=Al.mp hm
   have st:=Cv.swap y (λ z hz=>jj e hz rfl rfl) (λ z hz=>jj e hz rfl rfl)
   have Hq:=hw.Ug (yZ l1 y.2)
   refine⟨[some a0,some a1,some a2,some (.own (.yh (vX d (.inl 1) (.int (yZ l1 y.2))))),some (.own (.lst ((vY l0 sh λ m=>(y.1,if yZ l1 y.2>m then yZ l1 y.2 else m)).map zm))),some (.im (.int y.1)),some (.im (.int 1)),some (.im (.int y.2))],?_,_,_,_,_,(by simp),Hq,st⟩
   have hr:zD (r1 y)=.tup [.int y.1,.int 1,.int y.2]:=rfl
   have v0:=Hq.v0
   have v1:=Hq.v1
   have ln:=Hq.len
   cases l0 <;> cases l1 <;> simp[turn,mT,hr,hw.v1,Cm,Bp,yZ,vY,z_,dep,eqT] at v0 v1 ln ⊢ <;> simp[v0,v1,ln,zm,vY])
 have DE:sh.length<64:=by have:=s1.len;lia
 refine⟨sh,?_,DE,λ q=>?_⟩
 ·subst e1
  have Ht:ea [some a0,some a1,none,none,none,none,none,none]=some (.lst ((b.map r0).map zD)):=by
   rw[AJ]
   exact xU zm (zD ∘ r0) b (by simp[a0]) (by lia) λ y _=>by simp[zm,zD,r0]
  have Gm:f_ [some a0,some a1,none,none,none,none,none,none]=some (.lst ((o.map r1).map zD)):=by
   rw[AJ]
   exact xU zm (zD ∘ r1) o (by simp[a1]) (by lia) λ y _=>by simp[zm,zD,r1]
  have hF:=lj sh DE
  have z:b.length+o.length<=16777216:=by lia
  simp only[a0,a1,a2,rows,Bz] at Ht Gm hs h1
  unfold lx dW
  simp[Ht,Gm,z,hs,h1,hF] at Ht Gm hs h1 ⊢
  simp[Ht,Gm,z,hs,h1,hF]
 ·have m0:∀ x,r0 x∈L4.xD rows↔x∈b:=λ x=>by
   rw[(L4.uX rows).mem_iff]
   constructor
   ·intro h
    rcases AY.mp h with h | h <;> obtain⟨y,hy,e⟩:=Al.mp h
    ·cases kz e;exact hy
    ·exact (pk e.symm).elim
   ·exact λ h=>Cr _ (List.mem_map_of_mem h)
  have m1:∀ x,r1 x∈L4.xD rows↔x∈o:=λ x=>by
   rw[(L4.uX rows).mem_iff]
   constructor
   ·intro h
    rcases AY.mp h with h | h <;> obtain⟨y,hy,e⟩:=Al.mp h
    ·exact (pk e).elim
    ·cases ky e;exact hy
   ·exact λ h=>AU _ (List.mem_map_of_mem h)
  rw[Bn,Be,y_,y_,y_]
  constructor
  ·rintro⟨s,hs,g1,g2⟩
   obtain⟨⟨x,x1,x2,x3⟩,y,y1,y2,y3⟩:=s1.snd s hs
   exact⟨⟨x,(m0 x).mp x1,by lia,by lia⟩,y,(m1 y).mp y1,by lia,by lia⟩
  ·rintro⟨⟨x,x1,x2,x3⟩,y,y1,y2,y3⟩
   obtain⟨s,s1,g1,g2⟩:=s1.all x y ((m0 x).mpr x1) ((m1 y).mpr y1)
   exact⟨s,s1,by lia,by lia⟩
theorem js {α:Type}(enc:α->T) (n:Nat) (h:∀ x,dep (enc x)<=n):∀ xs:List α,xK (xs.map enc)<=n
 | []=>by simp[xK]
 | x::xs=>by
  have:=h x
  have:=js enc n h xs
  simp only[Au,xK]
  lia
def Nq (p:Int×Int):dep (zm p)<=1:=by simp[zm,dep,xK]
def ju (ps:List (Int×Int)):dep (.tup (ps.map zm))<=60:=by
 have:=js zm 1 Nq ps
 simp only[dep]
 lia
def OV {ps qs:List (Int×Int)}(h:ps=qs):z_ false (.tup (ps.map zm)) (.tup (qs.map zm))=some (.bl true):=by
 subst h
 unfold z_
 rw[if_pos ⟨ju ps,ju ps⟩,fQ];rfl
end yp
namespace yp
open PySem L2 L3 L5 RN
def bT (b:Bd):T:=.tup (b.map zm)
def rT (r:List Bd):T:=.lst (r.map bT)
noncomputable def kt (b:Bool):T:=if b=true then .str "keeper" else .str "taker"
noncomputable def zS (w:Wy):T:=.tup [.int w.f,.int w.t,.int w.a,.int w.b]
noncomputable def vf (b:Bool):Int:=if b=true then 1 else 0
def zX (s:Sl):T:=.tup [.int s.p,.int (vf s.pu),.int s.gv,.int s.gt]
def zt (F:zK):T:=.tup [.tup [.int F.A,.int F.B],.tup (F.os.map kt),.tup (F.ws.map zS),.tup (F.ss.map zX)]
def eq_int (i j:Int) (neg:Bool):z_ neg (.int i) (.int j)=some (.bl (cond neg (!decide (i=j)) (decide (i=j)))):=by
 simp[z_,dep,eqT];cases neg <;> simp[Bool.beq_eq_decide_eq]
def Xl (F:zK):qQ [zt F]=some (.int F.os.length):=by
 simp[qQ,dr,zt]
def eY (q p:Int×Int):o3 [zm q,zm p]=some (.bl (xb q p)):=by
 by_cases h1:p.1<=q.1 <;> by_cases h2:p.2<=q.2 <;> simp[o3,cf,zm,xb,h1,h2]
def sU {α:Type}(g:α->Bool) (xs:List α):vm (xs.map λ x=>T.bl (g x))=some (xs.map g):=by
 have:=YC (xs.map g)
 rwa [AJ] at this
def MB (ps:List (Int×Int)) (q:Int×Int) (hl:ps.length<=10000):jM [bT ps,zm q]=some (.bl (zN ps q)):=by
 have hc:mH [some (.im (bT ps)),some (.im (zm q))]=some (.lst (ps.map λ p=>T.bl (xb q p))):=by
  unfold mH
  refine xU zm _ ps (by simp[bT]) (by lia) λ p _=>?_
  simp[eY]
 unfold jM dN
 generalize mH=cc at hc ⊢
 simp[hc,sU]
 rfl
def MN (A B:Int) (w:Wy) (bd:Bd) (hl:bd.length<64):l5 [.tup [.int A,.int B],zS w,bT bd]=some (bT (sV A B w.a w.b bd)):=by
 have h1:mJ [some (.im (.tup [.int A,.int B])),some (.im (zS w)),some (.im (bT bd)),none]=some (.lst ((bd.map (xl w.a w.b)).map zm)):=by
  rw[AJ]
  unfold mJ
  refine xU zm _ bd (by simp[bT]) (by lia) λ p _=>?_
  simp[zm,zS,xl,xT,pG]
 have h2:m7 [some (.im (.tup [.int A,.int B])),some (.im (zS w)),some (.im (bT bd)),some (.im (.lst ((bd.map (xl w.a w.b)).map zm)))]=some (.lst (((bd.map (xl w.a w.b)).filter (vg A B)).map zm)):=by
  have:=nQ zm (λ p=>if vg A B p=true then some (zm p) else none) (pick:=[none,some 0]) (it:=y8 (zf 3)) (g:=zA 0) (c:=yw (zq o3 (zb (zp 1) (zb (zp 0) zi)))) (f:=zp 0) (J:=[some (.im (.tup [.int A,.int B])),some (.im (zS w)),some (.im (bT bd)),some (.im (.lst ((bd.map (xl w.a w.b)).map zm)))]) (bd.map (xl w.a w.b)) (by simp) (by simp;lia) (λ p _=>by
   have e:T.tup [.int A,.int B]=zm (A,B):=rfl
   have ga:xb (A,B) p=vg A B p:=rfl
   simp only[sJ,e]
   simp[eY,ga]
   cases vg A B p <;> simp)
  unfold m7
  rw[this,show ∀ l:List (Int×Int),l.filterMap (λ p=>if vg A B p=true then some (zm p) else none)=(l.filter (vg A B)).map zm from λ l=>by
   induction l with
   | nil=>rfl
   | cons a l ih=>by_cases h:vg A B a=true <;> simp[Cs,h,ih]]
 have h3:=lj ((bd.map (xl w.a w.b)).filter (vg A B)) (Nat.lt_of_le_of_lt (CV _ _) (by simpa using hl))
 unfold l5 d_
 generalize mJ=d1 at h1 ⊢
 generalize m7=d2 at h2 ⊢
 generalize uz=ff at h3 ⊢
 generalize (bd.map (xl w.a w.b)).map zm=L1 at h1 h2
 generalize (((bd.map (xl w.a w.b)).filter (vg A B)).map zm)=L2 at h2 h3
 simp[h1,h2,h3]
 rfl
def ME (b c:Bd) (hl:b.length+c.length<64):lu [bT b,bT c]=some (bT (uk b c)):=MF b c hl
def MJ (b c:Bd) (hl:b.length+c.length<64):lx [bT b,bT c]=some (bT (vG b c)):=by
 obtain⟨sh,h1,_,h2⟩:=MK b c hl
 have:wa sh=vG b c:=wD.eq (nN _) (nN _) λ q=>by
  rw[nP,h2,<- Y8]
 rw[<- this];exact h1
def MD {A B:Int}(hA:0<=A/\A<=12) (bs:List Bd) (h:∀ b∈bs,Gd A B b):ly [.lst (bs.map bT)]=some (bT (um bs)):=by
 obtain⟨J',h1,h2⟩:=tE (is:=[2]) (g:=zA 2) (b:=mU) bT (λ p J=>J=[some (.im (.lst (bs.map bT))),some (.im (bT (p.foldl uk []))),none]) bs [some (.im (.lst (bs.map bT))),some (.im (bT [])),none] rfl (by
  rintro p x q e J rfl
  have g1:Gd A B (p.foldl uk []):=jo p [] Gd.nil λ c hc=>h c (by rw[e];simp[hc])
  have g2:Gd A B x:=h x (by rw[e];simp)
  have l1:=g1.sH hA.1
  have l2:=g2.sH hA.1
  refine⟨[some (.im (.lst (bs.map bT))),some (.im (bT (uk (p.foldl uk []) x))),some (.im (bT x))],?_,by simp⟩
  simp[turn,mU,ME (p.foldl uk []) x (by lia)])
 subst h2
 unfold ly dY
 generalize mU=bb at h1 ⊢
 have e:bT []=.tup []:=rfl
 rw[e] at h1
 simp[h1,um]
def MI {A B:Int}(hA:0<=A/\A<=12) (hB:0<=B) (bs:List Bd) (h:∀ b∈bs,Gd A B b):l4 [.lst (bs.map bT)]=some (bT (mO bs)):=by
 obtain⟨J',h1,h2⟩:=tE (is:=[2]) (g:=zA 2) (b:=mV) bT (λ p J=>J=[some (.im (.lst (bs.map bT))),some (.im (bT (p.foldl vG xV))),none]) bs [some (.im (.lst (bs.map bT))),some (.im (bT xV)),none] rfl (by
  rintro p x q e J rfl
  have g1:Gd A B (p.foldl vG xV):=eh p xV (Gd.xV hA.1 hB) λ c hc=>h c (by rw[e];simp[hc])
  have g2:Gd A B x:=h x (by rw[e];simp)
  have l1:=g1.sH hA.1
  have l2:=g2.sH hA.1
  refine⟨[some (.im (.lst (bs.map bT))),some (.im (bT (vG (p.foldl vG xV) x))),some (.im (bT x))],?_,by simp⟩
  simp[turn,mV,MJ (p.foldl vG xV) x (by lia)])
 subst h2
 unfold l4 dZ
 generalize mV=bb at h1 ⊢
 have e:bT xV=.tup [.tup [.int 0,.int 0]]:=rfl
 rw[e] at h1
 simp[h1,mO]
theorem aX {α:Type}{is:List Nat}{g:T->Ev->Option Ev}{b:Sm}(enc ret:α->T) (test:α->Bool) (J0:Ev):∀ (xs:List α) (J:Ev),yu is J=J0->
  (∀ x∈xs,∃ J',yu is J'=J0/\turn g b (enc x) J0=some (if test x=true then .rt (ret x) else .nx J'))->
  xj is g b (xs.map enc) J=some (match xs.find? test with | some x=>.rt (ret x) | none=>.nx J0)
 | [],J,h,_=>by rw[Bb,List.find?_nil,xj,h]
 | x::xs,J,h,ht=>by
  rw[Au,gU,h]
  obtain⟨J',h1,h2⟩:=ht x Ao
  rw[h2,Cq]
  by_cases c:test x=true
  ·rw[if_pos c,c];rfl
  ·rw[if_neg c]
   rw[Bool.not_eq_true] at c
   rw[c]
   exact aX enc ret test J0 xs J' h1 λ y hy=>ht y (Av _ hy)
def Mx (i a b:Int):uR [.int i,.int a,.int b]=some (.bl (decide (a<=i)&&decide (i<=b))):=by
 have h:rf [.int i]=some (.bl true):=by simp[rf,jT,xI]
 by_cases h1:a<=i <;> by_cases h2:i<=b <;> simp[uR,jS,h,h1,h2]
def jO (F:zK) (p:Nat) (h:p<F.os.length):rh [zt F,.int p]=some .zr:=by
 have h1:=Mx p 0 ((F.os.length:Int)-1)
 rw[show decide ((0:Int)<=p)=true from KA (by lia),show decide ((p:Int)<=(F.os.length:Int)-1)=true from KA (by lia)] at h1
 have h2:=Xl F
 unfold rh dS
 generalize zt F=fl at *
 simp[h1,h2]
def N7 (pu:Bool) (A B:Int) (sp gv gt:Int) (x y:Int) (hg:1<=gv) (b0 b1:T) (hb:zo b0 (.int (vf pu))=some (.int (if pu=true then B else A))) (GD:zo b1 (.int 2)=some (.int gv)) (hs3:zo b1 (.int 3)=some (.int gt)) (pr:T):
  ∀ (n m:Nat) (g t:Int) (acc:Bd),(if pu=true then B else A)+1-g<=n->n<m->acc.length+n<=1000->
  ∃ g' t',w6 [] (yE (ze sI (zf 5) (ze zo (zf 0) (zf 3)))) qa m [some (.im b0),some (.im b1),some (.im pr),some (.im (.int (vf pu))),some (.own (.lst (acc.map zm))),some (.im (.int g)),some (.im (.int t))]
   = some (.nx [some (.im b0),some (.im b1),some (.im pr),some (.im (.int (vf pu))),some (.own (.lst ((acc++xw pu (if pu=true then B else A) gv gt n g t).map zm))),some (.im (.int g')),some (.im (.int t'))]):=by
 have Bj:∀ (m:Nat) (g t:Int) (acc:Bd),¬ g<=(if pu=true then B else A)->w6 [] (yE (ze sI (zf 5) (ze zo (zf 0) (zf 3)))) qa (m+1) [some (.im b0),some (.im b1),some (.im pr),some (.im (.int (vf pu))),some (.own (.lst (acc.map zm))),some (.im (.int g)),some (.im (.int t))]
   = some (.nx [some (.im b0),some (.im b1),some (.im pr),some (.im (.int (vf pu))),some (.own (.lst (acc.map zm))),some (.im (.int g)),some (.im (.int t))]):=λ m g t acc hn=>by
  unfold w6
  simp only[zo] at hb
  simp[hb,hn]
 intro n
 induction n with
 | zero=>
  intro m g t acc h1 h2 h3
  obtain⟨m,rfl⟩:∃ k,m=k+1:=⟨m-1,by lia⟩
  refine⟨g,t,?_⟩
  rw[Bj m g t acc (by lia)]
  simp[xw]
 | succ n ih=>
  intro m g t acc h1 h2 h3
  obtain⟨m,rfl⟩:∃ k,m=k+1:=⟨m-1,by lia⟩
  by_cases hc:g<=(if pu=true then B else A)
  ·obtain⟨g',t',e⟩:=ih m (g+gv) (xT (t-gt)) (acc++[sA pu g t]) (by lia) (by lia) (by simp;lia)
   refine⟨g',t',?_⟩
   have HH:qa [some (.im b0),some (.im b1),some (.im pr),some (.im (.int (vf pu))),some (.own (.lst (acc.map zm))),some (.im (.int g)),some (.im (.int t))]=some (.nx [some (.im b0),some (.im b1),some (.im pr),some (.im (.int (vf pu))),some (.own (.lst ((acc++[sA pu g t]).map zm))),some (.im (.int (g+gv))),some (.im (.int (xT (t-gt))))]):=by
    simp only[zo] at GD hs3
    have hl:acc.length<16777216:=by lia
    unfold qa
    cases pu <;> simp[vf,eq_int,GD,hs3,hl,pG,xT,sA,zm]
   unfold w6
   simp only[zo] at hb
   generalize qa=bb at *
   have e2:xw pu (if pu=true then B else A) gv gt (n+1) g t=sA pu g t::xw pu (if pu=true then B else A) gv gt n (g+gv) (xT (t-gt)):=by
    rw[xw,if_pos hc]
   rw[e2]
   simp only[List.append_assoc,List.singleton_append] at e
   simp[hb,hc,HH]
   simpa using e
  ·refine⟨g,t,?_⟩
   rw[Bj m g t acc hc,xw,if_neg hc,C5]
def MH {F:zK}(ok:F.Ok) (s:Sl) (hs:1<=s.gv/\0<=s.gt) (p:Int×Int) (h0:0<=p.1/\0<=p.2):lg [.tup [.int F.A,.int F.B],zX s,zm p]=some (.lst ((yU F s p).map zm)):=by
 obtain⟨sp,pu,gv,gt⟩:=s
 have a1:=ok.a1
 have b1:=ok.b1
 obtain⟨g',t',h⟩:=N7 pu F.A F.B sp gv gt p.1 p.2 hs.1 (.tup [.int F.A,.int F.B]) (zX ⟨sp,pu,gv,gt⟩) (by cases pu <;> simp[vf]) (by simp[zX]) (by simp[zX]) (zm p) 100 1000000 (va pu p) (uD pu p) [] (by cases pu <;> simp[va] <;> lia) (by decide) (by simp)
 unfold lg dv o7
 generalize hb:qa=bb at h ⊢
 unfold yU zK.ya
 simp only[Bb,List.nil_append] at h
 cases pu <;> simp[zX,vf,zm,va,uD] at h ⊢ <;> simp[h]
def M1 (F:zK) (p:Nat) (h:p<F.os.length) (hl:F.ss.length<=60):qP [zt F,.int p]=some (match F.F4 p with | some s=>zX s | none=>.zr):=by
 have GO:=aX (is:=[2]) (g:=zA 2) (b:=pY) zX zX (λ s=>decide (s.p=p)) [some (.im (zt F)),some (.im (.int p)),none] F.ss [some (.im (zt F)),some (.im (.int p)),none] (by simp) λ s _=>⟨[some (.im (zt F)),some (.im (.int p)),some (.im (zX s))],by simp,by
  by_cases c:s.p=p
  ·simp[turn,pY,zX,eq_int,c]
  ·have c':¬ ((s.p:Int)=(p:Int)):=by lia
   simp[turn,pY,zX,eq_int,c,c']⟩
 have h1:=jO F p h
 have h2:zo (zt F) (.int 3)=some (.tup (F.ss.map zX)):=by simp[zt]
 unfold qP dn
 generalize pY=bb at *
 generalize zt F=fl at *
 simp only[zo] at h2
 unfold zK.F4
 generalize F.ss.find? _=o at *
 simp[h1,h2,GO]
 cases o <;> simp
theorem ZZ:∀ (ws:List Wy) (k:Nat),rS k (ws.map zS)=(ws.zipIdx k).map λ wi=>T.tup [.int (wi.2:Int),zS wi.1]
 | [],k=>rfl
 | w::ws,k=>by
  rw[Au,rS,ZZ ws (k+1),Dl,Au]
theorem jY (f:Wy->Bool):∀ (ws:List Wy) (k:Nat),((ws.zipIdx k).filter λ wi=>f wi.1).map (λ wi=>wi.1)=ws.filter f
 | [],k=>rfl
 | w::ws,k=>by
  rw[Dl,List.filter_cons,List.filter_cons]
  by_cases c:f w=true
  ·rw[if_pos (by exact c),if_pos c,Au,jY f ws]
  ·rw[if_neg (by exact c),if_neg c,jY f ws]
def My (F:zK) (p:Nat) (h:p<F.os.length) (hl:F.ws.length<=60):lb [zt F,.int p]=some (.lst (((F.ws.zipIdx).filter λ wi=>decide (wi.1.f=p)).map λ wi=>T.int (wi.2:Int))):=by
 have hc:mC [some (.im (zt F)),some (.im (.int p))]=some (.lst (((F.ws.zipIdx).filter λ wi=>decide (wi.1.f=p)).map λ wi=>T.int (wi.2:Int))):=by
  have:=nQ (λ wi:Wy×Nat=>T.tup [.int (wi.2:Int),zS wi.1]) (λ wi=>if wi.1.f=p then some (T.int (wi.2:Int)) else none) (pick:=[none,none,some 1]) (it:=xa rV (zb (ze zo (zf 0) (cI 2)) zi)) (g:=vT 2 (xM (zA 0) (xM (zA 1) tw))) (c:=yE (ze (z_ false) (ze zo (zf 1) (cI 0)) (zf 2))) (f:=zp 0) (J:=[some (.im (zt F)),some (.im (.int p))]) (F.ws.zipIdx) (by
   rw[<- ZZ]
   simp[zt]) (by simp;lia) (λ wi _=>by
   by_cases c:wi.1.f=p
   ·simp[zS,eq_int,c]
   ·have c':¬ ((wi.1.f:Int)=(p:Int)):=by lia
    simp[zS,eq_int,c,c'])
  unfold mC
  rw[this]
  congr 2
  induction F.ws.zipIdx with
  | nil=>rfl
  | cons a l ih=>by_cases c:a.1.f=p <;> simp[Cs,c,ih]
 have h1:=jO F p h
 unfold lb dm
 generalize mC=cc at *
 generalize zt F=fl at *
 generalize List.map (λ wi:Wy×Nat=>T.int (wi.2:Int)) _=LL at *
 simp[h1,hc]
theorem ZX:∀ (b c:Bd),x8 (b.map zm) (c.map zm)=decide (b=c)
 | [],[]=>by simp[x8]
 | [],_::_=>by simp[x8]
 | _::_,[]=>by simp[x8]
 | p::b,q::c=>by
  have h:=ZX b c
  have e:eqT (zm p) (zm q)=decide (p=q):=by
   obtain⟨p1,p2⟩:=p
   obtain⟨q1,q2⟩:=q
   by_cases h1:p1=q1 <;> by_cases h2:p2=q2 <;> simp[zm,eqT,x8,h1,h2]
  rw[Au,Au,x8,e,h]
  by_cases h1:p=q <;> by_cases h2:b=c <;> simp[h1,h2]
def QG (b c:Bd):z_ true (bT b) (bT c)=some (.bl (decide (b≠c))):=by
 have h1:dep (bT b)<=60:=ju b
 have h2:dep (bT c)<=60:=ju c
 unfold z_
 rw[if_pos ⟨h1,h2⟩]
 show some (T.bl (!(x8 (b.map zm) (c.map zm))))=_
 rw[ZX]
 by_cases h:b=c <;> simp[h]
def kW (l:List Bd) (p:Nat) (h:p<l.length):zo (rT l) (.int p)=some (bT (l.getD p [])):=by
 show L2.zP (l.map bT) (p:Int)=_
 refine vH ?_
 rw[AA,A2 h,AZ,A2 h];rfl
def MG {F:zK}(ok:F.Ok) (p:Nat) (hp:p<F.os.length) (b:Bd) (hb:Gd F.A F.B b):oz [zt F,.int p,bT b]=some (bT (match F.F4 p with | none=>b | some s=>qG F s b)):=by
 have h1:=M1 F p hp ok.s8
 cases hs:F.F4 p with
 | none=>
  rw[hs] at h1
  unfold oz jV
  generalize qP=f1 at h1 ⊢
  generalize zt F=fl at *
  generalize bT b=bb at *
  have is1:nV false .zr .zr=some (.bl true):=rfl
  simp[h1,is1]
 | some s=>
  rw[hs] at h1
  replace h1:qP [zt F,.int p]=some (zX s):=h1
  have AI:s∈F.ss:=List.mem_of_find?_eq_some hs
  have hsz:=ok.ss s AI
  have Gu:(F.A+1)*(F.B+1)<64:=by
   rcases ok.sl with x | x
   ·rw[x] at AI;cases AI
   ·exact x
  have a0:=ok.a0
  have b0:=ok.b0
  have Eh:∀ x∈b,((yU F s x).length:Int)<=F.ya s.pu+1:=λ x hx=>by
   have q:=hb.ue x hx
   have:=Y4 s.pu (F.ya s.pu) s.gv s.gt hsz.1 100 (va s.pu x) (uD s.pu x) (by unfold zK.ya va;split <;> lia)
   have g0:0<=va s.pu x:=by unfold va;split <;> lia
   unfold yU;lia
  have AD:∀ q:Bd,(∀ x∈q,x∈b)->((q.flatMap (yU F s)).length:Int)<=q.length*(F.ya s.pu+1):=λ q=>by
   induction q with
   | nil=>intro _;simp
   | cons x q ih=>
    intro hq
    have i1:=ih λ y hy=>hq y (Av _ hy)
    have i2:=Eh x (hq x Ao)
    rw[List.flatMap_cons,Ck,AX,DP,DP,Int.add_mul]
    lia
  have hlen:(b.flatMap (yU F s)).length<64:=by
   have h2:=AD b λ _ h=>h
   have l1:=hb.sH a0
   have l2:=hb.Pc b0
   have:((b.flatMap (yU F s)).length:Int)<64:=by
    refine DN h2 (DN ?_ Gu)
    unfold zK.ya
    split
    ·exact DQ l1 (by lia)
    ·rw[Int.mul_comm (F.A+1)]
     exact DQ l2 (by lia)
   lia
  have hbr:zo (zt F) (.int 0)=some (.tup [.int F.A,.int F.B]):=by simp[zt]
  obtain⟨J',h2,h3⟩:=tE (is:=[5]) (g:=zA 5) (b:=mW) zm (λ q J=>J=[some (.im (zt F)),some (.im (.int p)),some (.im (bT b)),some (.im (zX s)),some (.own (.lst ((q.flatMap (yU F s)).map zm))),none]) b [some (.im (zt F)),some (.im (.int p)),some (.im (bT b)),some (.im (zX s)),some (.own (.lst [])),none] rfl (by
   rintro q x r e J rfl
   have hx:x∈b:=by rw[e];simp
   have q1:=hb.ue x hx
   have hF:=MH ok s hsz x ⟨q1.1.1,q1.2.1⟩
   have Hk:(q.flatMap (yU F s)).length+(yU F s x).length<=16777216:=by
    have e2:(b.flatMap (yU F s)).length=(q.flatMap (yU F s)).length+((yU F s x).length+(r.flatMap (yU F s)).length):=by rw[e];simp
    lia
   refine⟨[some (.im (zt F)),some (.im (.int p)),some (.im (bT b)),some (.im (zX s)),some (.own (.lst (((q++[x]).flatMap (yU F s)).map zm))),some (.im (zm x))],?_,by simp⟩
   have e3:((q++[x]).flatMap (yU F s)).map zm=(q.flatMap (yU F s)).map zm++(yU F s x).map zm:=by simp
   rw[e3]
   unfold turn mW
   have l3:((q.flatMap (yU F s)).map zm).length+((yU F s x).map zm).length<=16777216:=by simpa using Hk
   generalize lg=ff at *
   generalize (q.flatMap (yU F s)).map zm=L1 at *
   generalize (yU F s x).map zm=L2 at *
   generalize zt F=fl at *
   simp only[zo] at hbr
   simp[hbr,hF,l3])
  subst h3
  have hF:=lj (b.flatMap (yU F s)) hlen
  have nn:nV false (zX s) .zr=some (.bl false):=rfl
  unfold oz jV
  generalize mW=bb at *
  generalize uz=ff at *
  generalize qP=f1 at *
  generalize (b.flatMap (yU F s)).map zm=L1 at *
  have hbT:xX (bT b)=some (b.map zm):=rfl
  generalize bT b=bt at *
  generalize zt F=fl at *
  generalize zX s=st at *
  simp[h1,nn,hbT,h2,hF]
  rfl
def M8 {F:zK}(ok:F.Ok) (p:Nat) (hp:p<F.os.length) (l:List Bd) (hl:l.length=F.os.length) (hg:∀ b∈l,Gd F.A F.B b):lh [zt F,.int p,rT l]=some (bT (yB F l p)):=by
 have h1:=My F p hp ok.o8
 have IJ:zo (zt F) (.int 2)=some (.tup (F.ws.map zS)):=by simp[zt]
 have IK:zo (zt F) (.int 0)=some (.tup [.int F.A,.int F.B]):=by simp[zt]
 have JS:zo (zt F) (.int 1)=some (.tup (F.os.map kt)):=by simp[zt]
 have c1:mE [some (.im (zt F)),some (.im (.int p)),some (.im (rT l)),none,none]=some (.lst ((F.ws.filter λ w=>decide (w.f=p)).map zS)):=by
  rw[<- jY (λ w=>decide (w.f=p)) F.ws 0,AJ]
  unfold mE
  refine xU (λ wi:Wy×Nat=>T.int (wi.2:Int)) _ ((F.ws.zipIdx).filter λ wi=>decide (wi.1.f=p)) ?_ (A8 (CV _ _) (by rw[List.length_zipIdx];have:=ok.o8;lia)) λ wi CP=>?_
  ·generalize lb=ff at *
   simp[h1]
  ·have hm:=(AW.mp CP).1
   have hg:=List.mem_zipIdx_iff_getElem?.mp hm
   have:L2.zP (F.ws.map zS) (wi.2:Int)=some (zS wi.1):=by
    exact vH (by rw[AA,hg];rfl)
   generalize zt F=fl at *
   simp only[zo] at IJ
   simp[IJ,this]
 have c2:m5 [some (.im (zt F)),some (.im (.int p)),some (.im (rT l)),some (.im (.lst ((F.ws.filter λ w=>decide (w.f=p)).map zS))),none]=some (.lst ((wB F l p).map bT)):=by
  unfold wB
  rw[AJ]
  unfold m5
  refine xU zS _ (F.ws.filter λ w=>decide (w.f=p)) (by simp) (A8 (CV _ _) (by have:=ok.o8;lia)) λ w hw=>?_
  have hm:=(AW.mp hw).1
  have ht:w.t<l.length:=by rw[hl];exact (ok.ws w hm).2
  have e1:=kW l w.t ht
  have gb:Gd F.A F.B (l.getD w.t []):=by
   rw[AZ,A2 ht]
   exact hg _ (Cu ht)
  have l13:=gb.sH ok.a0
  have a12:=ok.a1
  have hF:=MN F.A F.B w (l.getD w.t []) (by lia)
  have e2:zo (zS w) (.int 1)=some (.int (w.t:Int)):=by simp[zS]
  obtain⟨bd,hbd⟩:∃ bd,l.getD w.t []=bd:=⟨_,rfl⟩
  rw[hbd] at e1 gb hF
  have EF:(l[w.t]?).getD []=bd:=by rw[<- hbd,AZ]
  generalize l5=ff at *
  generalize zt F=fl at *
  generalize rT l=rt at *
  generalize zS w=wt at *
  simp only[zo] at IK e1 e2
  simp[IK,e1,e2,hF,EF]
 have Kf:=eJ F l p
 have c3:=MD ⟨ok.a0,ok.a1⟩ (wB F l p) Kf
 have c4:=MI ⟨ok.a0,ok.a1⟩ ok.b0 (wB F l p) Kf
 have c5:=MG ok p hp (um (wB F l p)) (jo _ _ Gd.nil Kf)
 have ho:L2.zP (F.os.map kt) (p:Int)=some (kt (F.os.getD p false)):=by
  refine vH ?_
  rw[AA,A2 hp,AZ,A2 hp];rfl
 have hk:∀ b:Bool,z_ false (kt b) (.str "keeper")=some (.bl b):=λ b=>by cases b <;> rfl
 unfold lh d5
 generalize mE=d1 at *
 generalize m5=d2 at *
 generalize ly=f1 at *
 generalize l4=f2 at *
 generalize oz=f3 at *
 generalize ((F.ws.filter λ w=>decide (w.f=p)).map zS)=L1 at *
 generalize zt F=fl at *
 generalize rT l=rt at *
 unfold yB
 have GH:=hk (F.os.getD p false)
 generalize F.os.getD p false=kb at *
 generalize kt kb=ktb at *
 generalize (T.str "keeper")=ks at *
 simp only[zo] at JS
 cases kb with
 | true=>
  simp[c1,c2,JS,ho,GH,c3,c5]
  all_goals (cases F.F4 p <;> rfl)
 | false=>simp[c1,c2,JS,ho,GH,c4]
theorem ji {α β:Type}(c:α->Bool) (g:α->β):∀ l:List α,l.filterMap (λ x=>if c x=true then some (g x) else none)=(l.filter c).map g
 | []=>rfl
 | a::l=>by by_cases h:c a=true <;> simp[Cs,h,ji c g l]
def P_ (t:Nat) (fr:List Nat):uB false (.int t) (.lst (fr.map λ(k:Nat)=>T.int (k:Int)))=some (.bl (fr.contains t)):=by
 have d1:xK (fr.map λ(k:Nat)=>T.int (k:Int))<=60:=by
  refine js _ 60 (λ x=>?_) fr
  simp[dep]
 have d0:dep (.int (t:Int))<=60:=by simp[dep]
 unfold uB
 show (if dep (.int (t:Int))<=60/\xK (fr.map λ(k:Nat)=>T.int (k:Int))<=60 then _ else _)=_
 rw[if_pos ⟨d0,d1⟩]
 show some (T.bl ((fr.map λ(k:Nat)=>T.int (k:Int)).any λ x=>eqT x (.int t)))=_
 congr 2
 rw[Bn,A6,List.contains_iff_mem]
 constructor
 ·rintro⟨x,hx,h⟩
  obtain⟨k,hk,rfl⟩:=Al.mp hx
  have:(k:Int)=(t:Int):=by simpa [eqT] using h
  have:k=t:=by lia
  subst this;exact hk
 ·intro h
  exact⟨_,Al.mpr ⟨t,h,rfl⟩,by simp[eqT]⟩
def M7 {F:zK}(ok:F.Ok) (EI:List Bd) (fr:List Nat) (hl:EI.length=F.os.length) (hg:∀ b∈EI,Gd F.A F.B b):
  oo [zt F,rT EI,.lst (fr.map λ(k:Nat)=>T.int (k:Int))]=some (rT (yf F EI fr)):=by
 have IJ:zo (zt F) (.int 2)=some (.tup (F.ws.map zS)):=by simp[zt]
 have c1:mD [some (.im (zt F)),some (.im (rT EI)),some (.im (.lst (fr.map λ(k:Nat)=>T.int (k:Int)))),some (.own (.lst (EI.map bT))),none]=some (.lst (((F.ws.filter λ w=>fr.contains w.t).map λ w=>(w.f:Int)).map T.int)):=by
  have:=nQ zS (λ w=>if fr.contains w.t=true then some (T.int (w.f:Int)) else none) (pick:=[none,some 2]) (it:=y8 (ze zo (zf 0) (cI 2))) (g:=zA 0) (c:=yE (ze (uB false) (ze zo (zf 0) (cI 1)) (zf 1))) (f:=ze zo (zf 0) (cI 0)) (J:=[some (.im (zt F)),some (.im (rT EI)),some (.im (.lst (fr.map λ(k:Nat)=>T.int (k:Int)))),some (.own (.lst (EI.map bT))),none]) F.ws (by
    generalize zt F=fl at *
    simp only[zo] at IJ
    simp[IJ]) (by have:=ok.o8;lia) (λ w _=>by
   have hi:=P_ w.t fr
   generalize (T.lst (fr.map λ(k:Nat)=>T.int (k:Int)))=ft at *
   generalize fr.contains w.t=cb at *
   cases cb <;> simp[zS,hi])
  unfold mD
  rw[this]
  rw[ji (λ w:Wy=>fr.contains w.t) (λ w:Wy=>T.int (w.f:Int)),AJ];rfl
 have DD:sg [.lst (((F.ws.filter λ w=>fr.contains w.t).map λ w=>(w.f:Int)).map T.int)]=some (.lst ((wF ((F.ws.filter λ w=>fr.contains w.t).map λ w=>(w.f:Int))).map T.int)):=by
  show (match ud (((F.ws.filter λ w=>fr.contains w.t).map λ w=>(w.f:Int)).map T.int) with | some ns=>_ | none=>_)=_
  rw[kZ]
  refine if_pos ?_
  have:=CV (λ w:Wy=>fr.contains w.t) F.ws
  have:=ok.o8
  simp only[Ay];lia
 have AI:∀ k∈wF ((F.ws.filter λ w=>fr.contains w.t).map λ w=>(w.f:Int)),∃ p:Nat,k=(p:Int)/\p<F.os.length/\uC F fr p=true:=λ k hk=>by
  obtain⟨w,hw,rfl⟩:=Al.mp (kO.mp hk)
  obtain⟨w1,w2⟩:=AW.mp hw
  exact⟨w.f,rfl,(ok.ws w w1).1,A6.mpr ⟨w,w1,by simpa using w2⟩⟩
 have D8:∀ p:Nat,uC F fr p=true->(p:Int)∈wF ((F.ws.filter λ w=>fr.contains w.t).map λ w=>(w.f:Int)):=λ p h=>by
  obtain⟨w,w1,w2⟩:=A6.mp h
  have w3:w.f=p/\fr.contains w.t=true:=by simpa using w2
  exact kO.mpr (Al.mpr ⟨w,AW.mpr ⟨w1,w3.2⟩,by rw[w3.1]⟩)
 generalize wF ((F.ws.filter λ w=>fr.contains w.t).map λ w=>(w.f:Int))=up at *
 have ft:∃ t,(T.lst (fr.map λ(k:Nat)=>T.int (k:Int)))=t:=⟨_,rfl⟩
 obtain⟨J',h1,h2⟩:=tE (is:=[4]) (g:=zA 4) (b:=mR) T.int (λ pre J=>J=[some (.im (zt F)),some (.im (rT EI)),some (.im (.lst (fr.map λ(k:Nat)=>T.int (k:Int)))),some (.own (.lst (((List.range EI.length).map λ(p:Nat)=>if (p:Int)∈pre then yB F EI p else EI.getD p []).map bT))),none]) up
   [some (.im (zt F)),some (.im (rT EI)),some (.im (.lst (fr.map λ(k:Nat)=>T.int (k:Int)))),some (.own (.lst (EI.map bT))),none] (by
  have e:(List.range EI.length).map (λ(p:Nat)=>if (p:Int)∈([]:List Int) then yB F EI p else EI.getD p [])=EI:=by
   refine BC (by simp) λ i h1 h2=>?_
   simp[h2]
  rw[e];rfl) (by
  rintro pre k q e J rfl
  obtain⟨p,rfl,hp,hw⟩:=AI k (by rw[e];simp)
  have hF:=M8 ok p hp EI hl hg
  refine⟨[some (.im (zt F)),some (.im (rT EI)),some (.im (.lst (fr.map λ(k:Nat)=>T.int (k:Int)))),some (.own (.lst (((List.range EI.length).map λ(i:Nat)=>if (i:Int)∈pre++[(p:Int)] then yB F EI i else EI.getD i []).map bT))),some (.im (.int p))],?_,by simp⟩
  have Ee:(((List.range EI.length).map λ(i:Nat)=>if (i:Int)∈pre then yB F EI i else EI.getD i []).map bT).set p (bT (yB F EI p))=((List.range EI.length).map λ(i:Nat)=>if (i:Int)∈pre++[(p:Int)] then yB F EI i else EI.getD i []).map bT:=by
   refine BC (by simp) λ i h1 h2=>?_
   rw[List.getElem_set]
   simp only[List.getElem_map,Dv,AY,AR]
   by_cases c:p=i
   ·subst c;simp
   ·have c':¬ ((i:Int)=(p:Int)):=by lia
    simp[c,c']
  have BH:wZ (((List.range EI.length).map λ(i:Nat)=>if (i:Int)∈pre then yB F EI i else EI.getD i []).map bT).length (p:Int)=some p:=by
   unfold wZ
   simp only[Ay,BR]
   rw[if_pos (by lia),if_pos (by lia),Co]
  rw[<- Ee]
  unfold turn mR
  generalize lh=ff at *
  generalize (((List.range EI.length).map λ(i:Nat)=>if (i:Int)∈pre then yB F EI i else EI.getD i []).map bT)=LL at *
  generalize zt F=fl at *
  generalize rT EI=rl at *
  generalize (T.lst (fr.map λ(k:Nat)=>T.int (k:Int)))=ftt at *
  simp[hF,BH])
 subst h2
 have fin:((List.range EI.length).map λ(p:Nat)=>if (p:Int)∈up then yB F EI p else EI.getD p [])=yf F EI fr:=by
  unfold yf
  refine CL λ p hp=>?_
  by_cases c:uC F fr p=true
  ·rw[if_pos c,if_pos (D8 p c)]
  ·rw[if_neg c,if_neg λ h=>c (by obtain⟨p',e,_,h'⟩:=AI _ h;exact (show p'=p by lia)▸h')]
 rw[fin] at h1
 have IU:listS [rT EI]=some (.lst (EI.map bT)):=rfl
 unfold oo dw
 generalize mD=cc at *
 generalize mR=bb at *
 generalize (((F.ws.filter λ w=>fr.contains w.t).map λ w=>(w.f:Int)).map T.int)=L1 at *
 generalize CQ:up.map T.int=L2 at *
 generalize EI.map bT=L3 at *
 generalize zt F=fl at *
 have Cw:xX (rT EI)=some L3:=by simpa using IU
 generalize rT EI=rl at *
 generalize (T.lst (fr.map λ(k:Nat)=>T.int (k:Int)))=ftt at *
 simp[Cw,c1,DD,h1,rT]
theorem Z_ {α:Type}(enc:α->T) (d:α) (fo:List α):∀ (l:List α) (k:Nat),(∀ i,l.getD i d=fo.getD (k+i) d)->rS k (l.map enc)=(List.range l.length).map λ(p:Nat)=>T.tup [.int ((k+p:Nat):Int),enc (fo.getD (k+p) d)]
 | [],k,_=>rfl
 | b::l,k,h=>by
  have h0:=h 0
  rw[Au,rS,Z_ enc d fo l (k+1) λ i=>by have:=h (i+1);rw[show k+1+i=k+(i+1) from by lia];simpa using this]
  rw[AX,CZ,Au,AJ]
  have e:b=fo.getD k d:=by simpa using h0
  congr 1
  ·rw[e];rfl
  ·refine CL λ p _=>?_
   simp only[Function.comp]
   rw[show k+1+p=k+Nat.succ p from by lia]
noncomputable def xp (fr:List Nat):T:=.lst (fr.map λ(k:Nat)=>T.int (k:Int))
def Mb (a:T) (b c:Option L5.W) (EI fo:List Bd) (hl:fo.length=EI.length) (h16:fo.length<=10000):pT [some (.im a),b,c,some (.im (rT EI)),some (.im (rT fo))]=some (xp (xu EI fo)):=by
 have:=nQ (λ p:Nat=>T.tup [.int (p:Int),bT (fo.getD p [])]) (λ p=>if decide (fo.getD p []≠EI.getD p [])=true then some (T.int (p:Int)) else none) (pick:=[none,none,some 3]) (it:=xa rV (zb (zf 4) zi)) (g:=vT 2 (xM (zA 0) (xM (zA 1) tw))) (c:=yE (ze (z_ true) (zf 1) (ze zo (zf 2) (zf 0)))) (f:=zp 0) (J:=[some (.im a),b,c,some (.im (rT EI)),some (.im (rT fo))]) (List.range fo.length) (by
   have:=Z_ bT [] fo fo 0 λ i=>by rw[Nat.zero_add]
   simp only[Nat.zero_add] at this
   have e:rV [rT fo]=some (rS 0 (fo.map bT)):=rfl
   rw[<- this]
   generalize rV=en at *
   simp[e]) (by simp;lia) (λ p hp=>by
  have G0:p<EI.length:=by rw[<- hl];exact Az.mp hp
  have h1:=kW EI p G0
  have h2:=QG (fo.getD p []) (EI.getD p [])
  generalize fo.getD p []=x at *
  generalize EI.getD p []=y at *
  generalize rT EI=rl at *
  generalize decide (x≠y)=d at *
  simp only[zo] at h1
  cases d <;> simp[h1,h2])
 unfold pT
 rw[this,ji (λ p:Nat=>decide (fo.getD p []≠EI.getD p [])) (λ p:Nat=>T.int (p:Int))]
 rfl
theorem bu {F:zK}(ok:F.Ok):∀ (n:Nat) (pre:List (List Bd)) (EI:List Bd) (fr:List Nat) (res:List (List Bd)),St F EI fr->rF F n pre EI fr=some res->pre.length+n<=10000->∀ (m:Nat),n<m->∀ x3 x4:Option L5.W,
  ∃ Jy,w6 [3,4] (yw (zf 2)) uL m [some (.im (zt F)),some (.own (.lst ((pre++[EI]).map rT))),some (.im (xp fr)),x3,x4]=some (.nx [some (.im (zt F)),some (.own (.lst (res.map rT))),some (.im Jy),none,none])
 | 0,_,_,_,_,_,h,_,_,_,_,_=>by cases h
 | n+1,pre,EI,fr,res,s,h,hn,m,hm,x3,x4=>by
  have Bj:∀ (m:Nat) (FJ:List (List Bd)) (x3 x4:Option L5.W),w6 [3,4] (yw (zf 2)) uL (m+1) [some (.im (zt F)),some (.own (.lst (FJ.map rT))),some (.im (xp [])),x3,x4]=some (.nx [some (.im (zt F)),some (.own (.lst (FJ.map rT))),some (.im (xp [])),none,none]):=λ m FJ x3 x4=>by
   unfold w6
   simp[xp]
  obtain⟨m,rfl⟩:∃ k,m=k+1:=⟨m-1,by lia⟩
  unfold rF at h
  by_cases Bo:fr=[]
  ·rw[if_pos Bo] at h
   cases h
   subst Bo
   exact⟨_,Bj m _ x3 x4⟩
  ·rw[if_neg Bo] at h
   dsimp only at h
   have hlen:=s.len
   have n8:=ok.n8
   have hF:=M7 ok EI fr s.len s.gd
   have Gr:zo (.lst ((pre++[EI]).map rT)) (.int (-1))=some (rT EI):=by
    show L2.zP ((pre++[EI]).map rT) (-1)=_
    rw[Bz]
    exact eA _ _
   have hc:=λ b c=>Mb (zt F) b c EI (yf F EI fr) (rN ..) (by rw[rN,s.len];lia)
   have Am:rA (xp fr)=some true:=by
    cases fr with
    | nil=>exact absurd rfl Bo
    | cons a l=>rfl
   have hb:∃ GQ,uL [some (.im (zt F)),some (.own (.lst ((pre++[EI]).map rT))),some (.im (xp fr)),none,none]=some (.nx [some (.im (zt F)),some (.own (.lst (GQ.map rT))),some (.im (xp (xu EI (yf F EI fr)))),some (.im (rT EI)),some (.im (rT (yf F EI fr)))])/\GQ=if xu EI (yf F EI fr)=[] then pre++[EI] else pre++[EI]++[yf F EI fr]:=by
    have Hk:((pre++[EI]).map rT).length<16777216:=by simp;lia
    by_cases hf:xu EI (yf F EI fr)=[]
    ·refine⟨pre++[EI],?_,by rw[if_pos hf]⟩
     have ht:rA (xp (xu EI (yf F EI fr)))=some false:=by rw[hf];rfl
     unfold uL
     generalize pT=cc at *
     generalize oo=ff at *
     generalize (pre++[EI]).map rT=L1 at *
     generalize xp (xu EI (yf F EI fr))=f2 at *
     unfold xp at *
     simp only[zo] at Gr
     generalize (T.lst (fr.map λ(k:Nat)=>T.int (k:Int)))=f1 at *
     generalize rT (yf F EI fr)=r2 at *
     generalize rT EI=r1 at *
     simp only[xX] at Gr
     simp[-rA,Gr,hF,hc,ht]
    ·refine⟨pre++[EI]++[yf F EI fr],?_,by rw[if_neg hf]⟩
     have ht:rA (xp (xu EI (yf F EI fr)))=some true:=by
      cases e:xu EI (yf F EI fr) with
      | nil=>exact absurd e hf
      | cons a l=>rfl
     have e2:(pre++[EI]++[yf F EI fr]).map rT=(pre++[EI]).map rT++[rT (yf F EI fr)]:=by simp
     rw[e2]
     unfold uL
     generalize pT=cc at *
     generalize oo=ff at *
     generalize (pre++[EI]).map rT=L1 at *
     generalize xp (xu EI (yf F EI fr))=f2 at *
     unfold xp at *
     simp only[zo] at Gr
     generalize (T.lst (fr.map λ(k:Nat)=>T.int (k:Int)))=f1 at *
     generalize rT (yf F EI fr)=r2 at *
     generalize rT EI=r1 at *
     simp only[xX] at Gr
     simp[-rA,Gr,hF,hc,ht,Hk]
   obtain⟨GQ,HH,Ib⟩:=hb
   have key:∀ R,w6 [3,4] (yw (zf 2)) uL m [some (.im (zt F)),some (.own (.lst (GQ.map rT))),some (.im (xp (xu EI (yf F EI fr)))),some (.im (rT EI)),some (.im (rT (yf F EI fr)))]=R->w6 [3,4] (yw (zf 2)) uL (m+1) [some (.im (zt F)),some (.own (.lst ((pre++[EI]).map rT))),some (.im (xp fr)),x3,x4]=R:=λ R e=>by
    rw[w6]
    generalize hbb:uL=bb at *
    generalize DG:w6 [3,4] (yw (zf 2)) bb m=lw at *
    have hf:yu [3,4] [some (.im (zt F)),some (.own (.lst ((pre++[EI]).map rT))),some (.im (xp fr)),x3,x4]=[some (.im (zt F)),some (.own (.lst ((pre++[EI]).map rT))),some (.im (xp fr)),none,none]:=rfl
    rw[hf]
    have ht:yw (zf 2) [some (.im (zt F)),some (.own (.lst ((pre++[EI]).map rT))),some (.im (xp fr)),none,none]=some true:=by
     generalize xp fr=f1 at *
     simp[-rA,Am]
    rw[ht,Bm,if_pos rfl,HH,Bm]
    exact e
   by_cases hf:xu EI (yf F EI fr)=[]
   ·rw[if_pos hf] at h Ib
    cases h
    subst Ib
    rw[hf] at key
    obtain⟨m,rfl⟩:∃ k,m=k+1:=⟨m-1,by lia⟩
    exact⟨_,key _ (Bj m _ _ _)⟩
   ·rw[if_neg hf] at h Ib
    subst Ib
    obtain⟨Jy,e⟩:=bu ok n (pre++[EI]) (yf F EI fr) (xu EI (yf F EI fr)) res (s.next ok) h (by simp;lia) m (by lia) (some (.im (rT EI))) (some (.im (rT (yf F EI fr))))
    exact⟨Jy,key _ e⟩
def M3 {F:zK}(ok:F.Ok):∃ more,om [zt F]=some (.lst ((RN.start F::more).map rT))/\(∀ r∈RN.start F::more,r.length=F.os.length/\∀ b∈r,Gd F.A F.B b)/\more.length<=2000/\rF F 2000 [] (RN.start F) (List.range F.os.length)=some (RN.start F::more):=by
 have hmu:=aP (RN.start F)
 have Bp:(RN.start F).length=F.os.length:=by unfold RN.start;simp
 have n8:=ok.n8
 have n1:=ok.n1
 obtain⟨more,GU,e1,e2,_,e4⟩:=bw ok 2000 [] (RN.start F) (List.range F.os.length) (St.start ok) (by lia)
 obtain⟨Jy,e⟩:=bu ok 2000 [] (RN.start F) (List.range F.os.length) _ (St.start ok) e1 (by simp) 1000000 (by decide) none none
 refine⟨more,?_,e2,by lia,e1⟩
 have hp:=Xl F
 have AV:rT (RN.start F)=.lst (List.replicate F.os.length (.tup [.tup [.int 0,.int 0]])):=by
  unfold rT RN.start
  rw[List.map_replicate];rfl
 have hmul:t9 (.lst [.tup [.tup [.int 0,.int 0]]]) (.int F.os.length)=some (rT (RN.start F)):=by
  rw[AV]
  unfold t9
  dsimp only
  rw[if_pos ⟨by simp,by lia,by lia,QZ (by simp;lia)⟩]
  have:∀ n:Nat,(List.replicate n [T.tup [.tup [.int 0,.int 0]]]).flatten=List.replicate n (.tup [.tup [.int 0,.int 0]]):=λ n=>by
   induction n with
   | zero=>rfl
   | succ n ih=>rw[BN,BN,Cf,ih];rfl
  rw[Co,this]
 have BZ:nM [.int F.os.length]=some (xp (List.range F.os.length)):=by
  show (if 0<=(F.os.length:Int)/\(F.os.length:Int)<=16777216 then some (T.lst (rangeT 0 (F.os.length:Int).toNat)) else none)=_
  rw[if_pos ⟨by lia,by lia⟩]
  show some (T.lst ((List.range (F.os.length:Int).toNat).map λ(k:Nat)=>T.int (0+(k:Int))))=_
  rw[Co]
  unfold xp
  simp
 unfold om dq o7
 generalize uL=bb at *
 generalize qQ=ff at *
 generalize nM=lr at *
 simp only[List.nil_append,Au,Bb] at e
 generalize xp (List.range F.os.length)=f1 at *
 rw[Au]
 generalize rT (RN.start F)=r0 at *
 generalize zt F=fl at *
 generalize DG:w6 [3,4] (yw (zf 2)) bb 1000000=lw at *
 generalize t9=mw at *
 simp[hp,hmul,BZ,e]
def nJ (i j:Int):t9 (.int i) (.int j)=if vQ i j then some (.int (i*j)) else none:=rfl
def PY {r:List Int}{rs:List (List Int)}:ud ((r::rs).map zD)=none:=rfl
def WT (rs:List (List Int)) (h0:rs≠[]) (hl:rs.length<64) (hn:∀ r∈rs,r≠[]):sg [.lst (rs.map zD)]=some (.lst ((L4.xD (wJ rs)).map zD)):=by
 cases rs with
 | nil=>exact absurd rfl h0
 | cons r rs=>
  show (match ud ((r::rs).map zD) with
   | some ns=>if ns.length<64 then some (T.lst ((wF ns).map T.int)) else none
   | none=>lT [T.lst ((r::rs).map zD)])=_
  rw[PY]
  show (vw ((r::rs).map zD)).bind _=_
  rw[kr,Bm,if_pos ⟨hl,hn⟩]
def au {f:T->T->Option T}{fa fb:Ev->Option T}{J:Ev}{x y:T}{r:Option T}(h1:fa J=some x) (h2:fb J=some y) (h:f x y=r):ze f fa fb J=r:=by
 show (fa J).bind _=r;rw[h1];show (fb J).bind _=r;rw[h2];exact h
def U0 (n:Nat) (h:n<=1000):xF (.int 10) (.int (n:Int))=some (.int (10 ^ n)):=by
 have hc:ql 10 (n:Int):=⟨by lia,by lia,by decide⟩
 show (if ql 10 (n:Int) then some (T.int (10 ^ (n:Int).toNat)) else none)=_
 rw[if_pos hc,Co]
def o_ (n:Nat) (h:n<=1000) (J:Ev):ze xF (cI 10) (cS (.int (n:Int))) J=some (.int (10 ^ n)):=au rfl rfl (U0 n h)
def WO (c:Int) (n:Nat) (hn:n<=100) (o6:Ev->Option T) (q6:Int) (h6:∀ J,o6 J=some (.int q6)) (g6:0<q6/\q6<2 ^ 200) (Gz:Int):
  ∃ (v:Int) (xs:List Int),xj [4] (zA 4) (zv (wg 2 (ze y4 (zf 3) o6)) (yb 3 (ze wc (zf 3) o6))) ((List.range n).map λ(k:Nat)=>T.int (0+(k:Int))) [some (.im (.int c)),some (.im (.int n)),some (.own (.lst [])),some (.im (.int Gz)),none]
   = some (.nx [some (.im (.int c)),some (.im (.int n)),some (.own (.lst (xs.map T.int))),some (.im (.int v)),none])/\xs.length=n:=by
 obtain⟨J',h1,v,xs,h2,h3⟩:=tE (is:=[4]) (g:=zA 4) (b:=(zv (wg 2 (ze y4 (zf 3) o6)) (yb 3 (ze wc (zf 3) o6)))) (λ k:Nat=>T.int (0+(k:Int))) (λ p J=>∃ (v:Int) (xs:List Int),J=[some (.im (.int c)),some (.im (.int n)),some (.own (.lst (xs.map T.int))),some (.im (.int v)),none]/\xs.length=p.length)
   (List.range n) [some (.im (.int c)),some (.im (.int n)),some (.own (.lst [])),some (.im (.int Gz)),none] ⟨Gz,[],rfl,rfl⟩ (by
  rintro p k q e J ⟨v,xs,rfl,r1⟩
  have hp:p.length<n:=by have:=congrArg List.length e;simp at this;lia
  have hl:(xs.map T.int).length<16777216:=by simp;lia
  have d6:uT v q6:=g6
  have p6:=g6.1
  refine⟨[some (.im (.int c)),some (.im (.int n)),some (.own (.lst ((xs++[v%q6]).map T.int))),some (.im (.int (v/q6))),some (.im (.int (0+(k:Int))))],?_,v/q6,xs++[v%q6],by simp,by simp[r1]⟩
  have e2:(xs++[v%q6]).map T.int=xs.map T.int++[.int (v%q6)]:=by simp
  rw[e2]
  generalize xs.map T.int=L at *
  generalize (0+(k:Int))=kk at *
  simp[turn,h6,hl,d6,p6])
 subst h2
 exact⟨v,xs,h1,by simpa using h3⟩
def WN (c:Int) (n:Nat) (hn:n<=100) (oM ID IC o9:Ev->Option T) (M HQ GS q9:Int) (hM:∀ J,oM J=some (.int M)) (Jb:∀ J,ID J=some (.int HQ)) (Ja:∀ J,IC J=some (.int GS)) (h9:∀ J,o9 J=some (.int q9))
  (gM:0<M/\M<2 ^ 180) (Kh:0<HQ/\HQ<2 ^ 200) (Kg:0<GS/\GS<2 ^ 200) (g9:0<q9/\q9<2 ^ 200) (Gz:Int) (Em:0<=Gz/\Gz<2 ^ 181):
  ∃ (v:Int) (xs:List Int),xj [4] (zA 4) (zv (yb 3 (ze y4 (ze yo (ze yo (ze vz (zf 3) (cI 52027)) (ze wc (zf 3) ID)) (ze vz (cI 13) (zf 4))) oM)) (wg 2 (ze wc (ze vz (zf 3) (ze yo (ze wc (zf 3) IC) (cI 7))) o9))) ((List.range n).map λ(k:Nat)=>T.int (0+(k:Int))) [some (.im (.int c)),some (.im (.int n)),some (.own (.lst [])),some (.im (.int Gz)),none]
   = some (.nx [some (.im (.int c)),some (.im (.int n)),some (.own (.lst (xs.map T.int))),some (.im (.int v)),none])/\xs.length=n:=by
 obtain⟨J',h1,v,xs,h2,h3,h4⟩:=tE (is:=[4]) (g:=zA 4) (b:=(zv (yb 3 (ze y4 (ze yo (ze yo (ze vz (zf 3) (cI 52027)) (ze wc (zf 3) ID)) (ze vz (cI 13) (zf 4))) oM)) (wg 2 (ze wc (ze vz (zf 3) (ze yo (ze wc (zf 3) IC) (cI 7))) o9)))) (λ k:Nat=>T.int (0+(k:Int)))
   (λ p J=>∃ (v:Int) (xs:List Int),J=[some (.im (.int c)),some (.im (.int n)),some (.own (.lst (xs.map T.int))),some (.im (.int v)),none]/\xs.length=p.length/\0<=v/\v<2 ^ 181)
   (List.range n) [some (.im (.int c)),some (.im (.int n)),some (.own (.lst [])),some (.im (.int Gz)),none] ⟨Gz,[],rfl,rfl,Em⟩ (by
  rintro p k q e J ⟨v,xs,rfl,r1,r2,r3⟩
  have hp:p.length<n:=by have:=congrArg List.length e;simp at this;lia
  have hk:k<n:=Az.mp (by rw[e];simp)
  have hl:(xs.map T.int).length<16777216:=by simp;lia
  generalize hu:(v*52027+v/HQ+13*(0+(k:Int)))%M=u
  have u0:0<=u:=by rw[<- hu];exact Bx _ (by lia)
  have u1:u<M:=by rw[<- hu];exact BP _ gM.1
  have d22:uT v HQ:=Kh
  have m1:rp v 52027:=⟨by lia,by decide⟩
  have m2:rp 13 (0+(k:Int)):=⟨by decide,by lia⟩
  have pM:=gM.1
  have d23:uT u GS:=Kg
  have w0:0<=u/GS:=Int.ediv_nonneg u0 (by lia)
  have w1:u/GS<=u:=Int.ediv_le_self _ u0
  have m3:rp u (u/GS+7):=⟨by lia,by lia⟩
  have d9:uT (u*(u/GS+7)) q9:=g9
  refine⟨[some (.im (.int c)),some (.im (.int n)),some (.own (.lst ((xs++[u*(u/GS+7)/q9]).map T.int))),some (.im (.int u)),some (.im (.int (0+(k:Int))))],?_,u,xs++[u*(u/GS+7)/q9],by simp,by simp[r1],u0,by lia⟩
  have e2:(xs++[u*(u/GS+7)/q9]).map T.int=xs.map T.int++[.int (u*(u/GS+7)/q9)]:=by simp
  rw[e2]
  generalize xs.map T.int=L at *
  generalize (0+(k:Int))=kk at *
  simp[turn,hM,Jb,Ja,h9,hl,d22,m1,m2,pM,hu,d23,m3,d9])
 subst h2
 exact⟨v,xs,h1,by simpa using h3⟩
def Mr (i:Int):0<=(if i<0 then -i else i):=by split <;> lia
def M0 (c:Int) (n:Nat) (hn:n<=100):∃ xs:List Int,oq [.int c,.int n]=some (.lst (xs.map T.int))/\xs.length=n:=by
 obtain⟨q6,h6,g6⟩:∃ q:Int,(∀ J,ze xF (cI 10) (cI 6) J=some (.int q))/\0<q/\q<2 ^ 200:=⟨_,o_ 6 (by decide),AB⟩
 obtain⟨q9,h9,g9⟩:∃ q:Int,(∀ J,ze xF (cI 10) (cI 9) J=some (.int q))/\0<q/\q<2 ^ 200:=⟨_,o_ 9 (by decide),AB⟩
 obtain⟨HQ,Jb,Kh⟩:∃ q:Int,(∀ J,ze xF (cI 10) (cI 22) J=some (.int q))/\0<q/\q<2 ^ 200:=⟨_,o_ 22 (by decide),AB⟩
 obtain⟨GS,Ja,Kg⟩:∃ q:Int,(∀ J,ze xF (cI 10) (cI 23) J=some (.int q))/\0<q/\q<2 ^ 200:=⟨_,o_ 23 (by decide),AB⟩
 obtain⟨M,hM,gM⟩:∃ q:Int,(∀ J,ze yo (ze xF (cI 10) (cI 45)) (cI 9) J=some (.int q))/\0<q/\q<2 ^ 180:=⟨10 ^ 45+9,fun J=>au (o_ 45 (by decide) J) rfl rfl,AB⟩
 have hr:=pj n (by lia)
 unfold oq XO YL YK
 have a0:=Mr (c/2)
 generalize ha:(if c/2<0 then -(c/2) else c/2)=num at *
 have hnm0:0<=num%M:=Bx _ (by lia)
 have hnm1:num%M<M:=BP _ gM.1
 have pM:=gM.1
 have d2:uT c 2:=⟨by decide,by decide⟩
 obtain⟨v1,F9,e1,l1⟩:=WO c n hn _ q6 h6 g6 num
 obtain⟨v2,Hu,e2,l2⟩:=WN c n hn _ _ _ _ M HQ GS q9 hM Jb Ja h9 gM Kh Kg g9 (num%M+77003) ⟨by lia,by lia⟩
 generalize ze yo (ze xF (cI 10) (cI 45)) (cI 9)=oM at *
 generalize ze xF (cI 10) (cI 6)=o6 at *
 generalize ze xF (cI 10) (cI 9)=o9 at *
 generalize ze xF (cI 10) (cI 22)=ID at *
 generalize ze xF (cI 10) (cI 23)=IC at *
 generalize HH:(zv (wg 2 (ze y4 (zf 3) o6)) (yb 3 (ze wc (zf 3) o6)))=b1 at *
 generalize Ib:(zv (yb 3 (ze y4 (ze yo (ze yo (ze vz (zf 3) (cI 52027)) (ze wc (zf 3) ID)) (ze vz (cI 13) (zf 4))) oM)) (wg 2 (ze wc (ze vz (zf 3) (ze yo (ze wc (zf 3) IC) (cI 7))) o9)))=b2 at *
 by_cases h:c%2=1
 ·refine⟨F9,?_,l1⟩
  generalize F9.map T.int=L1 at *
  generalize (List.range n).map (λ(k:Nat)=>T.int (0+(k:Int)))=R at *
  simp[d2,ha,h,hr,e1,eq_int]
 ·refine⟨Hu,?_,l2⟩
  generalize Hu.map T.int=L2' at *
  generalize (List.range n).map (λ(k:Nat)=>T.int (0+(k:Int)))=R at *
  simp[d2,ha,h,hr,hM,pM,e2,eq_int]
def Xm (x:Int) (m:Nat) (h:m<=12):∃ y,ou [.int x,.int m]=some (.int y)/\-12<=y/\y<=12:=by
 have m1:vQ 2 (m:Int):=.inl ⟨by decide,by decide⟩
 have m2:(0:Int)<2*(m:Int)+1:=by lia
 have d:wq x 25:=⟨by decide,by decide⟩
 have a0:=Bx (x%25) (b:=2*(m:Int)+1) (by lia)
 have b0:0<=x/25%2:=Bx _ (by decide)
 refine⟨if x%25%(2*(m:Int)+1)-m+x/25%2<12 then x%25%(2*(m:Int)+1)-m+x/25%2 else 12,by simp[ou,dH,nJ,m1,m2,d],?_,?_⟩
 ·split <;> lia
 ·split <;> lia
def u5 (many:Nat) (r:List Int):Prop:=∃ (f t:Nat) (a b:Int),r=[(f:Int),(t:Int),a,b]/\f<many/\t<many/\(-12<=a/\a<=12)/\-12<=b/\b<=12
def Xj (place many:Nat) (num:Int) (sz:Nat) (hp:place<many) (hs:sz<=12):∃ r,(u5 many r/\r.head?=some (place:Int))/\qf [.int place,.int many,.int num,.int sz]=some (zD r):=by
 have d8:wq num 8:=⟨by decide,by decide⟩
 have Ko:wq num 400:=⟨by decide,by decide⟩
 obtain⟨a,ha,a1⟩:=Xm (num/8%50) sz hs
 obtain⟨b,hb,b1⟩:=Xm (num/400%50) sz hs
 have C_:(0:Int)<many:=by lia
 have t0:0<=num%8%many:=Bx _ (by lia)
 have t1:num%8%many<many:=BP _ C_
 have Il:0<many:=by lia
 refine⟨[(place:Int),((num%8%many).toNat:Int),a,b],⟨⟨place,(num%8%many).toNat,a,b,rfl,hp,by lia,a1,b1⟩,rfl⟩,?_⟩
 rw[Ct t0]
 have hr:zD [(place:Int),num%8%many,a,b]=.tup [.int place,.int (num%8%many),.int a,.int b]:=rfl
 rw[hr]
 unfold qf dB
 generalize ou=fa at *
 simp[d8,Ko,ha,hb,Il]
def nS {xs:List Int}{j:Nat}(h:j<xs.length):∃ v,L2.zP (xs.map T.int) (j:Int)=some (.int v):=⟨xs.getD j 0,vH (by simp[h])⟩
def Zj (b:Bool):z_ false (kt b) (.str "keeper")=some (.bl b):=by
 have h:(("taker":Str) == ("keeper":Str))=false:=by decide
 cases b
 ·show z_ false (.str "taker") (.str "keeper")=_
  simp[z_,dep,eqT,h]
 ·show z_ false (.str "keeper") (.str "keeper")=_
  simp[z_,dep,eqT]
def YQ (b:Sm) (n many pl:Nat) (E:List T->Option L5.W->Ev) (hE:∀ r x,yu [11] (E r x)=E r none) (hn:n<=100)
  (ht:∀ k<n,∀ rows:List T,rows.length<=1000->∃ r,(u5 many r/\r.head?=some (pl:Int))/\turn (zA 11) b (.int (0+(k:Int))) (E rows none)=some (.nx (E (rows++[zD r]) (some (.im (.int (0+(k:Int))))))))
  (rows:List (List Int)) (hl:rows.length<=100) (hr:∀ r∈rows,u5 many r):
  ∃ EX:List (List Int),xj [11] (zA 11) b ((List.range n).map λ(k:Nat)=>T.int (0+(k:Int))) (E (rows.map zD) none)=some (.nx (E (EX.map zD) none))/\EX.length=rows.length+n/\(∀ r∈EX,u5 many r)/\(∀ r∈rows,r∈EX)/\(0<n->∃ r∈EX,r.head?=some (pl:Int)):=by
 obtain⟨J',h1,EX,h2,h3,h4,h5,h6⟩:=tE (is:=[11]) (g:=zA 11) (b:=b) (λ k:Nat=>T.int (0+(k:Int))) (λ p J=>∃ EX:List (List Int),J=E (EX.map zD) none/\EX.length=rows.length+p.length/\(∀ r∈EX,u5 many r)/\(∀ r∈rows,r∈EX)/\(0<p.length->∃ r∈EX,r.head?=some (pl:Int)))
   (List.range n) (E (rows.map zD) none) ⟨rows,hE _ _,rfl,hr,λ _ h=>h,λ h=>absurd h (by simp)⟩ (by
  rintro p k q e J ⟨EX,rfl,u1,u2,u3,u4⟩
  have hp:p.length<n:=by have:=congrArg List.length e;simp at this;lia
  have hk:k<n:=Az.mp (by rw[e];simp)
  obtain⟨r,⟨v1,v3⟩,v2⟩:=ht k hk (EX.map zD) (by simp;lia)
  refine⟨_,v2,EX++[r],by rw[hE];simp,by simp only[Ck,List.length_singleton,u1];lia,λ r' GZ=>?_,λ r' h=>Cr _ (u3 r' h),λ _=>⟨r,by simp,v3⟩⟩
  rcases AY.mp GZ with h | h
  ·exact u2 r' h
  ·cases AR.mp h;exact v1)
 subst h2
 exact⟨EX,h1,by simpa using h3,h4,h5,λ h=>h6 (by simpa using h)⟩
def U6 (c mo br:T) (xs:List Int) (hx:xs.length=43) (many:Nat) (hm:many<=8) (os:List Bool) (rows:List (List Int)) (Gx:List T) (k:Nat) (hk:k<many) (ho:os.length=k) (hrl:rows.length<=3*k) (hr:∀ r∈rows,u5 many r) (hs:Gx.length<=k):
  ∃ (b:Bool) (EX:List (List Int)) (Gn:List T) (nu sz:Int),turn (zA 8) qI (.int (0+(k:Int))) [some (.im c),some (.im mo),some (.im br),some (.im (.lst (xs.map T.int))),some (.im (.int many)),some (.own (.lst (os.map kt))),some (.own (.lst (rows.map zD))),some (.own (.lst Gx)),none,none,none,none,none]
   = some (.nx [some (.im c),some (.im mo),some (.im br),some (.im (.lst (xs.map T.int))),some (.im (.int many)),some (.own (.lst ((os++[b]).map kt))),some (.own (.lst (EX.map zD))),some (.own (.lst Gn)),some (.im (.int (0+(k:Int)))),some (.im (.int nu)),some (.im (.int sz)),none,none])
   /\ EX.length<=3*(k+1)/\(∀ r∈EX,u5 many r)/\(∀ r∈rows,r∈EX)/\(∃ r∈EX,r.head?=some (k:Int))/\Gn.length<=k+1/\(Gn=Gx\/(b=true/\∃ s:RN.Sl,(s.p=k/\(1<=s.gv/\s.gv<=12)/\0<=s.gt/\s.gt<=12)/\Gn=Gx++[zX s])):=by
 obtain⟨v,hv⟩:=nS (xs:=xs) (j:=2+4*k) (by lia)
 have Hc:L2.zP (xs.map T.int) (2+4*(k:Int))=some (.int v):=hv
 obtain⟨b,hb⟩:∃ b:Bool,L2.zP [T.str "keeper",T.str "taker"] (v%2)=some (kt b):=by
  rcases Int.emod_two_eq v with h | h <;> rw[h]
  ·exact⟨true,rfl⟩
  ·exact⟨false,rfl⟩
 obtain⟨sz,hsz,sz1⟩:∃ sz:Nat,L2.zP [T.int 2,T.int 3,T.int 3,T.int 12] (v/2%4)=some (.int (sz:Int))/\sz<=12:=by
  have h0:0<=v/2%4:=Bx _ (by decide)
  have h1:v/2%4<4:=BP _ (by decide)
  generalize v/2%4=z at *
  obtain h | h | h | h:z=0\/z=1\/z=2\/z=3:=by lia
  all_goals subst h
  ·exact⟨2,rfl,by decide⟩
  ·exact⟨3,rfl,by decide⟩
  ·exact⟨3,rfl,by decide⟩
  ·exact⟨12,rfl,by decide⟩
 obtain⟨n1,J4,n0,n3⟩:∃ n:Nat,1+v/8%3=(n:Int)/\0<n/\n<=3:=⟨(1+v/8%3).toNat,by lia,by lia,by lia⟩
 obtain⟨EX,g1,g2,g3,g4,g5⟩:=YQ mS n1 many k (λ rs x=>[some (.im c),some (.im mo),some (.im br),some (.im (.lst (xs.map T.int))),some (.im (.int many)),some (.own (.lst ((os++[b]).map kt))),some (.own (.lst rs)),some (.own (.lst Gx)),some (.im (.int (k:Int))),some (.im (.int v)),some (.im (.int sz)),x,none]) (λ _ _=>rfl) (by lia)
  (λ k' GH rs hrs=>by
   obtain⟨v2,JT⟩:=nS (xs:=xs) (j:=3+4*k+k') (by lia)
   have HS:L2.zP (xs.map T.int) (3+4*(k:Int)+(0+(k':Int)))=some (.int v2):=by rw[<- JT];congr 1;lia
   obtain⟨r,JX,JW⟩:=Xj k many v2 sz hk (by lia)
   refine⟨r,JX,?_⟩
   have m1:vQ 4 (k:Int):=.inl ⟨by decide,by decide⟩
   have Cy:rs.length<16777216:=by lia
   unfold turn mS
   generalize qf=fw at *
   generalize xs.map T.int=XL at *
   generalize (os++[b]).map kt=OL at *
   generalize zD r=rr at *
   generalize (0+(k':Int))=kk at *
   generalize hk4:(k:Int)=kI at *
   simp[nJ,m1,HS,JW,Cy])
  rows (by lia) hr
 have BZ:=pj n1 (by lia)
 have B_:(os.map kt).length<16777216:=by simp;lia
 have BH:L2.zP ((os++[b]).map kt) (k:Int)=some (kt b):=vH (by rw[Bz,Ci (by simp;lia)];simp[ho])
 have AV:Gx.length<16777216:=by lia
 have Eu:=Zj b
 have m1:vQ 4 (k:Int):=.inl ⟨by decide,by decide⟩
 have d2:wq v 2:=⟨by decide,by decide⟩
 have d8:wq v 8:=⟨by decide,by decide⟩
 have d24:wq v 24:=⟨by decide,by decide⟩
 have d72:wq v 72:=⟨by decide,by decide⟩
 have Kp:wq v 144:=⟨by decide,by decide⟩
 have Kn:wq v 576:=⟨by decide,by decide⟩
 have fin:∀ Gn:List T,(if b=true/\v/24%3=0 then Gx++[.tup [.int k,.int (v/72%2),.int (1+v/144%4),.int (v/576%5)]] else Gx)=Gn->turn (zA 8) qI (.int (0+(k:Int))) [some (.im c),some (.im mo),some (.im br),some (.im (.lst (xs.map T.int))),some (.im (.int many)),some (.own (.lst (os.map kt))),some (.own (.lst (rows.map zD))),some (.own (.lst Gx)),none,none,none,none,none]
   = some (.nx [some (.im c),some (.im mo),some (.im br),some (.im (.lst (xs.map T.int))),some (.im (.int many)),some (.own (.lst ((os++[b]).map kt))),some (.own (.lst (EX.map zD))),some (.own (.lst Gn)),some (.im (.int (0+(k:Int)))),some (.im (.int v)),some (.im (.int sz)),none,none]):=λ Gn he=>by
  have e2:(os++[b]).map kt=os.map kt++[kt b]:=by simp
  unfold turn qI
  rw[e2] at g1 BH ⊢
  simp only[Dk] at g1 BZ ⊢
  generalize mS=bb at *
  generalize (List.range n1).map (λ(k:Nat)=>T.int (k:Int))=RR at *
  generalize EX.map zD=L2' at *
  generalize rows.map zD=L1' at *
  generalize xs.map T.int=XL at *
  generalize os.map kt=OL at *
  generalize (T.str "taker")=s2 at *
  generalize hs1:(T.str "keeper")=s1 at *
  generalize kt b=kb at *
  generalize hkI:(k:Int)=kI at *
  generalize hee:z_=ee at *
  have Ia:ee false (.int (v/24%3)) (.int 0)=some (.bl (decide (v/24%3=0))):=by rw[<- hee];exact eq_int _ _ _
  by_cases HH:b=true
  ·subst HH
   by_cases hz:v/24%3=0
   ·rw[if_pos ⟨rfl,hz⟩] at he
    subst he
    rw[hz] at Ia
    simp[nJ,m1,Hc,hb,B_,d2,hsz,d8,J4,BZ,g1,BH,Eu,d24,Ia,hz,AV,d72,Kp,Kn]
   ·rw[if_neg (λ h=>hz h.2)] at he
    subst he
    simp[nJ,m1,Hc,hb,B_,d2,hsz,d8,J4,BZ,g1,BH,Eu,d24,Ia,hz]
  ·have Ib:b=false:=by simpa using HH
   subst Ib
   rw[if_neg (λ h=>HH h.1)] at he
   subst he
   simp[nJ,m1,Hc,hb,B_,d2,hsz,d8,J4,BZ,g1,BH,Eu]
 refine⟨b,EX,_,v,sz,fin _ rfl,by lia,g3,g4,g5 n0,?_,?_⟩
 ·split
  ·simp;lia
  ·lia
 ·split
  ·rename_i EE
   have hp:v/72%2=0\/v/72%2=1:=by lia
   refine .inr ⟨EE.1,⟨k,decide (v/72%2=1),1+v/144%4,v/576%5⟩,⟨rfl,by dsimp only;lia,by dsimp only;lia,by dsimp only;lia⟩,?_⟩
   rcases hp with h | h <;> simp[zX,vf,h]
  ·exact .inl rfl
noncomputable def xP (w:Wy):List Int:=[(w.f:Int),(w.t:Int),w.a,w.b]
def XU {w v:Wy}(h:xP w=xP v):w=v:=by
 obtain⟨f,t,a,b⟩:=w
 obtain⟨f',t',a',b'⟩:=v
 simp only[xP,List.cons.injEq,and_true] at h
 obtain⟨h1,h2,rfl,rfl⟩:=h
 have e1:f=f':=by lia
 have e2:t=t':=by lia
 subst e1 e2;rfl
theorem bp {many:Nat}:∀ l:List (List Int),(∀ r∈l,u5 many r)->∃ ws:List Wy,l=ws.map xP/\∀ w∈ws,(w.f<many/\w.t<many)/\(-12<=w.a/\w.a<=12)/\-12<=w.b/\w.b<=12
 | [],_=>⟨[],rfl,nofun⟩
 | r::l,h=>by
  obtain⟨ws,e1,e2⟩:=bp l λ x hx=>h x (Av _ hx)
  obtain⟨f,t,a,b,rfl,hf,ht,hc⟩:=h r Ao
  refine⟨⟨f,t,a,b⟩::ws,by rw[e1];rfl,λ w hw=>?_⟩
  rcases Aj.mp hw with x | x
  ·subst x;exact⟨⟨hf,ht⟩,hc⟩
  ·exact e2 w x
def WU {many:Nat}(rs:List (List Int)) (h0:rs≠[]) (hl:rs.length<64) (hw:∀ r∈rs,u5 many r):
  ∃ ws:List Wy,sg [.lst (rs.map zD)]=some (.lst (ws.map zS))/\ws.length<=rs.length/\(∀ w∈ws,(w.f<many/\w.t<many)/\(-12<=w.a/\w.a<=12)/\-12<=w.b/\w.b<=12)/\(∀ w:Wy,w∈ws↔xP w∈rs)/\(ws.map xP).Pairwise (λ a b=>HT.lexLt b a=false/\a≠b):=by
 have hn:∀ r∈rs,r≠[]:=λ r hr=>by obtain⟨f,t,a,b,rfl,_⟩:=hw r hr;simp
 have hm:∀ r,r∈L4.xD (wJ rs)↔r∈rs:=λ r=>by rw[(L4.uX _).mem_iff,nL]
 obtain⟨ws,e1,e2⟩:=bp (many:=many) (L4.xD (wJ rs)) λ r hr=>hw r ((hm r).mp hr)
 refine⟨ws,?_,?_,e2,λ w=>?_,?_⟩
 ·rw[WT rs h0 hl hn,e1,AJ];rfl
 ·have:=congrArg List.length e1
  rw[(L4.uX _).length_eq,Ay] at this
  have:=gJ rs
  lia
 ·rw[<- hm,e1]
  constructor
  ·exact λ h=>Al.mpr ⟨w,h,rfl⟩
  ·intro h
   obtain⟨v,hv,e⟩:=Al.mp h
   rw[<- XU e];exact hv
 ·rw[<- e1]
  exact (L4.lU _).and ((L4.uX _).nodup_iff.mpr (kN rs))
structure Gf (os:List Bool) (ws:List Wy) (ss:List Sl):Prop where
 n1:1<=os.length
 n8:os.length<=8
 wr:∀ w∈ws,(w.f<os.length/\w.t<os.length)/\(-12<=w.a/\w.a<=12)/\-12<=w.b/\w.b<=12
 wl:ws.length<=24
 wp:(ws.map xP).Pairwise (λ a b=>HT.lexLt b a=false/\a≠b)
 way:∀ x<os.length,∃ w∈ws,w.f=x
 sr:∀ s∈ss,s.p<os.length/\os.getD s.p false=true/\(1<=s.gv/\s.gv<=12)/\0<=s.gt/\s.gt<=12
 sp:ss.Pairwise (λ a b=>a.p<b.p)
 sl:ss.length<=8
def MC (c:Int) (most ya:Nat) (h1:1<=most) (h8:most<=8) (hb:ya<=12):
  ∃ F:zK,qS [.int c,.int most,.int ya]=some (zt F)/\Gf F.os F.ws F.ss:=by
 obtain⟨xs,hxs,hx⟩:=M0 c 43 (by decide)
 have C6:oq [.int c,.int 43]=some (.lst (xs.map T.int)):=hxs
 obtain⟨v0,hv0⟩:=nS (xs:=xs) (j:=0) (by lia)
 obtain⟨v1,hv1⟩:=nS (xs:=xs) (j:=1) (by lia)
 have HU:L2.zP (xs.map T.int) 0=some (.int v0):=hv0
 have IL:L2.zP (xs.map T.int) 1=some (.int v1):=hv1
 have Ep:(0:Int)<most:=by lia
 have IQ:0<most:=h1
 obtain⟨many,HB,m1,m8⟩:∃ n:Nat,1+v0%most=(n:Int)/\1<=n/\n<=8:=by
  have:=Bx v0 (b:=(most:Int)) (by lia)
  have:=BP v0 Ep
  exact⟨(1+v0%most).toNat,by lia,by lia,by lia⟩
 obtain⟨J',g1,os,rows,Gx,g2,g3,g4,g5,g6,g7,ss,DD,hsg,BS⟩:=tE (is:=[8,9,10,11]) (g:=zA 8) (b:=qI) (λ k:Nat=>T.int (0+(k:Int)))
   (λ p J=>∃ (os:List Bool) (rows:List (List Int)) (Gx:List T),J=[some (.im (.int c)),some (.im (.int most)),some (.im (.int ya)),some (.im (.lst (xs.map T.int))),some (.im (.int many)),some (.own (.lst (os.map kt))),some (.own (.lst (rows.map zD))),some (.own (.lst Gx)),none,none,none,none,none]
    /\ os.length=p.length/\rows.length<=3*p.length/\(∀ r∈rows,u5 many r)/\(∀ x∈p,∃ r∈rows,r.head?=some (x:Int))/\Gx.length<=p.length/\∃ ss:List Sl,Gx=ss.map zX/\(∀ s∈ss,s.p<os.length/\os.getD s.p false=true/\(1<=s.gv/\s.gv<=12)/\0<=s.gt/\s.gt<=12)/\ss.Pairwise (λ a b=>a.p<b.p))
   (List.range many) [some (.im (.int c)),some (.im (.int most)),some (.im (.int ya)),some (.im (.lst (xs.map T.int))),some (.im (.int many)),some (.own (.lst [])),some (.own (.lst [])),some (.own (.lst [])),none,none,none,none,none] ⟨[],[],[],rfl,rfl,by simp,nofun,nofun,by simp,[],rfl,nofun,.nil⟩ (by
  rintro p k q e J ⟨os,rows,Gx,rfl,r1,r2,r3,r4,r5,ss,r6,r7,r8⟩
  have hk:k<many:=Az.mp (by rw[e];simp)
  have hpk:p.length=k:=by
   have h2:=congrArg (λ l=>l[p.length]?) e
   simp only[Ci (Ah _),Nat.sub_self,DM] at h2
   obtain⟨h3,h4⟩:=AL.mp h2
   simpa using h4
  obtain⟨b,EX,Gn,nu,sz,t1,t2,t3,t4,t5,t6,t7⟩:=U6 (.int c) (.int most) (.int ya) xs hx many m8 os rows Gx k hk (by lia) (by lia) r3 (by lia)
  have grow:∀ s∈ss,s.p<(os++[b]).length/\(os++[b]).getD s.p false=true/\(1<=s.gv/\s.gv<=12)/\0<=s.gt/\s.gt<=12:=λ s hs=>by
   obtain⟨a1,a2,a3⟩:=r7 s hs
   refine⟨by simp;lia,?_,a3⟩
   rw[AZ,Cg a1,<- AZ];exact a2
  refine⟨_,t1,os++[b],EX,Gn,rfl,by simp[r1],by simp;lia,t3,λ x hx=>?_,by simp;lia,by
   rcases t7 with rfl | ⟨hb,s,⟨s0,s1⟩,rfl⟩
   ·exact⟨ss,r6,grow,r8⟩
   ·refine⟨ss++[s],by rw[r6];simp,λ z hz=>?_,DV.mpr ⟨r8,by simp,λ a ha c hc=>?_⟩⟩
    ·rcases AY.mp hz with h | h
     ·exact grow z h
     ·cases AR.mp h
      refine⟨by simp;lia,?_,s1⟩
      rw[s0,AZ,Ci (by lia),show k-os.length=0 by lia,hb];rfl
    ·cases AR.mp hc
     have:=(r7 a ha).1
     lia⟩
  rcases AY.mp hx with h | h
  ·obtain⟨r,y1,y2⟩:=r4 x h
   exact⟨r,t4 r y1,y2⟩
  ·cases AR.mp h
   exact t5)
 subst g2
 rw[BR] at g3 g4 g7
 obtain⟨n9,hn9,n9'⟩:∃ n:Nat,(if 24-(rows.length:Int)<9 then 24-(rows.length:Int) else 9)=(n:Int)/\n<=9:=by
  split
  ·exact⟨24-rows.length,by lia,by lia⟩
  ·exact⟨9,rfl,by lia⟩
 obtain⟨pl,Aq,pl1⟩:∃ n:Nat,v0/64%8%many=(n:Int)/\n<many:=by
  have:=Bx (v0/64%8) (b:=(many:Int)) (by lia)
  have:=BP (v0/64%8) (b:=(many:Int)) (by lia)
  exact⟨(v0/64%8%many).toNat,by lia,by lia⟩
 have d64:wq v0 64:=⟨by decide,by decide⟩
 have C_:0<many:=m1
 obtain⟨G_,k1,k2,k3,k4,_⟩:=YQ mQ n9 many pl (λ rs x=>[some (.im (.int c)),some (.im (.int most)),some (.im (.int ya)),some (.im (.lst (xs.map T.int))),some (.im (.int many)),some (.own (.lst (os.map kt))),some (.own (.lst rs)),some (.own (.lst Gx)),none,none,none,x,none]) (λ _ _=>rfl) (by lia)
  (λ k' GH rs hrs=>by
   obtain⟨v2,JT⟩:=nS (xs:=xs) (j:=34+k') (by lia)
   have HS:L2.zP (xs.map T.int) (34+(0+(k':Int)))=some (.int v2):=by rw[<- JT];congr 1;lia
   obtain⟨r,JX,JW⟩:=Xj pl many v2 3 pl1 (by lia)
   have JV:qf [.int pl,.int many,.int v2,.int 3]=some (zD r):=JW
   refine⟨r,JX,?_⟩
   have Cy:rs.length<16777216:=by lia
   unfold turn mQ
   generalize qf=fw at *
   generalize xs.map T.int=XL at *
   generalize os.map kt=OL at *
   generalize zD r=rr at *
   generalize (0+(k':Int))=kk at *
   simp[HU,d64,C_,Aq,HS,JV,Cy])
  rows (by lia) g5
 have fin:∃ Ga:List (List Int),(if v0/8%8=1 then G_ else rows)=Ga/\Ga≠[]/\Ga.length<=24/\(∀ r∈Ga,u5 many r)/\∀ x<many,∃ r∈Ga,r.head?=some (x:Int):=by
  refine⟨_,rfl,?_⟩
  have hx:∀ x<many,∃ r∈rows,r.head?=some (x:Int):=λ x hx=>g6 x (Az.mpr hx)
  have hx2:∀ x<many,∃ r∈G_,r.head?=some (x:Int):=λ x hh=>by
   obtain⟨r,y1,y2⟩:=hx x hh
   exact⟨r,k4 r y1,y2⟩
  split
  ·refine⟨λ e=>?_,by lia,k3,hx2⟩
   obtain⟨r,y,_⟩:=hx2 0 C_
   rw[e] at y;cases y
  ·refine⟨λ e=>?_,by lia,g5,hx⟩
   obtain⟨r,y,_⟩:=hx 0 C_
   rw[e] at y;cases y
 obtain⟨Ga,e3,r0,r1,r2,r3⟩:=fin
 obtain⟨ws,w1,w2,w3,w4,w5⟩:=WU Ga r0 (by lia) r2
 have DL:(0:Int)<(ya:Int)+1:=by lia
 have A0:=Bx v1 (b:=(ya:Int)+1) (by lia)
 have A1:=BP v1 DL
 have B0:=Bx (v1/13) (b:=(ya:Int)+1) (by lia)
 have B1:=BP (v1/13) DL
 have Bp:ss.length=Gx.length:=by rw[DD,Ay]
 refine⟨⟨v1%((ya:Int)+1),v1/13%((ya:Int)+1),os,ws,ss⟩,?_,⟨by dsimp only;lia,by dsimp only;lia,λ w hw=>by dsimp only;rw[g3];exact w3 w hw,by dsimp only;lia,w5,λ x hx=>?_,hsg,BS,by dsimp only;lia⟩⟩
 ·have BZ:=pj many (by lia)
  have JU:=pj n9 (by lia)
  have d8:wq v0 8:=⟨by decide,by decide⟩
  have d13:wq v1 13:=⟨by decide,by decide⟩
  have hlen:xt [.lst (rows.map zD)]=some (.int rows.length):=by simp
  have Er:(os.map kt).length<=16777216:=by simp;lia
  have hls:Gx.length<=16777216:=by lia
  have DG:(ws.map zS).length<=16777216:=by simp;lia
  have hq:=eq_int (v0/8%8) 1 false
  show qS _=some (.tup [.tup [.int (v1%((ya:Int)+1)),.int (v1/13%((ya:Int)+1))],.tup (os.map kt),.tup (ws.map zS),.tup (ss.map zX)])
  rw[<- DD]
  unfold qS dF
  generalize qI=bb2 at *
  generalize mQ=bb3 at *
  generalize oq=fs at *
  generalize xs.map T.int=XL at *
  generalize (List.range many).map (λ(k:Nat)=>T.int (0+(k:Int)))=R1 at *
  generalize (List.range n9).map (λ(k:Nat)=>T.int (0+(k:Int)))=R9 at *
  generalize os.map kt=OL at *
  by_cases h:v0/8%8=1
  ·rw[if_pos h] at e3
   subst e3
   rw[h] at hq
   generalize ws.map zS=WL at *
   generalize hrr:rows.map zD=RR at *
   generalize G_.map zD=RR2 at *
   have BU:RR.length=rows.length:=by rw[<- hrr,Ay]
   generalize z_=ee at *
   generalize sg=sv at *
   simp[C6,HU,Ep,IQ,HB,BZ,g1,d8,hq,h,BU,hn9,JU,k1,IL,DL,d13,w1,Er,hls,DG]
  ·rw[if_neg h] at e3
   subst e3
   generalize ws.map zS=WL at *
   generalize rows.map zD=RR at *
   generalize z_=ee at *
   generalize sg=sv at *
   simp[C6,HU,Ep,IQ,HB,BZ,g1,d8,hq,h,IL,DL,d13,w1,Er,hls,DG]
 ·dsimp only at hx
  rw[g3] at hx
  obtain⟨r,y1,y2⟩:=r3 x hx
  obtain⟨f,t,a,b,rfl,hf,ht,_⟩:=r2 r y1
  refine⟨⟨f,t,a,b⟩,(w4 _).mpr y1,?_⟩
  have:(f:Int)=(x:Int):=by simpa using y2
  dsimp only;lia
def u9 (t:T):Bool:=!wM t&&(match t with | .tup ts=>ts.all (λ u=>!wM u) | _=>true)
def u9.top {t:T}(h:u9 t=true):wM t=false:=by
 unfold u9 at h
 simp only[Be,Bool.not_eq_true'] at h
 exact h.1
def u9.mem {ts:List T}(h:u9 (.tup ts)=true) {u:T}(hu:u∈ts):wM u=false:=by
 simp only[u9,Be,BQ,Bool.not_eq_true'] at h
 exact h.2 u hu
noncomputable def wh (t:T) (a b:Int):Bool:=match t with
 | .int i=>decide (a<=i)&&decide (i<=b)
 | _=>false
def Xi (t:T) (he:wM t=false):rf [t]=some (.bl (match t with | .int _=>true | _=>false)):=by
 cases t with
 | err _ _ _=>cases he
 | _=>simp[rf,jT,xI]
def Xh (t:T) (a b:Int) (he:wM t=false):uR [t,.int a,.int b]=some (.bl (wh t a b)):=by
 have h:=Xi t he
 unfold uR jS
 by_cases hi:∃ i,t=.int i
 ·obtain⟨i,rfl⟩:=hi
  unfold wh
  by_cases h1:a<=i <;> by_cases h2:i<=b <;> simp[h,h1,h2]
 ·have h':rf [t]=some (.bl false):=by
   rw[h]
   cases t with
   | int i=>exact absurd ⟨i,rfl⟩ hi
   | _=>rfl
  have e:wh t a b=false:=by
   cases t with
   | int i=>exact absurd ⟨i,rfl⟩ hi
   | _=>rfl
  rw[e]
  simp[h']
theorem lD {α:Type}(enc:α->T):∀ (ts:List T) (bs:List α),List.zipWith (λ a b=>T.tup [a,b]) ts (bs.map enc)=(ts.zip bs).map λ p=>T.tup [p.1,enc p.2]
 | [],bs=>by simp
 | t::ts,[]=>by simp
 | t::ts,b::bs=>by simp[lD enc ts bs]
def ej {α:Type}(g:α->Bool) (xs:List α):vm (xs.map λ x=>T.bl (g x))=some (xs.map g):=by
 have:=YC (xs.map g)
 rw[AJ] at this
 exact this
def eG {α:Type}(g:α->Bool) (xs:List α):(xs.map g).all id=xs.all g:=by
 rw[List.all_map];rfl
def uY (t:T) (bs:List (Int×Int)):Bool:=match t with
 | .tup ts=>decide (ts.length=bs.length)&&(ts.zip bs).all λ p=>wh p.1 p.2.1 p.2.2
 | _=>false
def Q5 {t:T}(he:wM t=false) (h:¬ ∃ ts,t=.tup ts):∃ s,oE t=some s/\xI s "tuple"=false:=by
 cases t with
 | tup ts=>exact absurd ⟨ts,rfl⟩ h
 | err _ _ _=>cases he
 | _=>exact⟨_,rfl,by decide⟩
def eU (t:T) (bs:List (Int×Int)) (hl:bs.length<=100) (he:u9 t=true):rg [t,.tup (bs.map zm)]=some (.bl (uY t bs)):=by
 have it:xI "tuple" "tuple"=true:=by decide
 by_cases ht:∃ ts,t=.tup ts
 ·obtain⟨ts,rfl⟩:=ht
  unfold rg jU uY
  by_cases h:ts.length=bs.length
  ·have hc:j0 [some (.im (.tup ts)),some (.im (.tup (bs.map zm)))]=some (.lst ((ts.zip bs).map λ p=>T.bl (wh p.1 p.2.1 p.2.2))):=by
    unfold j0
    refine xU (λ p:T×(Int×Int)=>T.tup [p.1,zm p.2]) _ (ts.zip bs) ?_ ?_ λ p hp=>?_
    ·simp[lD]
    ·simp;lia
    ·simp[sJ,zm,Xh _ _ _ (u9.mem he (DB hp).1)]
   simp[it,eq_int,h,hc,ej,eG]
  ·have h':¬ (ts.length:Int)=bs.length:=by lia
   simp[it,eq_int,h,h']
 ·obtain⟨s,s1,s2⟩:=Q5 (u9.top he) ht
  have e:uY t bs=false:=by
   cases t with
   | tup ts=>exact absurd ⟨ts,rfl⟩ ht
   | _=>rfl
  rw[e]
  unfold rg jU
  simp[-oE,s1,s2]
noncomputable def oA:List (List Int)->Bool
 | a::b::l=>HT.lexLt a b&&oA (b::l)
 | _=>true
noncomputable def oB:List Int->Bool
 | a::b::l=>decide (a<b)&&oB (b::l)
 | _=>true
theorem jX {α:Type}(lt:α->α->Bool) (up:List α->Bool) (h0:up []=true) (h1:∀ a,up [a]=true) (h2:∀ a b l,up (a::b::l)=(lt a b&&up (b::l))):∀ l:List α,((l.zip (l.drop 1)).all λ p=>lt p.1 p.2)=up l
 | []=>by simp[h0]
 | [a]=>by simp[h1]
 | a::b::l=>by
  have ih:=jX lt up h0 h1 h2 (b::l)
  simp only[List.drop_succ_cons,List.drop_zero,D3,List.all_cons] at ih ⊢
  rw[h2,<- ih]
def Yx {α:Type}(xs:List α):uo xs (some 1) none=xs.drop 1:=by
 unfold uo
 have e:HT.zG xs.length 0 (some 1)=min 1 xs.length:=by simp[HT.zG]
 have e2:HT.zG xs.length xs.length none=xs.length:=rfl
 rw[e,e2]
 cases xs with
 | nil=>rfl
 | cons x xs=>simp
def M4 (rs:List (List Int)) (hl:rs.length<=16777216):rj [.tup (rs.map zD)]=some (.bl (oA rs)):=by
 have hc:pV [some (.im (.tup (rs.map zD)))]=some (.lst ((rs.zip (rs.drop 1)).map λ p=>T.bl (HT.lexLt p.1 p.2))):=by
  unfold pV
  refine xU (λ p:List Int×List Int=>T.tup [zD p.1,zD p.2]) _ (rs.zip (rs.drop 1)) ?_ ?_ λ p hp=>?_
  ·simp only[xa,zb,zf,lV,mP,cS,zi,qW,jz,Bm,Yx,Vl,Option.map_some,DM]
   rw[<- CJ,lD,List.zip_map_left,AJ]
   rfl
  ·simp;lia
  ·simp[sJ,zD,x_,kZ]
 unfold rj jW
 simp[hc,ej,eG]
 have:=jX (λ a b=>HT.lexLt a b) oA rfl (λ _=>rfl) (λ _ _ _=>rfl) rs
 simpa using this
def M5 (ns:List Int) (hl:ns.length<=16777216):rj [.lst (ns.map T.int)]=some (.bl (oB ns)):=by
 have hc:pV [some (.im (.lst (ns.map T.int)))]=some (.lst ((ns.zip (ns.drop 1)).map λ p=>T.bl (decide (p.1<p.2)))):=by
  unfold pV
  refine xU (λ p:Int×Int=>T.tup [T.int p.1,T.int p.2]) _ (ns.zip (ns.drop 1)) ?_ ?_ λ p hp=>?_
  ·simp only[xa,zb,zf,lV,mP,cS,zi,qW,jz,Bm,Yx,cZ,Option.map_some,DM]
   rw[<- CJ,lD,List.zip_map_left,AJ]
   rfl
  ·simp;lia
  ·simp[sJ,x_]
 unfold rj jW
 simp[hc,ej,eG]
 have:=jX (λ a b:Int=>decide (a<b)) oB rfl (λ _=>rfl) (λ _ _ _=>rfl) ns
 simpa using this
def gL (r:List Int):u9 (zD r)=true:=by
 simp[u9,zD,wM]
def Xk (rs:List (List Int)) (bs:List (Int×Int)) (hl:bs.length<=100) (hz:rs.length<=100) (h:∀ r∈rs,uY (zD r) bs=true):qU [.tup (rs.map zD),.tup (bs.map zm)]=some (.bl true):=by
 have hc:mM [some (.im (.tup (rs.map zD))),some (.im (.tup (bs.map zm)))]=some (.lst (rs.map λ _=>T.bl true)):=by
  unfold mM
  refine xU zD _ rs (by simp) (by lia) λ r hr=>?_
  have:=eU (zD r) bs hl (gL r)
  rw[h r hr] at this
  generalize zD r=rr at *
  generalize bs.map zm=BB at *
  simp[this]
 have it:xI "tuple" "tuple"=true:=by decide
 have hb:vm (rs.map λ _=>T.bl true)=some (rs.map λ _=>true):=sU _ _
 unfold qU ck
 generalize mM=cc at *
 simp[it,hc,hb]
def M6 (os:List Bool) (h1:1<=os.length) (h8:os.length<=8):l8 [.tup (os.map kt)]=some (.bl true):=by
 have ho:∀ b,eV [kt b]=some (.bl true):=λ b=>by cases b <;> rfl
 have hc:mN [some (.im (.tup (os.map kt)))]=some (.lst (os.map λ _=>T.bl true)):=by
  unfold mN
  refine xU kt _ os (by simp) (by lia) λ b _=>?_
  have:=ho b
  generalize kt b=kb at *
  simp[this]
 have it:xI "tuple" "tuple"=true:=by decide
 have hb:vm (os.map λ _=>T.bl true)=some (os.map λ _=>true):=sU _ _
 have e1:(1:Int)<=((os.map kt).length:Int):=by simp;lia
 have e2:((os.map kt).length:Int)<=8:=by simp;lia
 unfold l8 cm
 generalize mN=cc at *
 generalize os.map kt=O at *
 simp[it,e1,e2,hc,hb]
def Wb {rs:List (List Int)}(h:rs.Pairwise (λ a b=>HT.lexLt b a=false/\a≠b)):oA rs=true:=by
 induction rs with
 | nil=>rfl
 | cons a l ih=>
  cases l with
  | nil=>rfl
  | cons b l=>
   have h1:=Ba.mp h
   have h2:=h1.1 b Ao
   have:HT.lexLt a b=true:=by
    cases e:HT.lexLt a b with
    | true=>rfl
    | false=>exact absurd (L4.g_ a b e h2.1) h2.2
   simp[oA,this,ih h1.2]
def Mk (k:Nat) (ws:List Wy) (h:∃ w∈ws,w.f=k) (hl:ws.length<=100):uB false (.int (k:Int)) (.lst (ws.map λ w=>T.int (w.f:Int)))=some (.bl true):=by
 obtain⟨w,hw,e⟩:=h
 have hd:xK (ws.map λ w=>T.int (w.f:Int))<=60:=by
  have:=js (λ w:Wy=>T.int (w.f:Int)) 0 (λ _=>by simp[dep]) ws
  lia
 have ha:(ws.map λ w=>T.int (w.f:Int)).any (λ t=>eqT t (.int (k:Int)))=true:=by
  rw[A6]
  exact⟨_,Al.mpr ⟨w,hw,rfl⟩,by simp[eqT,e]⟩
 unfold uB
 simp only[cZ]
 generalize (ws.map λ w=>T.int (w.f:Int))=L at *
 simp[dep,hd,ha]
section
variable {os:List Bool}{ws:List Wy}{ss:List Sl}
def lE (ws:List Wy):ws.map zS=(ws.map xP).map zD:=by rw[AJ];rfl
def vv (s:Sl):List Int:=[(s.p:Int),vf s.pu,s.gv,s.gt]
def i5 (ss:List Sl):ss.map zX=(ss.map vv).map zD:=by rw[AJ];rfl
def bq {x y z u:Int}{a b c d:Int×Int}(h1:a.1<=x/\x<=a.2) (h2:b.1<=y/\y<=b.2) (h3:c.1<=z/\z<=c.2) (h4:d.1<=u/\u<=d.2):uY (zD [x,y,z,u]) [a,b,c,d]=true:=by
 simp[uY,zD,wh,h1,h2,h3,h4]
def Gf.JB (G:Gf os ws ss):l6 [.tup (ws.map zS),.int (os.length:Int)]=some (.bl true):=by
 have hw:=Xk (ws.map xP) [(0,(os.length:Int)-1),(0,(os.length:Int)-1),(-12,12),(-12,12)] (by simp) (by have:=G.wl;simp;lia) (λ r hr=>by
  obtain⟨w,hw,rfl⟩:=Al.mp hr
  obtain⟨⟨a1,a2⟩,a3,a4⟩:=G.wr w hw
  exact bq ⟨by dsimp only;lia,by dsimp only;lia⟩ ⟨by dsimp only;lia,by dsimp only;lia⟩ a3 a4)
 rw[<- lE] at hw
 have eb:T.tup ([(0,(os.length:Int)-1),(0,(os.length:Int)-1),(-12,12),(-12,12)].map zm)=.tup [.tup [.int 0,.int ((os.length:Int)-1)],.tup [.int 0,.int ((os.length:Int)-1)],.tup [.int (-12),.int 12],.tup [.int (-12),.int 12]]:=rfl
 rw[eb] at hw
 have CQ:=M4 (ws.map xP) (by have:=G.wl;simp;lia)
 rw[Wb G.wp,<- lE] at CQ
 have hl:(ws.map zS).length=ws.length:=by simp
 have wl:=G.wl
 have n8:=G.n8
 have Ht:∀ a b c d,mK [some (.im (.tup (ws.map zS))),a,b,c,d]=some (.lst (ws.map λ w=>T.int (w.f:Int))):=λ a b c d=>by
  unfold mK
  refine xU zS _ ws (by simp) (by lia) λ w _=>?_
  simp[zS]
 have Gm:∀ a c d,m9 [a,some (.im (.int (os.length:Int))),c,d,some (.im (.lst (ws.map λ w=>T.int (w.f:Int))))]=some (.lst ((List.range os.length).map λ _=>T.bl true)):=λ a c d=>by
  unfold m9
  refine xU (λ k:Nat=>T.int (0+(k:Int))) _ (List.range os.length) ?_ (by simp;lia) λ k hk=>?_
  ·simp[pj os.length (by lia)]
  ·have e:=Mk k ws (G.way k (Az.mp hk)) (by lia)
   generalize (ws.map λ w=>T.int (w.f:Int))=L at *
   generalize uB false=ii at *
   simp[e]
 have hb:vm ((List.range os.length).map λ _=>T.bl true)=some ((List.range os.length).map λ _=>true):=sU _ _
 have e24:(ws.length:Int)<=24:=by lia
 unfold l6 cg
 generalize mK=c1 at *
 generalize m9=c2 at *
 generalize (ws.map λ w=>T.int (w.f:Int))=L at *
 generalize ws.map zS=WL at *
 generalize (List.range os.length).map (λ _=>T.bl true)=RL at *
 generalize qU=f1 at *
 generalize rj=f2 at *
 simp[hw,Ht,Gm,CQ,hb,hl,e24]
def We {ns:List Int}(h:ns.Pairwise (· < ·)):oB ns=true:=by
 induction ns with
 | nil=>rfl
 | cons a l ih=>
  cases l with
  | nil=>rfl
  | cons b l=>
   have h1:=Ba.mp h
   simp[oB,h1.1 b Ao,ih h1.2]
def Gf.HN (G:Gf os ws ss):l7 [.tup (ss.map zX),.tup (os.map kt)]=some (.bl true):=by
 have hw:=Xk (ss.map vv) [(0,(os.length:Int)-1),(0,1),(1,12),(0,12)] (by simp) (by have:=G.sl;simp;lia) (λ r hr=>by
  obtain⟨s,hs,rfl⟩:=Al.mp hr
  obtain⟨a1,_,a3,a4⟩:=G.sr s hs
  exact bq ⟨by dsimp only;lia,by dsimp only;lia⟩ (by unfold vf;split <;> decide) a3 a4)
 rw[<- i5] at hw
 have eb:T.tup ([(0,(os.length:Int)-1),(0,1),(1,12),(0,12)].map zm)=.tup [.tup [.int 0,.int ((os.length:Int)-1)],.tup [.int 0,.int 1],.tup [.int 1,.int 12],.tup [.int 0,.int 12]]:=rfl
 rw[eb] at hw
 have sl:=G.sl
 have CQ:=M5 (ss.map λ s=>(s.p:Int)) (by simp;lia)
 rw[We (BM.mpr (G.sp.imp λ h=>by lia)),AJ] at CQ
 have Ht:∀ a b,mL [some (.im (.tup (ss.map zX))),a,b]=some (.lst (ss.map (T.int ∘ λ s=>(s.p:Int)))):=λ a b=>by
  unfold mL
  refine xU zX _ ss (by simp) (by lia) λ s _=>?_
  simp[zX]
 have Gm:∀ b,mB [some (.im (.tup (ss.map zX))),some (.im (.tup (os.map kt))),b]=some (.lst (ss.map λ _=>T.bl true)):=λ b=>by
  unfold mB
  refine xU zX _ ss (by simp) (by lia) λ s hs=>?_
  obtain⟨a1,a2,_⟩:=G.sr s hs
  have ha:L2.zP (os.map kt) (s.p:Int)=some (kt true):=vH (by rw[AA,A2 a1];rw[AZ,A2 a1] at a2;simp only[Option.getD_some] at a2;rw[a2];rfl)
  have hk:=Zj true
  generalize os.map kt=O at *
  generalize kt true=kk at *
  generalize (T.str "keeper")=ks at *
  generalize z_ false=ee at *
  simp[zX,ha,hk]
 have hb:vm (ss.map λ _=>T.bl true)=some (ss.map λ _=>true):=sU _ _
 have hl:((os.map kt).length:Int)=os.length:=by simp
 unfold l7 cj
 generalize mL=c1 at *
 generalize mB=c2 at *
 generalize (ss.map (T.int ∘ λ s=>(s.p:Int)))=L at *
 generalize ss.map zX=SL at *
 generalize os.map kt=O at *
 generalize (ss.map λ _=>T.bl true)=RL at *
 generalize qU=f1 at *
 generalize rj=f2 at *
 simp[hw,Ht,Gm,CQ,hb,hl]
def Gf.floor (G:Gf os ws ss) {A B:Int}(hA:0<=A/\A<=12) (hB:0<=B/\B<=12):lp [zt ⟨A,B,os,ws,ss⟩]=some (.bl true):=by
 have h1:=eU (zD [A,B]) [(0,12),(0,12)] (by simp) (gL _)
 have e1:uY (zD [A,B]) [(0,12),(0,12)]=true:=by simp[uY,zD,wh,hA,hB]
 rw[e1] at h1
 have hb:l9 [.tup [.int A,.int B]]=some (.bl true):=by
  have eb:T.tup ([((0:Int),(12:Int)),(0,12)].map zm)=.tup [.tup [.int 0,.int 12],.tup [.int 0,.int 12]]:=rfl
  rw[eb] at h1
  have er:zD [A,B]=.tup [.int A,.int B]:=rfl
  rw[er] at h1
  unfold l9 cn
  generalize rg=ff at *
  simp[h1]
 have h2:=M6 os G.n1 G.n8
 have h3:=G.JB
 have h4:=G.HN
 have it:xI "tuple" "tuple"=true:=by decide
 have hl:((os.map kt).length:Int)=os.length:=by simp
 have g0:∀ a b c d:T,L2.zP [a,b,c,d] 0=some a:=λ _ _ _ _=>rfl
 have g1:∀ a b c d:T,L2.zP [a,b,c,d] 1=some b:=λ _ _ _ _=>rfl
 have g2:∀ a b c d:T,L2.zP [a,b,c,d] 2=some c:=λ _ _ _ _=>rfl
 have g3:∀ a b c d:T,L2.zP [a,b,c,d] 3=some d:=λ _ _ _ _=>rfl
 have e2:∀ i j:Int,z_ true (.int i) (.int j)=some (.bl (!decide (i=j))):=λ i j=>eq_int i j true
 unfold lp dM zt
 dsimp only
 generalize l9=f1 at *
 generalize l8=f2 at *
 generalize l6=f3 at *
 generalize l7=f4 at *
 generalize os.map kt=O at *
 generalize ws.map zS=WL at *
 generalize ss.map zX=SL at *
 generalize z_ true=ee at *
 simp[it,e2,g0,g1,g2,g3,hb,h2,hl,h3,h4]
def cK (rs:List (List Int)) (hl:rs.length<64) (hn:∀ r∈rs,r≠[]) (hs:rs.Pairwise λ a b=>HT.lexLt b a=false):vV [.lst (rs.map zD)]=some (.lst (rs.map zD)):=by
 show ((vw (rs.map zD)).bind λ rs=>_)=_
 rw[kr,Bm,if_pos ⟨hl,hn⟩,<- L4.i0 (.refl rs) hs]
def M9 {r:List Int}(h:r.length=4):jL [zD r]=some (.bl true):=by
 have hw:∀ x:Int,rf [.int x]=some (.bl true):=λ x=>Xi (.int x) rfl
 have hc:mG [some (.im (zD r))]=some (.lst (r.map λ _=>T.bl true)):=by
  unfold mG
  refine xU T.int _ r (by simp[zD]) (by lia) λ x _=>?_
  simp[hw x]
 have it:xI "tuple" "tuple"=true:=by decide
 have hb:vm (r.map λ _=>T.bl true)=some (r.map λ _=>true):=sU _ _
 have hl:((r.map T.int).length:Int)=4:=by simp;lia
 unfold jL dJ
 generalize mG=cc at *
 unfold zD at *
 generalize r.map T.int=R at *
 simp[it,eq_int,hl,hc,hb]
def Ve (h:ss.Pairwise (λ a b=>a.p<b.p)):(ss.map vv).Pairwise λ a b=>HT.lexLt b a=false:=by
 refine BM.mpr (h.imp λ{a b} CI=>?_)
 unfold vv
 rw[HT.tF,if_neg (by lia)]
 simp;lia
def Gf.made (G:Gf os ws ss) {A B:Int}(hA:0<=A/\A<=12) (hB:0<=B/\B<=12):lq [zm (A,B),.tup (os.map kt),.lst (ws.map zS),.lst (ss.map zX)]=some (zt ⟨A,B,os,ws,ss⟩):=by
 have wl:=G.wl
 have sl:=G.sl
 have hc:mI [some (.im (zm (A,B))),some (.im (.tup (os.map kt))),some (.im (.lst (ws.map zS))),some (.im (.lst (ss.map zX))),none]=some (.lst ((ws.map xP++ss.map vv).map λ _=>T.bl true)):=by
  unfold mI
  refine xU zD _ (ws.map xP++ss.map vv) ?_ (by simp;lia) λ r hr=>?_
  ·have e:(ws.map xP++ss.map vv).map zD=ws.map zS++ss.map zX:=by rw[Bz,<- lE,<- i5]
   have hl:(ws.map zS).length+(ss.map zX).length<=16777216:=by simp;lia
   rw[e]
   generalize ws.map zS=WL at *
   generalize ss.map zX=SL at *
   simp[hl]
  ·have h4:r.length=4:=by
    rcases AY.mp hr with h | h <;> obtain⟨x,_,rfl⟩:=Al.mp h <;> rfl
   have:=M9 h4
   generalize zD r=rr at *
   simp[this]
 have hb:vm ((ws.map xP++ss.map vv).map λ _=>T.bl true)=some ((ws.map xP++ss.map vv).map λ _=>true):=sU _ _
 have hal:((ws.map xP++ss.map vv).map λ _=>true).all id=true:=by rw[List.all_map];simp
 have s1:vV [.lst (ws.map zS)]=some (.lst (ws.map zS)):=by
  rw[lE]
  exact cK _ (by simp;lia) (λ r hr=>by obtain⟨x,_,rfl⟩:=Al.mp hr;simp[xP]) (G.wp.imp λ h=>h.1)
 have s2:vV [.lst (ss.map zX)]=some (.lst (ss.map zX)):=by
  rw[i5]
  exact cK _ (by simp;lia) (λ r hr=>by obtain⟨x,_,rfl⟩:=Al.mp hr;simp[vv]) (Ve G.sp)
 have hf:=G.floor hA hB
 have l1:(os.map kt).length<=16777216:=by have:=G.n8;simp;lia
 have l2:(ws.map zS).length<=16777216:=by simp;lia
 have l3:(ss.map zX).length<=16777216:=by simp;lia
 have ef:zt ⟨A,B,os,ws,ss⟩=.tup [zm (A,B),.tup (os.map kt),.tup (ws.map zS),.tup (ss.map zX)]:=rfl
 rw[ef] at hf ⊢
 unfold lq dP
 generalize mI=cc at *
 generalize lp=f1 at *
 generalize ((ws.map xP++ss.map vv).map λ _=>T.bl true)=RL at *
 generalize ((ws.map xP++ss.map vv).map λ _=>true)=BL at *
 generalize os.map kt=O at *
 generalize ws.map zS=WL at *
 generalize ss.map zX=SL at *
 generalize zm (A,B)=pp at *
 generalize vV=so at *
 simp[hc,hb,hal,s1,s2,l1,l2,l3,hf]
def Gf.XW (G:Gf os ws ss) (A0 B0:Int) {q:Int×Int}(h:(0<=q.1/\q.1<=12)/\0<=q.2/\q.2<=12):qO [zt ⟨A0,B0,os,ws,ss⟩,zm q]=some (zt ⟨q.1,q.2,os,ws,ss⟩):=by
 have hm:=G.made h.1 h.2
 have wl:=G.wl
 have sl:=G.sl
 have k1:zo (zt ⟨A0,B0,os,ws,ss⟩) (.int 1)=some (.tup (os.map kt)):=rfl
 have k2:zo (zt ⟨A0,B0,os,ws,ss⟩) (.int 2)=some (.tup (ws.map zS)):=rfl
 have k3:zo (zt ⟨A0,B0,os,ws,ss⟩) (.int 3)=some (.tup (ss.map zX)):=rfl
 have l2:(ws.map zS).length<=16777216:=by simp;lia
 have l3:(ss.map zX).length<=16777216:=by simp;lia
 have eq:zm (q.1,q.2)=zm q:=rfl
 rw[eq] at hm
 unfold qO dk
 generalize lq=f1 at *
 generalize zt ⟨A0,B0,os,ws,ss⟩=fl at *
 generalize zt ⟨q.1,q.2,os,ws,ss⟩=gl at *
 generalize os.map kt=O at *
 generalize ws.map zS=WL at *
 generalize ss.map zX=SL at *
 generalize zm q=pp at *
 simp only[zo] at k1 k2 k3
 simp[k1,k2,k3,l2,l3,hm]
noncomputable def upTo (m:Nat):List (Int×Int):=(List.range (m+1)).flatMap λ(i:Nat)=>(List.range (m+1)).map λ(j:Nat)=>((i:Int),(j:Int))
theorem Mz:∀ {m:Nat},m<=3->oy [.int (m:Int)]=some (.lst ((upTo m).map zm))
 | 0,_=>rfl
 | 1,_=>rfl
 | 2,_=>rfl
 | 3,_=>rfl
 | _+4,h=>by lia
def Wc {m:Nat}(h:m<=3):(upTo m).length<=16:=by
 match m,h with
 | 0,_=>decide
 | 1,_=>decide
 | 2,_=>decide
 | 3,_=>decide
def lG {m:Nat}(q:Int×Int):q∈upTo m↔(0<=q.1/\q.1<=m)/\0<=q.2/\q.2<=m:=by
 unfold upTo
 rw[BK]
 constructor
 ·rintro⟨i,hi,h⟩
  obtain⟨j,hj,rfl⟩:=Al.mp h
  have:=Az.mp hi
  have:=Az.mp hj
  dsimp only
  lia
 ·rintro⟨⟨a,b⟩,c,d⟩
  refine⟨q.1.toNat,Az.mpr (by lia),Al.mpr ⟨q.2.toNat,Az.mpr (by lia),?_⟩⟩
  rw[Ct a,Ct c]
end
def ML {F:zK}{pre:List (List Bd)}{lst:List Bd}(hr:om [zt F]=some (.lst ((pre++[lst]).map rT))):qh [zt F]=some (rT lst):=by
 have BH:L2.zP ((pre++[lst]).map rT) (-1)=some (rT lst):=by
  rw[Bz]
  exact eA
 unfold qh dX
 generalize (pre++[lst]).map rT=L at *
 generalize om=f1 at *
 generalize zt F=fl at *
 simp[hr,BH]
def MM {F:zK}(ok:F.Ok) (hw:∀ x<F.os.length,∃ w∈F.ws,w.f=x):∃ m,qh [zt F]=some (rT (yC F m))/\yC F (m+1)=yC F m/\∀ b∈yC F m,Gd F.A F.B b:=by
 obtain⟨more,hr,hn,hm,hR⟩:=M3 ok
 have n1:=ok.n1
 have Am:List.range F.os.length≠[]:=λ h=>by
  have h2:=congrArg List.length h
  rw[BR] at h2
  rw[h2] at n1
  exact absurd n1 (by decide)
 obtain⟨m,e,AV⟩:=bx ok hw 2000 [] 0 (List.range F.os.length) _ (St.start ok) Am rfl hR
 have e':RN.start F::more=(List.range m).map (yC F)++[yC F m]:=by rw[e,List.range_succ,Bz];rfl
 rw[e'] at hr hn
 exact⟨m,ML hr,AV,(hn (yC F m) (by simp)).2⟩
section
variable {os:List Bool}{ws:List Wy}{ss:List Sl}
def Gf.ok (G:Gf os ws ss) {q:Int×Int}(h:(0<=q.1/\q.1<=3)/\0<=q.2/\q.2<=3):zK.Ok ⟨q.1,q.2,os,ws,ss⟩:=
 ⟨h.1.1,by dsimp only;lia,h.2.1,by dsimp only;lia,G.n1,G.n8,λ w hw=>(G.wr w hw).1,by have:=G.wl;dsimp only;lia,λ s hs=>⟨(G.sr s hs).2.2.1.1,(G.sr s hs).2.2.2.1⟩,
  .inr (by dsimp only;exact DN (Int.mul_le_mul (c:=4) (by lia) (by lia:_<=(4:Int)) (by lia) (by lia)) (by decide)),by have:=G.sl;dsimp only;lia⟩
structure En (os:List Bool) (ws:List Wy) (ss:List Sl) (q:Int×Int) (l:List Bd):Prop where
 bo:qh [zt ⟨q.1,q.2,os,ws,ss⟩]=some (rT l)
 len:l.length=os.length
 gd:∀ b∈l,Gd q.1 q.2 b
 it:∃ m,∀ k,yC ⟨q.1,q.2,os,ws,ss⟩ (m+k)=l
def Gf.en (G:Gf os ws ss) {q:Int×Int}(h:(0<=q.1/\q.1<=3)/\0<=q.2/\q.2<=3):∃ l,En os ws ss q l:=by
 obtain⟨m,h1,h2,h3⟩:=MM (G.ok h) G.way
 exact⟨_,h1,fm _ m,h3,m,λ k=>Zp h2 k⟩
def Nz {b:Bd}{q r:Int×Int}(h:zN b q=true) (h1:q.1<=r.1) (h2:q.2<=r.2):zN b r=true:=by
 obtain⟨p,p1,p2,p3⟩:=y_.mp h
 exact y_.mpr ⟨p,p1,by lia,by lia⟩
def En.mono {q r:Int×Int}{l l':List Bd}(E:En os ws ss q l) (E':En os ws ss r l') (h1:q.1<=r.1) (h2:q.2<=r.2) (p:Nat) (h:zN (l.getD p []) q=true):zN (l'.getD p []) r=true:=by
 obtain⟨m,hm⟩:=E.it
 obtain⟨m',Il⟩:=E'.it
 have hc:=Zq (F:=⟨q.1,q.2,os,ws,ss⟩) (G:=⟨r.1,r.2,os,ws,ss⟩) ⟨rfl,rfl,rfl,h1,h2⟩ (m+m') p
 rw[hm m',Nat.add_comm m m',Il m] at hc
 exact Nz (hc q h) h1 h2
open Classical in
def vF (os:List Bool) (ws:List Wy) (ss:List Sl) (p:Nat) (q:Int×Int):Bool:=decide (∃ l,En os ws ss q l/\zN (l.getD p []) q=true)
def En.is {q:Int×Int}{l:List Bd}(E:En os ws ss q l) (p:Nat):vF os ws ss p q=zN (l.getD p []) q:=by
 unfold vF
 rw[Bn]
 simp only[decide_eq_true_eq]
 constructor
 ·rintro⟨l',E',h⟩
  exact E'.mono E (AK _) (AK _) p h
 ·exact λ h=>⟨l,E,h⟩
def En.at {q:Int×Int}{l:List Bd}(E:En os ws ss q l) {p:Nat}(hp:p<os.length):Gd q.1 q.2 (l.getD p []):=by
 have G0:p<l.length:=by rw[E.len];exact hp
 rw[AZ,A2 G0]
 exact E.gd _ (Cu G0)
def En.Ic {q:Int×Int}{l:List Bd}(E:En os ws ss q l) (h:(0<=q.1/\q.1<=3)/\0<=q.2/\q.2<=3) {p:Nat}(hp:p<os.length):qT [zt ⟨q.1,q.2,os,ws,ss⟩,.int (p:Int),zm q]=some (.bl (vF os ws ss p q)):=by
 rw[E.is]
 have c1:=jO ⟨q.1,q.2,os,ws,ss⟩ p hp
 have c2:jN [zt ⟨q.1,q.2,os,ws,ss⟩,zm q]=some .zr:=by
  have h1:=eU (zD [q.1,q.2]) [(0,q.1),(0,q.2)] (by simp) (gL _)
  have e1:uY (zD [q.1,q.2]) [(0,q.1),(0,q.2)]=true:=by simp[uY,zD,wh,h.1.1,h.2.1]
  rw[e1] at h1
  have eb:T.tup ([((0:Int),q.1),(0,q.2)].map zm)=.tup [.tup [.int 0,.int q.1],.tup [.int 0,.int q.2]]:=rfl
  have er:zD [q.1,q.2]=zm q:=rfl
  rw[eb,er] at h1
  have IK:zo (zt ⟨q.1,q.2,os,ws,ss⟩) (.int 0)=some (.tup [.int q.1,.int q.2]):=rfl
  unfold jN dU
  generalize rg=ff at *
  generalize zt ⟨q.1,q.2,os,ws,ss⟩=fl at *
  generalize zm q=pq at *
  simp only[zo] at IK
  simp[IK,h1]
 have hx:=kW l p (by rw[E.len];exact hp)
 have hlen:=(E.at hp).sH h.1.1
 have hh:=MB (l.getD p []) q (by lia)
 have hB:=E.bo
 generalize zN (l.getD p []) q=v at *
 generalize bT (l.getD p [])=bt at *
 generalize zt ⟨q.1,q.2,os,ws,ss⟩=fl at *
 generalize rT l=rl at *
 generalize zm q=pq at *
 simp only[zo] at hx
 unfold qT dQ
 simp[c1,c2,hB,hx,hh]
def Pe (fl:T) (p m:Int) (L:List (Int×Int)) (e:Int×Int->Bool) (gl:Int×Int->T) (h0:oy [.int m]=some (.lst (L.map zm))) (hl:L.length<=16) (h1:∀ q∈L,qO [fl,zm q]=some (gl q)) (h2:∀ q∈L,qT [gl q,.int p,zm q]=some (.bl (e q))):
  pU [some (.im fl),some (.im (.int p)),some (.im (.int m))]=some (.lst ((L.filter e).map zm)):=by
 have:=nQ zm (λ q=>if e q=true then some (zm q) else none) (pick:=[none,some 0,some 1]) (it:=y8 (zq oy (zb (zp 2) zi))) (g:=zA 0) (c:=yw (zq qT (zb (zq qO (zb (zp 1) (zb (zp 0) zi))) (zb (zp 2) (zb (zp 0) zi))))) (f:=zp 0) (J:=[some (.im fl),some (.im (.int p)),some (.im (.int m))]) L (by
   generalize L.map zm=LL at *
   generalize oy=ff at *
   simp[h0]) (A8 hl (by decide)) (λ q hq=>by
   have a1:=h1 q hq
   have a2:=h2 q hq
   clear h0 h1 h2
   generalize qO=f1 at *
   generalize qT=f2 at *
   generalize gl q=gq at *
   generalize e q=eq at *
   generalize zm q=pq at *
   cases eq <;> simp[a1,a2])
 unfold pU
 rw[this,ji]
def Pd (fl BT LL:T) (p m:Int) (c1:rh [fl,.int p]=some .zr) (c2:uR [.int m,.int 0,.int 3]=some (.bl true)) (hc:pU [some (.im fl),some (.im (.int p)),some (.im (.int m))]=some LL) (hF:uz [LL]=some BT):uQ [fl,.int p,.int m]=some BT:=by
 unfold uQ dA
 generalize pU=cc at *
 generalize rh=f1 at *
 generalize uR=f2 at *
 generalize uz=f3 at *
 simp[c1,c2,hc,hF]
def Gf.least (G:Gf os ws ss) (A0 B0:Int) {p:Nat}(hp:p<os.length) {m:Nat}(hm:m<=3):uQ [zt ⟨A0,B0,os,ws,ss⟩,.int (p:Int),.int (m:Int)]=some (bT (wa ((upTo m).filter (vF os ws ss p)))):=by
 have c1:=jO ⟨A0,B0,os,ws,ss⟩ p hp
 have c2:uR [.int (m:Int),.int 0,.int 3]=some (.bl true):=by
  have:=Xh (.int (m:Int)) 0 3 rfl
  have e:wh (.int (m:Int)) 0 3=true:=by simp[wh];lia
  rw[e] at this
  exact this
 have hl:=Wc hm
 have CD:∀ q∈upTo m,(0<=q.1/\q.1<=3)/\0<=q.2/\q.2<=3:=λ q h=>by have:=(lG q).mp h;lia
 have h0:=Mz hm
 generalize upTo m=L at *
 have hc:=Pe (zt ⟨A0,B0,os,ws,ss⟩) (p:Int) (m:Int) L (vF os ws ss p) (λ q=>zt ⟨q.1,q.2,os,ws,ss⟩) h0 hl (λ q hq=>G.XW A0 B0 (by have:=CD q hq;lia)) (λ q hq=>by
  obtain⟨l,E⟩:=G.en (CD q hq)
  exact E.Ic (CD q hq) hp)
 generalize vF os ws ss p=e at *
 have hf:(L.filter e).length<64:=by
  have:=CV e L
  lia
 exact Pd _ _ _ _ _ c1 c2 hc (lj (L.filter e) hf)
def Gf.Nf (G:Gf os ws ss) {p:Nat}{m:Nat}(hm:m<=3) {q:Int×Int}(hq:q∈upTo m):zN (wa ((upTo m).filter (vF os ws ss p))) q=vF os ws ss p q:=by
 have in3:∀ q∈upTo m,(0<=q.1/\q.1<=3)/\0<=q.2/\q.2<=3:=λ q h=>by have:=(lG q).mp h;lia
 rw[nP,Bn]
 constructor
 ·intro h
  obtain⟨r,r1,r2,r3⟩:=y_.mp h
  obtain⟨r4,r5⟩:=AW.mp r1
  obtain⟨l,E⟩:=G.en (in3 r r4)
  obtain⟨l',E'⟩:=G.en (in3 q hq)
  rw[E.is] at r5
  rw[E'.is]
  exact E.mono E' r2 r3 p r5
 ·exact λ h=>y_.mpr ⟨q,AW.mpr ⟨hq,h⟩,AK _,AK _⟩
end
def eX (q p:Int×Int):qg [zm q,zm p]=some (.bl (xb q p)):=eY q p
def Sf (E:Option L5.W->Ev) (fo pr:T) (m x:Int) (hx:0<=x/\x<=m):∃ J',yu [3] J'=[some (.im fo),some (.im (.int m)),some (.im pr),none,none]/\turn (zA 3) p_ (.int x) [some (.im fo),some (.im (.int m)),some (.im pr),none,none]=some (.nx J'):=by
 have ii:xI "int" "int"=true:=by decide
 have ib:xI "int" "bool"=false:=by decide
 have h1:¬ x<0:=by lia
 have h2:¬ m<x:=by lia
 refine⟨[some (.im fo),some (.im (.int m)),some (.im pr),some (.im (.int x)),none],by simp,?_⟩
 unfold turn p_
 simp[ii,ib,x_,h1,h2]
def Sg (fo:T) (m:Int) (q:Int×Int) (hq:(0<=q.1/\q.1<=m)/\0<=q.2/\q.2<=m):∃ J',yu [2,3] J'=[some (.im fo),some (.im (.int m)),none,none,none]/\turn (zA 2) pX (zm q) [some (.im fo),some (.im (.int m)),none,none,none]=some (.nx J'):=by
 have CD:=qz (is:=[3]) (g:=zA 3) (b:=p_) T.int (λ _=>false) (.bl false) [some (.im fo),some (.im (.int m)),some (.im (zm q)),none,none] [q.1,q.2] [some (.im fo),some (.im (.int m)),some (.im (zm q)),none,none] (by simp) λ x hx=>by
  have G6:0<=x/\x<=m:=by
   simp only[Aj,A3,or_false] at hx
   rcases hx with rfl | rfl
   ·exact hq.1
   ·exact hq.2
  obtain⟨J',r1,r2⟩:=Sf (λ _=>[]) fo (zm q) m x G6
  exact⟨J',r1,by rw[if_neg (by decide)];exact r2⟩
 have CH:[q.1,q.2].any (λ _=>false)=false:=by simp
 rw[CH,if_neg (by decide)] at CD
 simp only[Au,Bb] at CD
 have it:xI "tuple" "tuple"=true:=by decide
 have e2:∀ i j:Int,z_ true (.int i) (.int j)=some (.bl (!decide (i=j))):=λ i j=>eq_int i j true
 refine⟨[some (.im fo),some (.im (.int m)),some (.im (zm q)),none,none],by simp,?_⟩
 unfold turn pX
 generalize p_=bb at *
 unfold zm at *
 generalize z_ true=ee at *
 simp[it,e2,CD]
def QT (r s:List Int):x_ (zD r) (zD s)=some (.bl (HT.lexLt r s)):=by simp[zD,x_,kZ]
def QB (b:Bd) (hb:wD b) (m:Int) {k:Nat}(h0:1<=k) (hk:k<b.length):∃ J',yu [4] J'=[some (.im (bT b)),some (.im (.int m)),none,none,none]/\turn (zA 4) pW (.int (k:Int)) [some (.im (bT b)),some (.im (.int m)),none,none,none]=some (.nx J'):=by
 have GH:k-1<b.length:=by lia
 have g1:L2.zP (b.map zm) (k:Int)=some (zm b[k]):=vH (by simp[hk])
 have g0:L2.zP (b.map zm) ((k:Int)-1)=some (zm b[k-1]):=by
  rw[show (k:Int)-1=((k-1:Nat):Int) by lia]
  exact vH (by simp[GH])
 have hp:=(Ce.mp hb) (k-1) k GH hk (by lia)
 generalize b[k]=q at *
 generalize b[k-1]=r at *
 have h1:x_ (zm r) (zm q)=some (.bl true):=by
  have:=QT [r.1,r.2] [q.1,q.2]
  rw[HT.tF,if_neg (by lia),KA (by lia)] at this
  exact this
 have h2:=eX q r
 have e:xb q r=false:=by
  unfold xb
  simp;lia
 rw[e] at h2
 refine⟨[some (.im (bT b)),some (.im (.int m)),none,none,some (.im (.int (k:Int)))],by simp,?_⟩
 unfold turn pW
 generalize qg=f1 at *
 unfold bT
 generalize b.map zm=BB at *
 generalize zm q=pq at *
 generalize zm r=pr at *
 generalize x_=lt at *
 simp[g0,g1,h1,h2]
def MA (b:Bd) (hb:wD b) (m:Int) (hl:b.length<=100) (h:∀ q∈b,(0<=q.1/\q.1<=m)/\0<=q.2/\q.2<=m):ot [bT b,.int m]=some (.bl true):=by
 have l1:=qz (is:=[2,3]) (g:=zA 2) (b:=pX) zm (λ _=>false) (.bl false) [some (.im (bT b)),some (.im (.int m)),none,none,none] b [some (.im (bT b)),some (.im (.int m)),none,none,none] (by simp) λ q hq=>by
  obtain⟨J',r1,r2⟩:=Sg (bT b) m q (h q hq)
  exact⟨J',r1,by rw[if_neg (by decide)];exact r2⟩
 have a1:b.any (λ _=>false)=false:=by simp
 rw[a1,if_neg (by decide)] at l1
 have l2:=qz (is:=[4]) (g:=zA 4) (b:=pW) (λ k:Nat=>T.int (1+(k:Int))) (λ _=>false) (.bl false) [some (.im (bT b)),some (.im (.int m)),none,none,none] (List.range (b.length-1)) [some (.im (bT b)),some (.im (.int m)),none,none,none] (by simp) λ k hk=>by
  have GH:=Az.mp hk
  obtain⟨J',r1,r2⟩:=QB b hb m (k:=1+k) (by lia) (by lia)
  have e:((1+k:Nat):Int)=1+(k:Int):=by lia
  rw[e] at r2
  exact⟨J',r1,by rw[if_neg (by decide)];exact r2⟩
 have a2:(List.range (b.length-1)).any (λ _=>false)=false:=by simp
 rw[a2,if_neg (by decide)] at l2
 have hr:=VM 1 b.length (by decide) (by lia)
 rw[show ((1:Nat):Int)=1 from rfl] at hr
 have it:xI "tuple" "tuple"=true:=by decide
 have hlen:xt [bT b]=some (.int (b.length:Int)):=by simp[bT]
 have hs:xX (bT b)=some (b.map zm):=rfl
 have Ea:oE (bT b)=some "tuple":=rfl
 unfold ot dE
 generalize pX=b2 at *
 generalize pW=b3 at *
 generalize b.map zm=BB at *
 generalize bT b=bt at *
 generalize xt=ll at *
 generalize oW=rr at *
 simp[-oE,Ea,it,hs,l1,hlen,hr,l2]
section
variable {os:List Bool}{ws:List Wy}{ss:List Sl}
abbrev xg (fl fo:T) (p m:Int) (f s br to du:Option L5.W):Ev:=[some (.im fl),some (.im (.int p)),some (.im (.int m)),some (.im fo),f,s,br,to,du,none]
def Gf.one (G:Gf os ws ss) (A0 B0:Int) {p:Nat}(hp:p<os.length) {m:Nat}(hm:m<=3) {i j:Nat}(hi:i<=m) (hj:j<=m) (b:Bd) (CG:b.length<=100) (hb:∀ q∈upTo m,zN b q=vF os ws ss p q):
  ∃ J',yu [5,6,7,8] J'=xg (zt ⟨A0,B0,os,ws,ss⟩) (bT b) p m (some (.im (.int (i:Int)))) none none none none/\turn (zA 5) qb (.int (0+(j:Int))) (xg (zt ⟨A0,B0,os,ws,ss⟩) (bT b) p m (some (.im (.int (i:Int)))) none none none none)=some (.nx J'):=by
 have hq:((i:Int),(j:Int))∈upTo m:=(lG _).mpr (by dsimp only;lia)
 have h3:(0<=(i:Int)/\(i:Int)<=3)/\0<=(j:Int)/\(j:Int)<=3:=by lia
 obtain⟨l,E⟩:=G.en (q:=((i:Int),(j:Int))) h3
 have hB:=E.bo
 have hx:=kW l p (by rw[E.len];exact hp)
 have hlen:=(E.at hp).sH h3.1.1
 dsimp only at hlen
 have hc:=hb _ hq
 rw[E.is] at hc
 have ef:zt ⟨(i:Int),(j:Int),os,ws,ss⟩=.tup [.tup [.int (i:Int),.int (j:Int)],.tup (os.map kt),.tup (ws.map zS),.tup (ss.map zX)]:=rfl
 dsimp only at hB
 rw[ef] at hB
 have k1:zo (zt ⟨A0,B0,os,ws,ss⟩) (.int 1)=some (.tup (os.map kt)):=rfl
 have k2:zo (zt ⟨A0,B0,os,ws,ss⟩) (.int 2)=some (.tup (ws.map zS)):=rfl
 have k3:zo (zt ⟨A0,B0,os,ws,ss⟩) (.int 3)=some (.tup (ss.map zX)):=rfl
 have v1:mF (xg (zt ⟨A0,B0,os,ws,ss⟩) (bT b) p m (some (.im (.int (i:Int)))) (some (.im (.int (j:Int)))) (some (.im (.tup [.int (i:Int),.int (j:Int)]))) (some (.im (bT (l.getD p [])))) none)=some (.lst ((l.getD p []).map λ r=>T.bl (xb ((i:Int),(j:Int)) r))):=by
  unfold mF
  refine xU zm _ (l.getD p []) (by simp[bT]) (by lia) λ r _=>?_
  have:=eX ((i:Int),(j:Int)) r
  have eq:zm ((i:Int),(j:Int))=.tup [.int (i:Int),.int (j:Int)]:=rfl
  rw[eq] at this
  generalize qg=ff at *
  generalize zm r=pr at *
  simp[this]
 have v2:∀ du,m6 (xg (zt ⟨A0,B0,os,ws,ss⟩) (bT b) p m (some (.im (.int (i:Int)))) (some (.im (.int (j:Int)))) (some (.im (.tup [.int (i:Int),.int (j:Int)]))) (some (.im (bT (l.getD p [])))) du)=some (.lst (b.map λ r=>T.bl (xb ((i:Int),(j:Int)) r))):=λ du=>by
  unfold m6
  refine xU zm _ b (by simp[bT]) (by lia) λ r _=>?_
  have:=eX ((i:Int),(j:Int)) r
  have eq:zm ((i:Int),(j:Int))=.tup [.int (i:Int),.int (j:Int)]:=rfl
  rw[eq] at this
  generalize qg=ff at *
  generalize zm r=pr at *
  simp[this]
 have b1:wO (λ bs=>bs.any id) [.lst ((l.getD p []).map λ r=>T.bl (xb ((i:Int),(j:Int)) r))]=some (.bl (zN (l.getD p []) ((i:Int),(j:Int)))):=by
  simp[sU];rfl
 have b2:wO (λ bs=>bs.any id) [.lst (b.map λ r=>T.bl (xb ((i:Int),(j:Int)) r))]=some (.bl (zN b ((i:Int),(j:Int)))):=by
  simp[sU];rfl
 rw[hc] at b2
 have e2:∀ x:Bool,z_ true (.bl x) (.bl x)=some (.bl false):=λ x=>by cases x <;> rfl
 refine⟨xg (zt ⟨A0,B0,os,ws,ss⟩) (bT b) p m (some (.im (.int (i:Int)))) (some (.im (.int (j:Int)))) (some (.im (.tup [.int (i:Int),.int (j:Int)]))) (some (.im (bT (l.getD p [])))) (some (.im (.bl (zN (l.getD p []) ((i:Int),(j:Int)))))),by simp[xg],?_⟩
 rw[Dk]
 clear hb hc E hq ef
 unfold turn qb
 generalize mF=c1 at *
 generalize m6=c2 at *
 generalize zN (l.getD p []) ((i:Int),(j:Int))=cv at *
 generalize ((l.getD p []).map λ r=>T.bl (xb ((i:Int),(j:Int)) r))=L1 at *
 generalize (b.map λ r=>T.bl (xb ((i:Int),(j:Int)) r))=L2 at *
 generalize (wO λ bs=>bs.any id)=an at *
 generalize zt ⟨A0,B0,os,ws,ss⟩=fl at *
 generalize os.map kt=O at *
 generalize ws.map zS=WL at *
 generalize ss.map zX=SL at *
 generalize bT (l.getD p [])=bt at *
 generalize bT b=fo at *
 generalize rT l=rl at *
 generalize qh=fb at *
 generalize z_ true=ee at *
 simp only[zo] at k1 k2 k3 hx
 unfold xg at *
 simp[k1,k2,k3,hB,hx,v1,v2,b1,b2,e2]
def VP (fl O WL SL fo:T) (A0 B0 p m:Int) (RR:List T) (hr:xZ [.int (m+1)]=some RR) (B9:xj [4,5,6,7,8] (zA 4) r_ RR (xg fl fo p m none none none none none)=some (.nx (xg fl fo p m none none none none none))) (hL:uQ [fl,.int p,.int m]=some fo) (hI:ot [fo,.int m]=some (.bl true))
  (k0:zo fl (.int 0)=some (.tup [.int A0,.int B0])) (k1:zo fl (.int 1)=some O) (k2:zo fl (.int 2)=some WL) (k3:zo fl (.int 3)=some SL) (Io:uQ [.tup [.tup [.int B0,.int A0],O,WL,SL],.int p,.int m]=some fo) (heq:z_ false fo fo=some (.bl true)):qR [fl,.int p,.int m]=some (.bl true):=by
 unfold qR dD
 generalize r_=bb at *
 generalize uQ=f1 at *
 generalize ot=f2 at *
 generalize xZ=rr at *
 generalize z_ false=ee at *
 simp only[zo] at k0 k1 k2 k3
 unfold xg at *
 by_cases c:(1:Int)<m
 ·simp[hL,hI,hr,B9,c]
 ·simp[hL,hI,hr,B9,c,k0,k1,k2,k3,Io,heq]
def VJ (fl fo:T) (p m i:Int) (RR:List T) (hr:xZ [.int (m+1)]=some RR) (h:xj [5,6,7,8] (zA 5) qb RR (xg fl fo p m (some (.im (.int i))) none none none none)=some (.nx (xg fl fo p m (some (.im (.int i))) none none none none))):turn (zA 4) r_ (.int i) (xg fl fo p m none none none none none)=some (.nx (xg fl fo p m (some (.im (.int i))) none none none none)):=by
 unfold turn r_
 generalize qb=bb at *
 generalize xZ=rr at *
 unfold xg at *
 simp[hr,h]
def Gf.row (G:Gf os ws ss) (A0 B0:Int) {p:Nat}(hp:p<os.length) {m:Nat}(hm:m<=3) (b:Bd) (CG:b.length<=100) (hd:∀ q∈upTo m,zN b q=vF os ws ss p q) {i:Nat}(hi:i<=m):xj [5,6,7,8] (zA 5) qb ((List.range (m+1)).map λ(k:Nat)=>T.int (0+(k:Int))) (xg (zt ⟨A0,B0,os,ws,ss⟩) (bT b) p m (some (.im (.int (i:Int)))) none none none none)=some (.nx (xg (zt ⟨A0,B0,os,ws,ss⟩) (bT b) p m (some (.im (.int (i:Int)))) none none none none)):=by
 have h:=qz (is:=[5,6,7,8]) (g:=zA 5) (b:=qb) (λ k:Nat=>T.int (0+(k:Int))) (λ _=>false) (.bl false) (xg (zt ⟨A0,B0,os,ws,ss⟩) (bT b) p m (some (.im (.int (i:Int)))) none none none none) (List.range (m+1)) (xg (zt ⟨A0,B0,os,ws,ss⟩) (bT b) p m (some (.im (.int (i:Int)))) none none none none) rfl λ j hj=>by
  obtain⟨J',r1,r2⟩:=G.one A0 B0 hp hm hi (j:=j) (Nat.le_of_lt_succ (Az.mp hj)) b CG hd
  exact⟨J',r1,by rw[if_neg (by decide)];exact r2⟩
 have a:(List.range (m+1)).any (λ _=>false)=false:=by simp
 rw[a,if_neg (by decide)] at h
 exact h
def Gf.rows (G:Gf os ws ss) (A0 B0:Int) {p:Nat}(hp:p<os.length) {m:Nat}(hm:m<=3) (b:Bd) (CG:b.length<=100) (hd:∀ q∈upTo m,zN b q=vF os ws ss p q) (hr:xZ [.int ((m:Int)+1)]=some ((List.range (m+1)).map λ(k:Nat)=>T.int (0+(k:Int)))):xj [4,5,6,7,8] (zA 4) r_ ((List.range (m+1)).map λ(k:Nat)=>T.int (0+(k:Int))) (xg (zt ⟨A0,B0,os,ws,ss⟩) (bT b) p m none none none none none)=some (.nx (xg (zt ⟨A0,B0,os,ws,ss⟩) (bT b) p m none none none none none)):=by
 have h:=qz (is:=[4,5,6,7,8]) (g:=zA 4) (b:=r_) (λ k:Nat=>T.int (0+(k:Int))) (λ _=>false) (.bl false) (xg (zt ⟨A0,B0,os,ws,ss⟩) (bT b) p m none none none none none) (List.range (m+1)) (xg (zt ⟨A0,B0,os,ws,ss⟩) (bT b) p m none none none none none) rfl λ i hi=>by
  refine⟨xg (zt ⟨A0,B0,os,ws,ss⟩) (bT b) p m (some (.im (.int (i:Int)))) none none none none,rfl,?_⟩
  rw[if_neg (by decide),Dk]
  exact VJ _ _ _ _ _ _ hr (G.row A0 B0 hp hm b CG hd (Nat.le_of_lt_succ (Az.mp hi)))
 have a:(List.range (m+1)).any (λ _=>false)=false:=by simp
 rw[a,if_neg (by decide)] at h
 exact h
def Gf.VO (G:Gf os ws ss) (A0 B0:Int) {p:Nat}(hp:p<os.length) {m:Nat}(hm:m<=3) (b:Bd) (hL:uQ [zt ⟨A0,B0,os,ws,ss⟩,.int (p:Int),.int (m:Int)]=some (bT b)) (Io:uQ [zt ⟨B0,A0,os,ws,ss⟩,.int (p:Int),.int (m:Int)]=some (bT b)) (hd:∀ q∈upTo m,zN b q=vF os ws ss p q) (hib:wD b) (AI:∀ q∈b,(0<=q.1/\q.1<=(m:Int))/\0<=q.2/\q.2<=(m:Int)) (CG:b.length<=100):qR [zt ⟨A0,B0,os,ws,ss⟩,.int (p:Int),.int (m:Int)]=some (.bl true):=by
 have hr:=pj (m+1) (A8 (Nat.succ_le_succ hm) (by decide))
 rw[show ((m+1:Nat):Int)=(m:Int)+1 from rfl] at hr
 exact VP _ _ _ _ _ A0 B0 _ _ _ hr (G.rows A0 B0 hp hm b CG hd hr) hL (MA b hib (m:Int) CG AI) rfl rfl rfl rfl Io (OV rfl)
def Gf.right (G:Gf os ws ss) (A0 B0:Int) {p:Nat}(hp:p<os.length) {m:Nat}(hm:m<=3):qR [zt ⟨A0,B0,os,ws,ss⟩,.int (p:Int),.int (m:Int)]=some (.bl true):=by
 have AI:∀ q∈wa ((upTo m).filter (vF os ws ss p)),(0<=q.1/\q.1<=(m:Int))/\0<=q.2/\q.2<=(m:Int):=λ q hq=>(lG q).mp (AW.mp (Zc hq)).1
 have hll:=Gd.sH (A:=(m:Int)) (B:=(m:Int)) ⟨nN _,AI⟩ (Int.natCast_nonneg m)
 exact G.VO A0 B0 hp hm _ (G.least A0 B0 hp hm) (G.least B0 A0 hp hm) (λ q hq=>G.Nf hm hq) (nN _) AI (Int.ofNat_le.mp (Int.le_trans hll (Int.le_trans (Int.add_le_add_right (Int.ofNat_le.mpr hm) 1) (by decide))))
end
def eW (ns:List Int) (k:Nat):∃ v,tY [vd ns,.int (k:Int)]=some (.int v):=by
 unfold tY dG vd
 by_cases h:k<ns.length
 ·have e:L2.zP (ns.map T.int) (k:Int)=some (.int (ns.getD k 0)):=vH (by simp[h])
  exact⟨_,by simp[h,e,x_];rfl⟩
 ·exact⟨0,by simp[h,x_]⟩
def Pl (ns:List Int) {m many:Nat}(hm:m<=3) (h1:1<=many) (h8:many<=8) (k:Nat):∃ J',yu [3,4] J'=[some (.im (vd ns)),some (.im (.int (m:Int))),some (.im (.int (many:Int))),none,none]/\turn (zA 3) oa (.int (k:Int)) [some (.im (vd ns)),some (.im (.int (m:Int))),some (.im (.int (many:Int))),none,none]=some (.nx J'):=by
 obtain⟨c,hc⟩:=eW ns k
 obtain⟨d,hd⟩:=eW ns (k+1)
 have Hg:tY [vd ns,.int ((k:Int)+1)]=some (.int d):=hd
 obtain⟨⟨A0,B0,os,ws,ss⟩,hF,G⟩:=MC c many 12 h1 h8 (by decide)
 have hF':qS [.int c,.int (many:Int),.int 12]=some (zt ⟨A0,B0,os,ws,ss⟩):=hF
 dsimp only at G
 have n0:0<os.length:=G.n1
 obtain⟨p,hp,DF⟩:∃ p:Nat,d%(os.length:Int)=(p:Int)/\p<os.length:=by
  have:=Bx d (b:=(os.length:Int)) (by lia)
  have:=BP d (b:=(os.length:Int)) (by lia)
  exact⟨(d%(os.length:Int)).toNat,by lia,by lia⟩
 have hR:=G.right A0 B0 DF hm
 have k1:zo (zt ⟨A0,B0,os,ws,ss⟩) (.int 1)=some (.tup (os.map kt)):=rfl
 have hl:((os.map kt).length:Int)=os.length:=by simp
 refine⟨[some (.im (vd ns)),some (.im (.int (m:Int))),some (.im (.int (many:Int))),some (.im (.int (k:Int))),some (.im (zt ⟨A0,B0,os,ws,ss⟩))],by simp,?_⟩
 clear G hF
 unfold turn oa
 generalize tY=f1 at *
 generalize qS=f2 at *
 generalize qR=f3 at *
 generalize zt ⟨A0,B0,os,ws,ss⟩=fl at *
 generalize os.map kt=O at *
 generalize vd ns=sc at *
 simp only[zo] at k1
 simp[hc,hF',Hg,k1,hl,n0,hp,hR]
def Pm (ns:List Int) (CC:ns.length<=63):ox [vd ns]=some (.bl true):=by
 obtain⟨v,hv⟩:=eW ns 0
 have Hc:tY [vd ns,.int 0]=some (.int v):=hv
 obtain⟨m,hm,m3⟩:∃ m:Nat,v%4=(m:Int)/\m<=3:=⟨(v%4).toNat,by lia,by lia⟩
 obtain⟨many,e1,n1,n8⟩:∃ many:Nat,L2.zP [T.int 8,.int 8,.int 3,.int 2] (m:Int)=some (.int (many:Int))/\1<=many/\many<=8:=by
  match m,m3 with
  | 0,_=>exact⟨8,rfl,by decide,by decide⟩
  | 1,_=>exact⟨8,rfl,by decide,by decide⟩
  | 2,_=>exact⟨3,rfl,by decide,by decide⟩
  | 3,_=>exact⟨2,rfl,by decide,by decide⟩
 obtain⟨st,e2,s1,s60⟩:∃ st:Int,L2.zP [T.int 9,.int 13,.int 30,.int 60] (m:Int)=some (.int st)/\1<=st/\st<=60:=by
  match m,m3 with
  | 0,_=>exact⟨9,rfl,by decide,by decide⟩
  | 1,_=>exact⟨13,rfl,by decide,by decide⟩
  | 2,_=>exact⟨30,rfl,by decide,by decide⟩
  | 3,_=>exact⟨60,rfl,by decide,by decide⟩
 obtain⟨n,hn⟩:∃ n:Nat,oV [.int 1,.int (if (if (40:Int)<ns.length then 40 else (ns.length:Int))>2 then (if (40:Int)<ns.length then 40 else (ns.length:Int)) else 2),.int st]=some ((List.range n).map λ(k:Nat)=>T.int (1+(k:Int)*st)):=by
  generalize hz:(if (if (40:Int)<ns.length then 40 else (ns.length:Int))>2 then (if (40:Int)<ns.length then 40 else (ns.length:Int)) else 2)=z
  have Ho:0<=z/\z<=60:=by rw[<- hz];split <;> split <;> lia
  refine⟨uA 1 z st,?_⟩
  show (if (sM 1=true/\sM z=true)/\sM st=true/\(0:Int)<st then some (kx 1 st (uA 1 z st)) else none)=_
  rw[if_pos ⟨⟨by decide,by simp[sM];lia⟩,by simp[sM];lia,by lia⟩]
  rfl
 have HC:=qz (is:=[3,4]) (g:=zA 3) (b:=oa) (λ k:Nat=>T.int (1+(k:Int)*st)) (λ _=>false) (.bl false)
  [some (.im (vd ns)),some (.im (.int (m:Int))),some (.im (.int (many:Int))),none,none] (List.range n)
  [some (.im (vd ns)),some (.im (.int (m:Int))),some (.im (.int (many:Int))),none,none] rfl λ k _=>by
   obtain⟨J',r1,r2⟩:=Pl ns m3 n1 n8 (1+k*st.toNat)
   have e:((1+k*st.toNat:Nat):Int)=1+(k:Int)*st:=by
    rw[DP,Int.natCast_mul,Ct (by lia)];rfl
   rw[e] at r2
   exact⟨J',r1,by rw[if_neg (by decide)];exact r2⟩
 have CH:(List.range n).any (λ _=>false)=false:=by simp
 rw[CH,if_neg (by decide)] at HC
 have hlen:xt [vd ns]=some (.int (ns.length:Int)):=by simp[vd]
 unfold ox dI
 generalize oa=bb at *
 generalize tY=f1 at *
 generalize (List.range n).map (λ(k:Nat)=>T.int (1+(k:Int)*st))=RR at *
 generalize vd ns=sc at *
 generalize xt=ll at *
 generalize oV=rr at *
 simp[Hc,hm,e1,e2,hlen,hn,HC]
end yp
namespace PySem.W.Fast
def tw1116571063131791223:=0
def tw3343553393541254698:=0
def tw13981660331256369329:=0
def te14644972267839887410:=0
def tw7824992544884320892:=0
def tw6227030925396967532:=0
def tw4613576647533604557:=0
def tw15261077069260929662:=0
def tw13180980446714102274:=0
def tw3806188215119050647:=0
def tw7901552293386965184:=0
def tw2074882515282334703:=0
def tw15510952229684944630:=0
def tw16145750975250824923:=0
def tw6113115248792226229:=0
def tw7920289217659820270:=0
def tw11490878875470519461:=0
def tw5408988574880503536:=0
def tw10475531783954376535:=0
def tw9146162947087662253:=0
def tw1868981315108314223:=0
def tw379636384085075379:=0
def tw14017785025193661887:=0
def tw1139037438171565926:=0
def tw5980982576492440024:=0
def tw13278063394306376362:=0
def tw17295298873342060478:=0
def tw11018622829410853146:=0
def tw15655048572122136701:=0
def tw11367493769736952003:=0
def tw16497411674993409882:=0
def tw1960009268810807023:=0
def tw1464032409237170870:=0
def tw15555384775685743897:=0
def tw2704056579320351413:=0
def tw1777807039342926865:=0
def tw11925765549428729945:=0
def tw8248373342850769025:=0
def tw5911650264969153013:=0
def tw1956315997523334652:=0
def tw14185859072058727192:=0
def tw17620263531850797078:=0
def tw9078154424911189947:=0
def tw6053828655356195057:=0
def tw1541291656403668131:=0
def tw8889099692665714790:=0
def tw17408817904243480556:=0
def tw6124175081524668251:=0
def tw497446477578365394:=0
def tw8768805922177725372:=0
def tw2124726463151471390:=0
def tw12070496262235176542:=0
def tw4449449211404454171:=0
def tw3655036899718142329:=0
def tw14699892885986509202:=0
def tw897330706033813650:=0
def tw6271676841671463766:=0
def tw174084559721694183:=0
def tw442097014559278492:=0
def tw10250926302524207398:=0
def tw7723833836206430480:=0
def tw18027160996976236182:=0
def tw15353259825228501867:=0
def tw780236643047885547:=0
def tw1959224050626496041:=0
def tw14311297048137091267:=0
def tw217306774219201345:=0
def tw16931255990615175309:=0
def tw2901766905858719604:=0
def tw17148618288466177934:=0
def tw9981273709460646940:=0
def tw9362615299267718881:=0
def tw5777437307180873473:=0
def tw8906524678492643143:=0
def tw17077101020714044635:=0
def tw2203573866939391014:=0
def tw17516985938031620182:=0
def tw9417541765682622407:=0
def tw9486832965524661657:=0
def tw16116787337884580274:=0
def tw1767256934934846337:=0
def tw456090510021905384:=0
def tw15198396880574297320:=0
def tw1016918592577027670:=0
def tw15210094213711419868:=0
def tw7417292947265780070:=0
def tw8893220695299362471:=0
def tw2235600855166921681:=0
def tw4833144979662855266:=0
def tw3098890793165863879:=0
def tw18261242500201292662:=0
def tw3078725096065937496:=0
def tw3245733141942870747:=0
def tw271303428500230744:=0
def tw4836078056308761900:=0
def tw5810201316234388343:=0
def tw12675591140664595277:=0
def tw3633633194179325552:=0
def tw16744912060429570599:=0
def tw4954532449369597829:=0
def tw544349189406847651:=0
def tw9066001467436429687:=0
def tw14123430540170347995:=0
def tw580354546610889439:=0
def tw6143790296612638108:=0
def tw4463889533302920205:=0
def tw15603808205848187855:=0
def tw364836525490584090:=0
def tw15372263162837775935:=0
def tw12401389627421349310:=0
def tw10605024140436371792:=0
def tw13660527185205656792:=0
def tw3666950330287218241:=0
def tw4065083731504752980:=0
def tw8416162670433951872:=0
def tw12159352116832682368:=0
def tw17764747494932195530:=0
def tw12362137548226037762:=0
def tw10289442551340875485:=0
def tw986284782325613070:=0
def tw14705606662122496439:=0
def tw2918304147692836700:=0
def tw5980465024935463049:=0
def tw16802988996584527055:=0
def tw10488469354823177311:=0
def tw550522142781944582:=0
def tw11834324508784950143:=0
def tw12272332199705513775:=0
def tw734402467977121517:=0
def tw13093273389142713284:=0
def tw4525401197882571265:=0
def tw3358799994583454886:=0
def tw5570777646528757858:=0
def tw2602959008874453532:=0
def tw14189842982083661557:=0
def tw18005644783687118664:=0
def tw3827147551695952993:=0
def tw16315824926901042362:=0
def tw3928318951749838745:=0
def tw15109523274548689539:=0
def tw7635239078398970647:=0
def tw3105123092134997414:=0
def tw17109712685284603530:=0
def tw4458132755089182238:=0
def tw8213645646507738801:=0
def tw3155059149682800391:=0
def tw4693403051708901483:=0
def tw7921263703125361567:=0
def tw2882744324987971557:=0
def tw12793790763947688219:=0
def tw10627352890678699920:=0
def tw9149846442822279453:=0
def tw15771689164796815129:=0
def tw17454771408095529016:=0
def tw12777692889565584006:=0
def tw8216850550761558969:=0
def tw17386697940688994338:=0
def tw3665181132336617554:=0
def tw18071650484484430023:=0
def tw3743743787563552093:=0
def tw3370289530914217988:=0
def tw15199226394577367810:=0
def tw11521641107121551475:=0
def tw17952926174660408734:=0
def tw18381806449948493020:=0
def tw9487876885820619070:=0
def tw16819802856262423237:=0
def tw14499203977437923452:=0
def tw4665614091559334694:=0
def tw2807215703327463028:=0
def tw16252749123102568945:=0
def tw2598533205410899712:=0
def tw6713465165432899145:=0
def tw9697642743596546598:=0
def tw14142345742653517830:=0
def tw667661940567047143:=0
def tw15538385967315730751:=0
def tw11860799499716038993:=0
def tw13736018858966746377:=0
def tw9210661806662192448:=0
def tw17013405969020000231:=0
def tw14092102049724346669:=0
def tw11481451838859524444:=0
def tw15454107227040277593:=0
def tw13878858154471525493:=0
def tw16465044868151566734:=0
def tw16442687136281797143:=0
def tw15829209093413587733:=0
def tw2137094136309162843:=0
def tw8967801398980425113:=0
def tw7159865669692858301:=0
def tw16881839606250533207:=0
def tw15814290940398083926:=0
def tw15292848162307840449:=0
def tw17713960648461057246:=0
def tw14173445251795138175:=0
def tw2117793487853078706:=0
def tw15536951617767660312:=0
def tw12598377920939694163:=0
def tw15481653134300737646:=0
def tw9779873953897430565:=0
def tw4305808122193592869:=0
def tw5256555103068590485:=0
def tw14022559587759365397:=0
def tw15016896800249951311:=0
def tw13580662944913994309:=0
def tw7302686311338895962:=0
def tw13727807274699149494:=0
def tw11165096104012290458:=0
def tw17600313580832881680:=0
def tw15669876921484068898:=0
def tw16349652637780048416:=0
def tw5666850748881733411:=0
def tw3254653582795007457:=0
def tw10880174103984525943:=0
def tw75591377625409327:=0
def tw14323276676359437262:=0
def tw7886219453008848002:=0
def tw13513063124437966880:=0
def tw1963142387125839535:=0
def tw18004316267640125319:=0
def tw2405160467643174126:=0
def tw16941043148404464373:=0
def tw15292561740286916664:=0
def tw6790723397928196230:=0
def tw7014614953281285112:=0
def tw14676352803808254322:=0
def tw6635819028304424990:=0
def tw5463986215525199742:=0
def tw10230258775954450181:=0
def tw2725987519372272610:=0
def tw1936354281163510322:=0
def tw9095910332637634216:=0
def tw17759794968145442035:=0
def tw11647445184955518394:=0
def tw18157528176904314489:=0
def tw4674871838717453966:=0
def tw16113170198997910332:=0
def tw3268929154324885265:=0
def tw15203865735867138370:=0
def tw14521734166458917194:=0
def tw6470050177137148095:=0
def tw2144123235645356255:=0
def tw2324110498624210996:=0
def tw1636800102898041537:=0
def tw11676964213397549207:=0
def tw188303376368074060:=0
def tw10802814212984394674:=0
def tw10191957683034497176:=0
def tw17315292813150014651:=0
def tw8795560298248934671:=0
def tw5904788567252189541:=0
def tw3710610243459489514:=0
def tw4697016867512464721:=0
def tw16966527915382751526:=0
def tw5301300704077905153:=0
def tw2556592114406372880:=0
def tw5448464884249337984:=0
def tw6564168230050670242:=0
def tw9328853854538341773:=0
def tw1033916076554692684:=0
def tw2265101224792646951:=0
def tw6705198787473413243:=0
def tw5786414717496199809:=0
def tw8326185410915289927:=0
def tw10348397362834363777:=0
def tw4782095319476982546:=0
def tw12196841062348406571:=0
def tw15380463655134236111:=0
def tw2945013637275781704:=0
def tw6762247703204205019:=0
def tw14303429949821469688:=0
def tw4045284060165129742:=0
def tw13870827310268711823:=0
def tw16085128803446095184:=0
def tw10093731537499422657:=0
def tw7267905891380919498:=0
def tw5174017195020904257:=0
def tw12006131277231967857:=0
def tw11908414603521408248:=0
def tw13436079200751256476:=0
def tw4238815271141830454:=0
def tw10178283982725627853:=0
def tw4004953486651198490:=0
def tw17777467889156362698:=0
def tw6630159849728051983:=0
def tw12794640942499579284:=0
def tw17972962787821040256:=0
def tw8640519968321445340:=0
def tw4946822057110047195:=0
def tw13801116195980879476:=0
def tw3304215751361603905:=0
def tw13869136046238224996:=0
def tw5593614908102815842:=0
def tw3829192273510288398:=0
def tw15583681944303723271:=0
def tw4691027031373622724:=0
def tw13586952886462757106:=0
def tw9827364788711674894:=0
def tw10686751622429783538:=0
def tw7780673936497735086:=0
def tw13904723781633842027:=0
def tw7403055841444173469:=0
def tw1580868570749965308:=0
def tw11805451671842766570:=0
def tw17894820000012651056:=0
def tw14091632747350540987:=0
def tw18387306971143506877:=0
def tw11177408802606447783:=0
def tw9173219416024495952:=0
def tw5145677679526472974:=0
def tw4005859468126656042:=0
def tw13429542003575129081:=0
def tw6347244438828764219:=0
def tw12937829392642509003:=0
def tw8101324386387290473:=0
def tw7243574236751366901:=0
def tw14927781247647440562:=0
def tw1166390734661434815:=0
def tw16834535040143082015:=0
def tw15592185630570881325:=0
def tw7687429165174565854:=0
def tw9241124264663667983:=0
def tw16280150723100278196:=0
def tw13068164022237228401:=0
def tw4510163584195403959:=0
def tw15077333340989713808:=0
def tw2720835086350416508:=0
def tw16902264990524816390:=0
def tw5519561970054758829:=0
def tw14090811346193389196:=0
def tw3551029025553669755:=0
def tw6474071491776609035:=0
def tw17357635866694734228:=0
def tw15728313380312134491:=0
def tw5717043474850307303:=0
def tw8992316917592518779:=0
def tw18329734340802746119:=0
def tw7221258456608407854:=0
def tw17814193274917563452:=0
def tw1375052909457363177:=0
def tw14277917207222332995:=0
def tw1119540276148979266:=0
def tw17595870582053208750:=0
def tw3473561089502415493:=0
def tw6933627030153944426:=0
def tw9909347836510280165:=0
def tw889842718456719323:=0
end PySem.W.Fast
namespace yp
open PySem L2 L3 L5
open PyProof.Rows hiding St
def top (i:Nat):Stmt:=PySem.Challenge.pw_purseborder_k72_whole_least_brims.main.body.getD i (.Pass ⟨0,0,0,0⟩)
abbrev iR:Stmt:=top 12
abbrev iQ:Stmt:=top 13
abbrev kg:Stmt:=top 14
abbrev km:Stmt:=top 15
abbrev ko:Stmt:=top 16
abbrev hX:Stmt:=top 17
abbrev iT:Stmt:=top 18
abbrev kq:Stmt:=top 19
abbrev oQ:Stmt:=top 20
abbrev oS:Stmt:=top 21
abbrev iU:Stmt:=top 22
abbrev iD:Stmt:=top 23
abbrev iX:Stmt:=top 24
abbrev iY:Stmt:=top 25
abbrev kc:Stmt:=top 26
abbrev iC:Stmt:=top 27
abbrev hV:Stmt:=top 29
abbrev iG:Stmt:=top 30
abbrev ki:Stmt:=top 31
abbrev oO:Stmt:=top 32
abbrev iW:Stmt:=top 33
abbrev oP:Stmt:=top 35
abbrev iE:Stmt:=top 36
abbrev hJ:Stmt:=top 37
abbrev i_:Stmt:=top 38
abbrev hG:Stmt:=top 39
abbrev oJ:Stmt:=top 40
abbrev ke:Stmt:=top 41
abbrev kd:Stmt:=top 42
abbrev iZ:Stmt:=top 44
abbrev iV:Stmt:=top 45
abbrev kh:Stmt:=top 47
abbrev kj:Stmt:=top 48
abbrev iB:Stmt:=top 49
abbrev kl:Stmt:=top 52
abbrev kf:Stmt:=top 53
abbrev iL:Stmt:=top 55
abbrev iI:Stmt:=top 56
abbrev iM:Stmt:=top 57
abbrev iH:Stmt:=top 58
abbrev iK:Stmt:=top 59
abbrev iO:Stmt:=top 60
abbrev iJ:Stmt:=top 61
abbrev oK:Stmt:=top 62
abbrev iP:Stmt:=top 63
def Vy:zU ["thing"] ["thing"] (zB iR):=yd
def VB:zU ["things"] ["things"] (zB ko):=yd
def V1:zU ["thing"] ["thing"] (zB iT):=yd
def Vq:zU ["floor"] ["floor"] (zB iD):=yd
def V9:zU ["pair","other"] ["pair","other"] (zB hV):=yd
def i8:zU ["pairs","least","pair"] ["pairs"] (zB iG):=yd
def qq:zU ["brims","stall","pair","purse","pairs","given","got"] ["brims","stall","pair"] (zB iE):=yd
def i9:zU ["most","told","first"] ["most"] (zB kl):=yd
def Vt:zU ["_law_script","_law_k"] ["_law_script","_law_k"] (zB iL):=yd
def rD:zU ["_law_cell","_law_count","_law_found","_law_number","_law_k"] ["_law_cell","_law_count"] (zB iI):=yd
def Vu:zU ["_law_number","_law_most"] ["_law_number","_law_most"] (zB iM):=yd
def Vv:zU ["_law_pair","_law_other"] ["_law_pair","_law_other"] (zB iO):=yd
def Vx:zU ["thing","least","most"] ["thing","least","most"] (zB iQ):=yd
def VC:zU ["thing"] ["thing"] (zB kq):=yd
def V3:zU ["border","pair"] ["border","pair"] (zB ki):=yd
def qt:zU ["border","other","steps","lows","shared","first","side","second"] ["border","other"] (zB oO):=yd
def V5:zU ["border","other"] ["border","other"] (zB iW):=yd
def bf:zU ["brims","way","border","pairs"] ["brims","way","border"] (zB oP):=yd
def V0:zU ["thing"] ["thing"] (zB kh):=yd
def Vs:zU ["_law_place","_law_many","_law_number","_law_size"] ["_law_place","_law_many","_law_number","_law_size"] (zB iH):=yd
def lX:zU ["_law_found","_law_most","_law_pair","_law_part","_law_k"] ["_law_found","_law_most"] (zB iJ):=yd
def Vz:zU ["thing","bounds"] ["thing","bounds"] (zB kg):=yd
def V6:zU ["floor","place"] ["floor","place"] (zB iX):=yd
def lY:zU ["borders","joined","border"] ["borders"] (zB i_):=yd
def lZ:zU ["borders","joined","border"] ["borders"] (zB hG):=yd
def vW:zU ["_law_cell","_law_most","_law_brim","_law_xs","_law_many","_law_owners","_law_ways","_law_stalls","_law_place","_law_number","_law_size","_law_k","_law_brims"] ["_law_cell","_law_most","_law_brim"] (zB iK):=yd
def VA:zU ["thing","bounds"] ["thing","bounds"] (zB km):=yd
def VD:zU ["thing"] ["thing"] (zB hX):=yd
def V7:zU ["floor","pair"] ["floor","pair"] (zB iY):=yd
def Vp:zU ["floor","place"] ["floor","place"] (zB kc):=yd
def ba:zU ["floor","place","stall"] ["floor","place"] (zB iC):=yd
def ka:zU ["thing","places","place","coins","starts"] ["thing","places"] (zB oQ):=yd
def bg:zU ["thing","owners","place"] ["thing","owners"] (zB oS):=yd
def l_:zU ["floor","place","border","stall","pairs","pair"] ["floor","place","border"] (zB hJ):=yd
def V2:zU ["thing"] ["thing"] (zB iU):=yd
def i7:zU ["floor","place","last","ways","ahead"] ["floor","place","last"] (zB oJ):=yd
def i6:zU ["floor","last","fresh","following","place"] ["floor","last","fresh"] (zB ke):=yd
def bc:zU ["brims","owners","ways","stalls","floor"] ["brims","owners","ways","stalls"] (zB kj):=yd
def pd:zU ["floor","told","fresh","last","following"] ["floor"] (zB kd):=yd
def Vo:zU ["floor","brims"] ["floor","brims"] (zB iB):=yd
def V8:zU ["floor"] ["floor"] (zB iZ):=yd
def V4:zU ["floor","place","pair"] ["floor","place","pair"] (zB iV):=yd
def Vr:zU ["floor","place","most"] ["floor","place","most"] (zB kf):=yd
def rE:zU ["_law_floor_here","_law_place","_law_most","_law_found","_law_first","_law_second","_law_brims","_law_told","_law_due","_law_other"] ["_law_floor_here","_law_place","_law_most"] (zB oK):=yd
def oI:zU ["_law_script","_law_most","_law_many","_law_k","_law_floor_here"] ["_law_script"] (zB iP):=yd
section
variable (P:Program)(w:World)(K:Ab)(mg:AG)(base:Heap)
abbrev da:=FD P w K mg base "is_whole" 1 ["thing"] (zL zF rf)
abbrev dh:=FD P w K mg base "are_rising" 1 ["things"] (zL zF rj)
abbrev X4:=FD P w K mg base "is_owner" 1 ["thing"] (zL zF eV)
abbrev eZ:=FD P w K mg base "places_of" 1 ["floor"] (zL zF qQ)
abbrev df:=FD P w K mg base "at_or_above" 1 ["pair","other"] (zL zF o3)
abbrev o4:=FD P w K mg base "least_pairs" 1 ["pairs"] (zL zF uz)
abbrev Xr:=FD P w K mg base "pairs_ahead_of_changes" 1 ["brims","stall","pair"] (zL zF lg)
abbrev XB:=FD P w K mg base "brims_up_to" 1 ["most"] (zL zF oy)
abbrev X0:=FD P w K mg base "_law_cell_at" 1 ["_law_script","_law_k"] (zL xO tY)
abbrev Xw:=FD P w K mg base "_law_stirred" 1 ["_law_cell","_law_count"] (zL zF oq)
abbrev X2:=FD P w K mg base "_law_amount" 1 ["_law_number","_law_most"] (zL zF ou)
abbrev e_:=FD P w K mg base "_law_above" 1 ["_law_pair","_law_other"] (zL zF qg)
abbrev jQ:=FD P w K mg base "is_whole_within" 2 ["thing","least","most"] (zL zF uR)
abbrev XJ:=FD P w K mg base "are_owners" 2 ["thing"] (zL zF l8)
abbrev X6:=FD P w K mg base "holds" 2 ["border","pair"] (zL zF jM)
abbrev XC:=FD P w K mg base "both" 2 ["border","other"] (zL zF lx)
abbrev X9:=FD P w K mg base "either" 2 ["border","other"] (zL zF lu)
abbrev XF:=FD P w K mg base "border_ahead_of_way" 2 ["brims","way","border"] (zL zF l5)
abbrev X3:=FD P w K mg base "is_row" 2 ["thing"] (zL zF jL)
abbrev Xv:=FD P w K mg base "_law_way" 2 ["_law_place","_law_many","_law_number","_law_size"] (zL zF qf)
abbrev Xy:=FD P w K mg base "_law_is_border" 2 ["_law_found","_law_most"] (zL zF ot)
abbrev jR:=FD P w K mg base "is_row_within" 3 ["thing","bounds"] (zL zF rg)
abbrev lB:=FD P w K mg base "check_place" 3 ["floor","place"] (zL zF rh)
abbrev XD:=FD P w K mg base "border_of_either" 3 ["borders"] (zL xO ly)
abbrev XE:=FD P w K mg base "border_of_all" 3 ["borders"] (zL xO l4)
abbrev Xz:=FD P w K mg base "_law_floor" 3 ["_law_cell","_law_most","_law_brim"] (zL zF qS)
abbrev dg:=FD P w K mg base "are_rows_within" 4 ["thing","bounds"] (zL zF qU)
abbrev XM:=FD P w K mg base "are_brims" 4 ["thing"] (zL zF l9)
abbrev XA:=FD P w K mg base "check_pair" 4 ["floor","pair"] (zL zF jN)
abbrev Xo:=FD P w K mg base "ways_from" 4 ["floor","place"] (zL zF lb)
abbrev Xp:=FD P w K mg base "stall_at" 4 ["floor","place"] (zL xO qP)
abbrev XH:=FD P w K mg base "are_ways" 5 ["thing","places"] (zL zF l6)
abbrev XI:=FD P w K mg base "are_stalls" 5 ["thing","owners"] (zL zF l7)
abbrev XG:=FD P w K mg base "border_ahead_of_changes" 5 ["floor","place","border"] (zL xO oz)
abbrev X5:=FD P w K mg base "is_floor" 6 ["thing"] (zL zF lp)
abbrev Xt:=FD P w K mg base "next_border" 6 ["floor","place","last"] (zL xO lh)
abbrev Xs:=FD P w K mg base "next_round" 7 ["floor","last","fresh"] (zL zF oo)
abbrev X7:=FD P w K mg base "floor_of" 7 ["brims","owners","ways","stalls"] (zL xO lq)
abbrev Xq:=FD P w K mg base "rounds" 8 ["floor"] (zL zF om)
abbrev Xn:=FD P w K mg base "with_brims" 8 ["floor","brims"] (zL xO qO)
abbrev de:=FD P w K mg base "borders" 9 ["floor"] (zL xO qh)
abbrev X8:=FD P w K mg base "enough" 10 ["floor","place","pair"] (zL zF qT)
abbrev Xu:=FD P w K mg base "least_brims" 11 ["floor","place","most"] (zL zF uQ)
abbrev Xx:=FD P w K mg base "_law_right" 12 ["_law_floor_here","_law_place","_law_most"] (zL zF qR)
variable {K mg}(T:Bt mg)(U:XN mg)
include T U
theorem RV (F:Fy K mg "is_whole" iR):da P w K mg base:=
 yg (k:=0) F Vy rfl (λ _ _ _ _ _ _=>vn λ _=>rfl) λ f Ae A outer s H E hr=>⟨_,
  (zw (zI (uc (af T (za 0)) (tm (TH (ag T (za 0))))))),
  (by unfold jT;exact ye)⟩
theorem Qz (F:Fy K mg "are_rising" ko):dh P w K mg base:=
 yg (k:=0) F VB rfl (λ _ _ _ _ _ _=>vn λ _=>rfl) λ f Ae A outer s H E hr=>⟨_,
  (zw (zI (rK T.all (zc (xH (N':=["one","other"]) (pick:=[none,none]) (xk (N:=["things"]) (esc:=zB ko)) rfl (bX U.zip (zc (za 0) (zc (TF (za 0) (T2 zh) T3) zj))) (λ _ _ _ _ _=>(nq (n:=2) (u6 (zY 0 (yR ["one","other"])) (u6 (zY 1 (yR ["one","other"])) nk)))) (λ _ _ _ _ _=>xS) (λ _ _ _ _ _=>(TJ hr (za 0) (za 1)))) zj)))),
  (by unfold jW pV;exact ye)⟩
theorem RY {Fc Gw:Value}(F:Fy K mg "is_owner" iT) (E4:mg "KEEPER"=some Fc) (Fd:L2.RelV (.str "keeper") Fc) (F6:mg "TAKER"=some Gw) (Gy:L2.RelV (.str "taker") Gw):X4 P w K mg base:=
 yg (k:=0) F V1 rfl (λ _ _ _ _ _ _=>vn λ _=>rfl) λ f Ae A outer s H E hr=>⟨_,
  (zw (zI (uc (TN T (za 0)) (tm (ah hr (za 0) (yr (zc (kE E4 Fd) (zc (kE F6 Gy) zj)))))))),
  (by unfold XR;exact ye)⟩
theorem R7 (F:Fy K mg "places_of" iD):eZ P w K mg base:=
 yg (k:=0) F Vq rfl (λ _ _ _ _ _ _=>vn λ _=>rfl) λ f Ae A outer s H E hr=>⟨_,
  (zw (zI (wY T.len (zc (zx (za 0) zh) zj)))),
  (by unfold dr;exact ye)⟩
theorem Qv (F:Fy K mg "at_or_above" hV):df P w K mg base:=
 yg (k:=0) F V9 rfl (λ _ _ _ _ _ _=>we λ _ _=>rfl) λ f Ae A outer s H E hr=>⟨_,
  (zw (zI (uc (kF (zx (za 0) zh) (zx (za 1) zh)) (tm (kF (zx (za 0) zh) (zx (za 1) zh)))))),
  (by unfold cf;exact ye)⟩
theorem RF (F:Fy K mg "least_pairs" iG):o4 P w K mg base:=
 yg (k:=0) F i8 rfl (λ _ _ _ _ _ _=>vn λ _=>rfl) λ f Ae A outer s H E hr=>⟨_,
  (zy (zZ 1 i8.nd (wX zj))
  (zy (xR Ks rfl (yT (k9 T.sorted (zc (za 0) zj))) (zY 2 i8.nd) (zw (yN (wC.pt (tf (xG (xh (za 1))) (rH (k7 hr (zx (za 2) zh) (zx (zx (za 1) (kA zh)) zh))))) (zw (wz (tq (za 1) (za 2)))) yM)))
  (zw (zI (qv T.tuple (zc (za 1) zj)))))),
  (by unfold d7 pZ;exact ye)⟩
theorem R8 (F:Fy K mg "pairs_ahead_of_changes" iE):Xr P w K mg base:=
 yg (k:=0) F qq rfl (λ _ _ _ _ _ _=>tS λ _ _ _=>rfl) λ f Ae A outer s H E hr=>⟨_,
  (zy (zZ 3 qq.nd (zx (za 1) zh))
  (zy (zZ 4 qq.nd (wX zj))
  (zy (zZ 5 qq.nd (zx (za 2) (za 3)))
  (zy (zZ 6 qq.nd (zx (za 2) (u7 zh (za 3))))
  (zy (bW Ks (Ts (za 5) (zx (za 0) (za 3))) (zy (wz (tq (za 4) (TQ (sC hr (za 3) zh) (yr (zc (za 5) (zc (za 6) zj))) (yr (zc (za 6) (zc (za 5) zj))))))
  (zy (zZ 5 qq.nd (yY (za 5) (zx (za 1) zh)))
  (zw (zZ 6 qq.nd (nv T.max (zc zh (zc (u7 (za 6) (zx (za 1) zh)) zj))))))))
  (zw (zI (za 4)))))))),
  (by unfold dv qa;exact ye)⟩
theorem Qn (F:Fy K mg "brims_up_to" kl):XB P w K mg base:=
 yg (k:=0) F i9 rfl (λ _ _ _ _ _ _=>vn λ _=>rfl) λ f Ae A outer s H E hr=>⟨_,
  (zy (zZ 1 i9.nd (wX zj))
  (zy (xR Ks rfl (tj T.range (zc (yY (za 0) zh) zj)) (zY 2 i9.nd) (zw (wz (ae (za 1) (xH (N':=["second","first"]) (pick:=[none,some 2]) (xk (N:=["most","told","first"]) (esc:=zB kl)) rfl (tj T.range (zc (yY (za 0) zh) zj)) (λ _ _ _ _ _=>(zY 0 (yR ["second","first"]))) (λ _ _ _ _ _=>xS) (λ _ _ _ _ _=>(yr (zc (za 1) (zc (za 0) zj)))))))))
  (zw (zI (za 1))))),
  (by unfold XS YM Y7;exact ye)⟩
theorem RP (F:Fy K mg "_law_cell_at" iL):X0 P w K mg base:=
 yg (k:=0) F Vt rfl (λ _ _ _ _ _ _=>we λ _ _=>rfl) λ f Ae A outer s H E hr=>⟨_,
  (zy (yN (k7 hr (za 1) (wY T.len (zc (za 0) zj))) (zw (zI (zx (za 0) (za 1)))) yM)
  (zw (zI zh))),
  (by unfold dG;exact ye)⟩
theorem RJ (F:Fy K mg "_law_stirred" iI):Xw P w K mg base:=
 yg (k:=0) F rD rfl (λ _ _ _ _ _ _=>we λ _ _=>rfl) λ f Ae A outer s H E hr=>⟨_,
  (zy (zZ 2 rD.nd (wX zj))
  (zy (zZ 3 rD.nd (Sd U.abs (zc (nA (za 0) zh) zj)))
  (zy (yN (sC hr (yX (za 0) zh) zh) (zy (xR Ks rfl (tj T.range (zc (za 1) zj)) (zY 4 rD.nd) (zy (wz (tq (za 2) (yX (za 3) (qw zh zh))))
  (zw (zZ 3 rD.nd (nA (za 3) (qw zh zh))))))
  (zw (zI (za 2)))) yM)
  (zy (zZ 3 rD.nd (yY (yX (za 3) (yY (qw zh zh) zh)) zh))
  (zy (xR Ks rfl (tj T.range (zc (za 1) zj)) (zY 4 rD.nd) (zy (zZ 3 rD.nd (yX (yY (yY (gy (za 3) zh) (nA (za 3) (qw zh zh))) (gy zh (za 4))) (yY (qw zh zh) zh)))
  (zw (wz (tq (za 2) (nA (gy (za 3) (yY (nA (za 3) (qw zh zh)) zh)) (qw zh zh)))))))
  (zw (zI (za 2)))))))),
  (sF (ay 2 (aB az))
  (sF (nE 3 ((aE ZI (kL ((p9 (vy 0) ((xi _)).fr)).fr kK))).fe)
  (sF (ax (aA (wI ZH ((nF (vy 0) ((xi _)).fr)).fr ((xi _)).fr).fr) (sF (gD (gF (b:=true) (kL (vy 1) kK)) (gG 4) (sF (gE 2 ((nF (vy 3) ((rL ((xi _)).fr ((xi _)).fr)).fr)).fe)
  (nE 3 ((p9 (vy 3) ((rL ((xi _)).fr ((xi _)).fr)).fr)).fe)))
  (kJ 2)) aw)
  (sF (nE 3 ((wI good_add ((nF (vy 3) ((wI good_add ((rL ((xi _)).fr ((xi _)).fr)).fr ((xi _)).fr)).fr)).fr ((xi _)).fr)).fe)
  (sF (gD (gF (b:=true) (kL (vy 1) kK)) (gG 4) (sF (nE 3 ((nF ((wI good_add ((wI good_add ((kM (vy 3) ((xi _)).fr)).fr ((p9 (vy 3) ((rL ((xi _)).fr ((xi _)).fr)).fr)).fr)).fr ((kM ((xi _)).fr (vy 4))).fr)).fr ((wI good_add ((rL ((xi _)).fr ((xi _)).fr)).fr ((xi _)).fr)).fr)).fe)
  (gE 2 ((p9 ((kM (vy 3) ((wI good_add ((p9 (vy 3) ((rL ((xi _)).fr ((xi _)).fr)).fr)).fr ((xi _)).fr)).fr)).fr ((rL ((xi _)).fr ((xi _)).fr)).fr)).fe)))
  (kJ 2))))))⟩
theorem RQ (F:Fy K mg "_law_amount" iM):X2 P w K mg base:=
 yg (k:=0) F Vu rfl (λ _ _ _ _ _ _=>we λ _ _=>rfl) λ f Ae A outer s H E hr=>⟨_,
  (zw (zI (kC T.min (zc zh (zc (yY (u7 (yX (yX (za 0) zh) (yY (kB zh (za 1)) zh)) (za 1)) (yX (ua (za 0) zh) zh)) zj))))),
  (by unfold dH;exact ye)⟩
theorem RS (F:Fy K mg "_law_above" iO):e_ P w K mg base:=
 yg (k:=0) F Vv rfl (λ _ _ _ _ _ _=>we λ _ _=>rfl) λ f Ae A outer s H E hr=>⟨_,
  (zw (zI (uc (kF (zx (za 0) zh) (zx (za 1) zh)) (tm (kF (zx (za 0) zh) (zx (za 1) zh)))))),
  (by unfold XQ;exact ye)⟩
theorem RU (F:Fy K mg "is_whole_within" iQ) (Fe:da P w K mg base):jQ P w K mg base:=
 yg (k:=1) F Vx rfl (λ _ _ _ _ _ _=>tS λ _ _ _=>rfl) λ f Ae A outer s H E hr=>⟨_,
  (zw (zI (uc (zH Fe hr (zc (za 0) zj)) (tm (TY p7 p7 fit_le fit_le xc.mo xc.mo (za 1) (za 0) (za 2)))))),
  (by unfold jS;exact ye)⟩
theorem Q0 {Fp:Value}(F:Fy K mg "are_owners" kq) (E9:mg "MOST_PLACES"=some Fp) (Fq:L2.RelV (.int 8) Fp) (FX:X4 P w K mg base):XJ P w K mg base:=
 yg (k:=1) F VC rfl (λ _ _ _ _ _ _=>vn λ _=>rfl) λ f Ae A outer s H E hr=>⟨_,
  (zy (yN (wC.pt (tf (xG (xh (qx T (za 0)))) (rH (xG (Tv p7 p7 fit_le fit_le xc.mo xc.mo zh (wY T.len (zc (za 0) zj)) (sD E9 Fq)))))) (zw (zI wH)) yM)
  (zw (zI (rK T.all (zc (xH (N':=["owner"]) (pick:=[none]) (xk (N:=["thing"]) (esc:=zB kq)) rfl (yT (za 0)) (λ _ _ _ _ _=>(zY 0 (yR ["owner"]))) (λ _ _ _ _ _=>xS) (λ _ _ _ _ _=>(zH FX hr (zc (za 0) zj)))) zj))))),
  (by unfold cm mN;exact ye)⟩
theorem Qb (F:Fy K mg "holds" ki) (EY:df P w K mg base):X6 P w K mg base:=
 yg (k:=1) F V3 rfl (λ _ _ _ _ _ _=>we λ _ _=>rfl) λ f Ae A outer s H E hr=>⟨_,
  (zw (zI (gA T.any (zc (xH (N':=["own","pair"]) (pick:=[none,some 1]) (xk (N:=["border","pair"]) (esc:=zB ki)) rfl (yT (za 0)) (λ _ _ _ _ _=>(zY 0 (yR ["own","pair"]))) (λ _ _ _ _ _=>xS) (λ _ _ _ _ _=>(zH EY hr (zc (za 1) (zc (za 0) zj))))) zj)))),
  (by unfold dN mH;exact ye)⟩
theorem Qo (F:Fy K mg "both" oO) (EJ:o4 P w K mg base):XC P w K mg base:=
 yg (k:=1) F qt rfl (λ _ _ _ _ _ _=>we λ _ _=>rfl) λ f Ae A outer s H E hr=>⟨_,
  (zy (zZ 2 qt.nd (yY (xH (N':=["pair"]) (pick:=[none]) (xk (N:=["border","other","steps","lows","shared","first","side","second"]) (esc:=zB oO)) rfl (yT (za 0)) (λ _ _ _ _ _=>(zY 0 (yR ["pair"]))) (λ _ _ _ _ _=>xS) (λ _ _ _ _ _=>(yr (zc (zx (za 0) zh) (zc zh (zc (zx (za 0) zh) zj)))))) (xH (N':=["pair"]) (pick:=[none]) (xk (N:=["border","other","steps","lows","shared","first","side","second"]) (esc:=zB oO)) rfl (yT (za 1)) (λ _ _ _ _ _=>(zY 0 (yR ["pair"]))) (λ _ _ _ _ _=>xS) (λ _ _ _ _ _=>(yr (zc (zx (za 0) zh) (zc zh (zc (zx (za 0) zh) zj))))))))
  (zy (zZ 3 qt.nd TV)
  (zy (zZ 4 qt.nd (wX zj))
  (zy (xR Ks rfl (yT (k9 T.sorted (zc (za 2) zj))) (nq (n:=3) (u6 (zY 5 qt.nd) (u6 (zY 6 qt.nd) (u6 (zY 7 qt.nd) nk)))) (zy (Tz hr (za 3) (za 6) (kC T.min (zc (za 7) (zc (TX hr (za 3) (za 6) (za 7)) zj))))
  (zw (yN (sC hr (TU T.len (zc (za 3) zj)) zh) (zw (wz (tq (za 4) (yr (zc (za 5) (zc (nv T.max (zc (ai hr (za 3) zh) (zc (ai hr (za 3) zh) zj))) zj)))))) yM))))
  (zw (zI (zH EJ hr (zc (za 4) zj)))))))),
  (by unfold dW mT f_ ea;exact ye)⟩
theorem Qh (F:Fy K mg "either" iW) (EJ:o4 P w K mg base):X9 P w K mg base:=
 yg (k:=1) F V5 rfl (λ _ _ _ _ _ _=>we λ _ _=>rfl) λ f Ae A outer s H E hr=>⟨_,
  (zw (zI (zH EJ hr (zc (yY (ny T.list (zc (za 0) zj)) (ny T.list (zc (za 1) zj))) zj)))),
  (by unfold dR;exact ye)⟩
theorem Qs (F:Fy K mg "border_ahead_of_way" oP) (EJ:o4 P w K mg base) (EY:df P w K mg base):XF P w K mg base:=
 yg (k:=1) F bf rfl (λ _ _ _ _ _ _=>tS λ _ _ _=>rfl) λ f Ae A outer s H E hr=>⟨_,
  (zy (k8 (i:=3) (N':=["pair","way"]) (pick:=[none,some 1]) (xk (N:=["brims","way","border","pairs"]) (esc:=zB oP)) rfl (yT (za 2)) (λ _ _ _ _ _=>(zY 0 (yR ["pair","way"]))) (λ _ _ _ _ _=>xS) (λ _ _ _ _ _=>(yr (zc (nv T.max (zc zh (zc (u7 (zx (za 0) zh) (zx (za 1) zh)) zj))) (zc (nv T.max (zc zh (zc (u7 (zx (za 0) zh) (zx (za 1) zh)) zj))) zj)))) bf.nd rfl (by first | exact Or.inl rfl | exact Or.inr rfl))
  (zw (zI (zH EJ hr (zc (xH (N':=["pair","brims"]) (pick:=[none,some 0]) (xk (N:=["brims","way","border","pairs"]) (esc:=zB oP)) rfl (yT (za 3)) (λ _ _ _ _ _=>(zY 0 (yR ["pair","brims"]))) (λ _ _ _ _ _=>nr (xh (zH EY hr (zc (za 1) (zc (za 0) zj))))) (λ _ _ _ _ _=>(za 0))) zj))))),
  (by unfold d_ m7 mJ;exact ye)⟩
theorem RX (F:Fy K mg "is_row" kh) (Fe:da P w K mg base):X3 P w K mg base:=
 yg (k:=1) F V0 rfl (λ _ _ _ _ _ _=>vn λ _=>rfl) λ f Ae A outer s H E hr=>⟨_,
  (zw (zI (uc (qx T (za 0)) (uc (gz hr (wY T.len (zc (za 0) zj)) zh) (tm (rK T.all (zc (xH (N':=["number"]) (pick:=[none]) (xk (N:=["thing"]) (esc:=zB kh)) rfl (yT (za 0)) (λ _ _ _ _ _=>(zY 0 (yR ["number"]))) (λ _ _ _ _ _=>xS) (λ _ _ _ _ _=>(zH Fe hr (zc (za 0) zj)))) zj))))))),
  (by unfold dJ mG;exact ye)⟩
theorem RI (F:Fy K mg "_law_way" iH) (Fn:X2 P w K mg base):Xv P w K mg base:=
 yg (k:=1) F Vs rfl (λ _ _ _ _ _ _=>YO λ _ _ _ _=>rfl) λ f Ae A outer s H E hr=>⟨_,
  (zw (zI (yr (zc (za 0) (zc (yX (yX (za 2) zh) (za 1)) (zc (zH Fn hr (zc (yX (ua (za 2) zh) zh) (zc (za 3) zj))) (zc (zH Fn hr (zc (yX (ua (za 2) zh) zh) (zc (za 3) zj))) zj))))))),
  (by unfold dB;exact ye)⟩
theorem RM (F:Fy K mg "_law_is_border" iJ) (E6:e_ P w K mg base):Xy P w K mg base:=
 yg (k:=1) F lX rfl (λ _ _ _ _ _ _=>we λ _ _=>rfl) λ f Ae A outer s H E hr=>⟨_,
  (zy (yN (xG (xh (qx T (za 0)))) (zw (zI wH)) yM)
  (zy (xR Ks rfl (yT (za 0)) (zY 2 lX.nd) (zy (yN (wC.pt (tf (xG (xh (qx T (za 2)))) (rH (ni hr (wY T.len (zc (za 2) zj)) zh)))) (zw (zI wH)) yM)
  (zw (xR Ks rfl (yT (za 2)) (zY 3 lX.nd) (zw (yN (wC.pt (tf (xG (xh (af T (za 3)))) (tf (xh (ag T (za 3))) (tf (k7 hr (za 3) zh) (rH (bV (za 3) (za 1))))))) (zw (zI wH)) yM))))))
  (zy (xR Ks rfl (T5 T.range (zc zh (zc (wY T.len (zc (za 0) zj)) zj))) (zY 4 lX.nd) (zw (yN (wC.pt (tf (xG (k7 hr (zx (za 0) (u7 (za 4) zh)) (zx (za 0) (za 4)))) (rH (xh (zH E6 hr (zc (zx (za 0) (za 4)) (zc (zx (za 0) (u7 (za 4) zh)) zj))))))) (zw (zI wH)) yM)))
  (zw (zI wH))))),
  (by unfold dE pW pX p_;exact ye)⟩
theorem RW (F:Fy K mg "is_row_within" kg) (EL:jQ P w K mg base):jR P w K mg base:=
 yg (k:=2) F Vz rfl (λ _ _ _ _ _ _=>we λ _ _=>rfl) λ f Ae A outer s H E hr=>⟨_,
  (zy (yN (wC.pt (tf (xG (xh (qx T (za 0)))) (rH (ni hr (wY T.len (zc (za 0) zj)) (wY T.len (zc (za 1) zj)))))) (zw (zI wH)) yM)
  (zw (zI (rK T.all (zc (xH (N':=["number","bound"]) (pick:=[none,none]) (xk (N:=["thing","bounds"]) (esc:=zB kg)) rfl (bX U.zip (zc (za 0) (zc (za 1) zj))) (λ _ _ _ _ _=>(nq (n:=2) (u6 (zY 0 (yR ["number","bound"])) (u6 (zY 1 (yR ["number","bound"])) nk)))) (λ _ _ _ _ _=>xS) (λ _ _ _ _ _=>(zH EL hr (zc (za 0) (zc (zx (za 1) zh) (zc (zx (za 1) zh) zj)))))) zj))))),
  (by unfold jU j0;exact ye)⟩
theorem Qk (F:Fy K mg "check_place" iX) (EL:jQ P w K mg base) (E5:eZ P w K mg base):lB P w K mg base:=
 yg (k:=2) F V6 rfl (λ _ _ _ _ _ _=>we λ _ _=>rfl) λ f Ae A outer s H E hr=>⟨_,
  (zw (yN (xG (xh (zH EL hr (zc (za 1) (zc zh (zc (u7 (zH E5 hr (zc (za 0) zj)) zh) zj)))))) (zw nj) yM)),
  (by unfold dS;exact ye)⟩
theorem Qq (F:Fy K mg "border_of_either" i_) (Gk:X9 P w K mg base):XD P w K mg base:=
 yg (k:=2) F lY rfl (λ _ _ _ _ _ _=>vn λ _=>rfl) λ f Ae A outer s H E hr=>⟨_,
  (zy (zZ 1 lY.nd (yr zj))
  (zy (xR Ks rfl (yT (za 0)) (zY 2 lY.nd) (zw (zZ 1 lY.nd (zH Gk hr (zc (za 1) (zc (za 2) zj))))))
  (zw (zI (za 1))))),
  (by unfold dY mU;exact ye)⟩
theorem Qr (F:Fy K mg "border_of_all" hG) (GP:XC P w K mg base):XE P w K mg base:=
 yg (k:=2) F lZ rfl (λ _ _ _ _ _ _=>vn λ _=>rfl) λ f Ae A outer s H E hr=>⟨_,
  (zy (zZ 1 lZ.nd (yr (zc (yr (zc zh (zc zh zj))) zj)))
  (zy (xR Ks rfl (yT (za 0)) (zY 2 lZ.nd) (zw (zZ 1 lZ.nd (zH GP hr (zc (za 1) (zc (za 2) zj))))))
  (zw (zI (za 1))))),
  (by unfold dZ mV;exact ye)⟩
theorem RO (F:Fy K mg "_law_floor" iK) (Fu:Xw P w K mg base) (FV:Xv P w K mg base):Xz P w K mg base:=
 yg (k:=2) F vW rfl (λ _ _ _ _ _ _=>tS λ _ _ _=>rfl) λ f Ae A outer s H E hr=>⟨_,
  (zy (zZ 3 vW.nd (zH Fu hr (zc (za 0) (zc zh zj))))
  (zy (zZ 4 vW.nd (yY zh (yX (zx (za 3) zh) (za 1))))
  (zy (zZ 5 vW.nd (wX zj))
  (zy (zZ 6 vW.nd (wX zj))
  (zy (zZ 7 vW.nd (wX zj))
  (zy (xR Ks rfl (tj T.range (zc (za 4) zj)) (zY 8 vW.nd) (zy (zZ 9 vW.nd (zx (za 3) (yY zh (kB zh (za 8)))))
  (zy (wz (tq (za 5) (zx (wX (zc gw (zc gw zj))) (yX (za 9) zh))))
  (zy (zZ 10 vW.nd (zx (wX (zc zh (zc zh (zc zh (zc zh zj))))) (yX (ua (za 9) zh) zh)))
  (zy (xR Ks rfl (tj T.range (zc (yY zh (yX (ua (za 9) zh) zh)) zj)) (zY 11 vW.nd) (zw (wz (tq (za 6) (zH FV hr (zc (za 8) (zc (za 4) (zc (zx (za 3) (yY (yY zh (kB zh (za 8))) (za 11))) (zc (za 10) zj)))))))))
  (zw (yN (wC.pt (Tr (sC hr (zx (za 5) (za 8)) gw) (Tq (sC hr (yX (ua (za 9) zh) zh) zh)))) (zw (wz (tq (za 7) (yr (zc (za 8) (zc (yX (ua (za 9) zh) zh) (zc (yY zh (yX (ua (za 9) zh) zh)) (zc (yX (ua (za 9) zh) zh) zj)))))))) yM)))))))
  (zy (yN (sC hr (yX (ua (zx (za 3) zh) zh) zh) zh) (zw (xR Ks rfl (tj T.range (zc (kC T.min (zc zh (zc (u7 zh (wY T.len (zc (za 6) zj))) zj))) zj)) (zY 11 vW.nd) (zw (wz (tq (za 6) (zH FV hr (zc (yX (yX (ua (zx (za 3) zh) zh) zh) (za 4)) (zc (za 4) (zc (zx (za 3) (yY zh (za 11))) (zc zh zj)))))))))) yM)
  (zy (zZ 12 vW.nd (yr (zc (yX (zx (za 3) zh) (yY (za 2) zh)) (zc (yX (ua (zx (za 3) zh) zh) (yY (za 2) zh)) zj))))
  (zw (zI (yr (zc (za 12) (zc (qv T.tuple (zc (za 5) zj)) (zc (qv T.tuple (zc (b_ hr T.sorted U.set (zc (za 6) zj)) zj)) (zc (qv T.tuple (zc (za 7) zj)) zj))))))))))))))),
  (by unfold dF mQ qI mS;exact ye)⟩
theorem Qy (F:Fy K mg "are_rows_within" km) (EO:jR P w K mg base):dg P w K mg base:=
 yg (k:=3) F VA rfl (λ _ _ _ _ _ _=>we λ _ _=>rfl) λ f Ae A outer s H E hr=>⟨_,
  (zw (zI (uc (qx T (za 0)) (tm (rK T.all (zc (xH (N':=["row","bounds"]) (pick:=[none,some 1]) (xk (N:=["thing","bounds"]) (esc:=zB km)) rfl (yT (za 0)) (λ _ _ _ _ _=>(zY 0 (yR ["row","bounds"]))) (λ _ _ _ _ _=>xS) (λ _ _ _ _ _=>(zH EO hr (zc (za 0) (zc (za 1) zj))))) zj)))))),
  (by unfold ck mM;exact ye)⟩
theorem Q1 {ET:Value}(F:Fy K mg "are_brims" hX) (EK:mg "MOST_COINS"=some ET) (EN:L2.RelV (.int 12) ET) (EO:jR P w K mg base):XM P w K mg base:=
 yg (k:=3) F VD rfl (λ _ _ _ _ _ _=>vn λ _=>rfl) λ f Ae A outer s H E hr=>⟨_,
  (zw (zI (zH EO hr (zc (za 0) (zc (yr (zc (yr (zc zh (zc (sD EK EN) zj))) (zc (yr (zc zh (zc (sD EK EN) zj))) zj))) zj))))),
  (by unfold cn;exact ye)⟩
theorem Ql (F:Fy K mg "check_pair" iY) (EO:jR P w K mg base):XA P w K mg base:=
 yg (k:=3) F V7 rfl (λ _ _ _ _ _ _=>we λ _ _=>rfl) λ f Ae A outer s H E hr=>⟨_,
  (zw (yN (xG (xh (zH EO hr (zc (za 1) (zc (yr (zc (yr (zc zh (zc (zx (zx (za 0) zh) zh) zj))) (zc (yr (zc zh (zc (zx (zx (za 0) zh) zh) zj))) zj))) zj))))) (zw nj) yM)),
  (by unfold dU;exact ye)⟩
theorem Rw (F:Fy K mg "ways_from" kc) (EM:lB P w K mg base):Xo P w K mg base:=
 yg (k:=3) F Vp rfl (λ _ _ _ _ _ _=>we λ _ _=>rfl) λ f Ae A outer s H E hr=>⟨_,
  (zy (wz (zH EM hr (zc (za 0) (zc (za 1) zj))))
  (zw (zI (xH (N':=["number","way","place"]) (pick:=[none,none,some 1]) (xk (N:=["floor","place"]) (esc:=zB kc)) rfl (bZ U.enumerate (zc (zx (za 0) zh) zj)) (λ _ _ _ _ _=>(nq (n:=2) (u6 (zY 0 (yR ["number","way","place"])) (u6 (zY 1 (yR ["number","way","place"])) nk)))) (λ _ _ _ _ _=>nr (sC hr (zx (za 1) zh) (za 2))) (λ _ _ _ _ _=>(za 0)))))),
  (by unfold dm mC;exact ye)⟩
theorem R4 (F:Fy K mg "stall_at" iC) (EM:lB P w K mg base):Xp P w K mg base:=
 yg (k:=3) F ba rfl (λ _ _ _ _ _ _=>we λ _ _=>rfl) λ f Ae A outer s H E hr=>⟨_,
  (zy (wz (zH EM hr (zc (za 0) (zc (za 1) zj))))
  (zy (xR Ks rfl (yT (zx (za 0) zh)) (zY 2 ba.nd) (zw (yN (sC hr (zx (za 2) zh) (za 1)) (zw (zI (za 2))) yM)))
  (zw (zI aa)))),
  (by unfold dn pY;exact ye)⟩
theorem Qw {ET FH:Value}(F:Fy K mg "are_ways" oQ) (EK:mg "MOST_COINS"=some ET) (EN:L2.RelV (.int 12) ET) (Fg:mg "MOST_WAYS"=some FH) (FL:L2.RelV (.int 24) FH) (ES:dg P w K mg base) (E7:dh P w K mg base):XH P w K mg base:=
 yg (k:=4) F ka rfl (λ _ _ _ _ _ _=>we λ _ _=>rfl) λ f Ae A outer s H E hr=>⟨_,
  (zy (zZ 2 ka.nd (yr (zc zh (zc (u7 (za 1) zh) zj))))
  (zy (zZ 3 ka.nd (yr (zc (kA (sD EK EN)) (zc (sD EK EN) zj))))
  (zy (yN (xG (xh (zH ES hr (zc (za 0) (zc (yr (zc (za 2) (zc (za 2) (zc (za 3) (zc (za 3) zj))))) zj))))) (zw (zI wH)) yM)
  (zy (zZ 4 ka.nd (xH (N':=["way"]) (pick:=[none]) (xk (N:=["thing","places","place","coins","starts"]) (esc:=zB oQ)) rfl (yT (za 0)) (λ _ _ _ _ _=>(zY 0 (yR ["way"]))) (λ _ _ _ _ _=>xS) (λ _ _ _ _ _=>(zx (za 0) zh))))
  (zw (zI (uc (TL (wY T.len (zc (za 0) zj)) (sD Fg FL)) (uc (zH E7 hr (zc (za 0) zj)) (tm (rK T.all (zc (xH (N':=["start","starts"]) (pick:=[none,some 4]) (xk (N:=["thing","places","place","coins","starts"]) (esc:=zB oQ)) rfl (tj T.range (zc (za 1) zj)) (λ _ _ _ _ _=>(zY 0 (yR ["start","starts"]))) (λ _ _ _ _ _=>xS) (λ _ _ _ _ _=>(ah hr (za 0) (za 1)))) zj))))))))))),
  (by unfold cg m9 mK;exact ye)⟩
theorem Qx {Fc ET:Value}(F:Fy K mg "are_stalls" oS) (E4:mg "KEEPER"=some Fc) (Fd:L2.RelV (.str "keeper") Fc) (EK:mg "MOST_COINS"=some ET) (EN:L2.RelV (.int 12) ET) (ES:dg P w K mg base) (E7:dh P w K mg base):XI P w K mg base:=
 yg (k:=4) F bg rfl (λ _ _ _ _ _ _=>we λ _ _=>rfl) λ f Ae A outer s H E hr=>⟨_,
  (zy (zZ 2 bg.nd (yr (zc zh (zc (u7 (wY T.len (zc (za 1) zj)) zh) zj))))
  (zy (yN (xG (xh (zH ES hr (zc (za 0) (zc (yr (zc (za 2) (zc (yr (zc zh (zc zh zj))) (zc (yr (zc zh (zc (sD EK EN) zj))) (zc (yr (zc zh (zc (sD EK EN) zj))) zj))))) zj))))) (zw (zI wH)) yM)
  (zw (zI (uc (zH E7 hr (zc (xH (N':=["stall"]) (pick:=[none]) (xk (N:=["thing","owners","place"]) (esc:=zB oS)) rfl (yT (za 0)) (λ _ _ _ _ _=>(zY 0 (yR ["stall"]))) (λ _ _ _ _ _=>xS) (λ _ _ _ _ _=>(zx (za 0) zh))) zj)) (tm (rK T.all (zc (xH (N':=["stall","owners"]) (pick:=[none,some 1]) (xk (N:=["thing","owners","place"]) (esc:=zB oS)) rfl (yT (za 0)) (λ _ _ _ _ _=>(zY 0 (yR ["stall","owners"]))) (λ _ _ _ _ _=>xS) (λ _ _ _ _ _=>(gz hr (zx (za 1) (zx (za 0) zh)) (kE E4 Fd)))) zj)))))))),
  (by unfold cj mB mL;exact ye)⟩
theorem Qt (F:Fy K mg "border_ahead_of_changes" hJ) (FW:Xp P w K mg base) (EJ:o4 P w K mg base) (EW:Xr P w K mg base):XG P w K mg base:=
 yg (k:=4) F l_ rfl (λ _ _ _ _ _ _=>tS λ _ _ _=>rfl) λ f Ae A outer s H E hr=>⟨_,
  (zy (zZ 3 l_.nd (zH FW hr (zc (za 0) (zc (za 1) zj))))
  (zy (yN (Tt (za 3) aa) (zw (zI (za 2))) yM)
  (zy (zZ 4 l_.nd (wX zj))
  (zy (xR Ks rfl (yT (za 2)) (zY 5 l_.nd) (zw (wz (ae (za 4) (zH EW hr (zc (zx (za 0) zh) (zc (za 3) (zc (za 5) zj))))))))
  (zw (zI (zH EJ hr (zc (za 4) zj)))))))),
  (by unfold jV mW;exact ye)⟩
theorem RZ (F:Fy K mg "is_floor" iU) (F0:XH P w K mg base) (FF:XI P w K mg base) (FU:XM P w K mg base) (FG:XJ P w K mg base):X5 P w K mg base:=
 yg (k:=5) F V2 rfl (λ _ _ _ _ _ _=>vn λ _=>rfl) λ f Ae A outer s H E hr=>⟨_,
  (zy (yN (wC.pt (tf (xG (xh (qx T (za 0)))) (rH (ni hr (wY T.len (zc (za 0) zj)) zh)))) (zw (zI wH)) yM)
  (zy (yN (wC.pt (tf (xG (xh (zH FU hr (zc (zx (za 0) zh) zj)))) (rH (xG (xh (zH FG hr (zc (zx (za 0) zh) zj))))))) (zw (zI wH)) yM)
  (zw (zI (uc (zH F0 hr (zc (zx (za 0) zh) (zc (wY T.len (zc (zx (za 0) zh) zj)) zj))) (tm (zH FF hr (zc (zx (za 0) zh) (zc (zx (za 0) zh) zj))))))))),
  (by unfold dM;exact ye)⟩
theorem RD {Fc:Value}(F:Fy K mg "next_border" oJ) (E4:mg "KEEPER"=some Fc) (Fd:L2.RelV (.str "keeper") Fc) (Fm:XE P w K mg base) (EZ:XF P w K mg base) (EV:XG P w K mg base) (FP:Xo P w K mg base) (Fb:XD P w K mg base):Xt P w K mg base:=
 yg (k:=5) F i7 rfl (λ _ _ _ _ _ _=>tS λ _ _ _=>rfl) λ f Ae A outer s H E hr=>⟨_,
  (zy (k8 (i:=3) (N':=["number","floor"]) (pick:=[none,some 0]) (xk (N:=["floor","place","last","ways","ahead"]) (esc:=zB oJ)) rfl (yT (zH FP hr (zc (za 0) (zc (za 1) zj)))) (λ _ _ _ _ _=>(zY 0 (yR ["number","floor"]))) (λ _ _ _ _ _=>xS) (λ _ _ _ _ _=>(zx (zx (za 1) zh) (za 0))) i7.nd rfl (by first | exact Or.inl rfl | exact Or.inr rfl))
  (zy (k8 (i:=4) (N':=["way","floor","last"]) (pick:=[none,some 0,some 2]) (xk (N:=["floor","place","last","ways","ahead"]) (esc:=zB oJ)) rfl (yT (za 3)) (λ _ _ _ _ _=>(zY 0 (yR ["way","floor","last"]))) (λ _ _ _ _ _=>xS) (λ _ _ _ _ _=>(zH EZ hr (zc (zx (za 1) zh) (zc (za 0) (zc (zx (za 2) (zx (za 0) zh)) zj))))) i7.nd rfl (by first | exact Or.inl rfl | exact Or.inr rfl))
  (zy (yN (sC hr (zx (zx (za 0) zh) (za 1)) (kE E4 Fd)) (zw (zI (zH EV hr (zc (za 0) (zc (za 1) (zc (zH Fb hr (zc (za 4) zj)) zj)))))) yM)
  (zw (zI (zH Fm hr (zc (za 4) zj))))))),
  (by unfold d5 m5 mE;exact ye)⟩
theorem RC (F:Fy K mg "next_round" ke) (Ft:Xt P w K mg base):Xs P w K mg base:=
 yg (k:=6) F i6 rfl (λ _ _ _ _ _ _=>tS λ _ _ _=>rfl) λ f Ae A outer s H E hr=>⟨_,
  (zy (zZ 3 i6.nd (ny T.list (zc (za 1) zj)))
  (zy (xR Ks rfl (yT (b_ hr T.sorted U.set (zc (xH (N':=["way","fresh"]) (pick:=[none,some 2]) (xk (N:=["floor","last","fresh","following","place"]) (esc:=zB ke)) rfl (yT (zx (za 0) zh)) (λ _ _ _ _ _=>(zY 0 (yR ["way","fresh"]))) (λ _ _ _ _ _=>nr (Tu hr (zx (za 0) zh) (za 1))) (λ _ _ _ _ _=>(zx (za 0) zh))) zj))) (zY 4 i6.nd) (zw (Tx (za 3) (za 4) (zH Ft hr (zc (za 0) (zc (za 4) (zc (za 1) zj)))))))
  (zw (zI (za 3))))),
  (by unfold dw mR mD;exact ye)⟩
theorem Qc (F:Fy K mg "floor_of" kj) (FY:X5 P w K mg base) (Gi:X3 P w K mg base):X7 P w K mg base:=
 yg (k:=6) F bc rfl (λ _ _ _ _ _ _=>YO λ _ _ _ _=>rfl) λ f Ae A outer s H E hr=>⟨_,
  (zy (yN (xG (xh (rK T.all (zc (xH (N':=["row"]) (pick:=[none]) (xk (N:=["brims","owners","ways","stalls","floor"]) (esc:=zB kj)) rfl (yT (yY (za 2) (za 3))) (λ _ _ _ _ _=>(zY 0 (yR ["row"]))) (λ _ _ _ _ _=>xS) (λ _ _ _ _ _=>(zH Gi hr (zc (za 0) zj)))) zj)))) (zw nj) yM)
  (zy (zZ 4 bc.nd (yr (zc (za 0) (zc (qv T.tuple (zc (za 1) zj)) (zc (qv T.tuple (zc (k9 T.sorted (zc (za 2) zj)) zj)) (zc (qv T.tuple (zc (k9 T.sorted (zc (za 3) zj)) zj)) zj))))))
  (zy (yN (xG (xh (zH FY hr (zc (za 4) zj)))) (zw nj) yM)
  (zw (zI (za 4)))))),
  (by unfold dP mI;exact ye)⟩
theorem R6 (F:Fy K mg "rounds" kd) (FC:Xs P w K mg base) (E5:eZ P w K mg base):Xq P w K mg base:=
 yg (k:=7) F pd rfl (λ _ _ _ _ _ _=>vn λ _=>rfl) λ f Ae A outer s H E hr=>⟨_,
  (zy (zZ 1 pd.nd (wX (zc (kB (wX (zc (yr (zc (yr (zc zh (zc zh zj))) zj)) zj)) (zH E5 hr (zc (za 0) zj))) zj)))
  (zy (zZ 2 pd.nd (TK T.list T.range (zc (zH E5 hr (zc (za 0) zj)) zj)))
  (zy (bW Ks (xh (za 2)) (zy (zZ 3 pd.nd (zx (za 1) (kA zh)))
  (zy (zZ 4 pd.nd (zH FC hr (zc (za 0) (zc (za 3) (zc (za 2) zj)))))
  (zy (k8 (i:=2) (N':=["place","border","last"]) (pick:=[none,none,some 3]) (xk (N:=["floor","told","fresh","last","following"]) (esc:=zB kd)) rfl (bZ U.enumerate (zc (za 4) zj)) (λ _ _ _ _ _=>(nq (n:=2) (u6 (zY 0 (yR ["place","border","last"])) (u6 (zY 1 (yR ["place","border","last"])) nk)))) (λ _ _ _ _ _=>nr (ni hr (za 1) (zx (za 2) (za 0)))) (λ _ _ _ _ _=>(za 0)) pd.nd rfl (by first | exact Or.inl rfl | exact Or.inr rfl))
  (zw (yN (xh (za 2)) (zw (wz (tq (za 1) (za 4)))) yM))))))
  (zw (zI (za 1)))))),
  (by unfold dq uL pT;exact ye)⟩
theorem Rv (F:Fy K mg "with_brims" iB) (FZ:X7 P w K mg base):Xn P w K mg base:=
 yg (k:=7) F Vo rfl (λ _ _ _ _ _ _=>we λ _ _=>rfl) λ f Ae A outer s H E hr=>⟨_,
  (zw (zI (zH FZ hr (zc (za 1) (zc (zx (za 0) zh) (zc (ny T.list (zc (zx (za 0) zh) zj)) (zc (ny T.list (zc (zx (za 0) zh) zj)) zj))))))),
  (by unfold dk;exact ye)⟩
theorem Qp (F:Fy K mg "borders" iZ) (Gh:Xq P w K mg base):de P w K mg base:=
 yg (k:=8) F V8 rfl (λ _ _ _ _ _ _=>vn λ _=>rfl) λ f Ae A outer s H E hr=>⟨_,
  (zw (zI (zx (zH Gh hr (zc (za 0) zj)) (kA zh)))),
  (by unfold dX;exact ye)⟩
theorem Qf (F:Fy K mg "enough" iV) (EM:lB P w K mg base) (FE:XA P w K mg base) (GB:X6 P w K mg base) (Fo:de P w K mg base):X8 P w K mg base:=
 yg (k:=9) F V4 rfl (λ _ _ _ _ _ _=>tS λ _ _ _=>rfl) λ f Ae A outer s H E hr=>⟨_,
  (zy (wz (zH EM hr (zc (za 0) (zc (za 1) zj))))
  (zy (wz (zH FE hr (zc (za 0) (zc (za 2) zj))))
  (zw (zI (zH GB hr (zc (zx (zH Fo hr (zc (za 0) zj)) (za 1)) (zc (za 2) zj))))))),
  (by unfold dQ;exact ye)⟩
theorem RG {FI:Value}(F:Fy K mg "least_brims" kf) (Fh:mg "MOST_BRIM"=some FI) (FN:L2.RelV (.int 3) FI) (EM:lB P w K mg base) (EJ:o4 P w K mg base) (EL:jQ P w K mg base) (Fv:XB P w K mg base) (Gj:X8 P w K mg base) (FA:Xn P w K mg base):Xu P w K mg base:=
 yg (k:=10) F Vr rfl (λ _ _ _ _ _ _=>tS λ _ _ _=>rfl) λ f Ae A outer s H E hr=>⟨_,
  (zy (wz (zH EM hr (zc (za 0) (zc (za 1) zj))))
  (zy (yN (xG (xh (zH EL hr (zc (za 2) (zc zh (zc (sD Fh FN) zj)))))) (zw nj) yM)
  (zw (zI (zH EJ hr (zc (xH (N':=["brims","floor","place"]) (pick:=[none,some 0,some 1]) (xk (N:=["floor","place","most"]) (esc:=zB kf)) rfl (yT (zH Fv hr (zc (za 2) zj))) (λ _ _ _ _ _=>(zY 0 (yR ["brims","floor","place"]))) (λ _ _ _ _ _=>nr (xh (zH Gj hr (zc (zH FA hr (zc (za 1) (zc (za 0) zj))) (zc (za 2) (zc (za 0) zj)))))) (λ _ _ _ _ _=>(za 0))) zj)))))),
  (by unfold dA pU;exact ye)⟩
theorem RK (F:Fy K mg "_law_right" oK) (Ff:Xu P w K mg base) (Fj:Xy P w K mg base) (Fo:de P w K mg base) (E6:e_ P w K mg base):Xx P w K mg base:=
 yg (k:=11) F rE rfl (λ _ _ _ _ _ _=>tS λ _ _ _=>rfl) λ f Ae A outer s H E hr=>⟨_,
  (zy (zZ 3 rE.nd (zH Ff hr (zc (za 0) (zc (za 1) (zc (za 2) zj)))))
  (zy (yN (xG (xh (zH Fj hr (zc (za 3) (zc (za 2) zj))))) (zw (zI wH)) yM)
  (zy (xR Ks rfl (tj T.range (zc (yY (za 2) zh) zj)) (zY 4 rE.nd) (zw (xR Ks rfl (tj T.range (zc (yY (za 2) zh) zj)) (zY 5 rE.nd) (zy (zZ 6 rE.nd (yr (zc (za 4) (zc (za 5) zj))))
  (zy (zZ 7 rE.nd (zx (zH Fo hr (zc (yr (zc (za 6) (zc (zx (za 0) zh) (zc (zx (za 0) zh) (zc (zx (za 0) zh) zj))))) zj)) (za 1)))
  (zy (zZ 8 rE.nd (gA T.any (zc (xH (N':=["_law_pair","_law_brims"]) (pick:=[none,some 6]) (xk (N:=["_law_floor_here","_law_place","_law_most","_law_found","_law_first","_law_second","_law_brims","_law_told","_law_due","_law_other"]) (esc:=zB oK)) rfl (yT (za 7)) (λ _ _ _ _ _=>(zY 0 (yR ["_law_pair","_law_brims"]))) (λ _ _ _ _ _=>xS) (λ _ _ _ _ _=>(zH E6 hr (zc (za 1) (zc (za 0) zj))))) zj)))
  (zw (yN (ni hr (za 8) (gA T.any (zc (xH (N':=["_law_pair","_law_brims"]) (pick:=[none,some 6]) (xk (N:=["_law_floor_here","_law_place","_law_most","_law_found","_law_first","_law_second","_law_brims","_law_told","_law_due","_law_other"]) (esc:=zB oK)) rfl (yT (za 3)) (λ _ _ _ _ _=>(zY 0 (yR ["_law_pair","_law_brims"]))) (λ _ _ _ _ _=>xS) (λ _ _ _ _ _=>(zH E6 hr (zc (za 1) (zc (za 0) zj))))) zj))) (zw (zI wH)) yM))))))))
  (zy (yN (bV (za 2) zh) (zw (zI wH)) yM)
  (zy (zZ 9 rE.nd (yr (zc (yr (zc (zx (zx (za 0) zh) zh) (zc (zx (zx (za 0) zh) zh) zj))) (zc (zx (za 0) zh) (zc (zx (za 0) zh) (zc (zx (za 0) zh) zj))))))
  (zw (zI (gz hr (zH Ff hr (zc (za 9) (zc (za 1) (zc (za 2) zj)))) (za 3))))))))),
  (by unfold dD r_ qb m6 mF;exact ye)⟩
theorem RT {f:Addr}{fd:FuncData}(F:uO K "law" "law" iP f fd) (E_:X0 P w K mg base) (FT:Xz P w K mg base) (FQ:Xx P w K mg base):ux P w K mg base vq 13 f fd ["_law_script"] (sa K (zL zF ox)):=
 ZQ (k:=12) F oI rfl λ Ae A outer s H E hr=>⟨_,
  (zy (zZ 1 oI.nd (yX (zH E_ hr (zc (za 0) (zc zh zj))) zh))
  (zy (zZ 2 oI.nd (zx (wX (zc zh (zc zh (zc zh (zc zh zj))))) (za 1)))
  (zy (xR Ks rfl (T4 T.range (zc zh (zc (nv T.max (zc zh (zc (kC T.min (zc (wY T.len (zc (za 0) zj)) (zc zh zj))) zj))) (zc (zx (wX (zc zh (zc zh (zc zh (zc zh zj))))) (za 1)) zj)))) (zY 3 oI.nd) (zy (zZ 4 oI.nd (zH FT hr (zc (zH E_ hr (zc (za 0) (zc (za 3) zj))) (zc (za 2) (zc zh zj)))))
  (zw (yN (xG (xh (zH FQ hr (zc (za 4) (zc (yX (zH E_ hr (zc (za 0) (zc (yY (za 3) zh) zj))) (wY T.len (zc (zx (za 4) zh) zj))) (zc (za 1) zj)))))) (zw (zI wH)) yM))))
  (zw (zI wH))))),
  (by unfold dI oa;exact ye)⟩
end
def all_mk {l:PySem.W.OpenLaw}{w:World}{K:Ab}{h:Heap}{mg:AG}{fa:Addr}(X:K.In h) (G:h.Ns mainGlobals mg) (EA:mg "law"=some (.ref fa))
  (h0:Fx K "is_whole" iR) (h1:Fx K "is_whole_within" iQ) (h2:Fx K "is_row_within" kg) (h3:Fx K "are_rows_within" km) (h4:Fx K "are_rising" ko) (h5:Fx K "are_brims" hX) (h6:Fx K "is_owner" iT) (h7:Fx K "are_owners" kq) (h8:Fx K "are_ways" oQ) (h9:Fx K "are_stalls" oS) (h10:Fx K "is_floor" iU) (h11:Fx K "places_of" iD) (h12:Fx K "check_place" iX) (h13:Fx K "check_pair" iY) (h14:Fx K "ways_from" kc) (h15:Fx K "stall_at" iC) (h16:Fx K "at_or_above" hV) (h17:Fx K "least_pairs" iG) (h18:Fx K "holds" ki) (h19:Fx K "both" oO) (h20:Fx K "either" iW) (h21:Fx K "border_ahead_of_way" oP) (Jb:Fx K "pairs_ahead_of_changes" iE) (Ja:Fx K "border_ahead_of_changes" hJ) (h24:Fx K "border_of_either" i_) (h25:Fx K "border_of_all" hG) (h26:Fx K "next_border" oJ) (h27:Fx K "next_round" ke) (h28:Fx K "rounds" kd) (h29:Fx K "borders" iZ) (h30:Fx K "enough" iV) (h31:Fx K "is_row" kh) (h32:Fx K "floor_of" kj) (h33:Fx K "with_brims" iB) (h34:Fx K "brims_up_to" kl) (h35:Fx K "least_brims" kf) (h36:Fx K "_law_cell_at" iL) (h37:Fx K "_law_stirred" iI) (h38:Fx K "_law_amount" iM) (h39:Fx K "_law_way" iH) (h40:Fx K "_law_floor" iK) (h41:Fx K "_law_above" iO) (h42:Fx K "_law_is_border" iJ) (h43:Fx K "_law_right" oK) (h44:Fx K "law" iP)
  (E4:Cn K "KEEPER" (.str "keeper"))
  (Fh:Cn K "MOST_BRIM" (.int 3))
  (EK:Cn K "MOST_COINS" (.int 12))
  (E9:Cn K "MOST_PLACES" (.int 8))
  (Fg:Cn K "MOST_WAYS" (.int 24))
  (F6:Cn K "TAKER" (.str "taker"))
  (y0:PySem.W.nsIn K mainGlobals "set"=some none) (y1:PySem.W.nsIn K mainGlobals "zip"=some none) (y2:PySem.W.nsIn K mainGlobals "enumerate"=some none) (y3:PySem.W.nsIn K mainGlobals "abs"=some none)
  (z0:PySem.W.nsIn K mainGlobals "len"=some none) (z1:PySem.W.nsIn K mainGlobals "range"=some none) (z2:PySem.W.nsIn K mainGlobals "any"=some none) (z3:PySem.W.nsIn K mainGlobals "all"=some none) (z4:PySem.W.nsIn K mainGlobals "sorted"=some none) (z5:PySem.W.nsIn K mainGlobals "isinstance"=some none) (z6:PySem.W.nsIn K mainGlobals "bool"=some none) (z7:PySem.W.nsIn K mainGlobals "int"=some none) (z8:PySem.W.nsIn K mainGlobals "str"=some none) (z9:PySem.W.nsIn K mainGlobals "list"=some none) (z10:PySem.W.nsIn K mainGlobals "tuple"=some none) (z11:PySem.W.nsIn K mainGlobals "max"=some none) (z12:PySem.W.nsIn K mainGlobals "min"=some none):
  ∃ fd:FuncData,(∀ (s:Shared) (v:Value),BindsTo s fd ⟨[v],[]⟩ [("_law_script",v)])/\∀ base:Heap,K.In base->base.Ns mainGlobals mg->ux l.prog w K mg base vq 13 fa fd ["_law_script"] (sa K (zL zF ox)):=by
 have T:Bt mg:=⟨A7 X G z0,A7 X G z1,A7 X G z2,A7 X G z3,A7 X G z4,A7 X G z5,A7 X G z6,A7 X G z7,A7 X G z8,A7 X G z9,A7 X G z10,A7 X G z11,A7 X G z12⟩
 have U:XN mg:=⟨⟨A7 X G y0,A7 X G y1,A7 X G y2⟩,A7 X G y3⟩
 obtain⟨Fc,E4,Fd⟩:=E4.mk X G
 obtain⟨FI,Fh,FN⟩:=Fh.mk X G
 obtain⟨ET,EK,EN⟩:=EK.mk X G
 obtain⟨Fp,E9,Fq⟩:=E9.mk X G
 obtain⟨FH,Fg,FL⟩:=Fg.mk X G
 obtain⟨Gw,F6,Gy⟩:=F6.mk X G
 obtain⟨fd,Fl,hb⟩:=h44.law X G EA λ _ _ _ _ _ _ _ _=>.of_eq rfl
 refine⟨fd,hb,λ base _ _=>?_⟩
 have Fe:=RV l.prog w base T U (h0.mk X G)
 have E7:=Qz l.prog w base T U (h4.mk X G)
 have FX:=RY l.prog w base T U (h6.mk X G) E4 Fd F6 Gy
 have E5:=R7 l.prog w base T U (h11.mk X G)
 have EY:=Qv l.prog w base T U (h16.mk X G)
 have EJ:=RF l.prog w base T U (h17.mk X G)
 have EW:=R8 l.prog w base T U (Jb.mk X G)
 have Fv:=Qn l.prog w base T U (h34.mk X G)
 have E_:=RP l.prog w base T U (h36.mk X G)
 have Fu:=RJ l.prog w base T U (h37.mk X G)
 have Fn:=RQ l.prog w base T U (h38.mk X G)
 have E6:=RS l.prog w base T U (h41.mk X G)
 have EL:=RU l.prog w base T U (h1.mk X G) Fe
 have FG:=Q0 l.prog w base T U (h7.mk X G) E9 Fq FX
 have GB:=Qb l.prog w base T U (h18.mk X G) EY
 have GP:=Qo l.prog w base T U (h19.mk X G) EJ
 have Gk:=Qh l.prog w base T U (h20.mk X G) EJ
 have EZ:=Qs l.prog w base T U (h21.mk X G) EJ EY
 have Gi:=RX l.prog w base T U (h31.mk X G) Fe
 have FV:=RI l.prog w base T U (h39.mk X G) Fn
 have Fj:=RM l.prog w base T U (h42.mk X G) E6
 have EO:=RW l.prog w base T U (h2.mk X G) EL
 have EM:=Qk l.prog w base T U (h12.mk X G) EL E5
 have Fb:=Qq l.prog w base T U (h24.mk X G) Gk
 have Fm:=Qr l.prog w base T U (h25.mk X G) GP
 have FT:=RO l.prog w base T U (h40.mk X G) Fu FV
 have ES:=Qy l.prog w base T U (h3.mk X G) EO
 have FU:=Q1 l.prog w base T U (h5.mk X G) EK EN EO
 have FE:=Ql l.prog w base T U (h13.mk X G) EO
 have FP:=Rw l.prog w base T U (h14.mk X G) EM
 have FW:=R4 l.prog w base T U (h15.mk X G) EM
 have F0:=Qw l.prog w base T U (h8.mk X G) EK EN Fg FL ES E7
 have FF:=Qx l.prog w base T U (h9.mk X G) E4 Fd EK EN ES E7
 have EV:=Qt l.prog w base T U (Ja.mk X G) FW EJ EW
 have FY:=RZ l.prog w base T U (h10.mk X G) F0 FF FU FG
 have Ft:=RD l.prog w base T U (h26.mk X G) E4 Fd Fm EZ EV FP Fb
 have FC:=RC l.prog w base T U (h27.mk X G) Ft
 have FZ:=Qc l.prog w base T U (h32.mk X G) FY Gi
 have Gh:=R6 l.prog w base T U (h28.mk X G) FC E5
 have FA:=Rv l.prog w base T U (h33.mk X G) FZ
 have Fo:=Qp l.prog w base T U (h29.mk X G) Gh
 have Gj:=Qf l.prog w base T U (h30.mk X G) EM FE GB Fo
 have Ff:=RG l.prog w base T U (h35.mk X G) Fh FN EM EJ EL Fv Gj FA
 have FQ:=RK l.prog w base T U (h43.mk X G) Ff Fj Fo E6
 exact RT l.prog w base T U Fl E_ FT FQ
def walk {l:PySem.W.OpenLaw}{q:Program}{loose:List Str}{XP:(Str->Option Value)->Heap->Prop}{YP:World->Heap->Prop}{d:DefRec}{K:Params->Ab}(hn:l.most=some 63) (Di:d.params.defaults=[])
  (hY:∀ (w:World) (h:Heap),YP w h->(K w.params).In h)
  (F:∀ (w:World) (mg:AG) (fa:Addr) (h:Heap),(K w.params).In h->h.Ns mainGlobals mg->mg d.name=some (.ref fa)->
   ∃ fd:FuncData,(∀ (s:Shared) (u:Value),BindsTo s fd ⟨[u],[]⟩ [("_law_script",u)])/\∀ base:Heap,(K w.params).In base->base.Ns mainGlobals mg->ux l.prog w (K w.params) mg base vq 13 fa fd ["_law_script"] (sa (K w.params) (zL zF ox))):
  PySem.W.WalkO q loose XP YP l.row.toRowW d [] (λ f vs=>PySem.call f vs):=
 L2.XZ (n:=63) (k:=13) (x:="_law_script") (CX:=λ _=>vq) (sp:=λ w=>sa (K w.params) (zL zF ox)) hn (by decide) Di ⟨rfl,by decide,by decide⟩ hY F (λ _ _ a ns hl hO hS=>Po Pm hO hS hl) λ _ _ _ _ _ z=>z
end yp
open PySem PySem.W PyProof.Rows
set_option maxHeartbeats 0 in
theorem PySem.Challenge.cw_purseborder_k72_whole_least_brims_holds : PySem.Challenge.rw_purseborder_k72_whole_least_brims.Holds := by
 w_on;o_law;k_head;(case hw=>w_witness2)
 k_fill
 refine yp.walk (l:=PySem.Challenge.rw_purseborder_k72_whole_least_brims) rfl rfl (λ w h Y=>PySem.W.kIn_of Y) ?F
 case F=>
  intro w mg fa h KX G Dc
  refine' yp.all_mk KX G Dc ?_ ?_ ?_ ?_ ?_ ?_ ?_ ?_ ?_ ?_ ?_ ?_ ?_ ?_ ?_ ?_ ?_ ?_ ?_ ?_ ?_ ?_ ?_ ?_ ?_ ?_ ?_ ?_ ?_ ?_ ?_ ?_ ?_ ?_ ?_ ?_ ?_ ?_ ?_ ?_ ?_ ?_ ?_ ?_ ?_ ?_ ?_ ?_ ?_ ?_ ?_ ?_ ?_ ?_ ?_ ?_ ?_ ?_ ?_ ?_ ?_ ?_ ?_ ?_ ?_ ?_ ?_ ?_
  all_goals first | exact L3.Ei.i (by k_is) (by k_is) (by k_is) (by k_is) (by kernel_rfl) (by k_is) (by k_is) (by k_is) (by k_is) (by k_is) (by k_is) | exact L3.Ec.i (by k_is) (by k_is) (by k_is) (by k_is) (by kernel_rfl) | exact L5.Fx.i (by k_is) (by k_is) (by k_is) (by k_is) | k_is | exact L5.Cn.i (by k_is) (by exact⟨_,rfl⟩)
