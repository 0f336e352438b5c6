import PyProof.Rows.All
import Wide.All
import OpenK.AllK
import Wide.FinOn
import Lean
import PyProof.EqAt
import PyProof.EqKinds
import PyProof.TupleCall
import PySem.SetOps
import PyProof.SetScanFacts
import PyProof.TupleKey
import PyProof.SetKind
import PyProof.SetRoads
import PyProof.IsRules
import PyProof.ZipIter
import PyProof.TupleIter
import PyProof.ListMulRoad
import PyProof.FactsAll.tuple
import PyProof.ListRange
import PyProof.Draws
import PyProof.EnumFor
import PyProof.Rows.ListMul
import PyProof.AutoListH
import PyProof.ExcInit
import PyProof.ExcClass2
import PyProof.InstStore
import PyProof.InstStoreFacts
import PyProof.ExcArgsOwn
import PyProof.IsInstance
import PyProof.IsInstanceH
import PyProof.StationsW
import PyProof.Rows.CatchOwn
import PyProof.FactsAll.dict_1
import PyProof.Rows.Range3
import PyProof.FitsBits
import PyProof.Rows.CallKwBuiltin
import PyProof.MinMaxWalk
import PyProof.WalkInts
import PyProof.Rows.MinMaxN
import PySem.Challenge.RW_purseborder_k71_whole_cheapest
set_option Elab.async false
set_option linter.all false
set_option maxRecDepth 100000
set_option genSizeOf false
abbrev Ad:=PySem.Value->PySem.Shared->Prop
abbrev Ag:=List (PySem.Addr×PySem.Obj)
abbrev Ae:=List PySem.Value
abbrev AF:=PySem.Str->Option PySem.Value
abbrev Ap:=Array PySem.Value
def AB {p:Prop}[Decidable p](h:decide p=true:=by decide +kernel):p:=of_decide_eq_true h
noncomputable section
def Jg:=@PySem.wpAny_bind
def J9:=@PySem.Heap.get?_push_of_some
def J_:=@PySem.wpAny_holding
def Ka:=@PySem.PassesOwn.never
def Kd:=@decide_eq_false
def Kc:=@PySem.wpAny_mono
def Kb:=@PySem.wpAny_field
def Ke:=@PySem.wpAny_call_entry
def Kf:=@PySem.wpAny_newObj_type
def Kh:=@PySem.wpAny_seqItems
def Kg:=@PySem.wpAny_setState_of
def Ki:=@decide_eq_true
def Kj:=@PySem.wpAny_callSpecial?_slot
def Ko:=@PySem.wpAny_truthy_bool
def Km:=@PySem.Heap.get?_update_self
def Kl:=@PySem.Heap.get?_update_other
def Kk:=@PySem.wpAny_rule
def Ks:=@PySem.wpAny_passesOwn
def Kr:=@PySem.wpAny_typeOf
def Kq:=@PySem.wpAny_pyIter_list
def Kp:=@PySem.wpAny_letGo
def Kt:=@PySem.wpAny_setField_rec
def Kw:=@PySem.wpAny_forIn_list
def Kv:=@PySem.wpAny_askSetting
def Ku:=@PySem.wpAny_setField
def Kx:=@PySem.wpAny_Call_Name_kw
def Aj:=@Option.bind_eq_some_iff
def Ao:=@List.mem_cons_self
def Aw:=@List.mem_cons_of_mem
def AA:=@Option.map_eq_some_iff
def AR:=@List.not_mem_nil
def A6:=@List.map_nil
def Bc:=@List.nodup_cons
def Bb:=@Nat.lt_succ_of_lt
def Bj:=@Nat.lt_or_ge
def Bn:=@List.pairwise_cons
def Bv:=@List.lookup_cons
def Bu:=@List.any_cons
def BB:=@Bool.false_ne_true
def BA:=@Nat.ne_of_gt
def BK:=@List.replicate_succ
def BQ:=@List.mem_iff_getElem
def BP:=@List.ext_getElem
def Ce:=@List.flatten_cons
def Cd:=@List.pairwise_map
def Cc:=@List.pairwise_iff_getElem
def Cb:=@Array.getElem_toList
def Ca:=@Nat.le_add_right
def Cs:=@List.filterMap_cons
def Cr:=@List.mem_append_left
def Cq:=@List.getElem?_append_right
def Cp:=@List.getElem?_append_left
def Co:=@List.find?_cons
def Cm:=@Int.toNat_natCast
def Ck:=@List.mem_flatMap
def CG:=@Bool.and_false
def CF:=@List.range_succ_eq_map
def CD:=@List.map_congr_left
def CC:=@Array.getElem?_eq_none
def CZ:=@List.append_nil
def CY:=@List.length_take
def CW:=@List.length_nil
def CV:=@Nat.lt_trans
def CU:=@Array.size_map
def CT:=@Nat.le_succ
def CS:=@Nat.mod_lt
def CQ:=@List.toList_toArray
def CP:=@Int.lt_of_le_of_lt
def DB:=@Option.isSome_iff_exists
def DA:=@List.getElem?_replicate
def Dz:=@List.length_set
def Dy:=@List.forIn_cons
def Dx:=@List.getElem?_set
def Dw:=@List.getElem_range
def Dv:=@Array.getD_eq_getD_getElem?
def Du:=@Bool.and_self
def Dt:=@Nat.mul_comm
def Ds:=@Nat.lt_trichotomy
def Dr:=@Array.getElem?_setIfInBounds
def Dq:=@List.foldl_cons
def Dp:=@List.mem_iff_getElem?
def Dn:=@List.map_take
def Dm:=@List.map_drop
def Dl:=@List.zipIdx_cons
def Dk:=@List.length_filter_le
def D2:=@List.mem_filterMap
def D1:=@List.of_mem_zip
def D0:=@List.length_drop
def DZ:=@Nat.eq_zero_or_pos
def DY:=@List.mem_erase_of_ne
def DX:=@List.length_erase_of_mem
def DW:=@List.length_pos_of_mem
def DV:=@List.nodup_range
def DU:=@List.getElem?_cons_succ
def DT:=@List.take_append_drop
def DS:=@List.perm_ext_iff_of_nodup
def DR:=@List.getElem?_toArray
def DQ:=@Bool.or_eq_true
def DP:=@Int.mul_le_mul_of_nonneg_right
def DN:=@Int.mul_le_mul_of_nonneg_left
def Ax:=@List.size_toArray
def AL:=@List.getElem?_eq_getElem
def AI:=@List.getElem?_eq_some_iff
def Az:=@List.getElem?_map
def Ah:=@Nat.le_refl
def Ai:=@List.mem_cons
def Ar:=@List.map_cons
def Ay:=@List.length_map
def Am:=@PySem.Heap.lt_size
def AD:=@PySem.Heap.get?_push_size
def Av:=@List.mem_map
def AZ:=@List.getD_eq_getElem?_getD
def CI:=@Bool.not_false
def Au:=@Nat.ne_of_lt
def AX:=@List.mem_append_right
def CH:=@Bool.not_true
def AQ:=@List.mem_singleton
def Bf:=@List.mem_of_getElem?
def Be:=@Array.getElem?_eq_getElem
def AY:=@List.mem_append
def AW:=@List.length_cons
def AK:=@List.mem_range
def A9:=@PySem.W.mg_none_of
def Ba:=@Nat.lt_of_lt_of_le
def A5:=@Bool.false_eq_true
def BV:=@List.length_range
def AG:=@Int.le_refl
def Bz:=@Bool.eq_iff_iff
def Bm:=@List.mem_filter
def BD:=@Option.bind_some
def A_:=@List.any_eq_true
def Ab:=@PySem.wpAny_pure
def Bl:=@Array.length_toList
def Bx:=@Array.getElem?_toList
def AN:=@Nat.zero_le
def A4:=@Option.some.inj
def AU:=@List.map_map
def Cg:=@List.length_append
def BL:=@List.getElem_mem
def Bk:=@Nat.le_trans
def BU:=@Nat.lt_irrefl
def Cf:=@Nat.lt_succ_self
def BC:=@Nat.le_of_lt
def BS:=@List.all_eq_true
def Bw:=@Bool.and_eq_true
def BR:=@List.map_append
def A8:=@Int.emod_nonneg
def A7:=@Int.emod_lt_of_pos
def C0:=@Int.toNat_of_nonneg
abbrev Ac:=PySem.W.Frag
namespace L2
open PySem PySem.Spec PyProof.Rows
abbrev Key:=Sum Int Str
noncomputable def pK:Key->Value->Bool
 | .inl k,v=>Value.isInt k v
 | .inr x,v=>Value.isStrOf x v
noncomputable def Qt (w:World):Key->Int
 | .inl k=>hashInt k
 | .inr x=>hashStr w x
theorem sD:∀ {k:Key}{v:Value},pK k v=true->(∃ i t,k=Sum.inl i/\v=Value.int i t)\/(∃ x t,k=Sum.inr x/\v=Value.str x t)
 | .inl i,v,h=>by
  obtain⟨t,e⟩:=Value.isInt_shape (k:=i) (v:=v) h
  exact .inl ⟨i,t,rfl,e⟩
 | .inr x,v,h=>by
  obtain⟨t,e⟩:=Value.isStrOf_shape (x:=x) (v:=v) h
  exact .inr ⟨x,t,rfl,e⟩
def Qs (i:Int) (t:Tok):pK (.inl i) (.int i t)=true:=by simp[pK,Value.isInt]
def Qr (x:Str) (t:Tok):pK (.inr x) (.str x t)=true:=by simp[pK,Value.isStrOf]
def Qp (a b:Int):decide ((Sum.inl a:Key)=Sum.inl b)=(a == b):=by
 by_cases e:a=b
 ·subst e;simp
 ·have h:¬ (Sum.inl a:Key)=Sum.inl b:=λ q=>e (Sum.inl.inj q)
  rw[Kd h]
  exact (beq_eq_false_iff_ne.mpr e).symm
def Qm (a b:Str):decide ((Sum.inr a:Key)=Sum.inr b)=decide (a=b):=by
 by_cases e:a=b
 ·subst e;simp
 ·have h:¬ (Sum.inr a:Key)=Sum.inr b:=λ q=>e (Sum.inr.inj q)
  rw[Kd h,Kd e]
def Qo (a:Int) (b:Str):decide ((Sum.inl a:Key)=Sum.inr b)=false:=Kd (λ q=>nomatch q)
def Qn (a:Str) (b:Int):decide ((Sum.inr a:Key)=Sum.inl b)=false:=Kd (λ q=>nomatch q)
def wI (prog:Program) (w:World):PySem.KeyKind prog w Key where
 is:=pK
 hash:=Qt w
 inj:=λ v a b ha hb=>by
  rcases sD ha with ⟨i,t,rfl,rfl⟩ | ⟨x,t,rfl,rfl⟩
  ·rcases sD hb with ⟨j,u,rfl,e⟩ | ⟨y,u,rfl,e⟩
   ·injection e with e1 _;rw[e1]
   ·exact nomatch e
  ·rcases sD hb with ⟨j,u,rfl,e⟩ | ⟨y,u,rfl,e⟩
   ·exact nomatch e
   ·injection e with e1 _;rw[e1]
 byValue:=λ k v h=>by
  rcases sD h with ⟨i,t,rfl,rfl⟩ | ⟨x,t,rfl,rfl⟩ <;> rfl
 pyHash:=λ hv h=>by
  rcases sD hv with ⟨i,t,rfl,rfl⟩ | ⟨x,t,rfl,rfl⟩
  ·exact wpAny_pyHash_int h
  ·exact wpAny_pyHash_str h
 eqBool:=λ hu hv h=>by
  rcases sD hu with ⟨i,t,rfl,rfl⟩ | ⟨x,t,rfl,rfl⟩
  ·rcases sD hv with ⟨j,u,rfl,rfl⟩ | ⟨y,u,rfl,rfl⟩
   ·rw[Qp] at h;exact wpAny_eqBool_int h
   ·rw[Qo] at h;exact SeqAt.EqAt.int_str i t y u _ _ _ _ h
  ·rcases sD hv with ⟨j,u,rfl,rfl⟩ | ⟨y,u,rfl,rfl⟩
   ·rw[Qn] at h;exact SeqAt.EqAt.str_int x t j u _ _ _ _ h
   ·rw[Qm] at h;exact wpAny_eqBool_str h
 «strs»:=λ k x t v h=>by
  rcases sD h with ⟨i,u,rfl,e⟩ | ⟨y,u,rfl,e⟩
  ·exact nomatch e
  ·injection e with e1 _
   subst e1
   cases v <;> rfl
def RF (prog:Program) (w:World) (i:Int) (t:Tok):(wI prog w).is (.inl i) (.int i t)=true:=Qs i t
def RE (prog:Program) (w:World) (x:Str) (t:Tok):(wI prog w).is (.inr x) (.str x t)=true:=Qr x t
inductive V where
 | zm | bl (b:Bool) | int (i:Int) | str (x:Str) | kO (b:Array UInt8) | Zy (b:UInt64) | ref (a:Addr) | ty (n:String)
 deriving DecidableEq
noncomputable def RelV:V->Value->Prop
 | .zm,u=>u=Value.none
 | .bl b,u=>u=Value.bool b
 | .int i,u=>∃ t,u=Value.int i t
 | .str x,u=>∃ t,u=Value.str x t
 | .kO b,u=>∃ t,u=Value.bytes b t
 | .Zy b,u=>∃ t,u=Value.float b t
 | .ref a,u=>u=Value.ref a
 | .ty n,u=>u=Value.type n
abbrev Vals:List V->List Value->Prop:=Paired RelV
theorem Vals.length {xs:List V}{us:Ae}(r:Vals xs us):xs.length=us.length:=Paired.length r
theorem Vals.get:∀ {xs:List V}{us:Ae}{i:Nat}{x:V},Vals xs us->xs[i]?=some x->∃ u,us[i]?=some u/\RelV x u
 | _,_,_,_,.nil,e=>by simp at e
 | _,_,0,_,.cons r _,e=>by simp at e;subst e;exact⟨_,rfl,r⟩
 | _,_,i+1,x,.cons _ t,e=>by
  obtain⟨u,h1,h2⟩:=Vals.get (i:=i) (x:=x) t (by simpa using e)
  exact⟨u,by simpa using h1,h2⟩
theorem Vals.set {x:V}{u:Value}(r:RelV x u):∀ {xs:List V}{us:Ae}(i:Nat),Vals xs us->Vals (xs.set i x) (us.set i u)
 | _,_,_,.nil=>.nil
 | _,_,0,.cons _ t=>.cons r t
 | _,_,i+1,.cons q t=>.cons q (Vals.set r i t)
theorem Vals.append:∀ {xs ys:List V}{us ws:Ae},Vals xs us->Vals ys ws->Vals (xs++ys) (us++ws)
 | _,_,_,_,.nil,s=>s
 | _,_,_,_,.cons r t,s=>.cons r (Vals.append t s)
theorem Vals.take:∀ {xs:List V}{us:Ae}(n:Nat),Vals xs us->Vals (xs.take n) (us.take n)
 | _,_,0,_=>.nil
 | _,_,_+1,.nil=>.nil
 | _,_,n+1,.cons r t=>.cons r (Vals.take n t)
theorem Vals.drop:∀ {xs:List V}{us:Ae}(n:Nat),Vals xs us->Vals (xs.drop n) (us.drop n)
 | _,_,0,r=>r
 | _,_,_+1,.nil=>.nil
 | _,_,n+1,.cons _ t=>Vals.drop n t
noncomputable def uo:Option V->Option Value->Prop
 | some v,some u=>RelV v u
 | none,none=>True
 | _,_=>False
def KV {κ:Type}:List (κ × V)->List (κ × Value)->Prop:=Paired λ(p:κ × V) (q:κ × Value)=>p.1=q.1/\RelV p.2 q.2
noncomputable def kV:Key->V
 | .inl i=>.int i
 | .inr x=>.str x
inductive HO where
 /-- a list -/
 | lst (xs:List V)
 /-- a tuple (never changes) -/
 | tup (xs:List V)
 /-- a dict HU keys are ints and texts;one HU keys are tuples of ints and texts (HL empty one is both) -/
 | dK (Aa:List (Key×V)) | dT (Aa:List (List Key×V))
 /-- a set of ints: its members,its size -/
 | set (S:Int->Bool) (n:Nat)
 /-- an instance of HL class at C,its dict at dx,its attributes -/
 | ins (C dx:Addr) (fs:List (Str×V))
 /-- HL dict of HL instance at x -/
 | own (x:Addr)
 /-- HL dict of an exception -/
 | xd (fs:List (Str×V))
 /-- a bound method,f of x -/
 | met (f x:Addr)
 /-- a range object lo,lo+1,.. below hi -/
 | i6 (lo hi:Int)
 /-- a HY that is known to HL object (HL Ji;a dict while a loop walks it): read,never written while it is so -/
 | xW (o:Obj) (u:HO)
 /-- a code Ib table -/
 | qe (ps:Ap)
 /-- any other HY,by what is true of its one object (a def of one's own: yE a S n:=HO.ext λ h=>..) -/
 | ext (φ:Heap->Prop)
abbrev Hp:=Addr->Option HO
noncomputable def upd (H:Hp) (a:Addr) (o:HO):Hp:=λ b=>if b=a then some o else H b
def y6 {H:Hp}{a:Addr}{o:HO}:upd H a o a=some o:=by unfold upd;rw[if_pos rfl]
def yj {H:Hp}{a b:Addr}{o:HO}(h:b≠a):upd H a o b=H b:=by unfold upd;rw[if_neg h]
def sA {H:Hp}{a b:Addr}{o u:HO}(h:H a=some o) (h':H b=some u) (d:o≠u):a≠b:=by
 intro e;subst e;rw[h] at h';exact d (A4 h')
def uX {H:Hp}{a b:Addr}{o:HO}(h:H a=some o) (h':H b=none):a≠b:=by
 intro e;subst e;rw[h] at h';cases h'
section
variable (P:Program)(w:World)
noncomputable def yO (H:Hp) (h:Heap) (a:Addr):HO->Prop
 | .lst xs=>xs.length<=sizeLine/\∃ (its:Ae) (n:Nat),Vals xs its/\h.get? a=some { cls:=.type "list",data:=.seq its.toArray n }
 | .tup xs=>xs.length<=sizeLine/\∃ its:List Value,Vals xs its/\IsTup h a its.toArray
 | .dK Aa=>Aa.length<=sizeLine/\(a == sysModules)=false/\∃ vs,KV Aa vs/\h.DictOf (wI P w) a vs
 | .dT Aa=>Aa.length<=sizeLine/\(a == sysModules)=false/\∃ xs:List (List Key×Addr×Value),
   Paired (λ(p:List Key×V) (q:List Key×Addr×Value)=>p.1=q.1/\H q.2.1=some (.tup (p.1.map kV))/\RelV p.2 q.2.2) Aa xs/\
   ∃ o es ep,h.get? a=some o/\o.ExactDict/\o.data=.dict es ep/\es.toList=xs.map (entryOfKey (tupleKind (wI P w)))/\(xs.map (·.1)).Nodup
 | .set S n=>h.SetOf (intKind P w) a S n
 | .ins C dx fs=>H dx=some (.own a)/\fs.length<=1000/\dx≠a/\h.get? a=some (PySem.W.instObj C dx)/\
   ∃ mA,h.Ns1 dx mA/\(∀ f,uo (fs.lookup f) (mA f))/\PySem.Within mA (fs.map (·.1))
 | .own _=>∃ o,h.get? a=some o
 | .xd fs=>∃ mA,h.Ns1 a mA/\∀ f,uo (fs.lookup f) (mA f)
 | .i6 lo hi=>∃ t u v,h.get? a=some { cls:=.type "range",data:=.fields #[.int lo t,.int hi u,.int 1 v] }
 | .xW o u=>h.get? a=some o/\yO H h a u
 | .qe ps=>h.get? a=some { cls:=.none,data:=.fields ps }
 | .met f x=>h.get? a=some (PySem.W.methodObj (.ref f) (.ref x))
 | .ext φ=>φ h/\(∃ o,h.get? a=some o)/\∀ h1 h2:Heap,φ h1->(∀ o,h1.get? a=some o->h2.get? a=some o)->φ h2
def yK (H:Hp) (h:Heap):Prop:=∀ a o,H a=some o->yO P w H h a o
end
section
variable {P:Program}{w:World}{H H':Hp}{h h':Heap}{a:Addr}{o:HO}
theorem yO.lt (x:yO P w H h a o):a<h.objs.size:=by
 cases o with
 | lst xs=>obtain⟨_,_,_,_,e⟩:=x;exact Am e
 | tup xs=>obtain⟨_,_,_,p⟩:=x;exact p.lt
 | dK Aa=>obtain⟨_,_,_,_,o,_,_,e,_⟩:=x;exact Am e
 | dT Aa=>obtain⟨_,_,_,_,o,_,_,e,_⟩:=x;exact Am e
 | set S n=>obtain⟨o,_,_,_,e,_⟩:=x;exact Am e
 | ins C dx fs=>obtain⟨_,_,_,e,_⟩:=x;exact Am e
 | own y=>obtain⟨_,e⟩:=x;exact Am e
 | xd fs=>obtain⟨_,⟨_,_,_,e,_⟩,_⟩:=x;exact Am e
 | i6 lo hi=>obtain⟨_,_,_,e⟩:=x;exact Am e
 | xW ob u=>obtain⟨e,_⟩:=x;exact Am e
 | qe ps=>exact Am (show h.get? a=some _ from x)
 | met f y=>exact Am (show h.get? a=some _ from x)
 | ext φ=>obtain⟨_,⟨_,e⟩,_⟩:=x;exact Am e
theorem Paired.kr {α β:Type}{F G:α->β->Prop}:∀ {l₁:List α}{l₂:List β},Paired F l₁ l₂->(∀ a b,F a b->G a b)->Paired G l₁ l₂
 | _,_,.nil,_=>.nil
 | _,_,.cons r t,f=>.cons (f _ _ r) (Paired.kr t f)
def yO.tT (x:yO P w H h a o) (k:∀ b u,(b=a\/H b=some (.own a))->h.get? b=some u->h'.get? b=some u)
  (ho:∀ b,H b=some (.own a)->H' b=some (.own a)) (ht:∀ b xs,H b=some (.tup xs)->H' b=some (.tup xs)):yO P w H' h' a o:=by
 induction o with
 | lst xs=>obtain⟨z,its,n,r,e⟩:=x;exact⟨z,its,n,r,k _ _ (.inl rfl) e⟩
 | tup xs=>obtain⟨z,its,r,ob,e,c⟩:=x;exact⟨z,its,r,ob,k _ _ (.inl rfl) e,c⟩
 | dK Aa=>obtain⟨z,y,vs,r,ob,es,ep,e,c⟩:=x;exact⟨z,y,vs,r,ob,es,ep,k _ _ (.inl rfl) e,c⟩
 | dT Aa=>
  obtain⟨z,y,xs,r,ob,es,ep,e,c⟩:=x
  exact⟨z,y,xs,Paired.kr r λ p q z=>⟨z.1,ht _ _ z.2.1,z.2.2⟩,ob,es,ep,k _ _ (.inl rfl) e,c⟩
 | set S n=>obtain⟨ob,es,ep,t,e,c⟩:=x;exact⟨ob,es,ep,t,k _ _ (.inl rfl) e,c⟩
 | ins C dx fs=>
  obtain⟨d,z,ne,e,mA,⟨od,es,ep,e2,c⟩,r⟩:=x
  exact⟨ho _ d,z,ne,k _ _ (.inl rfl) e,mA,⟨od,es,ep,k _ _ (.inr d) e2,c⟩,r⟩
 | own y=>obtain⟨ob,e⟩:=x;exact⟨ob,k _ _ (.inl rfl) e⟩
 | xd fs=>obtain⟨mA,⟨od,es,ep,e,c⟩,r⟩:=x;exact⟨mA,⟨od,es,ep,k _ _ (.inl rfl) e,c⟩,r⟩
 | i6 lo hi=>obtain⟨t,u,v,e⟩:=x;exact⟨t,u,v,k _ _ (.inl rfl) e⟩
 | xW ob u ih=>obtain⟨e,q⟩:=x;exact⟨k _ _ (.inl rfl) e,ih q⟩
 | qe ps=>
  have e:h.get? a=some { cls:=.none,data:=.fields ps }:=x
  show h'.get? a=some { cls:=.none,data:=.fields ps }
  exact k a _ (.inl rfl) e
 | met f y=>
  have e:h.get? a=some (PySem.W.methodObj (.ref f) (.ref y)):=x
  show h'.get? a=some (PySem.W.methodObj (.ref f) (.ref y))
  exact k a _ (.inl rfl) e
 | ext φ=>obtain⟨p,⟨o,e⟩,st⟩:=x;exact⟨st _ _ p λ o q=>k _ _ (.inl rfl) q,⟨o,k _ _ (.inl rfl) e⟩,st⟩
theorem yK.lt (x:yK P w H h) (e:H a=some o):a<h.objs.size:=(x a o e).lt
def yK.fresh (x:yK P w H h) (e:h.objs.size<=a):H a=none:=by
 cases q:H a with
 | none=>rfl
 | some u=>exact absurd (Ba (x.lt q) e) (BU _)
def yK.kept (x:yK P w H h) (k:∀ b u,h.get? b=some u->h'.get? b=some u):yK P w H h':=λ a o e=>
 (x a o e).tT (λ b u _ q=>k b u q) (λ _ q=>q) λ _ _ q=>q
def yK.laid (x:yK P w H h) (k:∀ b u,h.get? b=some u->h'.get? b=some u) (hp:h.objs.size<=a) (new:yO P w (upd H a o) h' a o):yK P w (upd H a o) h':=λ b u e=>by
 have hn:=x.fresh hp
 by_cases hb:b=a
 ·subst hb;rw[y6] at e;cases e;exact new
 ·rw[yj hb] at e
  exact (x b u e).tT (λ c v _ q=>k c v q) (λ c q=>by rw[yj (uX q hn)];exact q) λ c xs q=>by rw[yj (uX q hn)];exact q
end
def Rd (H:Hp) (a:Addr) (u:HO):Prop:=H a=some u\/∃ o,H a=some (.xW o u)
def Rd.ok {P:Program}{w:World}{H:Hp}{h:Heap}{a:Addr}{u:HO}(r:Rd H a u) (x:yK P w H h):yO P w H h a u:=by
 rcases r with r | ⟨o,r⟩
 ·exact x a u r
 ·obtain⟨_,q⟩:=x a _ r
  exact q
noncomputable def mO:Option HO->Prop
 | some (.lst _)=>True
 | some (.dK _)=>True
 | some (.dT _)=>True
 | some (.set _ _)=>True
 | some (.ins _ _ _)=>True
 | some (.ext _)=>True
 | _=>False
section
variable {P:Program}{w:World}{H:Hp}{h h':Heap}{x e:Addr}{o':HO}
def yK.write (ok:yK P w H h) (mu:mO (H x)) (he:e=x\/H e=some (.own x)) (k:∀ b u,b≠e->h.get? b=some u->h'.get? b=some u) (CN:∃ u,h'.get? e=some u)
  (new:yO P w (upd H x o') h' x o'):yK P w (upd H x o') h':=λ b u q=>by
 have Ig:∀ c y,H c=some (.own y)->c≠x:=λ c y r z=>by subst z;rw[r] at mu;exact mu
 have Jq:∀ c xs,H c=some (.tup xs)->c≠x:=λ c xs r z=>by subst z;rw[r] at mu;exact mu
 by_cases hb:b=x
 ·subst hb;rw[y6] at q;cases q;exact new
 ·rw[yj hb] at q
  by_cases BI:b=e
  ·have q':H b=some (.own x):=by
    rcases he with z | z
    ·exact absurd (BI.trans z) hb
    ·rw[BI];exact z
   rw[q] at q';cases q'
   obtain⟨v,hv⟩:=CN
   exact⟨v,by rw[BI];exact hv⟩
  ·refine (ok b u q).tT (λ c v hc r=>k c v ?_ r) (λ c r=>by rw[yj (Ig c b r)];exact r) λ c xs r=>by rw[yj (Jq c xs r)];exact r
   rcases hc with rfl | hc
   ·exact BI
   ·rintro rfl
    rcases he with z | z
    ·exact Ig c b hc z
    ·rw[hc] at z;cases z;exact hb rfl
end
structure Un (fs ex:List Addr) (H H':Hp) (h h':Heap):Prop where
 keep:∀ b o,h.get? b=some o->H b=none->b∉fs->b∉ex->h'.get? b=some o
 slot:∀ b o,h.get? b=some o->H b=none->b∈fs->b∉ex->∃ sl,h'.get? b=some { o with slots:=sl }
 free:∀ b o,h.get? b=some o->H b=none->b∉ex->H' b=none
 there:∀ b o,h.get? b=some o->b∉ex->∃ o',h'.get? b=some o'
 uP:∀ b xs,H b=some (.tup xs)->H' b=some (.tup xs)
 sG:∀ b o u,H b=some (.xW o u)->H' b=some (.xW o u)
 rj:∀ b ps,H b=some (.qe ps)->∃ more,H' b=some (.qe (ps++more))
section
variable {fs ex:List Addr}{H H1:Hp}{h h1 h':Heap}{a x e:Addr}{o:HO}
def Un.any (u:Un fs ex H H1 h h1) {b:Addr}{ob:Obj}(q:h.get? b=some ob) (n:H b=none) (hx:b∉ex):∃ sl,h1.get? b=some { ob with slots:=sl }:=by
 by_cases hb:b∈fs
 ·exact u.slot b ob q n hb hx
 ·exact⟨ob.slots,u.keep b ob q n hb hx⟩
def Un.kept (k:∀ b u,h.get? b=some u->h'.get? b=some u):Un fs ex H H h h':=
 ⟨λ b ob q _ _ _=>k b ob q,λ b ob q _ _ _=>⟨ob.slots,k b ob q⟩,λ _ _ _ n _=>n,λ b ob q _=>⟨ob,k b ob q⟩,λ _ _ q=>q,λ _ _ _ q=>q,λ _ ps q=>⟨#[],by rw[q];simp⟩⟩
def Un.refl:Un fs ex H H h h:=Un.kept λ _ _ q=>q
def Un.laid (k:∀ b u,h.get? b=some u->h'.get? b=some u) (hp:h.objs.size<=a) (hn:H a=none):Un fs ex H (upd H a o) h h' where
 keep:=λ b u q _ _ _=>k b u q
 slot:=λ b u q _ _ _=>⟨u.slots,k b u q⟩
 free:=λ b u q n _=>by rw[yj (Au (Ba (Am q) hp))];exact n
 there:=λ b u q _=>⟨u,k b u q⟩
 uP:=λ b xs q=>by rw[yj (uX q hn)];exact q
 sG:=λ b u xs q=>by rw[yj (uX q hn)];exact q
 rj:=λ b ps q=>⟨#[],by rw[yj (uX q hn),q];simp⟩
def Un.write (mu:mO (H x)) (he:e=x\/H e=some (.own x)) (k:∀ b u,b≠e->h.get? b=some u->h'.get? b=some u) (CN:∃ u,h'.get? e=some u):Un fs ex H (upd H x o) h h':=by
 have hx:∀ b,H b=none->b≠x:=λ b n z=>by subst z;rw[n] at mu;exact mu
 have hb:∀ b,H b=none->b≠e:=λ b n z=>by
  subst z
  rcases he with r | r
  ·exact hx b n r
  ·rw[n] at r;cases r
 have hm:∀ b u,H b=some u->¬ mO (some u)->b≠x:=λ b u q nm z=>by subst z;rw[q] at mu;exact nm mu
 refine⟨λ b u q n _ _=>k b u (hb b n) q,λ b u q n _ _=>⟨u.slots,k b u (hb b n) q⟩,λ b u q n _=>by rw[yj (hx b n)];exact n,λ b u q _=>?_,
  λ b xs q=>by rw[yj (hm b _ q λ z=>z)];exact q,λ b u xs q=>by rw[yj (hm b _ q λ z=>z)];exact q,λ b ps q=>⟨#[],by rw[yj (hm b _ q λ z=>z),q];simp⟩⟩
 by_cases BI:b=e
 ·subst BI;exact CN
 ·exact⟨u,k b u BI q⟩
end
noncomputable def lA (h:Heap) (H:Hp):List Addr:=(List.range h.objs.size).filter λ a=>(H a).isSome
def sE (h:Heap) (H:Hp):Heap:=PySem.W.hideAll h (lA h H)
def QH (h:Heap) (H:Hp):(sE h H).objs.size=h.objs.size:=PySem.W.hideAll_size _ _
def QI {h:Heap}{H:Hp}{b:Addr}{o:Obj}(e:h.get? b=some o) (n:H b=none):(sE h H).get? b=some o:=
 PySem.W.hideAll_get _ e λ hm=>by
  have q:(H b).isSome=true:=(Bm.mp hm).2
  rw[n] at q;simp at q
def Rv {h:Heap}{H:Hp}{b:Addr}{o:Obj}(e:(sE h H).get? b=some o):h.get? b=some o/\H b=none:=by
 have e':h.get? b=some o:=PySem.W.of_hideAll (lA h H) e
 refine⟨e',?_⟩
 cases q:H b with
 | none=>rfl
 | some x=>
  have hm:b∈lA h H:=Bm.mpr ⟨AK.mpr (Am e'),by simp[q]⟩
  have z:(sE h H).get? b=none:=PySem.W.hideAll_none (lA h H) hm
  rw[z] at e;cases e
structure Mod (K:Ac) (mg:AF) (base:Heap):Prop where
 gz:K.In base
 glob:base.Ns mainGlobals mg
 blt:∃ mb,base.Ns builtinsNs mb/\∀ x:Str,x≠"__name__"->mb x=bootBuiltins x
 nolimit:base.NoLimit
structure Cx where
 prog:Program
 w:World
 K:Ac
 mg:Str->Option Value
 base:Heap
 A:Around
 N:List Str
 s₀:Shared
 H₀:Hp
 env:Env
 outer:List Env
 stack:List Env
 ex:List Addr
 fn:Str->Bool
 calm:Bool
 pn:Ag
 xe:Ad
noncomputable def vJ (l:List Env):List Addr:=l.filterMap (·.frame)
abbrev Cx.fs (X:Cx):List Addr:=vJ X.outer
def kS (sc:Scope) (x:Str):Prop:=sc.names.lookup x=some .local\/sc.names.lookup x=some .cell\/sc.names.lookup x=some .free
def Loc (sc:Scope) (x:Str):Prop:=sc.names.lookup x=some .local\/sc.names.lookup x=some .cell
def Look (env:Env) (h:Heap) (m:AF) (x:Str) (u:Value):Prop:=
 (env.kindOf x=some .local/\m x=some u)\/((env.kindOf x=some .cell\/env.kindOf x=some .free)/\∃ c,env.cells.lookup x=some c/\h.IsCell c (some u))
structure Cx.Ok (X:Cx):Prop where
 mod:Mod X.K X.mg X.base
 kind:X.env.scope.kind=.function
 glob:X.env.globals=mainGlobals
 blt:X.env.builtins=builtinsNs
 above:X.s₀.heap.objs.size<=X.env.locals
 inj:∀ x y c,X.env.cells.lookup x=some c->X.env.cells.lookup y=some c->x=y
 has:∀ x,(X.env.kindOf x=some .cell\/X.env.kindOf x=some .free)->∃ c,X.env.cells.lookup x=some c
 mn:∀ x c,X.fn x=true->X.env.cells.lookup x=some c->X.s₀.heap.objs.size<=c
 hd:X.calm=true->X.A.handled=none
 frames:X.A.frames=some X.stack
 lB:X.stack=X.outer\/(X.stack=X.env::X.outer/\X.env.frame=some X.env.locals)
 g_:∀ b∈X.ex,b≠X.env.locals/\∀ x c,X.env.cells.lookup x=some c->c≠b
 bs:∀ b o,X.base.get? b=some o->X.s₀.heap.get? b=some o/\X.H₀ b=none
 qF:X.base.objs.size<=X.s₀.heap.objs.size
 nB:∀ b o,X.base.get? b=some o->b∉X.ex
 nX:∀ b∈X.ex,b∉X.fs
 uD:X.s₀.heap.FunFrames X.base X.outer
 pV:∀ b∈X.fs,X.H₀ b=none
structure Inv (X:Cx) (EF:Ag) (B:List (Option V)) (H:Hp) (s:Shared):Prop where
 ok:X.Ok
 os:s.os=X.s₀.os
 bare:AllBare s.gens
 base:Un X.fs X.ex X.H₀ H X.s₀.heap s.heap
 loc:∃ m,s.heap.Ns X.env.locals m/\∀ (i:Nat) (x:Str) (v:V),X.N[i]?=some x->B[i]?=some (some v)->kS X.env.scope x->∃ u,RelV v u/\Look X.env s.heap m x u
 cell:∀ x c,X.env.cells.lookup x=some c->∃ v,s.heap.IsCell c v
 free:H X.env.locals=none
 tq:∀ x c,X.env.cells.lookup x=some c->H c=none
 pin:∀ p∈X.pn++EF,s.heap.get? p.1=some p.2/\H p.1=none/\p.1≠X.env.locals/\p.1∉X.fs/\∀ v,p.2.data≠.cell v
 zw:yK X.prog X.w H s.heap
 len:B.length=X.N.length
section
variable {X:Cx}{EF:Ag}{B:List (Option V)}{H H':Hp}{s:Shared}{h':Heap}
def Cx.Ok.R0 (ok:X.Ok) {b:Addr}{o:Obj}(e:X.base.get? b=some o):b∉X.fs:=λ hb=>by
 have:=(ok.uD.mem hb).1
 rw[e] at this;cases this
theorem Inv.bs (I:Inv X EF B H s):∀ b o,X.base.get? b=some o->s.heap.get? b=some o/\H b=none:=λ b o e=>
 ⟨I.base.keep b o (I.ok.bs b o e).1 (I.ok.bs b o e).2 (I.ok.R0 e) (I.ok.nB b o e),I.base.free b o (I.ok.bs b o e).1 (I.ok.bs b o e).2 (I.ok.nB b o e)⟩
def Inv.bk (I:Inv X EF B H s):∀ b o,X.base.get? b=some o->s.heap.get? b=some o:=λ b o e=>(I.bs b o e).1
theorem Inv.mod (I:Inv X EF B H s):Mod X.K X.mg X.base:=I.ok.mod
def Inv.vF (I:Inv X EF B H s):X.K.In s.heap:=I.ok.mod.gz.keeps I.bk
theorem Inv.lt (I:Inv X EF B H s):X.env.locals<s.heap.objs.size:=let ⟨_,hn,_⟩:=I.loc;hn.lt
def Inv.sz (I:Inv X EF B H s):X.s₀.heap.objs.size<=s.heap.objs.size:=Bk I.ok.above (BC I.lt)
def Inv.bS (I:Inv X EF B H s) {a:Addr}(h:s.heap.objs.size<=a):a∉X.fs:=λ hb=>by
 obtain⟨_,o,ho,_⟩:=I.ok.uD.mem hb
 exact absurd (Ba (Am ho) (Bk I.sz h)) (BU _)
def Inv.qE (I:Inv X EF B H s):∀ x c,X.env.cells.lookup x=some c->c≠X.env.locals:=λ x c e z=>by
 obtain⟨v,o,ho,hd⟩:=I.cell x c e
 obtain⟨m,⟨o',es,ep,FT,GX,_⟩,_⟩:=I.loc
 rw[z,FT] at ho;cases ho;rw[GX] at hd;cases hd
theorem Inv.uD (I:Inv X EF B H s):s.heap.FunFrames X.base X.outer:=by
 have all:∀ (l:List Env),(∀ b∈vJ l,b∈X.fs)->X.s₀.heap.FunFrames X.base l->s.heap.FunFrames X.base l:=by
  intro l
  induction l with
  | nil=>intro _ _;trivial
  | cons env r ih=>
   intro hs hl
   obtain⟨hk,⟨L,o,hf,hn,ho,hd⟩,hr⟩:=hl
   have hL:L∈X.fs:=hs L (by unfold vJ;rw[Cs,hf];exact Ao)
   obtain⟨sl,e⟩:=I.base.slot L o ho (I.ok.pV L hL) hL λ z=>I.ok.nX L z hL
   exact⟨hk,⟨L,_,hf,hn,e,hd⟩,ih (λ b hb=>hs b (by unfold vJ;rw[Cs,hf];exact Aw _ hb)) hr⟩
 exact all X.outer (λ _ hb=>hb) I.ok.uD
theorem Inv.stack (I:Inv X EF B H s):s.heap.FunFrames X.base X.stack:=by
 rcases I.ok.lB with e | ⟨e,hf⟩
 ·rw[e];exact I.uD
 ·rw[e]
  obtain⟨m,hn,_⟩:=I.loc
  refine .cons (by rw[I.ok.kind];decide) hf hn ?_ I.uD
  exact Heap.get?_none_of_le (Bk I.ok.qF I.ok.above)
def Inv.jG (I:Inv X EF B H s):∀ b∈vJ X.stack,b∈X.env.locals::X.fs:=λ b hb=>by
 rcases I.ok.lB with e | ⟨e,hf⟩
 ·rw[e] at hb;exact Aw _ hb
 ·rw[e] at hb
  unfold vJ at hb
  rw[Cs,hf] at hb
  exact hb
def Inv.dP (I:Inv X EF B H s):∀ b∈vJ X.stack,H b=none:=λ b hb=>by
 rcases Ai.mp (I.jG b hb) with e | hb
 ·rw[e];exact I.free
 ·obtain⟨_,o,ho,_⟩:=I.ok.uD.mem hb
  exact I.base.free b o ho (I.ok.pV b hb) λ z=>I.ok.nX b z hb
def Inv.step {g':Array GenState}{t':Nat}{d':Drawn}{ch:List Addr}(I:Inv X EF B H s)
  (BO:∀ b∈ch,(b∈X.ex\/X.s₀.heap.objs.size<=b)/\b≠X.env.locals/\(∀ x c,X.env.cells.lookup x=some c->c≠b)/\∀ p∈X.pn++EF,p.1≠b)
  (keep:∀ b o,b≠X.env.locals->b∉X.fs->b∉ch->s.heap.get? b=some o->H b=none->h'.get? b=some o)
  (slot:∀ b o,b≠X.env.locals->b∈X.fs->b∉ch->s.heap.get? b=some o->H b=none->∃ sl,h'.get? b=some { o with slots:=sl }) (free:∀ b o,b∉ch->s.heap.get? b=some o->H b=none->H' b=none)
  (there:∀ b o,b∉ch->s.heap.get? b=some o->∃ o',h'.get? b=some o')
  (uP:∀ b xs,H b=some (.tup xs)->H' b=some (.tup xs)) (sG:∀ b o u,H b=some (.xW o u)->H' b=some (.xW o u)) (rj:∀ b ps,H b=some (.qe ps)->∃ more,H' b=some (.qe (ps++more)))
  (ns:∀ m,s.heap.Ns X.env.locals m->h'.Ns X.env.locals m) (zw:yK X.prog X.w H' h') (hg:AllBare g'):
  Inv X EF B H' { s with heap:=h',gens:=g',drawn:=d',toks:=t' }:=by
 have neL:∀ b o,X.s₀.heap.get? b=some o->b≠X.env.locals:=λ b o e=>Au (Ba (Am e) I.ok.above)
 have IU:∀ b o,X.s₀.heap.get? b=some o->b∉X.ex->b∉ch:=λ b o e hx hb=>by
  rcases (BO b hb).1 with z | z
  ·exact hx z
  ·exact absurd (Ba (Am e) z) (BU _)
 have cellK:∀ x c,X.env.cells.lookup x=some c->∀ v,s.heap.IsCell c v->h'.IsCell c v:=λ x c e v ⟨o,ho,hd⟩=>by
  have Ij:c∉ch:=λ z=>(BO c z).2.2.1 x c e rfl
  by_cases hc:c∈X.fs
  ·obtain⟨sl,q⟩:=slot c o (I.qE x c e) hc Ij ho (I.tq x c e)
   exact⟨_,q,hd⟩
  ·exact⟨o,keep c o (I.qE x c e) hc Ij ho (I.tq x c e),hd⟩
 refine⟨I.ok,I.os,hg,⟨λ b o e n hb hx=>?_,λ b o e n hb hx=>?_,λ b o e n hx=>?_,λ b o e hx=>?_,λ b xs e=>uP b xs (I.base.uP b xs e),λ b o xs e=>sG b o xs (I.base.sG b o xs e),λ b ps e=>?_⟩,?_,λ x c e=>?_,?_,λ x c e=>?_,λ p hp=>?_,zw,I.len⟩
 ·exact keep b o (neL b o e) hb (IU b o e hx) (I.base.keep b o e n hb hx) (I.base.free b o e n hx)
 ·obtain⟨sl,e1⟩:=I.base.slot b o e n hb hx
  obtain⟨sl',e2⟩:=slot b _ (neL b o e) hb (IU b o e hx) e1 (I.base.free b o e n hx)
  exact⟨sl',e2⟩
 ·obtain⟨o',e1⟩:=I.base.there b o e hx
  exact free b o' (IU b o e hx) e1 (I.base.free b o e n hx)
 ·obtain⟨o',e1⟩:=I.base.there b o e hx
  exact there b o' (IU b o e hx) e1
 ·obtain⟨m1,e1⟩:=I.base.rj b ps e
  obtain⟨m2,e2⟩:=rj b _ e1
  exact⟨m1++m2,by rw[e2,Array.append_assoc]⟩
 ·obtain⟨m,hn,hl⟩:=I.loc
  refine⟨m,ns m hn,λ i x v e1 e2 e3=>?_⟩
  obtain⟨u,r,l⟩:=hl i x v e1 e2 e3
  refine⟨u,r,?_⟩
  rcases l with l | ⟨k,c,e,z⟩
  ·exact .inl l
  ·exact .inr ⟨k,c,e,cellK x c e _ z⟩
 ·obtain⟨v,z⟩:=I.cell x c e
  exact⟨v,cellK x c e v z⟩
 ·obtain⟨m,⟨o,_,_,ho,_⟩,_⟩:=I.loc
  exact free _ o (λ z=>(BO _ z).2.1 rfl) ho I.free
 ·obtain⟨v,o,ho,hd⟩:=I.cell x c e
  exact free c o (λ z=>(BO c z).2.2.1 x c e rfl) ho (I.tq x c e)
 ·obtain⟨e,n,ne,nf,d⟩:=I.pin p hp
  have Ij:p.1∉ch:=λ z=>(BO p.1 z).2.2.2 p hp rfl
  exact⟨keep p.1 p.2 ne nf Ij e n,free p.1 p.2 Ij e n,ne,nf,d⟩
def Inv.un {t':Nat}(I:Inv X EF B H s) (u:Un X.fs [] H H' s.heap h') (zw:yK X.prog X.w H' h'):Inv X EF B H' { s with heap:=h',toks:=t' }:=by
 obtain⟨m,⟨o,es,ep,ho,r⟩,_⟩:=id I.loc
 obtain⟨sl,hL⟩:=u.any ho I.free (by simp)
 exact I.step (g':=s.gens) (d':=s.drawn) (ch:=[]) (λ _ z=>nomatch z) (λ b o _ hb _ e n=>u.keep b o e n hb (by simp)) (λ b o _ hb _ e n=>u.slot b o e n hb (by simp)) (λ b o _ e n=>u.free b o e n (by simp)) (λ b o _ e=>u.there b o e (by simp)) u.uP u.sG u.rj (λ m' hm=>by
  obtain⟨o',FC,JZ,FT,r'⟩:=hm
  rw[ho] at FT;cases FT
  exact⟨_,FC,JZ,hL,r'⟩) zw I.bare
def Inv.call {g':Array GenState}{t':Nat}{d':Drawn}{ch:List Addr}(I:Inv X EF B H s) (u:Un (vJ X.stack) ch H H' s.heap h') (zw:yK X.prog X.w H' h') (hg:AllBare g')
  (BO:∀ b∈ch,(b∈X.ex\/X.s₀.heap.objs.size<=b)/\b≠X.env.locals/\(∀ x c,X.env.cells.lookup x=some c->c≠b)/\∀ p∈X.pn++EF,p.1≠b):
  Inv X EF B H' { s with heap:=h',gens:=g',drawn:=d',toks:=t' }:=by
 obtain⟨m,⟨o,es,ep,ho,r⟩,_⟩:=id I.loc
 obtain⟨sl,hL⟩:=u.any ho I.free λ z=>(BO _ z).2.1 rfl
 exact I.step (ch:=ch) BO (λ b o hL hb hc e n=>u.keep b o e n (λ z=>(Ai.mp (I.jG b z)).elim hL hb) hc) (λ b o _ _ hc e n=>u.any e n hc) (λ b o hc e n=>u.free b o e n hc) (λ b o hc e=>u.there b o e hc) u.uP u.sG u.rj (λ m' hm=>by
  obtain⟨o',FC,JZ,FT,r'⟩:=hm
  rw[ho] at FT;cases FT
  exact⟨_,FC,JZ,hL,r'⟩) zw hg
def Inv.turned {t':Nat}{it:Addr}(I:Inv X EF B H s) (k:∀ b o,b≠it->s.heap.get? b=some o->h'.get? b=some o) (hn:H it=none) (hL:it≠X.env.locals)
  (h1:it∈X.ex\/X.s₀.heap.objs.size<=it) (h2:∀ x c,X.env.cells.lookup x=some c->c≠it) (h3:∀ p∈X.pn++EF,p.1≠it):Inv X EF B H { s with heap:=h',toks:=t' }:=by
 have Ii:∀ b u,H b=some u->b≠it:=λ b u e z=>by rw[z,hn] at e;cases e
 refine I.step (g':=s.gens) (d':=s.drawn) (ch:=[it]) (λ b hb=>?_) (λ b o _ _ hc e _=>k b o (λ z=>hc (by simp[z])) e) (λ b o _ _ hc e _=>⟨o.slots,k b o (λ z=>hc (by simp[z])) e⟩) (λ _ _ _ _ n=>n)
  (λ b o hc e=>⟨o,k b o (λ z=>hc (by simp[z])) e⟩) (λ _ _ e=>e) (λ _ _ _ e=>e) (λ b ps e=>⟨#[],by rw[e];simp⟩) (λ m hm=>?_) (λ b u e=>?_) I.bare
 ·have e:b=it:=by simpa using hb
  subst e
  exact⟨h1,hL,h2,h3⟩
 ·obtain⟨o,es,ep,ho,r⟩:=hm
  exact⟨o,es,ep,k _ o (Ne.symm hL) ho,r⟩
 ·refine (I.zw b u e).tT (λ c v hc q=>k c v ?_ q) (λ _ q=>q) λ _ _ q=>q
  rcases hc with z | z
  ·rw[z];exact Ii b u e
  ·exact Ii c _ z
def Inv.tok (I:Inv X EF B H s) (t:Nat):Inv X EF B H { s with toks:=t }:=I.un (h':=s.heap) (t':=t) Un.refl I.zw
theorem Inv.kept {t':Nat}(I:Inv X EF B H s) (k:∀ b u,s.heap.get? b=some u->h'.get? b=some u):Inv X EF B H { s with heap:=h',toks:=t' }:=I.un (Un.kept k) (I.zw.kept k)
theorem Inv.laid {a:Addr}{o:HO}{t':Nat}(I:Inv X EF B H s) (k:∀ b u,s.heap.get? b=some u->h'.get? b=some u) (hp:s.heap.objs.size<=a) (new:yO X.prog X.w (upd H a o) h' a o):
  Inv X EF B (upd H a o) { s with heap:=h',toks:=t' }:=I.un (Un.laid k hp (I.zw.fresh hp)) (I.zw.laid k hp new)
theorem Inv.write {x e:Addr}{o:HO}{t':Nat}(I:Inv X EF B H s) (mu:mO (H x)) (he:e=x\/H e=some (.own x)) (k:∀ b u,b≠e->s.heap.get? b=some u->h'.get? b=some u) (CN:∃ u,h'.get? e=some u)
  (new:yO X.prog X.w (upd H x o) h' x o):Inv X EF B (upd H x o) { s with heap:=h',toks:=t' }:=I.un (Un.write mu he k CN) (I.zw.write mu he k CN new)
def Inv.iG {Hc:Ag}(I:Inv X EF B H s) (h:∀ p∈Hc,s.heap.get? p.1=some p.2/\H p.1=none/\p.1≠X.env.locals/\p.1∉X.fs/\∀ v,p.2.data≠.cell v):Inv X Hc B H s:=
 ⟨I.ok,I.os,I.bare,I.base,I.loc,I.cell,I.free,I.tq,λ p hp=>(AY.mp hp).elim (λ z=>I.pin p (Cr _ z)) (h p),I.zw,I.len⟩
def bV {N:List Str}(hN:N.Nodup) {i j:Nat}{x:Str}(a:N[i]?=some x) (b:N[j]?=some x):i=j:=by
 obtain⟨h1,e1⟩:=AI.mp a
 obtain⟨h2,e2⟩:=AI.mp b
 exact (List.getElem_inj hN).mp (e1.trans e2.symm)
def Wn {M:Model}{A:Around}{E:Ad}{i:Nat}{x:Str}{v:V}{u:Value}{Q:Unit->Shared->Prop}(I:Inv X EF B H s) (hN:X.N.Nodup) (hi:X.N[i]?=some x) (hx:Loc X.env.scope x) (r:RelV v u)
  (h:∀ s',Inv X EF (B.set i (some v)) H s'->(∃ a,Heap.SameBut a s.heap s'.heap/\(a=X.env.locals\/X.env.cells.lookup x=some a))->Q () s') (hf:X.fn x=true\/X.env.scope.names.lookup x=some .local:=by first | exact .inl rfl | exact .inr rfl | assumption):wpAny M A (storeName X.env x u) Q E s:=by
 obtain⟨m,hn,hl⟩:=id I.loc
 have EC:(X.env.scope.kind == .class||(X.env.scope.kind == .module&&X.env.locals != X.env.globals))=false:=by rw[I.ok.kind];rfl
 have hiσ:i < B.length:=by rw[I.len];exact (AI.mp hi).1
 have qE:=I.qE
 have tracked:∀ {a:Addr}{h':Heap},(∃ o,s.heap.get? a=some o/\H a=none)->Heap.SameBut a s.heap h'->yK X.prog X.w H h':=λ{a h'} ha hs b ob e=>by
  obtain⟨_,_,Hi⟩:=ha
  refine (I.zw b ob e).tT (λ c w' hc q=>(hs.2 c ?_).trans q) (λ _ q=>q) λ _ _ q=>q
  rintro rfl
  rcases hc with rfl | hc
  ·rw[Hi] at e;cases e
  ·rw[Hi] at hc;cases hc
 rcases hx with hk | hk
 ·refine wpAny_storeName_local hk hn (λ h' Ja hs=>?_) EC
  obtain⟨oL,_,_,Hf,_⟩:=id hn
  refine h _ ⟨I.ok,I.os,I.bare,⟨λ b o e n hb hx=>?_,λ b o e n hb hx=>?_,I.base.free,λ b o e hx=>?_,I.base.uP,I.base.sG,I.base.rj⟩,⟨_,Ja,λ j y v' e1 e2 e3=>?_⟩,λ y c e=>?_,I.free,I.tq,λ p hp=>?_,tracked ⟨oL,Hf,I.free⟩ hs,by simpa using I.len⟩ ⟨_,hs,.inl rfl⟩
  ·exact (hs.2 b (Au (Ba (Am e) I.ok.above))).trans (I.base.keep b o e n hb hx)
  ·obtain⟨sl,e1⟩:=I.base.slot b o e n hb hx
   exact⟨sl,(hs.2 b (Au (Ba (Am e) I.ok.above))).trans e1⟩
  ·obtain⟨o',e1⟩:=I.base.there b o e hx
   exact⟨o',(hs.2 b (Au (Ba (Am e) I.ok.above))).trans e1⟩
  ·by_cases hj:j=i
   ·subst hj
    rw[hi] at e1;cases e1
    rw[List.getElem?_set_self hiσ] at e2
    cases e2
    exact⟨u,r,.inl ⟨hk,by simp⟩⟩
   ·rw[List.getElem?_set_ne (Ne.symm hj)] at e2
    obtain⟨u',r',q⟩:=hl j y v' e1 e2 e3
    refine⟨u',r',?_⟩
    rcases q with ⟨k,e⟩ | ⟨k,c,e,z⟩
    ·refine .inl ⟨k,?_⟩
     have:y≠x:=λ e=>hj (bV hN e1 (e▸hi))
     simp[this,e]
    ·exact .inr ⟨k,c,e,z.sameBut hs (qE y c e)⟩
  ·obtain⟨w',z⟩:=I.cell y c e
   exact⟨w',z.sameBut hs (qE y c e)⟩
  ·obtain⟨e,n,ne,nf,d⟩:=I.pin p hp
   exact⟨(hs.2 p.1 ne).trans e,n,ne,nf,d⟩
 ·have CB:X.fn x=true:=by
   rcases hf with z | z
   ·exact z
   ·rw[z] at hk;cases hk
  obtain⟨c,hc⟩:=I.ok.has x (.inl hk)
  obtain⟨w',z⟩:=I.cell x c hc
  refine wpAny_storeName_cell I.ok.kind hk hc z (λ h' IA hs=>?_)
  obtain⟨oc,hoc,Ek⟩:=id z
  refine h { s with heap:=h' } ⟨I.ok,I.os,I.bare,⟨λ b o e n hb hx=>?_,λ b o e n hb hx=>?_,I.base.free,λ b o e hx=>?_,I.base.uP,I.base.sG,I.base.rj⟩,⟨m,hn.sameBut hs (Ne.symm (qE x c hc)),λ j y v' e1 e2 e3=>?_⟩,λ y c' e=>?_,I.free,I.tq,λ p hp=>?_,tracked ⟨oc,hoc,I.tq x c hc⟩ hs,by simpa using I.len⟩ ⟨c,hs,.inr hc⟩
  ·exact (hs.2 b (Au (Ba (Am e) (I.ok.mn x c CB hc)))).trans (I.base.keep b o e n hb hx)
  ·obtain⟨sl,e1⟩:=I.base.slot b o e n hb hx
   exact⟨sl,(hs.2 b (Au (Ba (Am e) (I.ok.mn x c CB hc)))).trans e1⟩
  ·obtain⟨o',e1⟩:=I.base.there b o e hx
   exact⟨o',(hs.2 b (Au (Ba (Am e) (I.ok.mn x c CB hc)))).trans e1⟩
  ·by_cases hj:j=i
   ·subst hj
    rw[hi] at e1;cases e1
    rw[List.getElem?_set_self hiσ] at e2
    cases e2
    exact⟨u,r,.inr ⟨.inl hk,c,hc,IA⟩⟩
   ·rw[List.getElem?_set_ne (Ne.symm hj)] at e2
    obtain⟨u',r',q⟩:=hl j y v' e1 e2 e3
    refine⟨u',r',?_⟩
    rcases q with q | ⟨k,c',e,z'⟩
    ·exact .inl q
    ·refine .inr ⟨k,c',e,z'.sameBut hs ?_⟩
     rintro rfl
     exact hj (bV hN e1 (I.ok.inj _ _ _ e hc▸hi))
  ·by_cases DL:c'=c
   ·subst DL;exact⟨_,IA⟩
   ·obtain⟨w2,z2⟩:=I.cell y c' e
    exact⟨w2,z2.sameBut hs DL⟩
  ·obtain⟨e,n,ne,nf,d⟩:=I.pin p hp
   refine⟨(hs.2 p.1 ?_).trans e,n,ne,nf,d⟩
   intro q
   rw[q,hoc] at e
   have q':oc=p.2:=A4 e
   exact d w' (by rw[<- q'];exact Ek)
def jF {M:Model}{A:Around}{E:Ad}{i:Nat}{x:Str}{v:V}{u:Value}{Q:Unit->Shared->Prop}(I:Inv X EF B H s) (hN:X.N.Nodup) (hi:X.N[i]?=some x) (hx:Loc X.env.scope x) (r:RelV v u)
  (h:∀ s',Inv X EF (B.set i (some v)) H s'->Q () s') (hf:X.fn x=true\/X.env.scope.names.lookup x=some .local:=by first | exact .inl rfl | exact .inr rfl | assumption):wpAny M A (storeName X.env x u) Q E s:=
 Wn I hN hi hx r (λ s' I' _=>h s' I') hf
def Inv.OP {s':Shared}{ch:List Addr}(I:Inv X EF B H s) (ho:s'.os=s.os) (u:Un (vJ X.stack) ch H H' s.heap s'.heap) (zw:yK X.prog X.w H' s'.heap) (hg:AllBare s'.gens)
  (BO:∀ b∈ch,(b∈X.ex\/X.s₀.heap.objs.size<=b)/\b≠X.env.locals/\(∀ x c,X.env.cells.lookup x=some c->c≠b)/\∀ p∈X.pn++EF,p.1≠b):Inv X EF B H' s':=by
 obtain⟨h',g',d',t',o'⟩:=s'
 have e:o'=s.os:=ho
 subst e
 exact I.call (g':=g') (t':=t') (d':=d') u zw hg BO
end
abbrev XK:=Value->Option Addr->Hp->Prop
abbrev St:=List (Option V)
abbrev VK:=V->Hp->Prop
abbrev TE:=St->Hp->VK->Prop
abbrev TT:=St->Hp->(Bool->Hp->Prop)->Prop
abbrev TA:=St->Hp->(List V->Hp->Prop)->Prop
structure Ends where
 nx:St->Hp->Prop
 rt:VK
 bk:St->Hp->Prop:=λ _ _=>False
 ct:St->Hp->Prop:=λ _ _=>False
abbrev TS:=Ends->St->Hp->Prop
def EP (X:Cx) (EF:Ag) (B:St) (Q:VK) (u:Value) (s':Shared):Prop:=∃ v H',Inv X EF B H' s'/\RelV v u/\Q v H'
def TP (X:Cx) (EF:Ag) (B:St) (Q:Bool->Hp->Prop) (b:Bool) (s':Shared):Prop:=∃ H',Inv X EF B H' s'/\Q b H'
def AP (X:Cx) (EF:Ag) (B:St) (Q:List V->Hp->Prop) (us:Ae) (s':Shared):Prop:=∃ vs H',Inv X EF B H' s'/\Vals vs us/\Q vs H'
def SP (X:Cx) (EF:Ag) (D:Ends) (f:Flow) (s':Shared):Prop:=
 match f with
 | .next=>∃ B' H',Inv X EF B' H' s'/\D.nx B' H'
 | .brk=>∃ B' H',Inv X EF B' H' s'/\D.bk B' H'
 | .cont=>∃ B' H',Inv X EF B' H' s'/\D.ct B' H'
 | .ret u=>∃ v B' H',Inv X EF B' H' s'/\RelV v u/\D.rt v H'
def PE (X:Cx) (e:Expr) (t:TE):Prop:=
 ∀ (EF:Ag) (s:Shared) (B:St) (H:Hp) (Q:VK),Inv X EF B H s->t B H Q->wpAny (model X.prog X.w) X.A (eval e X.env) (EP X EF B Q) X.xe s
def PT (X:Cx) (e:Expr) (t:TT):Prop:=
 ∀ (EF:Ag) (s:Shared) (B:St) (H:Hp) (Q:Bool->Hp->Prop),Inv X EF B H s->t B H Q->wpAny (model X.prog X.w) X.A (isTrue e X.env (eval e X.env)) (TP X EF B Q) X.xe s
def PW (X:Cx) (e:Expr) (t:TT):Prop:=
 ∀ (whole:Sem Value) (EF:Ag) (s:Shared) (B:St) (H:Hp) (Q:Bool->Hp->Prop),Inv X EF B H s->t B H Q->wpAny (model X.prog X.w) X.A (isTrue e X.env whole) (TP X EF B Q) X.xe s
def PW.pt {X:Cx}{e:Expr}{t:TT}(h:PW X e t):PT X e t:=h _
def PA (X:Cx) (es:List Expr) (t:TA):Prop:=
 ∀ (pos:Pos) (EF:Ag) (s:Shared) (B:St) (H:Hp) (Q:List V->Hp->Prop),Inv X EF B H s->t B H Q->wpAny (model X.prog X.w) X.A (spliced (backTo pos (starEach es X.env))) (AP X EF B Q) X.xe s
def PS (X:Cx) (st:Stmt) (t:TS):Prop:=
 ∀ (EF:Ag) (s:Shared) (B:St) (H:Hp) (D:Ends),Inv X EF B H s->t D B H->wpAny (model X.prog X.w) X.A (exec st X.env) (SP X EF D) X.xe s
def xP (X:Cx) (st:List Stmt) (t:TS):Prop:=
 ∀ (EF:Ag) (s:Shared) (B:St) (H:Hp) (D:Ends),Inv X EF B H s->t D B H->wpAny (model X.prog X.w) X.A (execs st X.env) (SP X EF D) X.xe s
def zC {α:Type}{t:Sem α}{Q Q':α->Shared->Prop}{M:Model}{A:Around}{E:Ad}{s:Shared}(h:wpAny M A t Q E s) (hQ:∀ a s,Q a s->Q' a s):wpAny M A t Q' E s:=Kc h hQ λ _ _ x=>x
section
variable {X:Cx}
def jA (i:Nat):TE:=fun B H Q=>∃ v,B[i]?=some (some v)/\Q v H
def tC (v:V):TE:=λ _ H Q=>Q v H
def Ug {i:Nat}{x:Str}{pos:Pos}(hN:X.N[i]?=some x) (hv:kS X.env.scope x) (hd:(x == ("__debug__":Str))=false:=by decide) (Bs:(x == ("__classdict__":Str))=false:=by decide):PE X (.Name x pos) (jA i):=by
 intro EF s B H Q I h
 obtain⟨v,e,h⟩:=h
 obtain⟨m,hn,hl⟩:=I.loc
 obtain⟨u,r,l⟩:=hl i x v hN e hv
 have fin:EP X EF B Q u s:=⟨v,H,I,r,h⟩
 rcases l with ⟨hk,hm⟩ | ⟨hk,c,hc,Hk⟩
 ·exact wpAny_Name (wpAny_loadName_local I.ok.kind hk hn hm fin) hd
 ·rcases hk with hk | hk
  ·exact wpAny_Name (wpAny_loadName_cell I.ok.kind hk hc Hk fin) hd
  ·exact wpAny_Name (wpAny_loadName_free I.ok.kind hk hc Hk fin Bs) hd
def Uv {i j pos}:PE X (.Constant (.int i) j pos) (tC (.int i)):=λ _ _ _ H _ I h=>wpAny_Constant_int ⟨.int i,H,I.tok _,⟨_,rfl⟩,h⟩
def U6 {b j pos}:PE X (.Constant (.bool b) j pos) (tC (.bl b)):=λ _ _ _ H _ I h=>Constant_bool ⟨.bl b,H,I,rfl,h⟩
def Uq {j pos}:PE X (.Constant .none j pos) (tC .zm):=λ _ _ _ H _ I h=>Constant_none ⟨.zm,H,I,rfl,h⟩
def Uj {x j pos}:PE X (.Constant (.str x) j pos) (tC (.str x)):=λ _ _ _ H _ I h=>Calls.Constant_str ⟨.str x,H,I.tok _,⟨_,rfl⟩,h⟩
def Gl (X:Cx) (x:Str):Prop:=X.env.kindOf x=some .globalImplicit
def aC {E:Ad}{EF:Ag}{s:Shared}{B:St}{H:Hp}{x:Str}{u:Value}{pos:Pos}{Q:Ad}(I:Inv X EF B H s) (hg:Gl X x) (hm:X.mg x=some u) (h:Q u s)
  (hd:(x == ("__debug__":Str))=false:=by decide):wpAny (model X.prog X.w) X.A (eval (.Name x pos) X.env) Q E s:=
 Calls.Name_function_global I.ok.kind hg (Calls.loadGlobal_global (by rw[I.ok.glob];exact I.mod.glob.keeps I.bk) hm h) hd
def rF {E:Ad}{EF:Ag}{s:Shared}{B:St}{H:Hp}{x:Str}{u:Value}{pos:Pos}{Q:Ad}(I:Inv X EF B H s) (hg:Gl X x) (hm:X.mg x=none) (hv:bootBuiltins x=some u) (h:Q u s)
  (hn:x≠"__name__":=by decide) (hd:(x == ("__debug__":Str))=false:=by decide):wpAny (model X.prog X.w) X.A (eval (.Name x pos) X.env) Q E s:=by
 obtain⟨mb,h1,h2⟩:=I.mod.blt
 exact Calls.Name_function_global I.ok.kind hg (Calls.loadGlobal_builtin (by rw[I.ok.glob];exact I.mod.glob.keeps I.bk) hm (by rw[I.ok.blt];exact h1.keeps I.bk) ((h2 x hn).trans hv) h) hd
def Ux {x:Str}{v:V}{u:Value}{pos:Pos}(hg:Gl X x) (hm:X.mg x=some u) (r:RelV v u) (hd:(x == ("__debug__":Str))=false:=by decide):PE X (.Name x pos) (tC v):=
 λ _ _ _ H _ I h=>aC I hg hm ⟨v,H,I,r,h⟩ hd
def U5 {x:Str}{v:V}{u:Value}{pos:Pos}(hg:Gl X x) (hm:X.mg x=none) (hv:bootBuiltins x=some u) (r:RelV v u) (hn:x≠"__name__":=by decide) (hd:(x == ("__debug__":Str))=false:=by decide):PE X (.Name x pos) (tC v):=
 λ _ _ _ H _ I h=>rF I hg hm hv ⟨v,H,I,r,h⟩ hn hd
variable {a b:Expr}{ta tb:TE}{pos:Pos}
variable {tA IP:TT}{EK:List Expr}
def Wl (t u:TT):TT:=fun B H Q=>t B H λ c H1=>if c=true then u B H1 Q else Q false H1
def XY (t u:TT):TT:=fun B H Q=>t B H λ c H1=>if c=true then Q true H1 else u B H1 Q
def X_ (t:TT):TT:=fun B H Q=>t B H λ c H1=>Q (!c) H1
def V0 (ha:PT X a tA):PW X (.BoolOp .And [a] pos) tA:=by
 intro wh EF s B H Q I h
 refine isTrue_and (zC (ha EF s B H Q I h) λ c s1 e=>?_)
 cases c with
 | true=>exact isTrue_and_nil e
 | false=>exact e
def Vy (ha:PT X a tA):PW X (.BoolOp .Or [a] pos) tA:=by
 intro wh EF s B H Q I h
 refine isTrue_or (zC (ha EF s B H Q I h) λ c s1 e=>?_)
 cases c with
 | false=>exact isTrue_or_nil e
 | true=>exact e
def V1 (ha:PT X a tA) (hb:PW X (.BoolOp .And (b::EK) pos) IP):PW X (.BoolOp .And (a::b::EK) pos) (Wl tA IP):=by
 intro wh EF s B H Q I h
 refine isTrue_and (zC (ha EF s B H _ I h) λ c s1 ⟨H1,I1,q1⟩=>?_)
 cases c with
 | true=>exact hb wh EF s1 B H1 Q I1 q1
 | false=>exact⟨H1,I1,q1⟩
def Vz (ha:PT X a tA) (hb:PW X (.BoolOp .Or (b::EK) pos) IP):PW X (.BoolOp .Or (a::b::EK) pos) (XY tA IP):=by
 intro wh EF s B H Q I h
 refine isTrue_or (zC (ha EF s B H _ I h) λ c s1 ⟨H1,I1,q1⟩=>?_)
 cases c with
 | true=>exact⟨H1,I1,q1⟩
 | false=>exact hb wh EF s1 B H1 Q I1 q1
def V5 (ha:PT X a tA):PT X (.UnaryOp .Not a pos) (X_ tA):=by
 intro EF s B H Q I h
 exact isTrue_not (ha EF s B H (λ c H1=>Q (!c) H1) I h)
def Wk (ta tb:TE):TE:=fun B H Q=>ta B H λ x H1=>∃ c,x=.bl c/\if c=true then tb B H1 Q else Q (.bl false) H1
def XZ (ta:TE):TE:=fun B H Q=>ta B H λ x H1=>∃ c,x=.bl c/\Q (.bl (!c)) H1
def Um {op} {t:TE}(h:PE X a t):PE X (.BoolOp op [a] pos) t:=λ EF s B H Q I hw=>BoolOp_one (h EF s B H Q I hw)
def U7 (ha:PE X a ta) (hb:PE X (.BoolOp .And (b::EK) pos) tb):PE X (.BoolOp .And (a::b::EK) pos) (Wk ta tb):=by
 intro EF s B H Q I h
 refine BoolOp_and (zC (ha EF s B H _ I h) λ v s1 ⟨x,H1,I1,r1,q1⟩=>?_)
 obtain⟨c,rfl,q1⟩:=q1
 cases r1
 refine Ko ?_
 cases c with
 | true=>exact hb EF s1 B H1 Q I1 q1
 | false=>exact⟨.bl false,H1,I1,rfl,q1⟩
def Uo (ha:PE X a ta):PE X (.UnaryOp .Not a pos) (XZ ta):=by
 intro EF s B H Q I h
 refine UnaryOp_ (zC (ha EF s B H _ I h) λ v s1 ⟨x,H1,I1,r1,q1⟩=>?_)
 obtain⟨c,rfl,q1⟩:=q1
 cases r1
 exact not_of (Ko ⟨.bl (!c),H1,I1,rfl,q1⟩)
def We (t:TT) (ta tb:TE):TE:=fun B H Q=>t B H λ c H1=>if c=true then ta B H1 Q else tb B H1 Q
def Uw {c:Expr}(hc:PT X c tA) (ha:PE X a ta) (hb:PE X b tb):PE X (.IfExp c a b pos) (We tA ta tb):=by
 intro EF s B H Q I h
 refine wpAny_IfExp (zC (hc EF s B H _ I h) λ d s1 ⟨H1,I1,q1⟩=>?_)
 cases d with
 | true=>exact ha EF s1 B H1 Q I1 q1
 | false=>exact hb EF s1 B H1 Q I1 q1
end
def zJ (K:Ac) (H:Hp) (a:Addr) (xs:List V):Prop:=
 Rd H a (.lst xs)\/
  ∃ (o:Obj) (its:Ap) (n:Nat),K.lookup a=some o/\o.cls=.type "list"/\o.dict=none/\o.data=.seq its n/\its.size<=sizeLine/\Vals xs its.toList
def zL (K:Ac) (H:Hp) (a:Addr) (xs:List V):Prop:=
 Rd H a (.tup xs)\/
  ∃ (o:Obj) (its:Ap) (n:Nat),K.lookup a=some o/\o.cls=.type "tuple"/\o.data=.seq its n/\its.size<=sizeLine/\Vals xs its.toList
noncomputable def Nk:Value->Option V
 | .none=>some .zm
 | .bool b=>some (.bl b)
 | .int i _=>some (.int i)
 | .str x _=>some (.str x)
 | .bytes b _=>some (.kO b)
 | .float b _=>some (.Zy b)
 | .ref a=>some (.ref a)
 | .type n=>some (.ty n)
 | _=>none
def RelV.abs {x:V}{u:Value}(r:RelV x u):Nk u=some x:=by
 cases x with
 | zm=>cases r;rfl
 | bl _=>cases r;rfl
 | ref _=>cases r;rfl
 | ty _=>cases r;rfl
 | _=>obtain⟨t,rfl⟩:=r;rfl
theorem RelV.inj {x y:V}{u:Value}(r:RelV x u) (q:RelV y u):x=y:=A4 (r.abs.symm.trans q.abs)
theorem Vals.inj:∀ {xs ys:List V}{us:Ae},Vals xs us->Vals ys us->xs=ys
 | _,_,_,.nil,.nil=>rfl
 | _,_,_,.cons r t,.cons r' t'=>by rw[r.inj r',Vals.inj t t']
section
variable {X:Cx}{EF:Ag}{B:St}{H:Hp}{s:Shared}{a:Addr}{xs ys:List V}
def zJ.of {K:Ac}(h:H a=some (.lst xs)):zJ K H a xs:=.inl (.inl h)
def zL.of {K:Ac}(h:H a=some (.tup xs)):zL K H a xs:=.inl (.inl h)
def Inv.list (I:Inv X EF B H s) (h:zJ X.K H a xs):∃ its:List Value,Vals xs its/\PlainL s.heap a its.toArray/\xs.length<=sizeLine:=by
 rcases h with h | ⟨o,its,n,hk,hc,hd,hs,hz,r⟩
 ·obtain⟨z,its,n,r,e⟩:=h.ok I.zw
  exact⟨its,r,⟨_,n,e,rfl,rfl,rfl⟩,z⟩
 ·refine⟨its.toList,r,⟨o,n,I.vF a o hk,hc,hd,by simpa using hs⟩,?_⟩
  have e:=r.length
  simp only[Bl] at e
  lia
def Inv.tuple (I:Inv X EF B H s) (h:zL X.K H a xs):∃ its:List Value,Vals xs its/\IsTup s.heap a its.toArray/\xs.length<=sizeLine:=by
 rcases h with h | ⟨o,its,n,hk,hc,hs,hz,r⟩
 ·obtain⟨z,its,r,p⟩:=h.ok I.zw
  exact⟨its,r,p,z⟩
 ·refine⟨its.toList,r,⟨o,I.vF a o hk,hc,n,by simpa using hs⟩,?_⟩
  have e:=r.length
  simp only[Bl] at e
  lia
def Inv.gs (I:Inv X EF B H s) (h:zJ X.K H a xs) (h':zJ X.K H a ys):xs=ys:=by
 obtain⟨its,r,⟨o,n,e,_,_,d⟩,_⟩:=I.list h
 obtain⟨AH,r',⟨o',n',e',_,_,d'⟩,_⟩:=I.list h'
 rw[e] at e';cases e'
 rw[d] at d'
 injection d' with d1 _
 have:its=AH:=by simpa using congrArg Array.toList d1
 subst this
 exact r.inj r'
def Inv.j8 (I:Inv X EF B H s) (h:zL X.K H a xs) (h':zL X.K H a ys):xs=ys:=by
 obtain⟨its,r,⟨o,e,_,n,d⟩,_⟩:=I.tuple h
 obtain⟨AH,r',⟨o',e',_,n',d'⟩,_⟩:=I.tuple h'
 rw[e] at e';cases e'
 rw[d] at d'
 injection d' with d1 _
 have:its=AH:=by simpa using congrArg Array.toList d1
 subst this
 exact r.inj r'
end
abbrev Cx.uN (X:Cx) (E:Ad):Cx:={ X with xe:=E }
abbrev Cx.rD (X:Cx):Cx:=X.uN λ _ _=>False
theorem Cx.Ok.uN {X:Cx}(ok:X.Ok) (E:Ad):(X.uN E).Ok:=
 ⟨ok.mod,ok.kind,ok.glob,ok.blt,ok.above,ok.inj,ok.has,ok.mn,ok.hd,ok.frames,ok.lB,ok.g_,ok.bs,ok.qF,ok.nB,ok.nX,ok.uD,ok.pV⟩
def Cx.Ok.qU {X:Cx}{E:Ad}(ok:(X.uN E).Ok):X.Ok:=
 ⟨ok.mod,ok.kind,ok.glob,ok.blt,ok.above,ok.inj,ok.has,ok.mn,ok.hd,ok.frames,ok.lB,ok.g_,ok.bs,ok.qF,ok.nB,ok.nX,ok.uD,ok.pV⟩
section
variable {X:Cx}{EF:Ag}{B:St}{H:Hp}{s:Shared}{E:Ad}
theorem Inv.uN (I:Inv X EF B H s) (E:Ad):Inv (X.uN E) EF B H s:=⟨I.ok.uN E,I.os,I.bare,I.base,I.loc,I.cell,I.free,I.tq,I.pin,I.zw,I.len⟩
theorem Inv.qU (I:Inv (X.uN E) EF B H s):Inv X EF B H s:=⟨I.ok.qU,I.os,I.bare,I.base,I.loc,I.cell,I.free,I.tq,I.pin,I.zw,I.len⟩
theorem SP.qU {D:Ends}{f:Flow}{s':Shared}(h:SP (X.uN E) EF D f s'):SP X EF D f s':=by
 cases f with
 | ret u=>obtain⟨v,B',H',I,r,q⟩:=h;exact⟨v,B',H',I.qU,r,q⟩
 | _=>obtain⟨B',H',I,q⟩:=h;exact⟨B',H',I.qU,q⟩
theorem xP.rD {st:List Stmt}{t:TS}(h:xP X.rD st t):xP X st t:=λ EF s B H D I hw=>
 Kc (h EF s B H D (I.uN _) hw) (λ _ _ q=>q.qU) λ _ _ z=>False.elim z
end
section
variable {X:Cx}{st:Stmt}{EK:List Stmt}{t u:TS}{e:Expr}{te:TE}{pos:Pos}
def Wb:TS:=λ D B H=>D.nx B H
def XU (t u:TS):TS:=λ D B H=>t { D with nx:=u D } B H
def V8:xP X [] Wb:=λ _ _ B H _ I h=>wpAny_execs_nil ⟨B,H,I,h⟩
def V9 (h1:PS X st t) (h2:xP X EK u):xP X (st::EK) (XU t u):=by
 intro EF s B H D I h
 refine wpAny_execs_cons (zC (h1 EF s B H { D with nx:=u D } I h) λ f s1 q=>?_)
 cases f with
 | next=>
  obtain⟨B',H',I',q⟩:=q
  exact h2 EF s1 B' H' D I' q
 | ret v=>exact q
 | _=>exact q
def V7 (h1:PS X st t):xP X [st] t:=by
 intro EF s B H D I h
 refine wpAny_execs_cons (zC (h1 EF s B H D I h) λ f s1 q=>?_)
 cases f with
 | next=>exact wpAny_execs_nil q
 | ret v=>exact q
 | _=>exact q
def Inv.quiet {EF:Ag}{B:St}{H:Hp}{s:Shared}(I:Inv X EF B H s):interactive X.env=false:=by simp[interactive,I.ok.kind]
def Wg (te:TE):TS:=λ D B H=>te B H λ _ H1=>D.nx B H1
def VG (he:PE X e te) (hs:swapsWith e none pos.line X.env=pure false:=by rfl):PS X (.Expr e pos) (Wg te):=by
 intro EF s B H D I h
 exact wpAny_Expr_any (zC (he EF s B H _ I h) λ v s1 ⟨x,H1,I1,r1,q1⟩=>⟨B,H1,I1,q1⟩) I.quiet hs
def XW (te:TE):TS:=λ D B H=>te B H D.rt
def VD (he:PE X e te):PS X (.Return (some e) pos) (XW te):=by
 intro EF s B H D I h
 exact wpAny_Return_some (zC (he EF s B H _ I h) λ v s1 ⟨x,H1,I1,r1,q1⟩=>⟨x,B,H1,I1,r1,q1⟩)
def Wd (c:TT) (t u:TS):TS:=λ D B H=>c B H λ b H1=>if b=true then t D B H1 else u D B H1
def VE {c:Expr}{a b:List Stmt}{tc:TT}(hc:PT X c tc) (ha:xP X a t) (hb:xP X b u):PS X (.If c a b pos) (Wd tc t u):=by
 intro EF s B H D I h
 refine wpAny_If (zC (hc EF s B H _ I h) λ d s1 ⟨H1,I1,q1⟩=>?_)
 cases d with
 | true=>exact ha EF s1 B H1 D I1 q1
 | false=>exact hb EF s1 B H1 D I1 q1
end
abbrev TG:=V->St->Hp->(St->Hp->Prop)->Prop
abbrev sQ:=List V->St->Hp->(St->Hp->Prop)->Prop
def PG (X:Cx) (target:Expr) (t:TG):Prop:=
 ∀ (EF:Ag) (s:Shared) (B:St) (H:Hp) (v:V) (u:Value) (Q:St->Hp->Prop),Inv X EF B H s->RelV v u->t v B H Q->
  wpAny (model X.prog X.w) X.A (assign target X.env u) (λ _ s'=>∃ B' H',Inv X EF B' H' s'/\Q B' H') X.xe s
def tM (X:Cx) (ts:List Expr) (t:sQ):Prop:=
 ∀ (EF:Ag) (s:Shared) (B:St) (H:Hp) (vs:List V) (us:Ae) (Q:St->Hp->Prop),Inv X EF B H s->Vals vs us->t vs B H Q->
  wpAny (model X.prog X.w) X.A (assignInOrder ((assignEach ts X.env).map (·.2)) us) (λ _ s'=>∃ B' H',Inv X EF B' H' s'/\Q B' H') X.xe s
abbrev fV:=V->V->V->Hp->(Hp->Prop)->Prop
def YA (X:Cx) (t:fV):Prop:=
 ∀ (EF:Ag) (s:Shared) (B:St) (H:Hp) (o i v:V) (ov iv u:Value) (Q:Hp->Prop),Inv X EF B H s->RelV o ov->RelV i iv->RelV v u->t o i v H Q->
  wpAny (model X.prog X.w) X.A (setItem ov iv u) (λ _ s'=>∃ H',Inv X EF B H' s'/\Q H') X.xe s
section
variable {X:Cx}{pos:Pos}
noncomputable def pU (i:Nat):TG:=λ v B H Q=>Q (B.set i (some v)) H
def Ub {i:Nat}{x:Str}(hN:X.N.Nodup) (hi:X.N[i]?=some x) (hx:Loc X.env.scope x) (hf:X.fn x=true\/X.env.scope.names.lookup x=some .local:=by first | exact .inl rfl | exact .inr rfl | assumption):PG X (.Name x pos) (pU i):=by
 intro EF s B H v u Q I r h
 exact wpAny_assign_Name (jF I hN hi hx r (λ s' I'=>⟨_,H,I',h⟩) hf)
noncomputable def Pb:sQ:=λ vs B H Q=>vs=[]/\Q B H
noncomputable def Pc (t:TG) (u:sQ):sQ:=λ vs B H Q=>∃ v r,vs=v::r/\t v B H fun B' H'=>u r B' H' Q
def VY:tM X [] Pb:=by
 intro EF s B H vs us Q I r h
 obtain⟨e,h⟩:=h
 subst e
 cases r
 exact assignInOrder_nil ⟨B,H,I,h⟩
def VZ {e:Expr}{es:List Expr}{t:TG}{u:sQ}(h1:PG X e t) (h2:tM X es u)
  (hs:(assignEach (e::es) X.env).map (·.2)=assign e X.env::(assignEach es X.env).map (·.2):=by rfl):tM X (e::es) (Pc t u):=by
 intro EF s B H vs us Q I r h
 obtain⟨v,vr,e1,h⟩:=h
 subst e1
 cases r with
 | cons r rr=>
  rw[hs]
  refine assignInOrder_cons (zC (h1 EF s B H _ _ _ I r h) λ _ s1 ⟨B1,H1,I1,q1⟩=>?_)
  exact h2 EF s1 B1 H1 _ _ Q I1 rr q1
noncomputable def Zs (K:Ac) (n:Nat) (t:sQ):TG:=λ v B H Q=>∃ a xs,v=.ref a/\zL K H a xs/\xs.length=n/\t xs B H Q
def V_ {es:List Expr}{k:Nat}{t:sQ}{n:Nat}(hc:X.calm=true) (h:tM X es t)
  (hn:(assignEach es X.env).length=n:=by rfl) (AV:(assignEach es X.env).findIdx? (·.1)=none:=by rfl):PG X (.Tuple es k pos) (Zs X.K n t):=by
 intro EF s B H v u Q I r hw
 obtain⟨a,xs,e1,hq,hl,hw⟩:=hw
 subst e1
 cases r
 obtain⟨its,rv,ht,hz⟩:=I.tuple hq
 refine assign_Tuple_tuple (I.ok.hd hc) ht (by simp[hn,<- hl,rv.length]) AV λ h' hx=>?_
 have I1:Inv X EF B H { s with heap:=h' }:=I.kept (t':=s.toks) λ b o e=>hx b o (Au (Am e)) e
 exact h EF _ B H xs _ Q I1 (by simpa using rv) hw
noncomputable def Pa (to ti:TE) (t:fV):TG:=λ v B H Q=>to B H λ o H1=>ti B H1 λ i H2=>t o i v H2 λ H3=>Q B H3
def Ua {o i:Expr}{to ti:TE}{t:fV}(ho:PE X o to) (hi:PE X i ti) (hs:YA X t)
  (ha:∀ v,assign (.Subscript o i pos) X.env v=(do
   let ov <- holding [v] (eval o X.env)
   let iv <- holding [v,ov] (eval i X.env)
   standAt pos
   holding [v,ov,iv] (setItem ov iv v)
   release [v,ov,iv] []):=by intro _;rfl):PG X (.Subscript o i pos) (Pa to ti t):=by
 intro EF s B H v u Q I r h
 rw[ha]
 refine Jg (J_ (zC (ho EF s B H _ I h) λ ov s1 ⟨x,H1,I1,r1,q1⟩=>?_))
 refine Jg (J_ (zC (hi EF s1 B H1 _ I1 q1) λ iv s2 ⟨y,H2,I2,r2,q2⟩=>?_))
 refine Jg (wpAny_standAt (Jg (J_ (zC (hs EF s2 B H2 x y v ov iv u _ I2 r1 r2 r q2) λ _ s3 ⟨H3,I3,q3⟩=>?_))))
 exact wpAny_release ⟨B,H3,I3,q3⟩
def oJ (te:TE) (g:TG):TS:=λ D B H=>te B H λ x H1=>g x B H1 D.nx
def cV {tg e:Expr}{te:TE}{g:TG}(he:PE X e te) (hg:PG X tg g) (hs:swapsWithSole [tg] e pos.line X.env=pure false:=by rfl) (hw:swappedStores [tg] e X.env=pure none:=by rfl)
  (h1:(assignEach [tg] X.env).map (·.2)=[assign tg X.env]:=by rfl):PS X (.Assign [tg] e pos) (oJ te g):=by
 intro EF s B H D I h
 refine wpAny_Assign_stores (zC (he EF s B H _ I h) λ v s1 ⟨x,H1,I1,r1,q1⟩=>?_) hs hw
 rw[h1]
 exact zC (hg EF s1 B H1 x v _ I1 r1 q1) λ _ s2 q=>q
def VC {i:Nat}{x:Str}{e:Expr}{te:TE}{pos':Pos}(hN:X.N.Nodup) (hi:X.N[i]?=some x) (hx:Loc X.env.scope x) (he:PE X e te) (hs:swapsWith e (some (.Name x pos')) pos.line X.env=pure false:=by rfl) (hf:X.fn x=true\/X.env.scope.names.lookup x=some .local:=by first | exact .inl rfl | exact .inr rfl | assumption):
  PS X (.Assign [.Name x pos'] e pos) (oJ te (pU i)):=by
 intro EF s B H D I h
 refine wpAny_Assign_Name (zC (he EF s B H _ I h) λ v s1 ⟨y,H1,I1,r1,q1⟩=>?_) hs
 exact jF I1 hN hi hx r1 (λ s2 I2=>⟨_,H1,I2,q1⟩) hf
def XO (c:TT) (tb:TS):TS:=λ D B H=>∃ W:Nat->St->Hp->Prop,(∃ m,W m B H)/\∀ m B H,W m B H->
 c B H λ b H1=>if b=true then ∃ N:St->Hp->Prop,(∀ B' H',N B' H'->∃ m',m'<m/\W m' B' H')/\tb { D with nx:=N,ct:=N,bk:=D.nx } B H1 else D.nx B H1
def VA {c:Expr}{body:List Stmt}{tc:TT}{tb:TS}(hp:PassesOwn (model X.prog X.w) X.A X.env X.xe) (hc:PT X c tc) (hb:xP X body tb):PS X (.While c body [] pos) (XO tc tb):=by
 intro EF s B H D I h
 obtain⟨W,⟨m0,w0⟩,turn⟩:=h
 refine wpAny_While (codeAny_whileLoop (λ n s'=>∃ B' H',Inv X EF B' H' s'/\W n B' H') ?_ m0 ⟨B,H,I,w0⟩)
 rintro n s1 ⟨B1,H1,I1,w1⟩
 refine Ks hp (zC (hc EF s1 B1 H1 _ I1 (turn n B1 H1 w1)) λ b s2 ⟨H2,I2,q2⟩=>?_)
 cases b with
 | true=>
  obtain⟨N,hN,q2⟩:=q2
  rw[if_pos rfl]
  refine Ks hp (zC (hb EF s2 B1 H2 _ I2 q2) λ f s3 q3=>?_)
  cases f with
  | next=>
   obtain⟨B3,H3,I3,n3⟩:=q3
   obtain⟨m',hm,w3⟩:=hN B3 H3 n3
   exact⟨m',hm,B3,H3,I3,w3⟩
  | cont=>
   obtain⟨B3,H3,I3,n3⟩:=q3
   obtain⟨m',hm,w3⟩:=hN B3 H3 n3
   exact⟨m',hm,B3,H3,I3,w3⟩
  | brk=>exact q3
  | ret v=>exact q3
 | false=>
  rw[if_neg BB]
  exact wpAny_execs_nil ⟨B1,H2,I2,q2⟩
end
structure It where
 go:Nat->Hp->Prop
 qT:Nat->Hp->V->Hp->Prop
 stop:Nat->Hp->Prop
def vS (X:Cx) (EF:Ag) (H:Hp) (b:Addr):Prop:=
 H b=none/\b≠X.env.locals/\b∉X.fs/\(b∈X.ex\/X.s₀.heap.objs.size<=b)/\(∀ x c,X.env.cells.lookup x=some c->c≠b)/\∀ p∈X.pn++EF,p.1≠b
def Inv.nU {X:Cx}{EF:Ag}{B:St}{H H':Hp}{s:Shared}{b:Addr}(I:Inv X EF B H s) (hb:s.heap.objs.size<=b) (hn:H' b=none):vS X EF H' b:=by
 refine⟨hn,BA (Ba I.lt hb),I.bS hb,.inr (Bk I.sz hb),λ x c e z=>?_,λ p hp z=>?_⟩
 ·obtain⟨v,q⟩:=I.cell x c e
  exact absurd (Ba q.lt (by rw[z];exact hb)) (BU _)
 ·exact absurd (Ba (Am (I.pin p hp).1) (by rw[z];exact hb)) (BU _)
structure Turn (P:Program) (w:World) (K:Ac) (tg:Expr) (J:It) (fp:List Addr) (it:Addr) (tn:Nat->Heap->Prop):Prop where
 mem:it∈fp
 obj:∀ i h,tn i h->∀ b∈fp,∃ o,h.get? b=some o/\∀ v,o.data≠.cell v
 keep:∀ i h h',tn i h->(∀ b∈fp,∀ o,h.get? b=some o->h'.get? b=some o)->tn i h'
 item:∀ (X:Cx),X.prog=P->X.w=w->X.K=K->X.calm=true->∀ (i:Nat) (EF:Ag) (s:Shared) (B:St) (H:Hp) (E:Ad),Inv X EF B H s->(∀ b∈fp,vS X EF H b)->tn i s.heap->J.go i H->
  wpAny (model P w) X.A (pyNext (.ref it)) (λ r s1=>∃ u,r=some u/\
   wpAny (model P w) X.A (letOwnedTupleGo tg (.ref it) u) (λ _ s2=>∃ x H',Inv X EF B H' s2/\RelV x u/\J.qT i H x H'/\tn (i+1) s2.heap/\∀ b∈fp,H' b=none) E s1) E s
 done:∀ (X:Cx),X.prog=P->X.w=w->X.K=K->X.calm=true->∀ (i:Nat) (EF:Ag) (s:Shared) (B:St) (H:Hp) (E:Ad),Inv X EF B H s->(∀ b∈fp,vS X EF H b)->tn i s.heap->J.stop i H->
  wpAny (model P w) X.A (pyNext (.ref it)) (λ r s1=>r=none/\Inv X EF B H s1) E s
 self:∀ (A:Around) (i:Nat) (s:Shared) (Q:Ad) (E:Ad),tn i s.heap->Q (.ref it) s->wpAny (model P w) A (pyIter (.ref it)) Q E s
abbrev TI:=St->Hp->(It->Hp->Prop)->Prop
def fW (X:Cx) (EF:Ag) (B:St) (tg:Expr) (R:It->Hp->Prop) (IX:Value) (s2:Shared):Prop:=
 ∃ (it:Addr) (fp:List Addr) (tn:Nat->Heap->Prop) (J:It) (H':Hp),IX=.ref it/\Inv X EF B H' s2/\Turn X.prog X.w X.K tg J fp it tn/\tn 0 s2.heap/\(∀ b∈fp,vS X EF H' b)/\R J H'
def PI (X:Cx) (tg iter:Expr) (wi:TI):Prop:=
 ∀ (EF:Ag) (s:Shared) (B:St) (H:Hp) (R:It->Hp->Prop),Inv X EF B H s->wi B H R->
  wpAny (model X.prog X.w) X.A (eval iter X.env) (λ v s1=>wpAny (model X.prog X.w) X.A (pyIter v) (fW X EF B tg R) X.xe s1) X.xe s
def kB {M:Model}{A:Around}{E:Ad}{s:Shared}{tg:Expr}{it:Addr}{u:Value}{o:Obj}{n:String}{vs:Ap}{Q:Unit->Shared->Prop}(ho:s.heap.get? it=some o) (hc:o.cls=.type n) (hd:o.data=.fields vs)
  (hn:["enumerate","zip","dict_itemiterator","dict_reverseitemiterator","odict_iterator","itertools.zip_longest","itertools.pairwise"].contains n=false) (hQ:Q () s):wpAny M A (letOwnedTupleGo tg (.ref it) u) Q E s:=by
 unfold letOwnedTupleGo
 cases tg <;> first
  | exact Ab hQ
  | (cases u <;> first
    | exact Ab hQ
    | (refine Jg (wpAny_load ho ?_)
       rw[hc,hd]
       show wpAny M A (if (["enumerate","zip","dict_itemiterator","dict_reverseitemiterator","odict_iterator","itertools.zip_longest","itertools.pairwise"].contains n&&vs[0]? == some (rawInt _))=true then _ else _) Q E s
       rw[if_neg (by intro h;rw[hn,Bool.false_and] at h;cases h)]
       exact Ab hQ))
def YH (K:Ac) (a:Addr):It:=
 ⟨λ i H=>∃ xs x,zJ K H a xs/\xs[i]?=some x,λ i H x H'=>H'=H/\∀ xs,zJ K H a xs->xs[i]?=some x,λ i H=>∃ xs,zJ K H a xs/\xs.length<=i⟩
def YG (K:Ac) (a:Addr):It:=
 ⟨λ i H=>∃ xs x,zL K H a xs/\xs[i]?=some x,λ i H x H'=>H'=H/\∀ xs,zL K H a xs->xs[i]?=some x,λ i H=>∃ xs,zL K H a xs/\xs.length<=i⟩
def je (lo:Int) (n:Nat):It:=⟨λ i _=>i<n,λ i H x H'=>H'=H/\x=.int (lo+i),λ i _=>n<=i⟩
def XF {P:Program}{w:World}{K:Ac}{tg:Expr}(a it:Addr):Turn P w K tg (YH K a) [it] it (λ i h=>h.IsListIter it a i) where
 mem:=by simp
 obj:=λ i h st b hb=>by
  have e:b=it:=by simpa using hb
  subst e
  obtain⟨o,e,c,d⟩:=st
  exact⟨o,e,λ v z=>by rw[d] at z;cases z⟩
 keep:=λ i h h' st k=>st.at λ o e=>k it (by simp) o e
 item:=by
  intro X hP hw hK hc i EF s B H E I hf st hg
  subst hP hw hK
  obtain⟨xs,x,hq,hx⟩:=hg
  obtain⟨its,rv,p,hz⟩:=I.list hq
  obtain⟨u,hu,ru⟩:=rv.get hx
  obtain⟨f0,f1,f2,f3,f4,f5⟩:=hf it (by simp)
  refine wpAny_pyNext_list_item st p.isList (x:=u) (by simpa using hu) λ h' Ga sb=>?_
  have I1:Inv X EF B H { s with heap:=h' }:=I.turned (t':=s.toks) (λ b o hb e=>(sb.2 b hb).trans e) f0 f1 f3 f4 f5
  obtain⟨o,e,c,d⟩:=id Ga
  exact⟨u,rfl,kB (s:={ s with heap:=h' }) e c d (by decide) ⟨x,H,I1,ru,⟨rfl,λ ys hy=>by rw[I.gs hy hq];exact hx⟩,Ga,λ b hb=>(hf b hb).1⟩⟩
 done:=by
  intro X hP hw hK hc i EF s B H E I hf st hg
  subst hP hw hK
  obtain⟨xs,hq,hx⟩:=hg
  obtain⟨its,rv,p,hz⟩:=I.list hq
  obtain⟨f0,f1,f2,f3,f4,f5⟩:=hf it (by simp)
  have hl:=rv.length
  exact wpAny_pyNext_list_end (I.ok.hd hc) st p.isList (by simp;lia) λ h' eb=>⟨rfl,I.turned (t':=s.toks) (λ b o hb e=>eb b o hb e) f0 f1 f3 f4 f5⟩
 self:=λ _ _ _ _ _ st h=>wpAny_pyIter_listiter st h
def XC {P:Program}{w:World}{K:Ac}{tg:Expr}(a it:Addr):Turn P w K tg (YG K a) [it] it (λ i h=>h.IsTupleIter it a i) where
 mem:=by simp
 obj:=λ i h st b hb=>by
  have e:b=it:=by simpa using hb
  subst e
  obtain⟨o,e,c,d⟩:=st
  exact⟨o,e,λ v z=>by rw[d] at z;cases z⟩
 keep:=λ i h h' st k=>st.at λ o e=>k it (by simp) o e
 item:=by
  intro X hP hw hK hc i EF s B H E I hf st hg
  subst hP hw hK
  obtain⟨xs,x,hq,hx⟩:=hg
  obtain⟨its,rv,p,hz⟩:=I.tuple hq
  obtain⟨u,hu,ru⟩:=rv.get hx
  obtain⟨f0,f1,f2,f3,f4,f5⟩:=hf it (by simp)
  refine wpAny_pyNext_tuple_item st (show s.heap.IsTuple a its.toArray from p) (x:=u) (by simpa using hu) λ h' Ga sb=>?_
  have I1:Inv X EF B H { s with heap:=h' }:=I.turned (t':=s.toks) (λ b o hb e=>(sb.2 b hb).trans e) f0 f1 f3 f4 f5
  obtain⟨o,e,c,d⟩:=id Ga
  exact⟨u,rfl,kB (s:={ s with heap:=h' }) e c d (by decide) ⟨x,H,I1,ru,⟨rfl,λ ys hy=>by rw[I.j8 hy hq];exact hx⟩,Ga,λ b hb=>(hf b hb).1⟩⟩
 done:=by
  intro X hP hw hK hc i EF s B H E I hf st hg
  subst hP hw hK
  obtain⟨xs,hq,hx⟩:=hg
  obtain⟨its,rv,p,hz⟩:=I.tuple hq
  obtain⟨f0,f1,f2,f3,f4,f5⟩:=hf it (by simp)
  have hl:=rv.length
  exact wpAny_pyNext_tuple_end (I.ok.hd hc) st (show s.heap.IsTuple a its.toArray from p) (by simp;lia) λ h' eb=>⟨rfl,I.turned (t':=s.toks) (λ b o hb e=>eb b o hb e) f0 f1 f3 f4 f5⟩
 self:=λ _ _ _ _ _ st h=>wpAny_pyIter_tupleiter st h
def XE {P:Program}{w:World}{K:Ac}{tg:Expr}(it:Addr) (lo:Int) (n:Nat):Turn P w K tg (je lo n) [it] it (λ i h=>IsRangeIter h it (lo+(i:Nat)*1) ((n:Int)-(i:Nat)) 1) where
 mem:=by simp
 obj:=λ i h st b hb=>by
  have e:b=it:=by simpa using hb
  subst e
  exact⟨_,st,λ v z=>by
   have z':Data.fields _=Data.cell v:=z
   cases z'⟩
 keep:=λ i h h' st k=>k it (by simp) _ st
 item:=by
  intro X hP hw hK hc i EF s B H E I hf st hg
  subst hP hw hK
  obtain⟨f0,f1,f2,f3,f4,f5⟩:=hf it (by simp)
  have W:=Walks.range (prog:=X.prog) (w:=X.w) (I.ok.hd hc) it lo 1 n
  refine W.item i s _ _ hg st λ v h' tk hv Ga kk=>?_
  obtain⟨t,rfl⟩:=hv
  have I1:Inv X EF B H { s with heap:=h',toks:=tk }:=I.turned (λ b o hb e=>kk b o (by simpa using hb) e) f0 f1 f3 f4 f5
  refine⟨_,rfl,kB (s:={ s with heap:=h',toks:=tk }) (n:="range_iterator") Ga rfl rfl (by decide) ⟨.int (lo+i),H,I1,⟨t,?_⟩,⟨rfl,rfl⟩,Ga,λ b hb=>(hf b hb).1⟩⟩
  rw[Int.mul_one]
 done:=by
  intro X hP hw hK hc i EF s B H E I hf st hg
  subst hP hw hK
  obtain⟨f0,f1,f2,f3,f4,f5⟩:=hf it (by simp)
  exact wpAny_pyNext_range_end (I.ok.hd hc) st (by have:n<=i:=hg;lia) λ h' eb=>⟨rfl,I.turned (t':=s.toks) (λ b o hb e=>eb b o hb e) f0 f1 f3 f4 f5⟩
 self:=λ _ _ _ _ _ st h=>wpAny_pyIter_rangeiter st h
section
variable {X:Cx}{tg:Expr}
def Vp {EF:Ag}{B:St}{H:Hp}{s:Shared}{R:It->Hp->Prop}{E:Ad}{lo hi:Int}{t u v:Tok}{tk:Nat}(I:Inv X EF B H s) (h1:-(2 ^ 62)<=lo) (h2:lo<2 ^ 62) (h3:-(2 ^ 62)<=hi) (h4:hi<2 ^ 62)
  (q:R (je lo (hi-lo).toNat) H):wpAny (model X.prog X.w) X.A (pyIter (.ref s.heap.objs.size)) (fW X EF B tg R) E { s with heap:=s.heap.push { cls:=.type "range",data:=.fields #[.int lo t,.int hi u,.int 1 v] },toks:=tk }:=by
 refine wpAny_pyIter_range (IsRange.new ..) (small_one h1 h2 h3 h4) ?_
 have I1:Inv X EF B H { s with heap:=s.heap.push { cls:=.type "range",data:=.fields #[.int lo t,.int hi u,.int 1 v] },toks:=tk }:=I.kept λ b o e=>J9 _ e
 refine⟨(s.heap.push { cls:=.type "range",data:=.fields #[.int lo t,.int hi u,.int 1 v] }).objs.size,[(s.heap.push { cls:=.type "range",data:=.fields #[.int lo t,.int hi u,.int 1 v] }).objs.size],_,_,H,rfl,
  I1.kept (t':=tk) λ b o e=>J9 _ e,XE _ lo (hi-lo).toNat,?_,λ b hb=>?_,q⟩
 ·have e1:lo+((0:Nat):Int)*1=lo:=by simp
  have e2:(((hi-lo).toNat:Nat):Int)-((0:Nat):Int)=Builtin.Range.rangeSize lo hi 1:=by rw[rangeSize_one];split <;> lia
  show IsRangeIter _ _ (lo+((0:Nat):Int)*1) ((((hi-lo).toNat:Nat):Int)-((0:Nat):Int)) 1
  rw[e1,e2]
  exact AD _ rfl
 ·have e:b=(s.heap.push { cls:=.type "range",data:=.fields #[.int lo t,.int hi u,.int 1 v] }).objs.size:=by simpa using hb
  subst e
  exact I1.nU (Ah _) (I1.zw.fresh (Ah _))
def Zj (ta:TA):TI:=fun B H R=>ta B H λ vs H1=>∃ j:Int,vs=[.int j]/\-(2 ^ 62)<=j/\j<2 ^ 62/\R (je 0 j.toNat) H1
def VW {a:Expr}{ta:TA}{p pos:Pos}(hg:Gl X "range") (hm:X.mg "range"=none) (ha:PA X [a] ta) (hs:starEach [a] X.env=[(false,eval a X.env)]:=by rfl):PI X tg (.Call (.Name "range" p) [a] [] pos) (Zj ta):=by
 intro EF s B H R I h
 refine Call_ (rF I hg hm boot_range (PyProof.Rows.callWith_type1 (zC (ha pos EF s B H _ I h) λ us s1 ⟨vs,H1,I1,r1,q1⟩=>?_) hs rfl))
 obtain⟨j,e,q1,q2,q⟩:=q1
 subst e
 cases r1 with
 | cons r rr=>
  cases rr
  obtain⟨t,rfl⟩:=r
  exact call_range_1 (Vp I1 (by lia) (by lia) q1 q2 (by simpa using q))
def Wf (wi:TI) (g:TG) (tb:TS):TS:=λ D B H=>wi B H λ J H1=>∃ W:Nat->Nat->St->Hp->Prop,(∃ m,W 0 m B H1)/\∀ i m B H,W i m B H->
 (J.stop i H/\D.nx B H)\/(J.go i H/\∃ N:St->Hp->Prop,(∀ B' H',N B' H'->∃ m',m'<m/\W (i+1) m' B' H')/\∀ x H',J.qT i H x H'->g x B H' fun B2 H2=>tb { D with nx:=N,ct:=N,bk:=D.nx } B2 H2)
noncomputable def nh (fp:List Addr) (h:Heap):Ag:=fp.filterMap λ b=>(h.get? b).map λ o=>(b,o)
def ko {fp:List Addr}{h:Heap}{b:Addr}{o:Obj}(hb:b∈fp) (e:h.get? b=some o):(b,o)∈nh fp h:=D2.mpr ⟨b,hb,by rw[e];rfl⟩
def Ru {fp:List Addr}{h:Heap}{p:Addr×Obj}(hp:p∈nh fp h):p.1∈fp/\h.get? p.1=some p.2:=by
 obtain⟨b,hb,e⟩:=D2.mp hp
 cases q:h.get? b with
 | none=>rw[q] at e;cases e
 | some o=>
  rw[q] at e
  have e':(b,o)=p:=A4 e
  subst e'
  exact⟨hb,q⟩
def Inv.pinned {EF:Ag}{B:St}{H:Hp}{s:Shared}{fp:List Addr}(I:Inv X EF B H s) (hf:∀ b∈fp,vS X EF H b) (ho:∀ b∈fp,∃ o,s.heap.get? b=some o/\∀ v,o.data≠.cell v):Inv X (EF++nh fp s.heap) B H s:=
 I.iG λ p hp=>(AY.mp hp).elim (λ z=>I.pin p (AX _ z)) λ z=>by
  obtain⟨hb,e⟩:=Ru z
  obtain⟨f0,f1,f2,_⟩:=hf p.1 hb
  obtain⟨o,e',d⟩:=ho p.1 hb
  rw[e] at e';cases e'
  exact⟨e,f0,f1,f2,d⟩
def Inv.oG {EF pl:Ag}{B:St}{H:Hp}{s:Shared}(I:Inv X (EF++pl) B H s):Inv X EF B H s:=I.iG λ p hp=>I.pin p (AX _ (Cr _ hp))
def VF {iter:Expr}{body:List Stmt}{wi:TI}{g:TG}{tb:TS}{pos:Pos}(hp:PassesOwn (model X.prog X.w) X.A X.env X.xe) (hc:X.calm=true) (hi:PI X tg iter wi) (hg:PG X tg g) (hb:xP X body tb)
  (hs:∀ x,foldedSetIterable iter X.env x=pure x:=by intro _;rfl):PS X (.For tg iter body [] pos) (Wf wi g tb):=by
 intro EF s B H D I h
 refine wpAny_For (zC (hi EF s B H _ I h) λ v s1 h1=>zC h1 λ IX s2 h2=>?_) hs
 obtain⟨it,fp,tn,J,H2,e,I2,T,H_,f2,W,⟨m0,w0⟩,turn⟩:=h2
 subst e
 have Gm:∀ {H':Hp},(∀ b∈fp,H' b=none)->∀ b∈fp,vS X EF H' b:=λ hn b hb=>⟨hn b hb,(f2 b hb).2⟩
 refine codeAny_forLoop_any (λ n s'=>∃ i B' H',Inv X EF B' H' s'/\tn i s'.heap/\(∀ b∈fp,H' b=none)/\W i n B' H') ?_ m0 ⟨0,B,H2,I2,H_,λ b hb=>(f2 b hb).1,w0⟩
 rintro n s3 ⟨i,B3,H3,I3,HZ,IG,w3⟩
 rcases turn i n B3 H3 w3 with ⟨stop,qn⟩ | ⟨go,N,hN,step⟩
 ·refine Ks hp (zC (T.done X rfl rfl rfl hc i EF s3 B3 H3 X.xe I3 (Gm IG) HZ stop) λ r s4 ⟨hr,I4⟩=>?_)
  subst hr
  exact wpAny_execs_nil ⟨B3,H3,I4,qn⟩
 ·refine Ks hp (zC (T.item X rfl rfl rfl hc i EF s3 B3 H3 X.xe I3 (Gm IG) HZ go) λ r s4 ⟨u,hr,h4⟩=>?_)
  subst hr
  refine Ks hp (zC h4 λ _ s5 ⟨x,H5,I5,r5,y5,Ht,JW⟩=>?_)
  have J8:=I5.pinned (Gm JW) (T.obj _ _ Ht)
  refine Ks hp (zC (hg _ s5 B3 H5 x u _ J8 r5 (step x H5 y5)) λ _ s6 ⟨B6,H6,I6,q6⟩=>?_)
  refine Ks hp (zC (hb _ s6 B6 H6 _ I6 q6) λ f s7 q7=>?_)
  have again:∀ {B7:St}{H7:Hp},Inv X (EF++nh fp s5.heap) B7 H7 s7->N B7 H7->∃ m,m<n/\∃ i B' H',Inv X EF B' H' s7/\tn i s7.heap/\(∀ b∈fp,H' b=none)/\W i m B' H':=λ{B7 H7} I7 n7=>by
   obtain⟨m',hm,w7⟩:=hN B7 H7 n7
   refine⟨m',hm,i+1,B7,H7,I7.oG,T.keep _ _ _ Ht λ b hb o e=>(I7.pin (b,o) (AX _ (AX _ (ko hb e)))).1,λ b hb=>?_,w7⟩
   obtain⟨o,e,d⟩:=T.obj _ _ Ht b hb
   exact (I7.pin (b,o) (AX _ (AX _ (ko hb e)))).2.1
  cases f with
  | brk=>obtain⟨B7,H7,I7,q7⟩:=q7;exact⟨B7,H7,I7.oG,q7⟩
  | ret v=>obtain⟨x7,B7,H7,I7,r7,q7⟩:=q7;exact⟨x7,B7,H7,I7.oG,r7,q7⟩
  | _=>obtain⟨B7,H7,I7,n7⟩:=q7;exact again I7 n7
end
abbrev R2:=V->V->Hp->VK->Prop
def ya (X:Cx) (f:Value->Value->Sem Value) (r:R2):Prop:=
 ∀ (EF:Ag) (s:Shared) (B:St) (H:Hp) (x y:V) (v u:Value) (Q:VK),Inv X EF B H s->RelV x v->RelV y u->r x y H Q->
  wpAny (model X.prog X.w) X.A (f v u) (EP X EF B Q) X.xe s
def fT (X:Cx) (f:Value->Sem Value) (r:V->Hp->VK->Prop):Prop:=
 ∀ (EF:Ag) (s:Shared) (B:St) (H:Hp) (x:V) (v:Value) (Q:VK),Inv X EF B H s->RelV x v->r x H Q->
  wpAny (model X.prog X.w) X.A (f v) (EP X EF B Q) X.xe s
def y8 (X:Cx) (f:Value) (r:List V->Hp->VK->Prop):Prop:=
 ∀ (EF:Ag) (s:Shared) (B:St) (H:Hp) (xs:List V) (us:Ae) (Q:VK),Inv X EF B H s->Vals xs us->r xs H Q->
  wpAny (model X.prog X.w) X.A (call f us) (EP X EF B Q) X.xe s
def Nl (X:Cx) (r:V->Hp->(Bool->Hp->Prop)->Prop):Prop:=
 ∀ (EF:Ag) (s:Shared) (B:St) (H:Hp) (x:V) (v:Value) (Q:Bool->Hp->Prop),Inv X EF B H s->RelV x v->r x H Q->
  wpAny (model X.prog X.w) X.A (truthy v) (TP X EF B Q) X.xe s
def oH (r:R2) (ta tb:TE):TE:=fun B H Q=>ta B H λ x H1=>tb B H1 λ y H2=>r x y H2 Q
def XQ (r:V->Hp->VK->Prop) (ta:TE):TE:=fun B H Q=>ta B H λ x H1=>r x H1 Q
def rI (C:Int->Int->Prop) (g:Int->Int->V):R2:=λ x y H Q=>∃ i j,x=.int i/\y=.int j/\C i j/\Q (g i j) H
def v9 (g:Int->Int->V):R2:=λ x y H Q=>∃ i j,x=.int i/\y=.int j/\Q (g i j) H
def rU (g:Int->V):V->Hp->VK->Prop:=λ x H Q=>∃ i,x=.int i/\Q (g i) H
section
variable {X:Cx}{a b:Expr}{ta tb:TE}{pos:Pos}
def fF (ha:PE X a ta) (hb:PE X b tb) {EF:Ag}{s:Shared}{B:St}{H:Hp}{R:V->V->Hp->Prop}(I:Inv X EF B H s)
  (h:ta B H λ x H1=>tb B H1 λ y H2=>R x y H2) {Q:Ad}{f:Value->Value->Sem Value}
  (hf:∀ v u s2 x y H2,Inv X EF B H2 s2->RelV x v->RelV y u->R x y H2->wpAny (model X.prog X.w) X.A (f v u) Q X.xe s2):
  wpAny (model X.prog X.w) X.A (eval a X.env) (λ v s₁=>wpAny (model X.prog X.w) X.A (eval b X.env) (λ u s₂=>wpAny (model X.prog X.w) X.A (f v u) Q X.xe s₂) X.xe s₁) X.xe s:=by
 refine zC (ha EF s B H _ I h) λ v s1 ⟨x,H1,I1,r1,q1⟩=>?_
 refine zC (hb EF s1 B H1 _ I1 q1) λ u s2 ⟨y,H2,I2,r2,q2⟩=>?_
 exact hf v u s2 x y H2 I2 r1 r2 q2
def Ul {op:Operator}{r:R2}(ho:ya X (binaryOp op) r) (ha:PE X a ta) (hb:PE X b tb):PE X (.BinOp a op b pos) (oH r ta tb):=by
 intro EF s B H Q I h
 exact wpAny_BinOp (fF ha hb I h λ v u s2 x y H2 I2 rx ry q=>ho EF s2 B H2 x y v u Q I2 rx ry q)
def Uh {op:UnaryOp}{r:V->Hp->VK->Prop}(ho:fT X (unaryOp op) r) (ha:PE X a ta):PE X (.UnaryOp op a pos) (XQ r ta):=by
 intro EF s B H Q I h
 exact UnaryOp_ (zC (ha EF s B H _ I h) λ v s1 ⟨x,H1,I1,r1,q1⟩=>ho EF s1 B H1 x v Q I1 r1 q1)
def pA {f:Value->Value->Sem Value}{C:Int->Int->Prop}{g:Int->Int->Int}
  (rule:∀ (i j:Int) (t u:Tok) (s:Shared) (Q:Ad) (E:Ad),C i j->Q (.int (g i j) s.toks) { s with toks:=s.toks+1 }->wpAny (model X.prog X.w) X.A (f (.int i t) (.int j u)) Q E s):
  ya X f (rI C λ i j=>.int (g i j)):=by
 intro EF s B H x y v u Q I rx ry h
 obtain⟨i,j,rfl,rfl,hc,q⟩:=h
 obtain⟨t,rfl⟩:=rx
 obtain⟨t',rfl⟩:=ry
 exact rule i j t t' s _ _ hc ⟨.int (g i j),H,I.tok _,⟨_,rfl⟩,q⟩
def bH {f:Value->Value->Sem Value}{g:Int->Int->Int}
  (rule:∀ (i j:Int) (t u:Tok) (s:Shared) (Q:Ad) (E:Ad),Q (.int (g i j) s.toks) { s with toks:=s.toks+1 }->wpAny (model X.prog X.w) X.A (f (.int i t) (.int j u)) Q E s):
  ya X f (v9 λ i j=>.int (g i j)):=by
 intro EF s B H x y v u Q I rx ry h
 obtain⟨i,j,rfl,rfl,q⟩:=h
 obtain⟨t,rfl⟩:=rx
 obtain⟨t',rfl⟩:=ry
 exact rule i j t t' s _ _ ⟨.int (g i j),H,I.tok _,⟨_,rfl⟩,q⟩
def iV {f:Value->Value->Sem Value}{g:Int->Int->Bool}
  (rule:∀ (i j:Int) (t u:Tok) (s:Shared) (Q:Ad) (E:Ad),Q (.bool (g i j)) s->wpAny (model X.prog X.w) X.A (f (.int i t) (.int j u)) Q E s):
  ya X f (v9 λ i j=>.bl (g i j)):=by
 intro EF s B H x y v u Q I rx ry h
 obtain⟨i,j,rfl,rfl,q⟩:=h
 obtain⟨t,rfl⟩:=rx
 obtain⟨t',rfl⟩:=ry
 exact rule i j t t' s _ _ ⟨.bl (g i j),H,I,rfl,q⟩
def xQ (i j:Int):Prop:=0<j/\j<1073741824
def rb (i j:Int):Prop:=0<=j/\j<=1000000/\i.natAbs<2 ^ 64
def vU (i j:Int):Prop:=(-(2 ^ 64)<i/\i<2 ^ 64)\/(-(2 ^ 64)<j/\j<2 ^ 64)
def vU.ok {i j:Int}(h:vU i j):IntMulOk i j:=by
 rcases h with ⟨h1,h2⟩ | ⟨h1,h2⟩
 ·exact .of_left (intBits_le_64 h1 h2)
 ·exact .of_right (intBits_le_64 h1 h2)
def T9:ya X (binaryOp .Add) (v9 λ i j=>.int (i+j)):=bH λ _ _ _ _ _ _ _ q=>add_int q
def Tg:ya X (binaryOp .Sub) (v9 λ i j=>.int (i-j)):=bH λ _ _ _ _ _ _ _ q=>sub_int q
def Ts:ya X (binaryOp .Mult) (rI vU λ i j=>.int (i*j)):=pA λ _ _ _ _ _ _ _ hc q=>mul_int q hc.ok
def T3:ya X (binaryOp .FloorDiv) (rI xQ λ i j=>.int (i/j)):=pA λ i j _ _ _ _ _ hc q=>by
 have h1:(0:Int)<j:=hc.1
 have h2:j<1073741824:=hc.2
 exact floordiv_int (by lia) (by rw[Int.fdiv_eq_ediv_of_nonneg i (by lia)];exact q) (.inl (PyProof.noPylong_small (by lia)))
def Tt:ya X (binaryOp .Mod) (rI (λ _ j=>0<j) λ i j=>.int (i%j)):=pA λ i j _ _ _ _ _ hc q=>by
 have h1:(0:Int)<j:=hc
 exact mod_int' (by lia) (by rw[Int.fmod_eq_emod_of_nonneg i (by lia)];exact q)
def Th:ya X (binaryOp .Pow) (rI rb λ i j=>.int (i ^ j.toNat)):=pA λ _ _ _ _ _ _ _ hc q=>pow_int_small hc.1 hc.2.1 hc.2.2 q
def X7 {f:Value->Sem Value}{g:Int->Int}
  (rule:∀ (i:Int) (t:Tok) (s:Shared) (Q:Ad) (E:Ad),Q (.int (g i) s.toks) { s with toks:=s.toks+1 }->wpAny (model X.prog X.w) X.A (f (.int i t)) Q E s):
  fT X f (rU λ i=>.int (g i)):=by
 intro EF s B H x v Q I rx h
 obtain⟨i,rfl,q⟩:=h
 obtain⟨t,rfl⟩:=rx
 exact rule i t s _ _ ⟨.int (g i),H,I.tok _,⟨_,rfl⟩,q⟩
def X6:fT X (unaryOp .USub) (rU λ i=>.int (-i)):=X7 λ _ _ _ _ _ q=>neg_int q
end
section
variable {X:Cx}{a b c:Expr}{ta tb tc:TE}{pos:Pos}
def Z2 {EF:Ag}{B:St}{H:Hp}{s:Shared}{Q:VK}{k k':Bool}(I:Inv X EF B H s) (q:Q (.bl k) H) (e:k=k'):EP X EF B Q (.bool k') s:=by
 subst e
 exact⟨.bl k,H,I,rfl,q⟩
def Tw:ya X (compareOp .Lt) (v9 λ i j=>.bl (decide (i<j))):=iV λ _ _ _ _ _ _ _ q=>lt_int q
def iU:ya X (compareOp .LtE) (v9 λ i j=>.bl (decide (i<=j))):=iV λ _ _ _ _ _ _ _ q=>le_int q
def Tz:ya X (compareOp .GtE) (v9 λ i j=>.bl (decide (j<=i))):=iV λ _ _ _ _ _ _ _ q=>ge_int q
def bD:ya X (compareOp .Is) (λ x y H Q=>y=.zm/\Q (.bl (decide (x=.zm))) H):=by
 intro EF s B H x y v u Q I rx ry h
 obtain⟨rfl,q⟩:=h
 cases ry
 refine is_none_gen (Z2 I q ?_)
 cases x <;> first
  | (cases rx;rfl)
  | (obtain⟨t,rfl⟩:=rx;rfl)
def Ti:ya X (compareOp .IsNot) (λ x y H Q=>y=.zm/\Q (.bl (!decide (x=.zm))) H):=by
 intro EF s B H x y v u Q I rx ry h
 obtain⟨rfl,q⟩:=h
 cases ry
 refine isnot_none_gen (Z2 I q ?_)
 cases x <;> first
  | (cases rx;rfl)
  | (obtain⟨t,rfl⟩:=rx;rfl)
def ya.or {f:Value->Value->Sem Value}{r r':R2}(h:ya X f r) (h':ya X f r'):ya X f (λ x y H Q=>r x y H Q\/r' x y H Q):=by
 intro EF s B H x y v u Q I rx ry q
 rcases q with q | q
 ·exact h EF s B H x y v u Q I rx ry q
 ·exact h' EF s B H x y v u Q I rx ry q
def sy (b:Expr) {op:CmpOp}(h:op≠.In:=by decide) (h2:op≠.NotIn:=by decide):behindInMarks op b=false:=by
 have e1:(op == CmpOp.In)=false:=by cases op <;> first | rfl | exact absurd rfl h
 have e2:(op == CmpOp.NotIn)=false:=by cases op <;> first | rfl | exact absurd rfl h2
 cases b <;> simp[behindInMarks,e1,e2]
def U1 {op:CmpOp}{r:R2}(ho:ya X (compareOp op) r) (ha:PE X a ta) (hb:PE X b tb) (hm:behindInMarks op b=false):PE X (.Compare a [op] [b] pos) (oH r ta tb):=by
 intro EF s B H Q I h
 exact wpAny_Compare1 (fF ha hb I h λ v u s2 x y H2 I2 rx ry q=>ho EF s2 B H2 x y v u Q I2 rx ry q) hm
def XS (t:TE):TT:=fun B H Q=>t B H λ x H'=>∃ k,x=.bl k/\Q k H'
def V6 {op:CmpOp}{r:R2}(ho:ya X (compareOp op) r) (ha:PE X a ta) (hb:PE X b tb) (hm:behindInMarks op b=false):PT X (.Compare a [op] [b] pos) (XS (oH r ta tb)):=by
 intro EF s B H Q I h
 refine wpAny_isTrue_Compare1 (zC (ha EF s B H _ I h) λ v s1 ⟨x,H1,I1,r1,q1⟩=>zC (hb EF s1 B H1 _ I1 q1) λ u s2 ⟨y,H2,I2,r2,q2⟩=>
  zC (ho EF s2 B H2 x y v u _ I2 r1 r2 q2) λ c s3 ⟨z,H3,I3,r3,k,e,q3⟩=>?_) hm
 subst e
 cases r3
 exact Ko ⟨H3,I3,q3⟩
def dM (r r':R2) (ta tb tc:TE):TE:=fun B H Q=>ta B H λ x H1=>tb B H1 λ y H2=>r x y H2 λ z H3=>∃ k,z=.bl k/\
 (if k=true then tc B H3 λ w' H4=>r' y w' H4 Q else Q (.bl false) H3)
def U3 {op Hw:CmpOp}{r r':R2}(ho:ya X (compareOp op) r) (FT:ya X (compareOp Hw) r') (ha:PE X a ta) (hb:PE X b tb) (hc:PE X c tc)
  (hm:lastMarks [op,Hw] [b,c]=false:=by with_unfolding_all rfl):PE X (.Compare a [op,Hw] [b,c] pos) (dM r r' ta tb tc):=by
 intro EF s B H Q I h
 refine Compare_chain (zC (ha EF s B H _ I h) λ v s1 ⟨x,H1,I1,r1,q1⟩=>chain_link (zC (hb EF s1 B H1 _ I1 q1) λ u s2 ⟨y,H2,I2,r2,q2⟩=>
  zC (ho EF s2 B H2 x y v u _ I2 r1 r2 q2) λ d s3 ⟨z,H3,I3,r3,k,e,q3⟩=>?_)) hm
 subst e
 cases r3
 refine Ko ?_
 cases k with
 | false=>exact ite_ff ⟨.bl false,H3,I3,rfl,q3⟩
 | true=>exact ite_tt (chain_last (zC (hc EF s3 B H3 _ I3 q3) λ w' s4 ⟨z',H4,I4,r4,q4⟩=>FT EF s4 B H4 y z' u w' Q I4 r2 r4 q4))
def fU (K:Ac) (x:V) (H:Hp) (k:Bool):Prop:=
 match x with
 | .zm=>k=false
 | .bl b=>k=b
 | .int i=>k=(i != 0)
 | .str y=>y.length<=sizeLine/\k=((y.length:Int) != 0)
 | .kO y=>y.size<=sizeLine/\k=((y.size:Int) != 0)
 | .ref p=>(∃ xs,zJ K H p xs/\k=!xs.isEmpty)\/(∃ xs,zL K H p xs/\k=!xs.isEmpty)\/∃ Aa,H p=some (.dK Aa)/\k=!Aa.isEmpty
 | _=>False
def Q1 {κ:Type}{Aa:List (κ × V)}{vs:List (κ × Value)}(r:KV Aa vs):(!vs.isEmpty)=!Aa.isEmpty:=by
 cases r <;> rfl
def aQ {xs:List V}{its:Ae}(r:Vals xs its):(!its.toArray.isEmpty)=!xs.isEmpty:=by
 cases r <;> simp
def qz:(sizeLine:Nat)<2 ^ 63:=by rw[sizeLine_eq];decide
def XM:Nl X (λ x H Q=>∃ k,fU X.K x H k/\Q k H):=by
 intro EF s B H x v Q I rx h
 obtain⟨k,e,q⟩:=h
 have hl:=qz
 have hs:sizeLine=16777216:=sizeLine_eq
 cases x with
 | zm=>
  cases rx
  have e':k=false:=e
  subst e'
  exact truthy_none ⟨H,I,q⟩
 | bl b=>
  cases rx
  have e':k=b:=e
  subst e'
  exact Ko ⟨H,I,q⟩
 | int i=>
  obtain⟨t,rfl⟩:=rx
  have e':k=(i != 0):=e
  subst e'
  exact PySem.P.truthy_int ⟨H,I,q⟩
 | str y=>
  obtain⟨t,rfl⟩:=rx
  obtain⟨hy,e'⟩:y.length<=sizeLine/\k=((y.length:Int) != 0):=e
  subst e'
  exact PySem.P.truthy_str (by lia) ⟨H,I.tok _,q⟩
 | kO y=>
  obtain⟨t,rfl⟩:=rx
  obtain⟨hy,e'⟩:y.size<=sizeLine/\k=((y.size:Int) != 0):=e
  subst e'
  exact PySem.W.truthy_bytes (by lia) ⟨H,I.tok _,q⟩
 | ref p=>
  cases rx
  have e':(∃ xs,zJ X.K H p xs/\k=!xs.isEmpty)\/(∃ xs,zL X.K H p xs/\k=!xs.isEmpty)\/∃ Aa,H p=some (.dK Aa)/\k=!Aa.isEmpty:=e
  rcases e' with ⟨xs,hx,e'⟩ | ⟨xs,hx,e'⟩ | ⟨Aa,hx,e'⟩
  ·subst e'
   obtain⟨its,r,pl,hz⟩:=I.list hx
   have hlen:=r.length
   exact wpAny_truthy_list pl.isList (by simp only[Ax];lia) ⟨H,I.tok _,by rw[aQ r];exact q⟩
  ·subst e'
   obtain⟨its,r,pl,hz⟩:=I.tuple hx
   have hlen:=r.length
   exact truthy_tuple pl (by simp only[Ax];lia) ⟨H,I.tok _,by rw[aQ r];exact q⟩
  ·subst e'
   obtain⟨hz,hS,vs,r,m⟩:Aa.length<=sizeLine/\(p == sysModules)=false/\∃ vs,KV Aa vs/\s.heap.DictOf (wI X.prog X.w) p vs:=I.zw p _ hx
   have hlen:Aa.length=vs.length:=Paired.length r
   exact wpAny_truthy_dict hS m (by lia) ⟨H,I.tok _,by rw[Q1 r];exact q⟩
 | _=>exact (show False from e).elim
def V4 (ha:PE X a ta) (he:∀ whole,isTrue a X.env whole=(do let v <- whole;standAt a.pos;holding [v] (truthy v))):
  PT X a (fun B H Q=>ta B H λ x H'=>∃ k,fU X.K x H' k/\Q k H'):=by
 intro EF s B H Q I h
 exact isTrue_plain (zC (ha EF s B H _ I h) λ v s1 ⟨x,H1,I1,r1,q1⟩=>XM EF s1 B H1 x v Q I1 r1 q1) (he _)
def T7:ya X (binaryOp .Add) (λ x y H Q=>∃ i j,x=.str i/\y=.str j/\i.length+j.length<=sizeLine/\Q (.str (i++j)) H):=by
 intro EF s B H x y v u Q I rx ry h
 obtain⟨i,j,rfl,rfl,hz,q⟩:=h
 obtain⟨t,rfl⟩:=rx
 obtain⟨t',rfl⟩:=ry
 exact add_str (λ t' tk=>⟨.str (i++j),H,I.tok _,⟨_,rfl⟩,q⟩) hz
def vals1 {x:V}{us:Ae}(r:Vals [x] us):∃ u,us=[u]/\RelV x u:=by
 cases r with
 | cons r1 r2=>cases r2;exact⟨_,rfl,r1⟩
def vals2 {x y:V}{us:Ae}(r:Vals [x,y] us):∃ u w',us=[u,w']/\RelV x u/\RelV y w':=by
 cases r with
 | cons r1 r2=>
  cases r2 with
  | cons r3 r4=>cases r4;exact⟨_,_,rfl,r1,r3⟩
def OO:y8 X (.builtin "abs") (λ xs H Q=>∃ i,xs=[.int i]/\Q (.int (if i<0 then -i else i)) H):=by
 intro EF s B H xs us Q I r h
 obtain⟨i,rfl,q⟩:=h
 obtain⟨u,rfl,t,rfl⟩:=vals1 r
 exact call_abs_int λ u tk=>⟨.int (if i<0 then -i else i),H,I.tok _,⟨_,rfl⟩,q⟩
def OC (hc:X.calm=true):y8 X (.builtin "max") (λ xs H Q=>∃ i j,xs=[.int i,.int j]/\Q (.int (if j>i then j else i)) H):=by
 intro EF s B H xs us Q I r h
 obtain⟨i,j,rfl,q⟩:=h
 obtain⟨u,w',rfl,⟨t,rfl⟩,⟨t',rfl⟩⟩:=vals2 r
 refine max_two_ints (I.ok.hd hc) λ h' tk k=>⟨_,H,I.kept k,?_,q⟩
 by_cases hj:j>i
 ·rw[if_pos hj,if_pos hj];exact⟨_,rfl⟩
 ·rw[if_neg hj,if_neg hj];exact⟨_,rfl⟩
def OB (hc:X.calm=true):y8 X (.builtin "min") (λ xs H Q=>∃ i j,xs=[.int i,.int j]/\Q (.int (if j<i then j else i)) H):=by
 intro EF s B H xs us Q I r h
 obtain⟨i,j,rfl,q⟩:=h
 obtain⟨u,w',rfl,⟨t,rfl⟩,⟨t',rfl⟩⟩:=vals2 r
 refine min_two_ints (I.ok.hd hc) λ h' tk k=>⟨_,H,I.kept k,?_,q⟩
 by_cases hj:j<i
 ·rw[if_pos hj,if_pos hj];exact⟨_,rfl⟩
 ·rw[if_neg hj,if_neg hj];exact⟨_,rfl⟩
end
def uo.some_of {v:V}{o:Option Value}(r:uo (some v) o):∃ u,o=some u/\RelV v u:=by
 cases o with
 | none=>exact (show False from r).elim
 | some u=>exact⟨u,rfl,r⟩
structure yq (k:Nat) (A:Around):Prop where
 hd:A.handled=none
 dp:A.depth+3*k+5<recursionLimit
 un:A.units+16*k+200<cLine
def yq.mono {j k:Nat}{A:Around}(r:yq k A) (h:j<=k):yq j A:=⟨r.hd,by have:=r.dp;lia,by have:=r.un;lia⟩
theorem yq.deeper {k:Nat}{A:Around}(r:yq (k+1) A) (env:Env):yq k (A.deeper env):=
 ⟨r.hd,by have:=r.dp;show A.depth+1+3*k+5<_;lia,by have:=r.un;show A.units+3+16*k+200<_;lia⟩
theorem yq.depth {k:Nat}{A:Around}(r:yq k A):A.depth<recursionLimit:=by have:=r.dp;lia
theorem yq.units {k:Nat}{A:Around}(r:yq k A):A.units+64<cLine:=by have:=r.un;lia
def jB:TA:=λ _ H Q=>Q [] H
def jD (ta:TE) (tr:TA):TA:=fun B H Q=>ta B H λ x H1=>tr B H1 λ xs H2=>Q (x::xs) H2
section
variable {X:Cx}{e:Expr}{es:List Expr}{te:TE}{t:TA}{pos:Pos}
def p9:PA X [] jB:=λ _ _ _ _ H Q I h=>Calls.spliced_nil ⟨[],H,I,.nil,h⟩
def qp (ha:PE X e te) (hr:PA X es t) (hs:starEach (e::es) X.env=(false,eval e X.env)::starEach es X.env:=by rfl):PA X (e::es) (jD te t):=by
 intro pos EF s B H Q I h
 rw[hs]
 show wpAny _ _ (spliced ((false,eval e X.env)::backTo pos (starEach es X.env))) _ _ s
 refine Calls.spliced_cons (zC (ha EF s B H _ I h) λ u s1 ⟨x,H1,I1,r1,q1⟩=>?_)
 exact zC (hr pos EF s1 B H1 _ I1 q1) λ us s2 ⟨xs,H2,I2,r2,q2⟩=>⟨x::xs,H2,I2,.cons r1 r2,q2⟩
def XR (t:TA):TE:=fun B H Q=>t B H λ xs H1=>xs.length<=sizeLine/\∀ p,H1 p=none->Q (.ref p) (upd H1 p (.tup xs))
def Wc (t:TA):TE:=fun B H Q=>t B H λ xs H1=>xs.length<=sizeLine/\∀ p,H1 p=none->Q (.ref p) (upd H1 p (.lst xs))
def Ui {x1} (h:PA X es t):PE X (.Tuple es x1 pos) (XR t):=by
 intro EF s B H Q I hq
 refine wpAny_Tuple_spliced (zC (h pos EF s B H _ I hq) λ us s1 ⟨xs,H1,I1,r,z,q⟩=>⟨by rw[<- r.length];exact z,?_⟩)
 have hf:H1 s1.heap.objs.size=none:=I1.zw.fresh (Ah _)
 refine⟨.ref s1.heap.objs.size,upd H1 s1.heap.objs.size (.tup xs),I1.laid (t':=s1.toks) (λ b u e=>J9 _ e) (Ah _) ?_,rfl,q _ hf⟩
 exact⟨z,us,r,⟨_,AD _ rfl,rfl,_,rfl⟩⟩
def Us (h:PA X es t):PE X (.List es pos) (Wc t):=by
 intro EF s B H Q I hq
 refine wpAny_List_spliced (zC (h pos EF s B H _ I hq) λ us s1 ⟨xs,H1,I1,r,z,q⟩=>⟨by rw[<- r.length];exact z,?_⟩)
 have hf:H1 s1.heap.objs.size=none:=I1.zw.fresh (Ah _)
 refine⟨.ref s1.heap.objs.size,upd H1 s1.heap.objs.size (.lst xs),I1.laid (t':=s1.toks) (λ b u e=>J9 _ e) (Ah _) ?_,rfl,q _ hf⟩
 exact⟨z,us,0,r,AD _ rfl⟩
end
abbrev Sp:=List V->Hp->VK->XK->Prop
abbrev uM:=List Env->Hp->Shared->XK->Value->Shared->Prop
structure jq (P:Program) (w:World) (K:Ac) (mg:AF) (base:Heap) (A:Around) (outer:List Env) (s:Shared) (H:Hp):Prop where
 frames:A.frames=some outer
 mod:Mod K mg base
 bs:∀ b o,base.get? b=some o->s.heap.get? b=some o/\H b=none
 qF:base.objs.size<=s.heap.objs.size
 uD:s.heap.FunFrames base outer
 pV:∀ b∈vJ outer,H b=none
 zw:yK P w H s.heap
 bare:AllBare s.gens
def CE (outer:List Env) (P:Program) (w:World) (H:Hp) (s:Shared) (Q:VK) (u:Value) (s':Shared):Prop:=
 ∃ v H',s'.os=s.os/\AllBare s'.gens/\Un (vJ outer) [] H H' s.heap s'.heap/\yK P w H' s'.heap/\RelV v u/\Q v H'
def CR (CX:uM) (outer:List Env) (P:Program) (w:World) (H:Hp) (s:Shared) (Q:VK) (E:XK) (r:Result) (s':Shared):Prop:=
 match r with
 | .ok (.ret u)=>CE outer P w H s Q u s'
 | .ok _=>False
 | .error e=>CX outer H s E e s'
structure uu (P:Program) (w:World) (K:Ac) (mg:AF) (base:Heap) (CX:uM) (k:Nat) (f:Addr) (fd:FuncData) (ps:List Str) (sp:Sp):Prop where
 len:∀ vs H Q E,sp vs H Q E->vs.length=ps.length
 run:∀ (A:Around) (outer:List Env) (s:Shared) (H:Hp) (args:Args) (us:Ae) (vs:List V) (Q:VK) (E:XK),yq k A->jq P w K mg base A outer s H->BindsTo s fd args (ps.zip us)->Vals vs us->sp vs H Q E->
  codeAny (model P w) A (.call (.ref f) args) (CR CX outer P w H s Q E) s
section
variable {X:Cx}{EF:Ag}{B:St}{H:Hp}{s s':Shared}
def Inv.P0 (I:Inv X EF B H s):jq X.prog X.w X.K X.mg X.base X.A X.stack s H:=
 ⟨I.ok.frames,I.ok.mod,I.bs,Bk I.ok.qF I.sz,I.stack,I.dP,I.zw,I.bare⟩
def Inv.after {Q:VK}{u:Value}(I:Inv X EF B H s) (h:CE X.stack X.prog X.w H s Q u s'):EP X EF B Q u s':=by
 obtain⟨v,H',os,bare,un,zw,r,q⟩:=h
 obtain⟨hh,g,d,t,Hv⟩:=s'
 obtain rfl:Hv=s.os:=os
 exact⟨v,H',I.call (h':=hh) (g':=g) (d':=d) (t':=t) (ch:=[]) un zw bare (λ b z=>absurd z (by simp)),r,q⟩
end
def dN (sp:Sp) (Hq:List V) (E:XK) (t:TA):TE:=fun B H Q=>t B H λ vs H1=>sp (vs++Hq) H1 Q E
def Binds (K:Ac) (fd:FuncData) (ps:List Str) (ds:Ae):Prop:=
 ∀ (s:Shared) (us:Ae),K.In s.heap->(us++ds).length=ps.length->BindsTo s fd ⟨us,[]⟩ (ps.zip (us++ds))
def Binds.all {K:Ac}{fd:FuncData}{ps:List Str}(h:∀ us:List Value,us.length=ps.length->bindArgs fd ⟨us,[]⟩=pure (ps.zip us)):Binds K fd ps []:=λ s us _ hl=>by
 rw[CZ] at hl ⊢
 exact .of_eq (h us hl)
def Passes (CX:uM) (X:Cx) (E:XK):Prop:=∀ (EF:Ag) (B:St) (H:Hp) (s:Shared) (e:Value) (s':Shared),Inv X EF B H s->CX X.stack H s E e s'->X.xe e s'
section
variable {X:Cx}{CX:uM}{k:Nat}{f:Addr}{fd:FuncData}{ps:List Str}{sp:Sp}{Hq:List V}{ds:Ae}{E:XK}{x:Str}{p pos:Pos}{e:Expr}{es:List Expr}{t:TA}
def Vf {EF:Ag}{B:St}{H:Hp}{s:Shared}{Q:VK}{us:Ae}{vs:List V}(F:uu X.prog X.w X.K X.mg X.base CX k f fd ps sp) (hr:yq k X.A) (hb:Binds X.K fd ps ds) (hd:Vals Hq ds) (hx:Passes CX X E)
  (I:Inv X EF B H s) (r:Vals vs us) (h:sp (vs++Hq) H Q E):wpAny (model X.prog X.w) X.A (call (.ref f) us) (EP X EF B Q) X.xe s:=by
 have r2:Vals (vs++Hq) (us++ds):=r.append hd
 have hl:(us++ds).length=ps.length:=by rw[<- r2.length];exact F.len _ _ _ _ h
 refine wpAny_call (codeAny_mono (F.run X.A X.stack s H ⟨us,[]⟩ (us++ds) (vs++Hq) Q E hr I.P0 (hb s us I.vF hl) r2 h) λ r s' hq=>?_)
 cases r with
 | error e=>exact hx EF B H s e s' I hq
 | ok fl=>
  cases fl with
  | ret u=>exact I.after hq
  | _=>exact False.elim hq
def U4 (F:uu X.prog X.w X.K X.mg X.base CX k f fd ps sp) (hr:yq k X.A) (hg:Gl X x) (hm:X.mg x=some (.ref f)) (hk:PySem.W.keepIn X.K (.ref f)=true) (hb:Binds X.K fd ps ds) (hd:Vals Hq ds) (hx:Passes CX X E)
  (ha:PA X (e::es) t) (B_:(x == ("__debug__":Str))=false:=by decide) (he:starEach (e::es) X.env=(false,eval e X.env)::starEach es X.env:=by rfl) (An:(backTo pos (starEach es X.env)).any (·.1)=false:=by rfl):
  PE X (.Call (.Name x p) (e::es) [] pos) (dN sp Hq E t):=by
 intro EF s B H Q I h
 refine Kx (aC I hg hm ?_ B_)
 refine PySem.W.callWith_K (h₀:=X.base) I.ok.mod.gz hk (zC (ha pos EF s B H _ I h) λ us s1 ⟨vs,H1,I1,r,q⟩=>⟨I1.vF,?_⟩) he An
 exact Vf F hr hb hd hx I1 r q
end
structure zY (N P:List Str) (sc:Scope):Prop where
 kind:sc.kind=.function
 co:sc.isCoroutine=false
 gen:sc.isGenerator=false
 nd:N.Nodup
 pre:N.take P.length=P
 par:∀ x∈P,sc.names.lookup x=some .local\/sc.names.lookup x=some .cell
 Rz:∀ y∈sc.names,y.2≠.free
theorem Yt {kindOf:Str->Option NameKind}{x:Str}:∀ {binds:List (Str×Value)}{m:AF},(∀ v,(x,v)∉binds)->bindL kindOf binds m x=m x
 | [],_,_=>rfl
 | (n,v)::r,m,h=>by
  unfold bindL
  rw[Yt λ w hw=>h w (Aw _ hw)]
  split
  ·have:x≠n:=by rintro rfl;exact h v Ao
   simp[this]
  ·rfl
theorem Yv {kindOf:Str->Option NameKind}{x:Str}:∀ {binds:List (Str×Value)}{m:AF},(∀ v,(x,v)∉binds)->bindC kindOf binds m x=m x
 | [],_,_=>rfl
 | (n,v)::r,m,h=>by
  unfold bindC
  rw[Yv λ w hw=>h w (Aw _ hw)]
  split
  ·rfl
  ·have:x≠n:=by rintro rfl;exact h v Ao
   simp[this]
theorem Yu {kindOf:Str->Option NameKind}{x:Str}{v:Value}:∀ {P:List Str}{vs:Ae}{i:Nat}{m:AF},P.Nodup->P[i]?=some x->vs[i]?=some v->kindOf x=some .local->
  bindL kindOf (P.zip vs) m x=some v
 | [],_,_,_,_,h,_,_=>by simp at h
 | _::_,[],_,_,_,_,h,_=>by simp at h
 | p::P,w::vs,0,m,nd,h1,h2,hk=>by
  simp at h1 h2;subst h1;subst h2
  show bindL kindOf ((p,w)::P.zip vs) m p=_
  unfold bindL
  rw[Yt λ v hv=>(Bc.mp nd).1 (D1 hv).1,if_pos hk]
  simp
 | p::P,w::vs,i+1,m,nd,h1,h2,hk=>by
  show bindL kindOf ((p,w)::P.zip vs) m x=_
  unfold bindL
  exact Yu (i:=i) (Bc.mp nd).2 (by simpa using h1) (by simpa using h2) hk
theorem Yw {kindOf:Str->Option NameKind}{x:Str}{v:Value}:∀ {P:List Str}{vs:Ae}{i:Nat}{m:AF},P.Nodup->P[i]?=some x->vs[i]?=some v->kindOf x≠some .local->
  bindC kindOf (P.zip vs) m x=some v
 | [],_,_,_,_,h,_,_=>by simp at h
 | _::_,[],_,_,_,_,h,_=>by simp at h
 | p::P,w::vs,0,m,nd,h1,h2,hk=>by
  simp at h1 h2;subst h1;subst h2
  show bindC kindOf ((p,w)::P.zip vs) m p=_
  unfold bindC
  rw[Yv λ v hv=>(Bc.mp nd).1 (D1 hv).1,if_neg hk]
  simp
 | p::P,w::vs,i+1,m,nd,h1,h2,hk=>by
  show bindC kindOf ((p,w)::P.zip vs) m x=_
  unfold bindC
  exact Yw (i:=i) (Bc.mp nd).2 (by simpa using h1) (by simpa using h2) hk
noncomputable def start (N:List Str) (vs:List V):St:=vs.map some++List.replicate (N.length-vs.length) none
noncomputable def tF (CX:uM) (P:Program) (w:World) (K:Ac) (mg:AF) (base:Heap) (N:List Str) (qual:Str) (scope:Scope) (f:Addr) (cd:Value) (A:Around) (outer:List Env) (s:Shared) (H:Hp) (E:XK):Cx where
 prog:=P
 w:=w
 K:=K
 mg:=mg
 base:=base
 A:=A.deeper (envOfC qual scope s.heap.objs.size f cd)
 N:=N
 s₀:=s
 H₀:=H
 env:=envOfC qual scope s.heap.objs.size f cd
 outer:=outer
 stack:=envOfC qual scope s.heap.objs.size f cd::outer
 ex:=[]
 calm:=true
 fn:=λ _=>true
 pn:=[]
 xe:=λ e s'=>wpAny (model P w) (A.deeper (envOfC qual scope s.heap.objs.size f cd)) (leaving (envOfC qual scope s.heap.objs.size f cd) e) (λ _ G4=>CX outer H s E e G4) (λ e' G4=>CX outer H s E e' G4) s'
def Yk {sc:Scope}{n:Nat}{x:Str}(h:sc.names.lookup x=some .cell):∃ c,(cellsFrom n sc.names []).lookup x=some c:=by
 have q:=PySem.W.cellsFrom_some sc.names n [] (.inl h)
 exact DB.mp q
def Q4 {CX:uM}{P:Program}{w:World}{K:Ac}{mg:AF}{base:Heap}{N ps:List Str}{qual:Str}{scope:Scope}{f:Addr}{cd:Value}{A:Around}{outer:List Env}{s s1:Shared}{H:Hp}{E:XK}{us:Ae}{vs:List V}
  (S:zY N ps scope) (hd:A.handled=none) (e0:jq P w K mg base A outer s H) (hl:vs.length=ps.length) (r:Vals vs us)
  (x:InCallC s s.heap.objs.size (bindL (envOfC qual scope s.heap.objs.size f cd).kindOf (ps.zip us) λ _=>none) (cellsFrom (s.heap.objs.size+1) scope.names []) (bindC (envOfC qual scope s.heap.objs.size f cd).kindOf (ps.zip us) λ _=>none) s1):
  Inv (tF CX P w K mg base N qual scope f cd A outer s H E) [] (start N vs) H s1:=by
 have An:ps.length<=N.length:=by have:=congrArg List.length S.pre;rw[CY] at this;lia
 obtain⟨h1,tk,rfl,hk⟩:=x.done
 have Ih:∀ b:Addr,b∉(tF CX P w K mg base N qual scope f cd A outer s H E).ex:=λ b z=>absurd (show b∈([]:List Addr) from z) (by simp)
 refine⟨⟨e0.mod,S.kind,rfl,rfl,Ah _,λ y z c h1 h2=>?_,λ y hy=>?_,λ y c _ h=>?_,λ _=>hd,Around.frames_deeper e0.frames,.inr ⟨rfl,rfl⟩,λ b z=>absurd z (Ih b),e0.bs,e0.qF,λ b _ _=>Ih b,λ b z=>absurd z (Ih b),e0.uD,e0.pV⟩,
  rfl,e0.bare,Un.kept hk,⟨_,x.toInCall.ns,λ i y v h1 h2 h3=>?_⟩,λ y c h=>⟨_,x.cell y c h⟩,e0.zw.fresh (Ah _),λ y c h=>?_,λ p hp=>absurd (show p∈([]:Ag) from hp) (by simp),e0.zw.kept hk,?_⟩
 ·exact name_of_addr x.apart (PySem.mem_of_lookup h1) (PySem.mem_of_lookup h2)
 ·have hy:scope.names.lookup y=some .cell\/scope.names.lookup y=some .free:=hy
  rcases hy with hy | hy
  ·exact Yk hy
  ·exact absurd rfl (S.Rz _ (PySem.mem_of_lookup hy))
 ·exact BC (x.above y c (PySem.mem_of_lookup h))
 ·have hi:i<vs.length:=by
   unfold start at h2
   by_cases hi:i<vs.length
   ·exact hi
   ·rw[Cq (by simpa using hi)] at h2
    rw[DA] at h2
    split at h2 <;> cases h2
  have ha:vs[i]?=some v:=by
   unfold start at h2
   rw[Cp (by simpa using hi),Az] at h2
   cases e:vs[i]? with
   | none=>rw[e] at h2;cases h2
   | some a=>rw[e] at h2;cases h2;rfl
  obtain⟨u,hu,rv⟩:=r.get ha
  have hp:ps[i]?=some y:=by
   rw[<- S.pre,List.getElem?_take_of_lt (by lia)];exact h1
  have ndP:ps.Nodup:=by rw[<- S.pre];exact S.nd.sublist (List.take_sublist _ _)
  refine⟨u,rv,?_⟩
  rcases S.par y (Bf hp) with k | k
  ·exact .inl ⟨k,Yu ndP hp hu k⟩
  ·obtain⟨c,e⟩:=Yk (n:=s.heap.objs.size+1) k
   refine .inr ⟨.inl k,c,e,?_⟩
   have q:=x.cell y c e
   rw[Yw ndP hp hu (by show scope.names.lookup y≠_;rw[k];decide)] at q
   exact q
 ·exact e0.zw.fresh (BC (x.above y c (PySem.mem_of_lookup h)))
 ·unfold start
  show _=N.length
  rw[Cg,Ay,List.length_replicate]
  lia
def Ph {CX:uM}{P:Program}{w:World}{K:Ac}{mg:AF}{base:Heap}{k:Nat}{f:Addr}{name qual:Str}{params:Arguments}{body:List Stmt}{scope:Scope}{dV kV doc pm Af ct oc:Value}{an od:Option Addr}
  {Hd:Array (Option Value)}{N ps:List Str}{sp:Sp}(lk:K.lookup f=some ⟨oc,od,.func (PySem.W.fnOf name qual params body scope dV kV doc pm an Af ct),Hd⟩) (Bs:PySem.W.codeIn K Af qual=true) (S:zY N ps scope)
  (len:∀ vs H Q E,sp vs H Q E->vs.length=ps.length)
  (Fm:∀ (A:Around) (outer:List Env) (s:Shared) (H:Hp) (vs:List V) (Q:VK) (E:XK),yq k (A.deeper (envOfC qual scope s.heap.objs.size f Af))->sp vs H Q E->
   ∃ t,xP (tF CX P w K mg base N qual scope f Af A outer s H E) body t/\t { nx:=λ _ H'=>Q .zm H',rt:=Q } (start N vs) H):
  uu P w K mg base CX (k+1) f (PySem.W.fnOf name qual params body scope dV kV doc pm an Af ct) ps sp:=by
 refine⟨len,λ A outer s H args us vs Q E hr e0 hb r Ci=>?_⟩
 have hl:=len _ _ _ _ Ci
 have KX:K.In s.heap:=e0.mod.gz.keeps λ b o e=>(e0.bs b o e).1
 have lim:s.heap.NoLimit:=e0.mod.nolimit.keeps λ b o e=>(e0.bs b o e).1
 have Iw:∀ y∈ps.zip us,scope.names.lookup y.1=some .local\/(scope.names.lookup y.1=some .cell/\((cellsFrom (s.heap.objs.size+1) scope.names []).lookup y.1).isSome=true):=λ⟨n,v⟩ hy=>by
  rcases S.par n (D1 hy).1 with q | q
  ·exact .inl q
  ·exact .inr ⟨q,PySem.W.cellsFrom_some _ _ _ (.inl q)⟩
 refine codeAny_call_function hr.depth (KX _ _ lk) rfl S.co S.gen rfl (PySem.W.codeRec_of KX Bs) (hb _ _ _ _ ?_)
 refine wpAny_newFunctionEnv_cells S.kind Iw λ env he s1 x=>?_
 subst he
 refine⟨lim.keeps x.toInCall.keep,codeAny_func ?_⟩
 obtain⟨t,ht,hq⟩:=Fm A outer s H vs Q E (hr.deeper _) Ci
 have I:Inv (tF CX P w K mg base N qual scope f Af A outer s H E) [] (start N vs) H s1:=Q4 S hr.hd e0 hl r x
 refine Kc (ht [] s1 (start N vs) H _ I hq) (λ fl s' hs=>?_) λ e s' hs=>hs
 have fin:∀ {B':St}{H':Hp}{v:V}{u:Value},Inv (tF CX P w K mg base N qual scope f Af A outer s H E) [] B' H' s'->RelV v u->Q v H'->CE outer P w H s Q u s':=
  λ{B' H' v u} J rv q=>⟨v,H',J.os,J.bare,J.base,J.zw,rv,q⟩
 cases fl with
 | ret u=>
  obtain⟨v,B',H',J,rv,q⟩:=hs
  exact fin J rv q
 | next=>
  obtain⟨B',H',J,q⟩:=hs
  exact fin (v:=V.zm) (u:=Value.none) J rfl q
 | brk=>
  obtain⟨_,_,_,q⟩:=hs
  exact False.elim q
 | cont=>
  obtain⟨_,_,_,q⟩:=hs
  exact False.elim q
section
variable {X:Cx}{x:Str}{p pos:Pos}{e:Expr}{es:List Expr}{t:TA}{id T:String}{r:List V->Hp->VK->Prop}
def oI (r:List V->Hp->VK->Prop) (t:TA):TE:=fun B H Q=>t B H λ vs H1=>r vs H1 Q
def uS (hc:y8 X (.builtin id) r) (hg:Gl X x) (hm:X.mg x=none) (hv:bootBuiltins x=some (.builtin id)) (ha:PA X (e::es) t) (hn:x≠"__name__":=by decide) (B_:(x == ("__debug__":Str))=false:=by decide)
  (he:starEach (e::es) X.env=(false,eval e X.env)::starEach es X.env:=by rfl) (An:(backTo pos (starEach es X.env)).any (·.1)=false:=by rfl):PE X (.Call (.Name x p) (e::es) [] pos) (oI r t):=by
 intro EF s B H Q I h
 refine Kx (rF I hg hm hv ?_ hn B_)
 exact PyProof.Rows.callWith_builtin1 (zC (ha pos EF s B H _ I h) λ us s1 ⟨vs,H1,I1,r1,q1⟩=>hc EF s1 B H1 vs us Q I1 r1 q1) he An
def nj (hc:y8 X (.type T) r) (hg:Gl X x) (hm:X.mg x=none) (hv:bootBuiltins x=some (.type T)) (ha:PA X (e::es) t) (hn:x≠"__name__":=by decide) (B_:(x == ("__debug__":Str))=false:=by decide)
  (he:starEach (e::es) X.env=(false,eval e X.env)::starEach es X.env:=by rfl) (An:(backTo pos (starEach es X.env)).any (·.1)=false:=by rfl):PE X (.Call (.Name x p) (e::es) [] pos) (oI r t):=by
 intro EF s B H Q I h
 refine Kx (rF I hg hm hv ?_ hn B_)
 exact PyProof.Rows.callWith_type1 (zC (ha pos EF s B H _ I h) λ us s1 ⟨vs,H1,I1,r1,q1⟩=>hc EF s1 B H1 vs us Q I1 r1 q1) he An
end
end L2
namespace HT
open PySem PyProof.Rows
noncomputable def lexLt:List Int->List Int->Bool
 | [],[]=>false
 | [],_::_=>true
 | _::_,[]=>false
 | x::xs,y::ys=>if x=y then lexLt xs ys else decide (x<y)
def tf (x y:Int) (xs ys:List Int):lexLt (x::xs) (y::ys)=if x=y then lexLt xs ys else decide (x<y):=rfl
def RV:lexLt [] []=false:=rfl
def RW (y:Int) (ys:List Int):lexLt [] (y::ys)=true:=rfl
def RX (x:Int) (xs:List Int):lexLt (x::xs) []=false:=rfl
def Pz (A:Around) (s:Shared) (a:Int) (t:Tok) (c:Int) (u:Tok):∃ e,SeqAt.EqAt A s (.int a t) (.int c u) e/\(e=true↔a=c):=
 ⟨(a == c),SeqAt.EqAt.int_int a t c u,by simp⟩
def cC (A:Around) (s:Shared) (a:Int) (t:Tok) (c:Int) (u:Tok) (prog:Program) (w:World) (E:Ad) (Q:Ad) (h:Q (.bool (decide (a<c))) s):
  wpAny (model prog w) A (richCompare .Lt (.int a t) (.int c u)) Q E s:=
 (PyProof.Rows.lt_int h:wpAny (model prog w) A (compareOp .Lt (.int a t) (.int c u)) Q E s)
section
open PySem.SeqAt
open PySem.AutoSeq1 (wpAny_loadPart')
open PySem.MeetsSeq PySem.MeetsSeq2 PySem.MeetsSeq3
def XI (l b:Addr) (items Ff:Ap) (n n2:Nat) (dd Gz:Option Addr) (sl Gu:Array (Option Value)) (ns ms:List Int) (hi:IntsAre items.toList ns) (hj:IntsAre Ff.toList ms):
  Meets (Builtin.«tuple.__lt__» ⟨[.ref l,.ref b],[]⟩)
   (λ _ R s=>s.heap.get? l=some { cls:=.type "tuple",dict:=dd,data:=.seq items n,slots:=sl }/\s.heap.get? b=some { cls:=.type "tuple",dict:=Gz,data:=.seq Ff n2,slots:=Gu }/\
    R (.ok (.ret (.bool (lexLt ns ms)))) s):=
 .of_wp λ prog w A R s h=>by
  obtain⟨hp,g,d,tk,os⟩:=s;obtain⟨hl,hb,h⟩:=h
  have f2:=AutoSeq1.sub_tuple_tuple
  have z1:items.size=ns.length:=by rw[<- hi.length];simp
  have z2:Ff.size=ms.length:=by rw[<- hj.length];simp
  wp_walk using wpAny_loadPart' hl,wpAny_loadPart' hb,Kw _ (λ EK b s'=>b.1=none/\s'=⟨hp,g,d,tk,os⟩/\∃ (vs ws:Ae) (FX FY:List Int),EK=vs.zip ws/\
   IntsAre vs FX/\IntsAre ws FY/\FX.length+Ff.size=FY.length+items.size/\R (.ok (.ret (.bool (lexLt FX FY)))) ⟨hp,g,d,tk,os⟩) _
  case turn=>
   rintro⟨y,x⟩ EK b s' ⟨GL,rfl,vs,ws,FX,FY,hz,D8,CJ,hlen,hR⟩
   cases D8 with
   | nil=>rw[List.zip_nil_left] at hz;cases hz
   | cons a t D7=>
    cases CJ with
    | nil=>rw[List.zip_nil_right] at hz;cases hz
    | cons c u D5=>
     rw[List.zip_cons_cons] at hz
     injection hz with hyx Io
     injection hyx with hy hx
     subst hy hx
     rw[tf] at hR
     simp only[AW] at hlen
     obtain⟨e,he,Dd⟩:=Pz A.in1 ⟨hp,g,d,tk,os⟩ a t c u
     refine Jg (he prog w _ _ ?_)
     cases e with
     | true=>
      rw[if_pos (Dd.mp rfl)] at hR
      wp_walk
      exact⟨rfl,rfl,_,_,_,_,Io,D7,D5,by lia,hR⟩
     | false=>
      rw[if_neg (λ q=>absurd (Dd.mpr q) BB)] at hR
      have C4:=cC A.in1 ⟨hp,g,d,tk,os⟩ a t c u prog w
      wp_walk using C4
      exact⟨_,rfl,by simpa using hR⟩
  case fin=>
   rintro⟨b1,b2⟩ s' ⟨GL,rfl,vs,ws,FX,FY,hz,D8,CJ,hlen,hR⟩
   simp only at GL
   subst GL
   have hv:lexLt FX FY=decide (items.size<Ff.size):=by
    cases D8 with
    | nil=>
     cases CJ with
     | nil=>
      simp only[CW] at hlen
      rw[RV]
      exact (Kd (by lia)).symm
     | cons c u hw=>
      simp only[CW,AW] at hlen
      rw[RW]
      exact (Ki (by lia)).symm
    | cons a t hv=>
     cases CJ with
     | nil=>
      simp only[CW,AW] at hlen
      rw[RX]
      exact (Kd (by lia)).symm
     | cons c u hw=>
      rw[List.zip_cons_cons] at hz
      cases hz
   rw[hv] at hR
   wp_walk
   exact⟨_,rfl,by simpa [Builtin.Tuple.tupleCompareSizes] using hR⟩
  case h=>
   exact⟨rfl,rfl,items.toList,Ff.toList,ns,ms,rfl,hi,hj,by lia,h⟩
end
section
variable {prog:Program}{w:World}{A:Around}{E:Ad}{s:Shared}
def ai {l b:Addr}{items Ff:Ap}{ns ms:List Int}{Q:Ad}(hl:IsTup s.heap l items) (hb:IsTup s.heap b Ff) (hi:IntsAre items.toList ns) (hj:IntsAre Ff.toList ms)
  (hu:A.units<cLine) (h:Q (.bool (lexLt ns ms)) s):wpAny (model prog w) A (compareOp .Lt (.ref l) (.ref b)) Q E s:=by
 obtain⟨⟨cls,dd,data,sl⟩,ho,hc,n,hd⟩:=id hl
 obtain⟨⟨G9,Gz,data2,Gu⟩,Gj,FV,n2,hd2⟩:=id hb
 simp only at hc hd FV hd2
 subst hc hd FV hd2
 exact richCompare_meets_room (op:=.Lt) ⟨_,ho,rfl⟩ ⟨_,Gj,rfl⟩ PySem.F.slot_tuple_lt PySem.F.entry_tuple_lt (PySem.F.args_tuple_lt_2 _ _) (XI l b items Ff n n2 dd Gz sl Gu ns ms hi hj)
  ⟨ho,Gj,show Value.bool (lexLt ns ms)≠Value.notImplemented/\Q (.bool (lexLt ns ms)) s from ⟨(λ x=>nomatch x),h⟩⟩ hu
def Oz {t b:Addr}{vs ws:Ae}{Q:Ad}(ht:IsTup s.heap t vs.toArray) (hb:IsTup s.heap b ws.toArray) (hv:vs≠[])
  (h1:ws=[]->Q (.ref t) s) (h2:ws≠[]->Q (.ref s.heap.objs.size) { s with heap:=s.heap.push { cls:=.type "tuple",data:=.seq (vs++ws).toArray } })
  (hsz:vs.length+ws.length<=sizeLine):wpAny (model prog w) A (binaryOp .Add (.ref t) (.ref b)) Q E s:=by
 obtain⟨⟨cls,dd,data,sl⟩,ho,hc,n,hd⟩:=id ht
 obtain⟨⟨G9,Gz,data2,Gu⟩,Gj,FV,n2,hd2⟩:=id hb
 simp only at hc hd FV hd2
 subst hc hd FV hd2
 have e:vs.toArray++ws.toArray=(vs++ws).toArray:=by simp
 by_cases hw:ws=[]
 ·exact concat_meets ⟨_,ho,rfl⟩ ⟨_,Gj,rfl⟩ noFill_tuple_add seq_tuple_add PySem.F.slot_tuple_add PySem.F.entry_tuple_add (PySem.F.args_tuple_add_2 _ _)
   (tuple_addW1 t b vs.toArray ws.toArray n n2 dd Gz sl Gu (by simpa using hv) (by simp[hw])) ⟨ho,Gj,h1 hw⟩
 ·refine concat_meets ⟨_,ho,rfl⟩ ⟨_,Gj,rfl⟩ noFill_tuple_add seq_tuple_add PySem.F.slot_tuple_add PySem.F.entry_tuple_add (PySem.F.args_tuple_add_2 _ _)
   (tuple_addW2 t b vs.toArray ws.toArray n n2 dd Gz sl Gu (by simpa using hv) (by simpa using hw) (by rw[Ax,Ax];exact hsz)) ⟨ho,Gj,?_⟩
  rw[e]
  exact h2 hw
noncomputable def zE (n d:Nat):Option Int->Nat
 | none=>d
 | some v=>if v<0 then (v+(n:Int)).toNat else min v.toNat n
def Vd (n d:Nat) (hd:d<=n) (o:Option Int):zE n d o<=n:=by
 cases o with
 | none=>exact hd
 | some v=>
  show (if v<0 then (v+(n:Int)).toNat else min v.toNat n)<=n
  by_cases hv:v<0
  ·rw[if_pos hv];lia
  ·rw[if_neg hv];exact Nat.min_le_right _ _
def Ye (v:Int) (n d:Nat):(if v<0 then max (v+(n:Int)) 0 else min v (n:Int))=((zE n d (some v):Nat):Int):=by
 show (if v<0 then max (v+(n:Int)) 0 else min v (n:Int))=(((if v<0 then (v+(n:Int)).toNat else min v.toNat n):Nat):Int)
 by_cases hv:v<0
 ·simp only[if_pos hv];lia
 ·simp only[if_neg hv];lia
def Nh (lo hi:Option Int) (n:Nat):Builtin.Slice.sliceAdjust lo hi 1 (n:Int)=(((zE n 0 lo:Nat):Int),((zE n n hi:Nat):Int)):=by
 have h1:¬ ((1:Int)<0):=by lia
 unfold Builtin.Slice.sliceAdjust
 simp only[h1,if_false]
 refine Prod.ext ?_ ?_
 ·cases lo with
  | none=>rfl
  | some v=>exact Ye v n 0
 ·cases hi with
  | none=>rfl
  | some v=>exact Ye v n n
def VO (i j:Nat):Builtin.Slice.slicePlaces (i:Int) (j:Int) 1=j-i:=by
 unfold Builtin.Slice.slicePlaces
 have h1:(1:Int)>0:=by lia
 simp only[h1,if_true,Int.ediv_one]
 split <;> lia
def cf {v:Value}{o:Option Int}{Q:Option Int->Shared->Prop}(p:IsPart v o) (h:Q o s):wpAny (model prog w) A (Builtin.Slice.slicePartIndex v) Q E s:=by
 cases p with
 | none=>exact slicePart_none h
 | int i t=>exact slicePart_int h
def cg {sl:Addr}{vl vu:Value}{lo hi:Option Int}{n:Nat}{Q:Int×Int×Nat->Shared->Prop}(hs:s.heap.IsSliceOf sl vl vu .none) (pl:IsPart vl lo) (pu:IsPart vu hi)
  (h:Q (((zE n 0 lo:Nat):Int),1,zE n n hi-zE n 0 lo) s):wpAny (model prog w) A (Builtin.Slice.sliceApplied (.ref sl) (pure (n:Int))) Q E s:=by
 obtain⟨os,BZ,hcs,DJ⟩:=id hs
 unfold Builtin.Slice.sliceApplied Builtin.Slice.sliceFields
 refine Jg (Jg (Kb BZ DJ (x:=vl) rfl (Jg (Kb BZ DJ (x:=vu) rfl (Jg (Kb BZ DJ (x:=.none) rfl (Ab ?_)))))))
 refine Jg (slicePart_none ?_)
 show wpAny _ _ (if ((1:Int) == 0)=true then _ else _) _ _ s
 rw[if_neg (by decide)]
 refine Jg (cf pl (Jg (cf pu (Jg (Ab ?_)))))
 show wpAny _ _ (match Builtin.Slice.sliceAdjust lo hi 1 (n:Int) with | (lo,hi)=>pure (lo,(1:Int),Builtin.Slice.slicePlaces lo hi 1)) _ _ s
 rw[Nh lo hi n]
 show wpAny _ _ (pure (((zE n 0 lo:Nat):Int),(1:Int),Builtin.Slice.slicePlaces ((zE n 0 lo:Nat):Int) ((zE n n hi:Nat):Int) 1)) _ _ s
 rw[VO]
 exact Ab h
def VR (xs:Ap) (i k:Nat):((List.range k).filterMap λ(m:Nat)=>xs[((i:Int)+(m:Int)*1).toNat]?).toArray=((xs.toList.drop i).take k).toArray:=by
 have e:(λ(m:Nat)=>xs[((i:Int)+(m:Int)*1).toNat]?)=λ m=>xs[i+m]?:=by
  funext m
  have:((i:Int)+(m:Int)*1).toNat=i+m:=by lia
  rw[this]
 rw[e]
 have:=pick_run xs i k
 rw[List.filterMap_map] at this
 have e2:((λ x=>xs[x]?) ∘ λ x=>i+x)=λ m=>xs[i+m]?:=rfl
 rw[e2] at this
 rw[this]
def Q_ {t sl:Addr}{items:Ap}{vl vu:Value}{lo hi:Option Int}{Q:Ad}(ht:IsTup s.heap t items) (hs:s.heap.IsSliceOf sl vl vu .none) (pl:IsPart vl lo) (pu:IsPart vu hi)
  (hw:¬ (zE items.size 0 lo=0/\zE items.size items.size hi=items.size))
  (h:Q (.ref s.heap.objs.size) { s with heap:=s.heap.push { cls:=.type "tuple",data:=.seq ((items.toList.drop (zE items.size 0 lo)).take (zE items.size items.size hi-zE items.size 0 lo)).toArray } })
  (hsz:items.size<=sizeLine):wpAny (model prog w) A (getItem (.ref t) (.ref sl)) Q E s:=by
 have Gy:sizeOk (.seq ((items.toList.drop (zE items.size 0 lo)).take (zE items.size items.size hi-zE items.size 0 lo)).toArray):=by
  show ((items.toList.drop (zE items.size 0 lo)).take (zE items.size items.size hi-zE items.size 0 lo)).toArray.size<=sizeLine
  rw[Ax,CY,D0,Bl]
  lia
 have hj:zE items.size items.size hi<=items.size:=Vd _ _ (Ah _) hi
 obtain⟨os,BZ,hcs,DJ⟩:=id hs
 have hTs:s.TypeIs (.ref sl) "slice":=⟨os,BZ,hcs⟩
 unfold getItem
 try with_reducible refine J_ ?_
 first | refine Jg (Ab ?_) | skip
 refine Jg (wpAny_sequenceKey ht.typeIs (by decide) ?_)
 refine Jg (Kj (name:=Str.ofString "__getitem__") ht.typeIs PyProof.Rows.slot_tuple_getitem
  (Ke PyProof.Rows.slot_tuple_getitem ht.typeIs entry_tuple_getitem ?_ (args_tuple_getitem _ _)))
 show wpAny _ _ (Builtin.Tuple.tupleItemsOf (.ref t) >>= _) _ _ s
 refine Jg (tupleItemsOf_ ht ?_)
 refine Jg (Kr hTs ?_)
 rw[if_pos (by decide)]
 refine Jg (cg hs pl pu ?_)
 have hno:¬ ((((zE items.size 0 lo:Nat):Int) == 0&&(1:Int) == 1&&(zE items.size items.size hi-zE items.size 0 lo) == items.size)=true):=by
  intro q
  rw[Bw,Bw] at q
  have q1:((zE items.size 0 lo:Nat):Int)=0:=eq_of_beq q.1.1
  have q2:zE items.size items.size hi-zE items.size 0 lo=items.size:=eq_of_beq q.2
  exact hw ⟨by lia,by lia⟩
 show wpAny _ _ (if (((zE items.size 0 lo:Nat):Int) == 0&&(1:Int) == 1&&(zE items.size items.size hi-zE items.size 0 lo) == items.size)=true then _ else _) _ _ s
 rw[if_neg hno,VR]
 first
  | exact Jg (m:=Builtin.Tuple.tupleExact _) (Kf (Ab ⟨_,rfl,Ab h⟩) Gy)
  | exact Jg (m:=Builtin.Tuple.tupleExact _) (Kf (Jg (Ab (Ab ⟨_,rfl,Ab h⟩))) Gy)
  | exact Jg (Jg (m:=Builtin.Tuple.tupleExact _) (Kf (Ab (Ab ⟨_,rfl,Ab h⟩)) Gy))
  | exact Jg (Jg (m:=Builtin.Tuple.tupleExact _) (Kf (Ab ⟨_,rfl,Ab h⟩) Gy))
end
end HT
namespace L2
open PySem PySem.Spec PyProof.Rows
abbrev TO:=St->Hp->(Option Int->Hp->Prop)->Prop
def PO (X:Cx) (e:Option Expr) (t:TO):Prop:=
 ∀ (EF:Ag) (s:Shared) (B:St) (H:Hp) (Q:Option Int->Hp->Prop),Inv X EF B H s->t B H Q->
  wpAny (model X.prog X.w) X.A (evalPart e X.env) (λ u s'=>∃ o H',Inv X EF B H' s'/\IsPart u o/\Q o H') X.xe s
noncomputable def Wa:TO:=λ _ H Q=>Q none H
noncomputable def XX (t:TE):TO:=fun B H Q=>t B H λ x H1=>∃ i,x=.int i/\Q (some i) H1
def intsAre_of {ns:List Int}:∀ {us:Ae},Vals (ns.map V.int) us->IntsAre us ns:=by
 induction ns with
 | nil=>intro us r;rw[A6] at r;cases r;exact .nil
 | cons n ns ih=>
  intro us r
  rw[Ar] at r
  cases r with
  | cons r1 r2=>
   obtain⟨t,e⟩:=r1
   subst e
   exact .cons n t (ih r2)
section
variable {X:Cx}{e:Expr}{te:TE}{lo hi:Option Expr}{tl th:TO}{pos p2:Pos}
def VN:PO X none Wa:=by
 intro EF s B H Q I h
 rw[evalPart_none]
 exact Ab ⟨none,H,I,.none,h⟩
def VM (h:PE X e te):PO X (some e) (XX te):=by
 intro EF s B H Q I hw
 rw[evalPart_some]
 refine zC (h EF s B H _ I hw) λ u s1 ⟨x,H1,I1,r1,q1⟩=>?_
 obtain⟨i,rfl,q⟩:=q1
 obtain⟨t,rfl⟩:=r1
 exact⟨some i,H1,I1,.int i t,q⟩
def rX (X:Cx) (r:V->Option Int->Option Int->Hp->VK->Prop):Prop:=
 ∀ (EF:Ag) (s:Shared) (B:St) (H:Hp) (x:V) (v vl vu:Value) (lo hi:Option Int) (sl:Addr) (Q:VK),Inv X EF B H s->RelV x v->s.heap.IsSliceOf sl vl vu .none->IsPart vl lo->IsPart vu hi->r x lo hi H Q->
  ∃ T id,typeLookup (.type T) "__getitem__"=pure (some (.builtin id))/\s.TypeIs v T/\wpAny (model X.prog X.w) X.A (getItem v (.ref sl)) (EP X EF B Q) X.xe s
def rX.or {r r':V->Option Int->Option Int->Hp->VK->Prop}(h:rX X r) (h':rX X r'):rX X (λ x lo hi H Q=>r x lo hi H Q\/r' x lo hi H Q):=by
 intro EF s B H x v vl vu lo hi sl Q I rx hs pl pu q
 rcases q with q | q
 ·exact h EF s B H x v vl vu lo hi sl Q I rx hs pl pu q
 ·exact h' EF s B H x v vl vu lo hi sl Q I rx hs pl pu q
def XT (r:V->Option Int->Option Int->Hp->VK->Prop) (te:TE) (tl th:TO):TE:=fun B H Q=>te B H λ x H1=>tl B H1 λ l H2=>th B H2 λ u H3=>r x l u H3 Q
def Uk {r:V->Option Int->Option Int->Hp->VK->Prop}(hr:rX X r) (he:PE X e te) (hl:PO X lo tl) (hu:PO X hi th):PE X (.Subscript e (.Slice lo hi none p2) pos) (XT r te tl th):=by
 intro EF s B H Q I h
 refine Subscript_ (zC (he EF s B H _ I h) λ v s1 ⟨x,H1,I1,r1,q1⟩=>?_)
 refine wpAny_Slice (zC (hl EF s1 B H1 _ I1 q1) λ vl s2 ⟨l,H2,I2,pl,q2⟩=>zC (hu EF s2 B H2 _ I2 q2) λ vu s3 ⟨u,H3,I3,pu,q3⟩=>?_)
 rw[evalPart_none]
 refine Ab ?_
 have I4:Inv X EF B H3 { s3 with heap:=s3.heap.push { cls:=.type "slice",data:=.fields #[vl,vu,.none] } }:=I3.kept (t':=s3.toks) λ b ob q=>J9 _ q
 obtain⟨T,id,hT,ht,hg⟩:=hr EF { s3 with heap:=s3.heap.push { cls:=.type "slice",data:=.fields #[vl,vu,.none] } } B H3 x v vl vu l u s3.heap.objs.size Q I4 r1 (Heap.IsSliceOf.new ..) pl pu q3
 show wpAny (model X.prog X.w) X.A (subscriptTail e (.Slice lo hi none p2) v (.ref s3.heap.objs.size)) (EP X EF B Q) X.xe { s3 with heap:=s3.heap.push { cls:=.type "slice",data:=.fields #[vl,vu,.none] } }
 exact tail_any (ops:=[.ref s3.heap.objs.size,v]) ht hT hg (by with_unfolding_all rfl)
def tG (xs:List V) (lo hi:Option Int):List V:=(xs.drop (HT.zE xs.length 0 lo)).take (HT.zE xs.length xs.length hi-HT.zE xs.length 0 lo)
def Ya (xs:List V) (lo hi:Option Int):(tG xs lo hi).length<=xs.length:=by
 unfold tG
 rw[CY,D0]
 lia
def cF (K:Ac):V->Option Int->Option Int->Hp->VK->Prop:=λ x lo hi H Q=>∃ a xs,x=.ref a/\zL K H a xs/\
 ¬ (HT.zE xs.length 0 lo=0/\HT.zE xs.length xs.length hi=xs.length)/\∀ p,H p=none->Q (.ref p) (upd H p (.tup (tG xs lo hi)))
def W7:rX X (cF X.K):=by
 intro EF s B H x v vl vu lo hi sl Q I rx hs pl pu h
 obtain⟨a,xs,rfl,hx,hw,q⟩:=h
 cases rx
 obtain⟨its,r,ht,hz⟩:=I.tuple hx
 have hlen:its.toArray.size=xs.length:=by rw[Ax];exact r.length.symm
 refine⟨"tuple",_,PyProof.Rows.slot_tuple_getitem.lookup,ht.typeIs,?_⟩
 refine HT.Q_ ht hs pl pu (by rw[hlen];exact hw) ?_ (by rw[hlen];exact hz)
 rw[hlen]
 refine⟨.ref s.heap.objs.size,_,I.laid (t':=s.toks) (o:=.tup (tG xs lo hi)) (λ b ob q=>J9 _ q) (Ah _) ?_,rfl,q _ (I.zw.fresh (Ah _))⟩
 exact⟨Bk (Ya xs lo hi) hz,_,(r.drop (HT.zE xs.length 0 lo)).take (HT.zE xs.length xs.length hi-HT.zE xs.length 0 lo),IsTup.new _ _⟩
def iC (K:Ac):R2:=λ x y H Q=>∃ a b ns ms,x=.ref a/\y=.ref b/\zL K H a (ns.map V.int)/\zL K H b (ms.map V.int)/\Q (.bl (HT.lexLt ns ms)) H
def Tv (hu:X.A.units<cLine):ya X (compareOp .Lt) (iC X.K):=by
 intro EF s B H x y v u Q I rx ry h
 obtain⟨a,b,ns,ms,rfl,rfl,ha,hb,q⟩:=h
 cases rx
 cases ry
 obtain⟨its,r1,p1,_⟩:=I.tuple ha
 obtain⟨Fc,r2,p2,_⟩:=I.tuple hb
 have i1:IntsAre its.toArray.toList ns:=intsAre_of r1
 have i2:IntsAre Fc.toArray.toList ms:=intsAre_of r2
 exact HT.ai p1 p2 i1 i2 hu ⟨.bl (HT.lexLt ns ms),H,I,rfl,q⟩
def cQ (K:Ac):R2:=λ x y H Q=>∃ a b xs ys,x=.ref a/\y=.ref b/\zL K H a xs/\zL K H b ys/\xs≠[]/\xs.length+ys.length<=sizeLine/\
 (ys=[]->Q (.ref a) H)/\(ys≠[]->∀ p,H p=none->Q (.ref p) (upd H p (.tup (xs++ys))))
def Vals.nC {xs:List V}{us:Ae}(r:Vals xs us):us=[]↔xs=[]:=by
 cases r with
 | _=>simp
def T5:ya X (binaryOp .Add) (cQ X.K):=by
 intro EF s B H x y v u Q I rx ry h
 obtain⟨a,b,xs,ys,rfl,rfl,ha,hb,hx,hz,q1,q2⟩:=h
 cases rx
 cases ry
 obtain⟨its,r1,p1,_⟩:=I.tuple ha
 obtain⟨Fc,r2,p2,_⟩:=I.tuple hb
 refine HT.Oz p1 p2 (λ z=>hx (r1.nC.mp z)) (λ z=>⟨.ref a,H,I,rfl,q1 (r2.nC.mp z)⟩) (λ z=>?_) (by rw[<- r1.length,<- r2.length];exact hz)
 refine⟨.ref s.heap.objs.size,_,I.laid (t':=s.toks) (o:=.tup (xs++ys)) (λ b ob q=>J9 _ q) (Ah _) ?_,rfl,q2 (λ w=>z (r2.nC.mpr w)) _ (I.zw.fresh (Ah _))⟩
 exact⟨by rw[Cg];exact hz,_,r1.append r2,IsTup.new _ _⟩
end
noncomputable def wW (n:Nat) (i:Int):Option Nat:=if 0<=i then (if i<n then some i.toNat else none) else if -(n:Int)<=i then some (i+n).toNat else none
def zI {α:Type}(xs:List α) (i:Int):Option α:=(wW xs.length i).bind λ j=>xs[j]?
def aM {n:Nat}{i:Int}{j:Nat}(h:wW n i=some j):seqIndex? i n=some j/\j<n/\-(n:Int)<=i/\i<n:=by
 unfold wW at h
 by_cases h0:0<=i
 ·rw[if_pos h0] at h
  by_cases h1:i<n
  ·rw[if_pos h1] at h
   have e:i.toNat=j:=A4 h
   exact⟨by rw[seqIndex_of h0 h1,e],by lia,by lia,h1⟩
  ·rw[if_neg h1] at h;cases h
 ·rw[if_neg h0] at h
  by_cases h1:-(n:Int)<=i
  ·rw[if_pos h1] at h
   have e:(i+n).toNat=j:=A4 h
   exact⟨by rw[seqIndex_neg (by lia) h1,e],by lia,h1,by lia⟩
  ·rw[if_neg h1] at h;cases h
def fJ {α:Type}{xs:List α}{i:Int}{v:α}(h:zI xs i=some v):∃ j,seqIndex? i xs.length=some j/\xs[j]?=some v/\j<xs.length/\-(xs.length:Int)<=i/\i<xs.length:=by
 unfold zI at h
 cases e:wW xs.length i with
 | none=>rw[e] at h;cases h
 | some j=>
  rw[e] at h
  obtain⟨h1,h2,h3,h4⟩:=aM e
  exact⟨j,h1,h,h2,h3,h4⟩
def fH {α:Type}(xs:List α) (v:α):zI (xs++[v]) (-1)=some v:=by
 have hl:(xs++[v]).length=xs.length+1:=by simp
 have e:wW (xs++[v]).length (-1)=some xs.length:=by
  unfold wW
  rw[hl,if_neg (by decide),if_pos (by lia)]
  congr 1
  lia
 unfold zI
 rw[e]
 show (xs++[v])[xs.length]?=some v
 simp
def Y9 (b:Expr):Prop:=∀ o i,subscripted b false o i=operate [o,i] (getItem o i)
def sW (X:Cx) (r:R2):Prop:=
 ∀ (value slice:Expr) (EF:Ag) (s:Shared) (B:St) (H:Hp) (x y:V) (v u:Value) (Q:VK),Inv X EF B H s->RelV x v->RelV y u->r x y H Q->
  subscripted slice false v u=operate [v,u] (getItem v u)->wpAny (model X.prog X.w) X.A (subscriptTail value slice v u) (EP X EF B Q) X.xe s
def Np (X:Cx) (id:String) (r:V->List V->Hp->VK->Prop):Prop:=
 ∀ (EF:Ag) (s:Shared) (B:St) (H:Hp) (x:V) (xs:List V) (v:Value) (us:Ae) (Q:VK),Inv X EF B H s->RelV x v->Vals xs us->r x xs H Q->
  wpAny (model X.prog X.w) X.A (call (.builtin id) (v::us)) (EP X EF B Q) X.xe s
section
variable {X:Cx}{a b:Expr}{ta tb:TE}{pos:Pos}
def sW.or {r r':R2}(h:sW X r) (h':sW X r'):sW X (λ x y H Q=>r x y H Q\/r' x y H Q):=by
 intro value slice EF s B H x y v u Q I rx ry q hs
 rcases q with q | q
 ·exact h value slice EF s B H x y v u Q I rx ry q hs
 ·exact h' value slice EF s B H x y v u Q I rx ry q hs
def Uu {r:R2}(hr:sW X r) (ha:PE X a ta) (hb:PE X b tb) (hs:Y9 b):PE X (.Subscript a b pos) (oH r ta tb):=by
 intro EF s B H Q I h
 exact Subscript_ (fF ha hb I h λ v u s2 x y H2 I2 rx ry q=>hr a b EF s2 B H2 x y v u Q I2 rx ry q (hs _ _))
def cL (K:Ac):R2:=λ x y H Q=>∃ p xs i v,x=.ref p/\y=.int i/\zJ K H p xs/\zI xs i=some v/\Q v H
def cJ (K:Ac):R2:=λ x y H Q=>∃ p xs i v,x=.ref p/\y=.int i/\zL K H p xs/\zI xs i=some v/\Q v H
def cK:R2:=λ x y H Q=>∃ z i c,x=.str z/\y=.int i/\z.length<=sizeLine/\zI z.cps.toList i=some c/\Q (.str ⟨#[c]⟩) H
def Qx:sW X (cL X.K):=by
 intro value slice EF s B H x y v u Q I rx ry h hs
 obtain⟨p,xs,i,z,rfl,rfl,hq,he,q⟩:=h
 cases rx
 obtain⟨t,rfl⟩:=ry
 obtain⟨its,r,pl,hz⟩:=I.list hq
 obtain⟨j,h1,h2,h3,h4,h5⟩:=fJ he
 obtain⟨w,ew,GO⟩:=r.get h2
 have hl:=r.length
 have hn:=qz
 have fin:EP X EF B Q w s:=⟨z,H,I,GO,q⟩
 by_cases h0:0<=i
 ·have hj:i.toNat=j:=by
   rw[seqIndex_of h0 h5] at h1
   exact A4 h1
  exact item_listR pl.isList h0 (by lia) (by rw[hj];simpa using ew) fin hs
 ·have hj:(i+(its.toArray.size:Int)).toNat=j:=by
   rw[seqIndex_neg (by lia) h4] at h1
   rw[Ax,<- hl]
   exact A4 h1
  exact subscriptTail_builtinR (x:=w) pl.isList.typeIs slot_list_getitem.lookup
   (wpAny_getItem_list_neg (Q:=λ r s'=>r=w/\EP X EF B Q r s') pl.isList (by lia) (by rw[Ax] <;> lia) (by lia) (by rw[hj];simpa using ew) ⟨rfl,fin⟩) hs
def Qu:sW X (cJ X.K):=by
 intro value slice EF s B H x y v u Q I rx ry h hs
 obtain⟨p,xs,i,z,rfl,rfl,hq,he,q⟩:=h
 cases rx
 obtain⟨t,rfl⟩:=ry
 obtain⟨its,r,pl,hz⟩:=I.tuple hq
 obtain⟨j,h1,h2,h3,h4,h5⟩:=fJ he
 obtain⟨w,ew,GO⟩:=r.get h2
 have hl:=r.length
 have hn:=qz
 have fin:EP X EF B Q w s:=⟨z,H,I,GO,q⟩
 exact subscriptTail_builtinR (x:=w) pl.typeIs slot_tuple_getitem.lookup
  (getItem_tuple (j:=j) (Q:=λ r s'=>r=w/\EP X EF B Q r s') pl (by lia) (by lia) (by rw[Ax,<- hl];exact h1) (by simpa using ew) ⟨rfl,fin⟩) hs
def Qv:sW X cK:=by
 intro value slice EF s B H x y v u Q I rx ry h hs
 obtain⟨z,i,c,rfl,rfl,hz,he,q⟩:=h
 obtain⟨t,rfl⟩:=rx
 obtain⟨t',rfl⟩:=ry
 obtain⟨j,h1,h2,h3,h4,h5⟩:=fJ he
 have hl:z.cps.toList.length=z.length:=by simp[Str.length]
 rw[hl] at h1 h4 h5
 have hn:=qz
 exact tail_any (typeIs_str s z t) slot_str_getitem.lookup (getItem_str (c:=c) (by
  have e1:decide (i < -(2 ^ 63:Int))=false:=Kd (by lia)
  have e2:decide (i≥2 ^ 63)=false:=Kd (by lia)
  rw[e1,e2,Bool.or_false]) (by rw[h1];simpa using h2) ⟨.str ⟨#[c]⟩,H,I.tok _,⟨_,rfl⟩,q⟩) hs
def cM (K:Ac):R2:=λ x y H Q=>cL K x y H Q\/cJ K x y H Q\/cK x y H Q
def Qw:sW X (cM X.K):=Qx.or (Qu.or Qv)
def RL (its:Ae) (n j:Nat) (u:Value):Obj.mapSeq (·.setIfInBounds j u) { cls:=.type "list",data:=.seq its.toArray n }={ cls:=.type "list",data:=.seq (its.set j u).toArray n }:=by
 simp[Obj.mapSeq]
theorem Inv.lst {EF:Ag}{B:St}{H:Hp}{s:Shared}{p:Addr}{xs:List V}(I:Inv X EF B H s) (h:H p=some (.lst xs)):
  ∃ (its:Ae) (n:Nat),Vals xs its/\s.heap.get? p=some { cls:=.type "list",data:=.seq its.toArray n }/\xs.length<=sizeLine:=by
 obtain⟨z,its,n,r,e⟩:=I.zw p _ h
 exact⟨its,n,r,e,z⟩
def Inv.RO {EF:Ag}{B:St}{H:Hp}{s:Shared}{p:Addr}{xs ys:List V}{its AH:Ae}{n n':Nat}{f:Obj->Obj}(I:Inv X EF B H s) (h:H p=some (.lst xs))
  (ho:s.heap.get? p=some { cls:=.type "list",data:=.seq its.toArray n }) (hf:f { cls:=.type "list",data:=.seq its.toArray n }={ cls:=.type "list",data:=.seq AH.toArray n' }) (r:Vals ys AH) (hz:ys.length<=sizeLine) (t:Nat):
  Inv X EF B (upd H p (.lst ys)) { s with heap:=s.heap.update p f,toks:=t }:=by
 have e:(s.heap.update p f).get? p=some { cls:=.type "list",data:=.seq AH.toArray n' }:=by
  rw[Km f ho (by rw[hf] <;> rfl),hf]
 refine I.write (x:=p) (e:=p) (by rw[h];trivial) (.inl rfl) (λ b u hb q=>(Kl _ _ (Ne.symm hb)).trans q) ⟨_,e⟩ ?_
 exact⟨hz,AH,n',r,e⟩
def Vv:V->V->V->Hp->(Hp->Prop)->Prop:=λ o i v H Q=>∃ p xs k j,o=.ref p/\i=.int k/\H p=some (.lst xs)/\wW xs.length k=some j/\Q (upd H p (.lst (xs.set j v)))
def set_list:YA X Vv:=by
 intro EF s B H o i v ov iv u Q I ro ri rv h
 obtain⟨p,xs,k,j,rfl,rfl,hp,hj,q⟩:=h
 cases ro
 obtain⟨t,rfl⟩:=ri
 obtain⟨its,n,r,ho,hz⟩:=I.lst hp
 obtain⟨h1,h2,h3,h4⟩:=aM hj
 have hl:=r.length
 have hn:=qz
 have I':Inv X EF B (upd H p (.lst (xs.set j v))) { s with heap:=s.heap.update p (Obj.mapSeq (·.setIfInBounds j u)) }:=
  I.RO hp ho (RL its n j u) (r.set rv j) (by rw[Dz];exact hz) s.toks
 by_cases h0:0<=k
 ·have hk:k.toNat=j:=by
   rw[seqIndex_of h0 h4] at h1
   exact A4 h1
  exact PySem.W.ki_setAt ho h0 (by lia) (by rw[Ax,<- hl];exact h4) (by rw[hk];exact⟨_,I',q⟩)
 ·have hk:(k+(its.toArray.size:Int)).toNat=j:=by
   rw[seqIndex_neg (by lia) h3] at h1
   rw[Ax,<- hl]
   exact A4 h1
  exact PySem.W.ki_setBack ho (by lia) (by rw[Ax,<- hl];exact h3) (by lia) (by rw[hk];exact⟨_,I',q⟩)
def W4 (lo hi:Option Int) (n:Nat):(sliceBounds lo hi none n).1=((HT.zE n 0 lo:Nat):Int)/\(sliceBounds lo hi none n).2.1=((HT.zE n n hi:Nat):Int)/\(sliceBounds lo hi none n).2.2=1:=by
 refine⟨?_,?_,rfl⟩
 ·cases lo with
  | none=>simp[sliceBounds,HT.zE]
  | some i=>
   simp only[sliceBounds,HT.zE,Option.getD_none,show (1:Int)>0 by decide,if_true]
   by_cases h:i<0
   ·simp only[h,if_true] <;> lia
   ·simp only[h,if_false] <;> lia
 ·cases hi with
  | none=>simp[sliceBounds,HT.zE]
  | some i=>
   simp only[sliceBounds,HT.zE,Option.getD_none,show (1:Int)>0 by decide,if_true]
   by_cases h:i<0
   ·simp only[h,if_true] <;> lia
   ·simp only[h,if_false] <;> lia
def W5 (its:Ae) (lo hi:Option Int):slicePick its.toArray lo hi none=((its.drop (HT.zE its.length 0 lo)).take (HT.zE its.length its.length hi-HT.zE its.length 0 lo)).toArray:=by
 obtain⟨h1,h2,h3⟩:=W4 lo hi its.toArray.size
 unfold slicePick
 rw[h1,h2,h3]
 simp only[sliceRange_one,pick_run,Ax] <;> rfl
def cG (K:Ac):V->Option Int->Option Int->Hp->VK->Prop:=λ x lo hi H Q=>∃ a xs,x=.ref a/\zJ K H a xs/\∀ p,H p=none->Q (.ref p) (upd H p (.lst (tG xs lo hi)))
def W8:rX X (cG X.K):=by
 intro EF s B H x v vl vu lo hi sl Q I rx hs pl pu h
 obtain⟨a,xs,rfl,hx,q⟩:=h
 cases rx
 obtain⟨its,r,ht,hz⟩:=I.list hx
 have hlen:=r.length
 refine⟨"list",_,slot_list_getitem.lookup,ht.isList.typeIs,?_⟩
 refine wpAny_getItem_list_slice ht.isList hs pl pu .none (by simp) ?_ (by rw[Ax] <;> lia)
 rw[W5,<- hlen]
 refine⟨.ref s.heap.objs.size,_,I.laid (t':=s.toks) (o:=.lst (tG xs lo hi)) (λ b ob q=>J9 _ q) (Ah _) ?_,rfl,q _ (I.zw.fresh (Ah _))⟩
 exact⟨Bk (Ya xs lo hi) hz,_,0,(r.drop (HT.zE xs.length 0 lo)).take (HT.zE xs.length xs.length hi-HT.zE xs.length 0 lo),AD _ rfl⟩
def OH:y8 X (.builtin "len") (λ xs H Q=>∃ p ys,xs=[.ref p]/\(zJ X.K H p ys\/zL X.K H p ys)/\Q (.int ys.length) H):=by
 intro EF s B H xs us Q I r h
 obtain⟨p,ys,rfl,hq,q⟩:=h
 obtain⟨u,rfl,rx⟩:=vals1 r
 cases rx
 have hn:=qz
 rcases hq with hq | hq
 ·obtain⟨its,r',pl,hz⟩:=I.list hq
  have hlen:=r'.length
  exact Calls.call_len_list pl.isList (by simp only[Ax] <;> lia) ⟨.int ys.length,H,I.tok _,⟨s.toks+1,by rw[Ax,hlen]⟩,q⟩
 ·obtain⟨its,r',pl,hz⟩:=I.tuple hq
  have hlen:=r'.length
  exact len_tuple pl (by simp only[Ax] <;> lia) ⟨.int ys.length,H,I.tok _,⟨s.toks+1,by rw[Ax,hlen]⟩,q⟩
def OG:y8 X (.builtin "len") (λ xs H Q=>∃ z,xs=[.str z]/\z.length<=sizeLine/\Q (.int z.length) H):=by
 intro EF s B H xs us Q I r h
 obtain⟨z,rfl,hz,q⟩:=h
 obtain⟨u,rfl,t,rfl⟩:=vals1 r
 have hn:=qz
 exact len_str (by lia) ⟨.int z.length,H,I.tok _,⟨_,rfl⟩,q⟩
def y8.or {f:Value}{r r':List V->Hp->VK->Prop}(h:y8 X f r) (h':y8 X f r'):y8 X f (λ xs H Q=>r xs H Q\/r' xs H Q):=by
 intro EF s B H xs us Q I rs q
 rcases q with q | q
 ·exact h EF s B H xs us Q I rs q
 ·exact h' EF s B H xs us Q I rs q
def OD:y8 X (.type "list") (λ xs H Q=>∃ p ys,xs=[.ref p]/\(zJ X.K H p ys\/zL X.K H p ys)/\∀ l,H l=none->Q (.ref l) (upd H l (.lst ys))):=by
 intro EF s B H xs us Q I r h
 obtain⟨p,ys,rfl,hq,q⟩:=h
 obtain⟨u,rfl,rx⟩:=vals1 r
 cases rx
 have fin:∀ (its:Ae),Vals ys its->ys.length<=sizeLine->∀ (h':Heap) (c':Nat),(∀ b o',s.heap.get? b=some o'->h'.get? b=some o')->
   h'.get? s.heap.objs.size=some { cls:=.type "list",dict:=none,data:=.seq its.toArray c',slots:=#[] }->EP X EF B Q (.ref s.heap.objs.size) { s with heap:=h' }:=λ its r' hz h' c' kp e=>
  ⟨.ref s.heap.objs.size,_,I.laid (t':=s.toks) kp (Ah _) (show yO X.prog X.w _ h' _ (.lst ys) from ⟨hz,its,c',r',e⟩),rfl,q _ (I.zw.fresh (Ah _))⟩
 rcases hq with hq | hq
 ·obtain⟨its,r',pl,hz⟩:=I.list hq
  have hlen:=r'.length
  obtain⟨o,ho,hc,n,hd⟩:=pl.isList
  exact call_list_seq p (.inl rfl) ho hc hd (λ h' c' kp e=>fin its r' hz h' c' kp e) (by simp only[Ax] <;> lia)
 ·obtain⟨its,r',pl,hz⟩:=I.tuple hq
  have hlen:=r'.length
  obtain⟨o,ho,hc,n,hd⟩:=pl
  exact call_list_seq p (.inr rfl) ho hc hd (λ h' c' kp e=>fin its r' hz h' c' kp e) (by simp only[Ax] <;> lia)
def O0:y8 X (.type "tuple") (λ xs H Q=>∃ p ys,xs=[.ref p]/\((zJ X.K H p ys/\∀ l,H l=none->Q (.ref l) (upd H l (.tup ys)))\/(zL X.K H p ys/\Q (.ref p) H))):=by
 intro EF s B H xs us Q I r h
 obtain⟨p,ys,rfl,h⟩:=h
 obtain⟨u,rfl,rx⟩:=vals1 r
 cases rx
 rcases h with ⟨hq,q⟩ | ⟨hq,q⟩
 ·obtain⟨its,r',pl,hz⟩:=I.list hq
  have hlen:=r'.length
  refine call_tuple_list pl.isList (λ h' kp=>?_) (by simp only[Ax] <;> lia)
  have I1:Inv X EF B H { s with heap:=h' }:=I.kept (t':=s.toks) kp
  have I2:Inv X EF B (upd H h'.objs.size (.tup ys)) { s with heap:=h'.push { cls:=.type "tuple",data:=.seq its.toArray } }:=
   I1.laid (t':=s.toks) (λ b o e=>J9 _ e) (Ah _) (show yO X.prog X.w _ _ _ (.tup ys) from ⟨hz,its,r',IsTup.new _ _⟩)
  exact⟨.ref h'.objs.size,_,I2,rfl,q _ (I1.zw.fresh (Ah _))⟩
 ·obtain⟨its,r',pl,hz⟩:=I.tuple hq
  exact call_tuple_same pl ⟨.ref p,H,I,rfl,q⟩
def dF (K:Ac) (T:String) (x:V) (H:Hp):Prop:=match x with
 | .str _=>T="str"
 | .int _=>T="int"
 | .ref p=>(T="list"/\∃ xs,zJ K H p xs)\/(T="tuple"/\∃ o,K.lookup p=some o/\o.cls=.type "tuple"/\o.dict=none)\/
   (T="dict"/\((∃ Aa,H p=some (.dK Aa))\/∃ Aa,H p=some (.dT Aa)))\/(T="set"/\∃ S n,H p=some (.set S n))
 | _=>False
def X8 {EF:Ag}{B:St}{H:Hp}{s:Shared}{T:String}{x:V}{v:Value}(I:Inv X EF B H s) (r:RelV x v) (ty:dF X.K T x H):
  s.TypeIs v T/\∀ a,v=.ref a->∃ ob,s.heap.get? a=some ob/\ob.dict=none:=by
 cases x with
 | str z=>
  obtain⟨t,rfl⟩:=r
  cases (show T="str" from ty)
  exact⟨typeIs_str s z t,λ _ e=>nomatch e⟩
 | int i=>
  obtain⟨t,rfl⟩:=r
  cases (show T="int" from ty)
  exact⟨typeIs_int s i t,λ _ e=>nomatch e⟩
 | ref p=>
  cases r
  rcases ty with ⟨rfl,xs,hq⟩ | ⟨rfl,o,hk,hc,hd⟩ | ⟨rfl,hk⟩ | ⟨rfl,S,n,hk⟩
  ·obtain⟨its,_,pl,_⟩:=I.list hq
   refine⟨pl.isList.typeIs,λ a e=>?_⟩
   cases e
   obtain⟨o,n,e,c,hd,_⟩:=pl
   exact⟨o,e,hd⟩
  ·refine⟨⟨o,I.vF p o hk,hc⟩,λ a e=>?_⟩
   cases e
   exact⟨o,I.vF _ o hk,hd⟩
  ·have z:∃ o,s.heap.get? p=some o/\o.ExactDict:=by
    rcases hk with ⟨Aa,hk⟩ | ⟨Aa,hk⟩
    ·obtain⟨_,_,_,_,o,_,_,e,ex,_⟩:=I.zw p _ hk
     exact⟨o,e,ex⟩
    ·obtain⟨_,_,_,_,o,_,_,e,ex,_⟩:=I.zw p _ hk
     exact⟨o,e,ex⟩
   obtain⟨o,e,ex⟩:=z
   refine⟨⟨o,e,ex.1⟩,λ a e2=>?_⟩
   cases e2
   exact⟨o,e,ex.2.1⟩
  ·obtain⟨o,_,_,_,e,ex,_⟩:=I.zw p _ hk
   refine⟨⟨o,e,ex.1⟩,λ a e2=>?_⟩
   cases e2
   exact⟨o,e,ex.2.1⟩
 | _=>exact False.elim ty
def jE (K:Ac) (T:String) (r:V->List V->Hp->VK->Prop) (to:TE) (t:TA):TE:=fun B H Q=>to B H λ x H1=>dF K T x H1/\t B H1 λ xs H2=>r x xs H2 Q
variable {o e:Expr}{es:List Expr}{to:TE}{t:TA}{name:Str}{apos Al:Pos}{T id:String}{r:V->List V->Hp->VK->Prop}
def bc (pa:PlainAttrs T) (slot:Slot T name id) (hty:typeOf (.builtin id)=pure (.type "method_descriptor")) (hm:Np X id r) (ho:PE X o to) (ha:PA X (e::es) t)
  (Gg:attributeBase o name X.env (eval o X.env)=eval o X.env:=by rfl)
  (AJ:((backTo Al (starEach (e::es) X.env)).all (λ x=>!x.1)&&(backToKw Al (keywordEach [] X.env)).all (λ x=>x.1.isSome)
   && decide ((e::es).length+([]:List Keyword).length+(if ([]:List Keyword).isEmpty then 0 else 1)<30))=true:=by rfl)
  (Ge:(apos.endLine == Al.line)=true:=by rfl) (hs:starEach (e::es) X.env=(false,eval e X.env)::starEach es X.env:=by rfl) (FN:(backTo Al (starEach es X.env)).any (·.1)=false:=by rfl):
  PE X (.Call (.Attribute o name apos) (e::es) [] Al) (jE X.K T r to t):=by
 intro EF s B H Q I h
 refine wpAny_Call_method_late Gg AJ Ge rfl (zC (ho EF s B H _ I h) λ v s1 ⟨x,H1,I1,r1,ty,q1⟩=>?_)
 obtain⟨h1,h2⟩:=X8 I1 r1 ty
 refine⟨T,id,pa,slot,hty,h1,h2,?_⟩
 have hA:=ha Al EF s1 B H1 _ I1 q1
 rw[hs] at hA ⊢
 refine Calls.callWith_builtin (by show (false||(backTo Al (starEach es X.env)).any (·.1))=false;rw[FN] <;> rfl) (Calls.evalArgs_plain ?_)
 exact zC hA λ us s2 ⟨vs,H2,I2,r2,q2⟩=>hm EF s2 B H2 x vs v us Q I2 r1 r2 q2
end
def YC (X:Cx) (id:String) (r:V->List V->Hp->VK->Prop):Prop:=
 ∀ (EF:Ag) (s:Shared) (B:St) (H:Hp) (x:V) (xs:List V) (v:Value) (us:Ae) (Q:VK),Inv X EF B H s->RelV x v->Vals xs us->r x xs H Q->
  wpAny (model X.prog X.w) X.A (call (.builtin id) (v::us)) (EP X EF B Q) X.xe s
theorem Vals.one:∀ {x:V}{us:Ae},Vals [x] us->∃ u,us=[u]/\RelV x u
 | _,_,.cons r .nil=>⟨_,rfl,r⟩
theorem Vals.rep {xs:List V}{us:Ae}(h:Vals xs us):∀ k:Nat,Vals (List.replicate k xs).flatten (List.replicate k us).flatten
 | 0=>.nil
 | k+1=>by
  rw[BK,BK,Ce,Ce]
  exact Vals.append h (Vals.rep h k)
section
variable {X:Cx}{EF:Ag}{B:St}{H:Hp}{s:Shared}{l:Addr}{xs ys:List V}
def Inv.aj {its AH:Ae}{n:Nat}{f:Array Value->Array Value}{t':Nat}(I:Inv X EF B H s) (hH:H l=some (.lst xs))
  (e:s.heap.get? l=some { cls:=.type "list",data:=.seq its.toArray n }) (hf:f its.toArray=AH.toArray) (hv:Vals ys AH) (hz:ys.length<=sizeLine):
  Inv X EF B (upd H l (.lst ys)) { s with heap:=s.heap.update l (Obj.mapSeq f),toks:=t' }:=by
 have q:=PySem.IsL.update e f
 rw[hf] at q
 refine I.write (x:=l) (e:=l) (by rw[hH];exact trivial) (.inl rfl) (λ b' u hb hu=>(Kl s.heap (Obj.mapSeq f) (Ne.symm hb)).trans hu) ⟨_,q⟩ ?_
 exact⟨hz,AH,_,hv,q⟩
def Inv.RS {its:Ae}{t':Nat}(I:Inv X EF B H s) (hv:Vals ys its) (hz:ys.length<=sizeLine):
  Inv X EF B (upd H s.heap.objs.size (.lst ys)) { s with heap:=s.heap.push { cls:=.type "list",data:=.seq its.toArray },toks:=t' }:=
 I.laid (λ _ _ q=>J9 _ q) (Ah _) ⟨hz,its,0,hv,AD _ rfl⟩
theorem Inv.fresh (I:Inv X EF B H s):H s.heap.objs.size=none:=I.zw.fresh (Ah _)
def Inv.gk (I:Inv X EF B H s) (hH:H l=some (.lst xs)):xs.length<=sizeLine/\∃ (its:Ae) (n:Nat),Vals xs its/\xs.length=its.length/\s.heap.get? l=some { cls:=.type "list",data:=.seq its.toArray n }:=by
 obtain⟨z,its,n,r,e⟩:=I.zw l _ hH
 exact⟨z,its,n,r,r.length,e⟩
def Rw {n:Nat}(h:n<=sizeLine):Builtin.List.listTooLong n=false:=by
 unfold Builtin.List.listTooLong
 exact Kd (by lia)
def cT:V->List V->Hp->VK->Prop:=λ x vs H Q=>∃ l xs y,x=.ref l/\vs=[y]/\H l=some (.lst xs)/\xs.length<sizeLine/\Q .zm (upd H l (.lst (xs++[y])))
def ag:YC X "list.append" cT:=by
 intro EF s B H x vs v us Q I rx rv h
 obtain⟨l,xs,y,rfl,rfl,hH,hz,q⟩:=h
 cases rx
 obtain⟨u,rfl,ru⟩:=rv.one
 obtain⟨z,its,n,r,hl,e⟩:=I.gk hH
 refine call_meets F.slot_list_append ⟨_,e,rfl⟩ F.entry_list_append (F.args_list_append_2 _ _) (PySem.list_append l its.toArray n u (by rw[Ax];lia)) ⟨e,?_⟩
 refine⟨.zm,_,I.aj (AH:=its++[u]) hH e (by simp) (r.append (.cons ru .nil)) ?_,rfl,q⟩
 rw[Cg,List.length_singleton]
 lia
def cO:V->List V->Hp->VK->Prop:=λ x vs H Q=>∃ l b xs zs,x=.ref l/\vs=[.ref b]/\H l=some (.lst xs)/\H b=some (.lst zs)/\xs.length+zs.length<=sizeLine/\Q .zm (upd H l (.lst (xs++zs)))
def RD:YC X "list.extend" cO:=by
 intro EF s B H x vs v us Q I rx rv h
 obtain⟨l,b,xs,zs,rfl,rfl,hH,hB,hz,q⟩:=h
 cases rx
 obtain⟨u,rfl,ru⟩:=rv.one
 cases ru
 obtain⟨z,its,n,r,hl,e⟩:=I.gk hH
 obtain⟨z2,Fc,n2,r2,G2,e2⟩:=I.gk hB
 have hsz:its.toArray.size+Fc.toArray.size<=sizeLine:=by rw[Ax,Ax];lia
 have Ir:¬ (!its.toArray.isEmpty&&Builtin.List.listTooLong (its.toArray.size+Fc.toArray.size))=true:=by
  rw[Rw hsz,CG]
  exact BB
 refine call_meets F.slot_list_extend ⟨_,e,rfl⟩ F.entry_list_extend (F.args_list_extend_2 _ _)
  (AutoSeq1.list_extend_list_list_0 l its.toArray n b Fc.toArray n2 Ir (by rw[Ax];lia) (by lia)) ⟨e,e2,?_⟩
 refine⟨.zm,_,I.aj (AH:=its++Fc) hH e (by simp) (r.append r2) ?_,rfl,q⟩
 rw[Cg]
 lia
end
end L2
namespace Xu
open PySem PySem.W PySem.Calls PyProof.Rows
def Q7 {P:Params}{h:Heap}:∀ (ns:List Int) (vs:Ae),WellAll P h vs (ns.map WData.int)->IntsAre vs ns:=by
 intro ns
 induction ns with
 | nil=>
  intro vs w
  rw[A6] at w
  cases w
  exact .nil
 | cons n ns ih=>
  intro vs w
  rw[Ar] at w
  cases w with
  | cons a b=>
   cases a
   exact .cons _ _ (ih _ b)
def WG {l:OpenLaw}{n:Nat}(hn:l.most=some n) {P:Params}{h:Heap}{args:List WData}{vals:Ae}
  (BX:l.row.toRowW.claim.pre args=true) (D4:WellAll P h vals args):
  ∃ a vs ns,vals=[Value.ref a]/\args=[WData.list (ns.map WData.int)]/\h.get? a=some { cls:=.type "list",data:=.seq vs.toArray }/\IntsAre vs ns/\ns.length<=n:=by
 have DE:WShape.hasAll [] args [.list .int]=true:=(pre_splitW BX).1
 have hc:l.pre.holds [] { args:=args }=true:=(pre_splitW BX).2
 obtain⟨d,r,rfl,h1,h2⟩:=hasAllW_cons DE
 obtain rfl:=hasAllW_nil h2
 obtain⟨xs,rfl,h3⟩:=hasW_list h1
 obtain⟨ns,rfl⟩:=items_int h3
 have hlen:ns.length<=n:=by
  unfold OpenLaw.pre at hc
  have h4:(WTm.not (.lt (.lit (.int (n:Int))) (.len (.arg 0)))).holds [] { args:=[.list (ns.map .int)] }=true:=by
   have h4:=(holds_andW hc).1
   rw[hn] at h4
   exact h4
  have h5:=condW_of h4 (w_not (w_lt w_lit (w_len_list (w_arg rfl))))
  rw[Ay] at h5
  refine Nat.le_of_not_lt λ q=>?_
  have q':(n:Int)<((ns.length:Nat):Int):=by lia
  first
   | (rw[Ki q'] at h5;exact absurd h5 (by decide))
   | (simp at h5;lia)
 cases D4 with
 | cons w1 w2=>
  cases w2
  cases w1 with
  | list ho AE=>exact⟨_,_,ns,rfl,rfl,ho,Q7 ns _ AE,hlen⟩
def VL (l:OpenLaw) (args:List WData):l.row.toRowW.claim.post args (.bool true) args=true:=
 postW_of (r:=l.row.toRowW) (X:=(true == true))
  (show WShape.has [] (.bool true) .bool=true by first | rfl | decide | simp[WShape.has,WShape.arms,WShape.armsAll])
  (show (WTm.eq .res (.lit (.bool true))).value [] { args:=args,res:=some (.bool true),after:=args }=some (.bool (true == true)) from w_eq_bool (w_res rfl) w_lit) rfl
def Na {l:OpenLaw}{n:Nat}{q:Program}{loose:List Str}{XP:(Str->Option Value)->Heap->Prop}{YP:World->Heap->Prop}{d:DefRec}
  (hn:l.most=some n) (Dg:d.params.defaults=[])
  (call:∀ (w:World) (s₀ s₁:Shared) (mg mb:AF) (fa:Addr) (o:Obj) (pm cd doc:Value) (a:Addr) (vs:Ae) (ns:List Int),
   Ground q loose [] XP w s₀ mg mb s₁.heap->YP w s₁.heap->
   s₁.heap.get? fa=some o->o.data=.func (docDef d.name d.params d.body d.scope pm cd doc)->s₁.heap.CodeRec cd d.name->mg d.name=some (.ref fa)->
   s₁.heap.get? a=some { cls:=.type "list",data:=.seq vs.toArray }->IntsAre vs ns->ns.length<=n->s₁.gens=#[]->
   codeAny (model l.prog w) callerA (.call (.ref fa) ⟨[.ref a],[]⟩) (λ r s'=>r=.ok (.ret (.bool true))/\OldK s₁.heap s'.heap/\s'.os=s₁.os/\AllBare s'.gens) s₁):
  WalkO q loose XP YP l.row.toRowW d [] (λ f vs=>PySem.call f vs):=by
 intro w s₀ s₁ mg mb G Y fa o pm cd doc dV kV ho hd Bs hD C8 hg args vals as BX C9 hrd D4 Eo
 obtain rfl:dV=.none:=Dflts.none hD Dg
 obtain rfl:kV=.none:=Dflts.noKw hD
 obtain⟨a,vs,ns,rfl,rfl,Cz,hints,hlen⟩:=WG hn BX D4
 refine enter_call (codeAny_mono (call w s₀ s₁ mg mb fa o pm cd doc a vs ns G Y ho (fd_plain hd) Bs C8 Cz hints hlen hg) λ r s' hq=>?_)
 obtain⟨rfl,h2,h3,h4⟩:=hq
 exact⟨.inl ⟨.bool true,.bool true,[],rfl,λ _=>rfl,.bool true,VL l _,λ _=>⟨List.Pairwise.nil,λ _ hm=>(nomatch hm)⟩⟩,h2,h3,h4⟩
end Xu
namespace L2
open PySem PySem.Spec PyProof.Rows
theorem dq:∀ {vs:Ae}{ns:List Int},IntsAre vs ns->Vals (ns.map V.int) vs
 | _,_,.nil=>.nil
 | _,_,.cons n t h=>.cons ⟨t,rfl⟩ (dq h)
def kY (H:Hp):Prop:=∀ b,H b=none\/∃ o xs,H b=some (.xW o (.lst xs))
def Qg {P:Program}{w:World}{K:Ac}{mg mb:AF}{CX:uM}{k:Nat}{fa a:Addr}{fd:FuncData}{x:Str}{sp:Sp}{s₁:Shared}{vs:Ae}{ns:List Int}
  (KX:K.In s₁.heap) (CA:s₁.heap.Ns mainGlobals mg) (hb:s₁.heap.Ns builtinsNs mb) (hbb:∀ x:Str,x≠"__name__"->mb x=bootBuiltins x) (Ep:s₁.heap.NoLimit) (hg:s₁.gens=#[])
  (ha:s₁.heap.get? a=some { cls:=.type "list",data:=.seq vs.toArray }) (hi:IntsAre vs ns) (hl:ns.length<=sizeLine) (hr:yq k callerA)
  (F:∀ base:Heap,K.In base->base.Ns mainGlobals mg->uu P w K mg base CX k fa fd [x] sp) (IB:∀ (s:Shared) (u:Value),BindsTo s fd ⟨[u],[]⟩ [(x,u)])
  (Ci:∀ H:Hp,kY H->zJ K H a (ns.map V.int)->sp [.ref a] H (λ v _=>v=.bl true) λ _ _ _=>False)
  (JQ:∀ H e s',CX [] H s₁ (λ _ _ _=>False) e s'->False):
  codeAny (model P w) callerA (.call (.ref fa) ⟨[.ref a],[]⟩) (λ r s'=>r=.ok (.ret (.bool true))/\OldK s₁.heap s'.heap/\s'.os=s₁.os/\AllBare s'.gens) s₁:=by
 have rv:=dq hi
 have Js:=hi.length
 have core:∀ H:Hp,kY H->zJ K H a (ns.map V.int)->yK P w H s₁.heap->(∀ b,H b≠none->b=a)->(H a≠none->K.lookup a=none)->
   codeAny (model P w) callerA (.call (.ref fa) ⟨[.ref a],[]⟩) (λ r s'=>r=.ok (.ret (.bool true))/\OldK s₁.heap s'.heap/\s'.os=s₁.os/\AllBare s'.gens) s₁:=by
  intro H hO hS zw hA hK
  have GA:∀ {b:Addr}{o:Obj},s₁.heap.get? b=some o->H b=none->(sE s₁.heap H).get? b=some o:=λ e n=>QI e n
  have Ih:∀ {b:Addr}{o:Obj}{es:Array DictEntry}{ep:Nat},s₁.heap.get? b=some o->o.data=.dict es ep->H b=none:=λ{b o es ep} e d=>by
   cases q:H b with
   | none=>rfl
   | some u=>
    have e':b=a:=hA b (by rw[q];simp)
    subst e'
    rw[ha] at e;cases e
    have d':Data.seq vs.toArray _=Data.dict es ep:=d
    cases d'
  have IT:∀ {b:Addr}{m:AF},s₁.heap.Ns b m->(sE s₁.heap H).Ns b m:=λ{b m} ⟨o,es,ep,e,d,r⟩=>⟨o,es,ep,GA e (Ih e d),d,r⟩
  have hKb:K.In (sE s₁.heap H):=λ b o e=>GA (KX b o e) (by
   cases q:H b with
   | none=>rfl
   | some u=>
    have e':b=a:=hA b (by rw[q];simp)
    subst e'
    rw[hK (by rw[q];simp)] at e;cases e)
  have hM:Mod K mg (sE s₁.heap H):=⟨hKb,IT CA,⟨mb,IT hb,hbb⟩,let ⟨mc,h1,h2⟩:=Ep;⟨mc,IT h1,h2⟩⟩
  have e0:jq P w K mg (sE s₁.heap H) callerA [] s₁ H:=⟨rfl,hM,λ b o e=>Rv e,Nat.le_of_eq (QH _ _),trivial,λ b hb=>absurd (show b∈([]:List Addr) from hb) (by simp),zw,.of_eq hg⟩
  refine codeAny_mono ((F _ hKb (IT CA)).run callerA [] s₁ H ⟨[.ref a],[]⟩ [.ref a] [.ref a] _ _ hr e0 (IB s₁ (.ref a)) (.cons rfl .nil) (Ci H hO hS)) λ r s' h=>?_
  cases r with
  | error e=>exact (JQ H e s' h).elim
  | ok fl=>
   cases fl with
   | ret u=>
    obtain⟨v,H',os,bare,un,Eh,r',q⟩:=h
    have q':v=.bl true:=q
    subst q'
    obtain rfl:u=Value.bool true:=r'
    refine⟨rfl,OldK.of_keep λ b o e=>?_,os,bare⟩
    cases q:H b with
    | none=>exact un.keep b o e q (by intro z;exact absurd (show b∈([]:List Addr) from z) (by simp)) (by simp)
    | some u=>
     rcases hO b with z | ⟨ob,xs,z⟩
     ·rw[q] at z;cases z
     ·have z2:=un.sG b ob _ z
      obtain⟨e1,_⟩:=zw b _ z
      obtain⟨e2,_⟩:=Eh b _ z2
      rw[e] at e1;cases e1
      exact e2
   | _=>exact False.elim h
 cases hk:K.lookup a with
 | some o=>
  have e:=KX a o hk
  rw[ha] at e
  cases e
  refine core (λ _=>none) (λ _=>.inl rfl) (.inr ⟨_,vs.toArray,_,hk,rfl,rfl,rfl,by rw[Ax,Js];exact hl,by simpa using rv⟩) (λ b u z=>by have z':(none:Option HO)=some u:=z;cases z') (λ b z=>absurd rfl z) λ z=>absurd rfl z
 | none=>
  refine core (λ b=>if b=a then some (.xW { cls:=.type "list",data:=.seq vs.toArray } (.lst (ns.map V.int))) else none) (λ b=>?_) (.inl (.inr ⟨{ cls:=.type "list",data:=.seq vs.toArray },if_pos rfl⟩)) (λ b u z=>?_) (λ b z=>?_) λ _=>hk
  ·by_cases hb:b=a
   ·exact .inr ⟨_,_,if_pos hb⟩
   ·exact .inl (if_neg hb)
  ·by_cases hb:b=a
   ·have z':=(if_pos hb).symm.trans z
    cases z'
    subst hb
    exact⟨ha,by rw[Ay];exact hl,vs,_,rv,ha⟩
   ·have z':=(if_neg hb).symm.trans z
    cases z'
  ·by_cases hb:b=a
   ·exact hb
   ·exact absurd (if_neg hb) z
def Xy {l:PySem.W.OpenLaw}{n k:Nat}{q:Program}{loose:List Str}{XP:(Str->Option Value)->Heap->Prop}{YP:World->Heap->Prop}{d:DefRec}{K:Params->Ac}{CX:World->uM}{sp:World->Sp}{x:Str}
  (hn:l.most=some n) (hn2:n<=sizeLine) (Dg:d.params.defaults=[]) (hr:yq k callerA)
  (hY:∀ (w:World) (h:Heap),YP w h->(K w.params).In h)
  (F:∀ (w:World) (mg:AF) (fa:Addr) (h:Heap),(K w.params).In h->h.Ns mainGlobals mg->mg d.name=some (.ref fa)->
   ∃ fd:FuncData,(∀ (s:Shared) (u:Value),BindsTo s fd ⟨[u],[]⟩ [(x,u)])/\
    ∀ base:Heap,(K w.params).In base->base.Ns mainGlobals mg->uu l.prog w (K w.params) mg base (CX w) k fa fd [x] (sp w))
  (Ci:∀ (w:World) (H:Hp) (a:Addr) (ns:List Int),ns.length<=n->kY H->zJ (K w.params) H a (ns.map V.int)->sp w [.ref a] H (λ v _=>v=.bl true) λ _ _ _=>False)
  (JQ:∀ (w:World) (H:Hp) (s:Shared) (e:Value) (s':Shared),CX w [] H s (λ _ _ _=>False) e s'->False):
  PySem.W.WalkO q loose XP YP l.row.toRowW d [] (λ f vs=>PySem.call f vs):=by
 refine Xu.Na hn Dg λ w s₀ s₁ mg mb fa o pm cd doc a vs ns G Y ho hd Bs C8 Cz hints hlen hg=>?_
 have KX:=hY w _ Y
 obtain⟨fd,hb,hF⟩:=F w mg fa _ KX G.T.g C8
 exact Qg KX G.T.g G.T.b G.T.builtins G.T.nolimit hg Cz hints (Bk hlen hn2) hr hF hb (λ H hO hS=>Ci w H a ns hlen hO hS) λ H e s'=>JQ w H s₁ e s'
noncomputable def tE (s:Stmt):Arguments:=match s with
 | .FunctionDef _ a _ _ _ _ _ _ _ _=>a
 | _=>{ posonlyargs:=[],args:=[],vararg:=none,kwonlyargs:=[],kw_defaults:=[],kwarg:=none,defaults:=[] }
noncomputable def w_ (s:Stmt):List Stmt:=match s with
 | .FunctionDef _ _ b _ _ _ _ _ _ _=>b
 | _=>[]
noncomputable def zB (s:Stmt):Scope:=match s with
 | .FunctionDef _ _ _ _ _ _ sc _ _ _=>sc
 | _=>{ kind:=.function,names:=[],isGenerator:=false,isCoroutine:=false }
abbrev vy:uM:=λ _ _ _ _ _ _=>False
abbrev E0:XK:=λ _ _ _=>False
def Td {X:Cx}:Passes vy X E0:=λ _ _ _ _ _ _ _ h=>h.elim
structure uL (K:Ac) (x qual:Str) (st:Stmt) (f:Addr) (fd:FuncData):Prop where
 ex:∃ (oc:Value) (od:Option Addr) (kV doc pm:Value) (an:Option Addr) (Af ct:Value) (Hd:Array (Option Value)),
  fd=PySem.W.fnOf x qual (tE st) (w_ st) (zB st) .none kV doc pm an Af ct/\K.lookup f=some ⟨oc,od,.func fd,Hd⟩/\PySem.W.codeIn K Af qual=true
 kp:PySem.W.keepIn K (.ref f)=true
section
variable {P:Program}{w:World}{K:Ac}{mg:AF}{base:Heap}
def uL.ok {x qual:Str}{st:Stmt}{f:Addr}{fd:FuncData}{N ps:List Str}{k:Nat}{sp:Sp}(F:uL K x qual st f fd) (S:zY N ps (zB st)) (len:∀ vs H Q E,sp vs H Q E->vs.length=ps.length)
  (Fm:∀ (Af:Value) (A:Around) (outer:List Env) (s:Shared) (H:Hp) (vs:List V) (Q:VK) (E:XK),yq k (A.deeper (envOfC qual (zB st) s.heap.objs.size f Af))->sp vs H Q E->
   ∃ t,xP (tF vy P w K mg base N qual (zB st) f Af A outer s H E).rD (w_ st) t/\t { nx:=λ _ H'=>Q .zm H',rt:=Q } (start N vs) H):uu P w K mg base vy (k+1) f fd ps sp:=by
 obtain⟨oc,od,kV,doc,pm,an,Af,ct,Hd,rfl,lk,Bs⟩:=F.ex
 refine Ph lk Bs S len λ A outer s H vs Q E hr Ci=>?_
 obtain⟨t,h,q⟩:=Fm Af A outer s H vs Q E hr Ci
 exact⟨t,h.rD,q⟩
def uL.binds {x qual:Str}{st:Stmt}{f:Addr}{fd:FuncData}{ps:List Str}(F:uL K x qual st f fd)
  (h:∀ (kV doc pm:Value) (an:Option Addr) (Af ct:Value) (us:Ae),us.length=ps.length->bindArgs (PySem.W.fnOf x qual (tE st) (w_ st) (zB st) .none kV doc pm an Af ct) ⟨us,[]⟩=pure (ps.zip us)):Binds K fd ps []:=by
 obtain⟨oc,od,kV,doc,pm,an,Af,ct,Hd,rfl,lk,Bs⟩:=F.ex
 exact .all (h kV doc pm an Af ct)
def Zt {x qual:Str}{st:Stmt}{f:Addr}{oc:Value}{od an:Option Addr}{Hd:Array (Option Value)}{kV doc pm Af ct:Value}(l:K.lookup f=some ⟨oc,od,.func (PySem.W.fnOf x qual (tE st) (w_ st) (zB st) .none kV doc pm an Af ct),Hd⟩)
  (c:PySem.W.codeIn K Af qual=true) (k:PySem.W.keepIn K (.ref f)=true):uL K x qual st f (PySem.W.fnOf x qual (tE st) (w_ st) (zB st) .none kV doc pm an Af ct):=⟨⟨oc,od,kV,doc,pm,an,Af,ct,Hd,rfl,l,c⟩,k⟩
end
def gE {A:Around}{k:Nat}(hr:yq k A):A.units+1<cLine:=Nat.lt_of_le_of_lt (Nat.add_le_add_left (by decide:1<=64) _) hr.units
section
variable {X:Cx}
def pv (i:Nat) {x:Str}{pos:Pos}(hN:X.N[i]?=some x:=by rfl) (hv:kS X.env.scope x:=by first | exact Or.inl rfl | exact Or.inr (Or.inl rfl) | exact Or.inr (Or.inr rfl)) (hd:(x == ("__debug__":Str))=false:=by decide)
  (Bs:(x == ("__classdict__":Str))=false:=by decide):PE X (.Name x pos) (jA i):=Ug hN hv hd Bs
end
end L2
namespace PySem
theorem f9 {env:Env}:∀ (l:List (Str×NameKind)) (acc:List (Str×Addr)),(∀ y∈l,y.2=.free->∃ c,env.cells.lookup y.1=some c)->
  ∃ cl,(forIn l acc (λ(x:Str×NameKind) r=>if (x.2 == NameKind.free)=true then do let a <- cellOf env x.1;pure (ForInStep.yield ((x.1,a)::r)) else pure (ForInStep.yield r)):Sem (List (Str×Addr)))=pure cl/\
   (∀ x c,cl.lookup x=some c->acc.lookup x=some c\/((x,NameKind.free)∈l/\env.cells.lookup x=some c))/\(∀ x,(x,NameKind.free)∈l\/(acc.lookup x).isSome->(cl.lookup x).isSome)
 | [],acc,_=>⟨acc,rfl,λ x c h=>.inl h,λ x h=>by simpa using h⟩
 | (n,k)::l,acc,h=>by
  by_cases hk:k=.free
  ·subst hk
   obtain⟨c,hc⟩:=h (n,.free) Ao rfl
   obtain⟨cl,e1,e2,e3⟩:=f9 l ((n,c)::acc) λ y hy=>h y (Aw _ hy)
   refine⟨cl,?_,λ x d hx=>?_,λ x hx=>?_⟩
   ·rw[Dy]
    simp only[beq_self_eq_true,if_true,cellOf,hc]
    exact e1
   ·rcases e2 x d hx with q | ⟨q1,q2⟩
    ·rw[Bv] at q
     cases C2:x == n with
     | true=>
      rw[C2] at q
      have:x=n:=by simpa using C2
      subst this
      refine .inr ⟨Ao,?_⟩
      rw[hc];exact q
     | false=>rw[C2] at q;exact .inl q
    ·exact .inr ⟨Aw _ q1,q2⟩
   ·refine e3 x ?_
    rcases hx with hx | hx
    ·rcases Ai.mp hx with q | q
     ·have:x=n:=congrArg Prod.fst q
      subst this
      exact .inr (by simp[Bv])
     ·exact .inl q
    ·refine .inr ?_
     rw[Bv]
     cases x == n <;> simp[hx]
  ·have hb:(k == NameKind.free)=false:=by simpa using hk
   obtain⟨cl,e1,e2,e3⟩:=f9 l acc λ y hy=>h y (Aw _ hy)
   refine⟨cl,?_,λ x d hx=>?_,λ x hx=>?_⟩
   ·rw[Dy]
    simp only[hb,A5,if_false]
    exact e1
   ·rcases e2 x d hx with q | ⟨q1,q2⟩
    ·exact .inl q
    ·exact .inr ⟨Aw _ q1,q2⟩
   ·refine e3 x ?_
    rcases hx with hx | hx
    ·rcases Ai.mp hx with q | q
     ·exact absurd (congrArg Prod.snd q).symm hk
     ·exact .inl q
    ·exact .inr hx
def Yd {scope:Scope}{env:Env}(h:∀ y∈scope.names,y.2=.free->∃ c,env.cells.lookup y.1=some c):
  ∃ cl,closureFor scope env=pure cl/\(∀ x c,cl.lookup x=some c->(x,NameKind.free)∈scope.names/\env.cells.lookup x=some c)/\∀ x,(x,NameKind.free)∈scope.names->(cl.lookup x).isSome:=by
 obtain⟨cl,e1,e2,e3⟩:=f9 (env:=env) scope.names [] h
 refine⟨cl,?_,λ x c hx=>?_,λ x hx=>e3 x (.inl hx)⟩
 ·simp only[closureFor]
  rw[e1]
  rfl
 ·rcases e2 x c hx with q | q
  ·simp at q
  ·exact q
theorem ar {env:Env}:∀ {names:List (Str×NameKind)}{x:Str},names.lookup x=some .free->
  (names.map λ(n,k)=>if (k == NameKind.free&&env.scope.kind == .function&&env.kindOf n == some .cell) then (n,NameKind.cell) else (n,k)).lookup x=some .cell\/
  (names.map λ(n,k)=>if (k == NameKind.free&&env.scope.kind == .function&&env.kindOf n == some .cell) then (n,NameKind.cell) else (n,k)).lookup x=some .free
 | [],_,h=>by simp at h
 | (n,k)::r,x,h=>by
  have ih:=@ar env r x
  show List.lookup x ((if (k == NameKind.free&&env.scope.kind == .function&&env.kindOf n == some .cell)=true then (n,NameKind.cell) else (n,k))::_)=_\/List.lookup x ((if (k == NameKind.free&&env.scope.kind == .function&&env.kindOf n == some .cell)=true then (n,NameKind.cell) else (n,k))::_)=_
  cases hx:x == n with
  | true=>
   simp only[Bv,hx] at h
   cases h
   by_cases hc:(NameKind.free == NameKind.free&&env.scope.kind == .function&&env.kindOf n == some .cell)=true
   ·rw[if_pos hc];simp[Bv,hx]
   ·rw[if_neg hc];simp[Bv,hx]
  | false=>
   simp only[Bv,hx] at h
   by_cases hc:(k == NameKind.free&&env.scope.kind == .function&&env.kindOf n == some .cell)=true
   ·rw[if_pos hc];simp only[Bv,hx];exact ih h
   ·rw[if_neg hc];simp only[Bv,hx];exact ih h
theorem cA {env:Env}:∀ {names:List (Str×NameKind)}{x:Str},(∀ y∈names,y.2≠.cell)->
  ((names.map λ(n,k)=>if (k == NameKind.free&&env.scope.kind == .function&&env.kindOf n == some .cell) then (n,NameKind.cell) else (n,k)).lookup x=some .cell\/
  (names.map λ(n,k)=>if (k == NameKind.free&&env.scope.kind == .function&&env.kindOf n == some .cell) then (n,NameKind.cell) else (n,k)).lookup x=some .free)->(x,NameKind.free)∈names
 | [],_,_,h=>by simp at h
 | (n,k)::r,x,hn,h=>by
  have ih:=@cA env r x λ y hy=>hn y (Aw _ hy)
  have h':List.lookup x ((if (k == NameKind.free&&env.scope.kind == .function&&env.kindOf n == some .cell)=true then (n,NameKind.cell) else (n,k))::_)=some .cell\/List.lookup x ((if (k == NameKind.free&&env.scope.kind == .function&&env.kindOf n == some .cell)=true then (n,NameKind.cell) else (n,k))::_)=some .free:=h
  have hf:∀ k',((if (k == NameKind.free&&env.scope.kind == .function&&env.kindOf n == some .cell)=true then (n,NameKind.cell) else (n,k)):Str×NameKind)=(n,k')->(k'=.cell\/k'=.free)->k=.free:=by
   intro k' e FF
   by_cases hc:(k == NameKind.free&&env.scope.kind == .function&&env.kindOf n == some .cell)=true
   ·simp only[Bw] at hc;simpa using hc.1.1
   ·rw[if_neg hc] at e
    have:k=k':=congrArg Prod.snd e
    subst this
    rcases FF with q | q
    ·exact absurd q (hn (n,k) Ao)
    ·exact q
  cases hx:x == n with
  | true=>
   have C2:x=n:=by simpa using hx
   subst C2
   by_cases hc:(k == NameKind.free&&env.scope.kind == .function&&env.kindOf x == some .cell)=true
   ·simp only[Bw] at hc
    have:k=.free:=by simpa using hc.1.1
    subst this;exact Ao
   ·rw[if_neg hc] at h'
    simp only[Bv,beq_self_eq_true] at h'
    rcases h' with q | q
    ·exact absurd (A4 q) (hn (x,k) Ao)
    ·have:=A4 q
     subst this;exact Ao
  | false=>
   refine Aw _ (ih ?_)
   by_cases hc:(k == NameKind.free&&env.scope.kind == .function&&env.kindOf n == some .cell)=true
   ·rw[if_pos hc] at h';simp only[Bv,hx] at h';exact h'
   ·rw[if_neg hc] at h';simp only[Bv,hx] at h';exact h'
end PySem
namespace L2
open PySem PySem.Spec PyProof.Rows
noncomputable def ua (pick:List (Option Nat)) (B:St):St:=pick.map λ o=>o.bind λ i=>(B[i]?).join
noncomputable def yI (X:Cx) (N':List Str) (scope:Scope) (cl:List (Str×Addr)) (C:Addr) (s:Shared) (H:Hp) (ex:List Addr):Cx:=
 { X with N:=N',s₀:=s,H₀:=H,env:=compEnvC scope cl C X.env,outer:=X.stack,stack:=X.stack,ex:=ex,fn:=λ _=>false,pn:=[],xe:=λ _ _=>False }
noncomputable def ph (N N':List Str) (pick:List (Option Nat)) (scope:Scope):Bool:=(N'.zip pick).all λ p=>match p.2 with
 | none=>true
 | some j=>decide (N[j]?=some p.1)&&decide (scope.names.lookup p.1=some .free)
structure qS (X:Cx) (N':List Str) (pick:List (Option Nat)) (scope:Scope):Prop where
 kind:scope.kind=.function
 bW:∀ y∈scope.names,y.2≠.cell
 names:∀ y∈scope.names,y.2=.local->scope.names.lookup y.1=some .local
 free:∀ y∈scope.names,y.2=.free->X.env.scope.names.lookup y.1=some .cell\/X.env.scope.names.lookup y.1=some .free
 len:pick.length=N'.length
 ok:ph X.N N' pick scope=true
def ph.get {N N':List Str}{pick:List (Option Nat)}{scope:Scope}(h:ph N N' pick scope=true) {i j:Nat}{x:Str}(h1:N'[i]?=some x) (h2:pick[i]?=some (some j)):N[j]?=some x/\scope.names.lookup x=some .free:=by
 unfold ph at h
 have hm:(x,some j)∈N'.zip pick:=by
  refine Bf (i:=i) ?_
  rw[List.getElem?_zip_eq_some]
  exact⟨h1,h2⟩
 have q:=BS.mp h _ hm
 simp only[Bw,decide_eq_true_eq] at q
 exact q
def ua.get {pick:List (Option Nat)}{B:St}{i:Nat}{v:V}(h:(ua pick B)[i]?=some (some v)):∃ j,pick[i]?=some (some j)/\B[j]?=some (some v):=by
 unfold ua at h
 rw[Az] at h
 cases e:pick[i]? with
 | none=>rw[e] at h;cases h
 | some o=>
  rw[e] at h
  cases o with
  | none=>simp at h
  | some j=>
   refine⟨j,rfl,?_⟩
   simp only[Option.map_some,Option.some.injEq,BD] at h
   cases q:B[j]? with
   | none=>rw[q] at h;simp at h
   | some w=>rw[q] at h;simp at h;rw[h]
def PF (X:Cx) (ifs:List Expr) (t:TT):Prop:=∀ (EF:Ag) (s:Shared) (B:St) (H:Hp) (Q:Bool->Hp->Prop),Inv X EF B H s->t B H Q->
 wpAny (model X.prog X.w) X.A (forIn ifs true λ c r=>if r=true then do let ok <- isTrue c X.env (eval c X.env);pure (ForInStep.yield ok) else pure (ForInStep.yield r)) (TP X EF B Q) X.xe s
def Ud {X:Cx}:PF X [] (λ _ H Q=>Q true H):=λ _ _ _ H _ I h=>wpAny_tests_nil ⟨H,I,h⟩
def Uc {X:Cx}{c:Expr}{t:TT}(h:PT X c t):PF X [c] t:=λ EF s B H Q I q=>wpAny_tests_one (h EF s B H Q I q)
def jC (pick:List (Option Nat)) (wi:TI) (g:TG) (tc:TT) (te:TE):TE:=fun B H Q=>wi B H λ J H1=>∀ D,H1 D=none->∃ W:Nat->Nat->St->Hp->Prop,(∃ m,W 0 m (ua pick B) (upd H1 D (.lst [])))/\
 ∀ i m B H,W i m B H->(J.stop i H/\Q (.ref D) H)\/(J.go i H/\∀ x H',J.qT i H x H'->g x B H' fun B2 H2=>tc B2 H2 λ b H3=>
  if b=true then te B2 H3 λ y H4=>∃ ys m',H4 D=some (.lst ys)/\ys.length<sizeLine/\m'<m/\W (i+1) m' B2 (upd H4 D (.lst (ys++[y]))) else ∃ m',m'<m/\W (i+1) m' B2 H3)
section
variable {X:Cx}{EF:Ag}{B:St}{H:Hp}{s:Shared}{N':List Str}{pick:List (Option Nat)}{scope:Scope}{cl:List (Str×Addr)}{C:Addr}{fp:List Addr}
def Q6 (S:qS X N' pick scope) (I:Inv X EF B H s) (Bh:∀ b∈fp,vS X EF H b) (Ak:∀ b∈fp,b<s.heap.objs.size)
  (c1:∀ x c,cl.lookup x=some c->(x,NameKind.free)∈scope.names/\X.env.cells.lookup x=some c) (c2:∀ x,(x,NameKind.free)∈scope.names->(cl.lookup x).isSome)
  {h1:Heap}{m1:AF}{t':Nat}(hC:s.heap.objs.size<C) (old:∀ b o,s.heap.get? b=some o->h1.get? b=some o) (CA:h1.Ns C m1)
  (hD:h1.get? s.heap.objs.size=some { cls:=.type "list",data:=.seq #[] 0 }):
  Inv (yI X N' scope cl C s H fp) [] (ua pick B) (upd H s.heap.objs.size (.lst [])) { s with heap:=h1,toks:=t' }:=by
 have JP:H s.heap.objs.size=none:=I.zw.fresh (Ah _)
 have hCn:H C=none:=I.zw.fresh (BC hC)
 have clt:∀ x c,cl.lookup x=some c->c<s.heap.objs.size:=λ x c e=>by
  obtain⟨v,q⟩:=I.cell x c (c1 x c e).2
  exact q.lt
 refine⟨⟨I.ok.mod,S.kind,I.ok.glob,I.ok.blt,BC hC,λ x y c e1 e2=>I.ok.inj x y c (c1 x c e1).2 (c1 y c e2).2,λ x hx=>?_,λ x c hf _=>absurd (show false=true from hf) BB,I.ok.hd,I.ok.frames,.inl rfl,
  λ b hb=>⟨Au (CV (Ak b hb) hC),λ x c e=>(Bh b hb).2.2.2.2.1 x c (c1 x c e).2⟩,I.bs,Bk I.ok.qF I.sz,λ b o e hb=>?_,λ b hb z=>?_,I.stack,I.dP⟩,
  rfl,I.bare,Un.laid old (Ah _) JP,⟨m1,CA,λ i x v e1 e2 e3=>?_⟩,λ x c e=>?_,?_,λ x c e=>?_,λ p hp=>absurd (show p∈([]:Ag) from hp) (by simp),I.zw.laid old (Ah _) ?_,?_⟩
 ·exact DB.mp (c2 x (cA S.bW hx))
 ·rcases (Bh b hb).2.2.2.1 with z | z
  ·exact I.ok.nB b o e z
  ·exact absurd (Ba (Am (I.ok.bs b o e).1) z) (BU _)
 ·rcases Ai.mp (I.jG b z) with q | q
  ·exact (Bh b hb).2.1 q
  ·exact (Bh b hb).2.2.1 q
 ·obtain⟨j,p1,p2⟩:=ua.get e2
  obtain⟨q1,q2⟩:=ph.get S.ok e1 p1
  obtain⟨m0,n0,l0⟩:=I.loc
  have hm:(x,NameKind.free)∈scope.names:=PySem.mem_of_lookup q2
  have hk:X.env.scope.names.lookup x=some .cell\/X.env.scope.names.lookup x=some .free:=S.free _ hm rfl
  obtain⟨u,r,l⟩:=l0 j x v q1 p2 (.inr hk)
  refine⟨u,r,.inr ⟨ar q2,?_⟩⟩
  rcases l with ⟨k,_⟩ | ⟨_,c,e,z⟩
  ·have k':X.env.scope.names.lookup x=some .local:=k
   rcases hk with hk | hk <;> (rw[k'] at hk;cases hk)
  ·obtain⟨c',e'⟩:=DB.mp (c2 x hm)
   have e'':=(c1 x c' e').2
   rw[e] at e'';cases e''
   obtain⟨o,z1,z2⟩:=z
   exact⟨c,e',o,old _ _ z1,z2⟩
 ·obtain⟨v,o,z1,z2⟩:=I.cell x c (c1 x c e).2
  exact⟨v,o,old _ _ z1,z2⟩
 ·show upd H s.heap.objs.size (.lst []) C=none
  rw[yj (BA hC)];exact hCn
 ·show upd H s.heap.objs.size (.lst []) c=none
  rw[yj (Au (clt x c e))];exact I.tq x c (c1 x c e).2
 ·exact⟨AN _,[],0,.nil,hD⟩
 ·show (ua pick B).length=N'.length
  unfold ua
  rw[Ay];exact S.len
def Q3 {B':St}{H':Hp}{s':Shared}{oC:Obj}(I:Inv X EF B H s) (Bh:∀ b∈fp,vS X EF H b) (hC:s.heap.objs.size<C)
  (I':Inv (yI X N' scope cl C s H fp) [] B' H' s') (hoC:s'.heap.get? C=some oC):Inv X (EF++[(C,oC)]) B H' s':=by
 have J:Inv X EF B H' s':=I.OP (ch:=fp) I'.os I'.base I'.zw I'.bare λ b hb=>⟨(Bh b hb).2.2.2.1,(Bh b hb).2.1,(Bh b hb).2.2.2.2.1,(Bh b hb).2.2.2.2.2⟩
 refine J.iG λ p hp=>(AY.mp hp).elim (λ z=>J.pin p (AX _ z)) λ z=>?_
 obtain rfl:p=(C,oC):=AQ.mp z
 refine⟨hoC,I'.free,BA (CV I.lt hC),I.bS (BC hC),λ v hv=>?_⟩
 obtain⟨m,⟨o,es,ep,ho,hd,_⟩,_⟩:=I'.loc
 have FT:s'.heap.get? C=some o:=ho
 rw[hoC] at FT;cases FT
 rw[hd] at hv;cases hv
def aY {B':St}{H':Hp}{s':Shared}{oC:Obj}{h':Heap}(I:Inv X EF B H s) (hC:s.heap.objs.size<C) (J:Inv X (EF++[(C,oC)]) B' H' s') (hs:Heap.SameBut C s'.heap h'):Inv X EF B' H' { s' with heap:=h' }:=by
 have J':=J.oG
 have hp:=J.pin (C,oC) (AX _ (AX _ (AQ.mpr rfl)))
 have lt:∀ c,c<s.heap.objs.size->c≠C:=λ c h=>Au (CV h hC)
 refine J'.turned (t':=s'.toks) (it:=C) (λ b o hb e=>hs.extBut b o hb e) hp.2.1 hp.2.2.1 (.inr (Bk I.sz (BC hC))) (λ x c e z=>?_) (λ p hq z=>?_)
 ·obtain⟨v,q⟩:=I.cell x c e
  exact lt c q.lt z
 ·exact lt p.1 (Am (I.pin p hq).1) z
end
section
variable {X:Cx}{N':List Str}{pick:List (Option Nat)}{scope:Scope}{elt iter tg:Expr}{ifs:List Expr}{pos:Pos}{wi:TI}{g:TG}{tc:TT}{te:TE}
def Qb {EF:Ag}{B:St}{H:Hp}{s:Shared}{it C:Addr}{fp:List Addr}{tn:Nat->Heap->Prop}{J:It}{cl:List (Str×Addr)}{W:Nat->Nat->St->Hp->Prop}{Q:V->Hp->Prop}{R:Result->Shared->Prop}{D:Addr}
  (hc:X.calm=true) (hg:PG (yI X N' scope cl C s H fp) tg g) (hf:PF (yI X N' scope cl C s H fp) ifs tc) (he:PE (yI X N' scope cl C s H fp) elt te)
  (T:Turn X.prog X.w X.K tg J fp it tn) (Bh:∀ b∈fp,vS X EF H b) (GU:∀ b∈fp,b≠C/\b∉vJ X.stack/\∀ x c,cl.lookup x=some c->c≠b)
  (turn:∀ i m B H,W i m B H->(J.stop i H/\Q (.ref D) H)\/(J.go i H/\∀ x H',J.qT i H x H'->g x B H' fun B2 H2=>tc B2 H2 λ b H3=>
   if b=true then te B2 H3 λ y H4=>∃ ys m',H4 D=some (.lst ys)/\ys.length<sizeLine/\m'<m/\W (i+1) m' B2 (upd H4 D (.lst (ys++[y]))) else ∃ m',m'<m/\W (i+1) m' B2 H3))
  (fin:∀ B' H' s',Inv (yI X N' scope cl C s H fp) [] B' H' s'->Q (.ref D) H'->R (.ok .next) s')
  {m0:Nat}{B0:St}{H0:Hp}{s0:Shared}(I0:Inv (yI X N' scope cl C s H fp) [] B0 H0 s0) (t0:tn 0 s0.heap) (f0:∀ b∈fp,H0 b=none) (w0:W 0 m0 B0 H0):
  codeAny (model X.prog X.w) X.A (.compLoop (.ListComp elt [⟨tg,iter,ifs,0⟩] scope pos) 0 (.ref it) (.ref D) (compEnvC scope cl C X.env)) R s0:=by
 have Gm:∀ {H':Hp},(∀ b∈fp,H' b=none)->∀ b∈fp,vS (yI X N' scope cl C s H fp) [] H' b:=λ hn b hb=>⟨hn b hb,(GU b hb).1,(GU b hb).2.1,.inl hb,(GU b hb).2.2,λ p hp=>absurd (show p∈([]:Ag) from hp) (by simp)⟩
 refine codeAny_loop rfl (λ n s'=>∃ i B' H',Inv (yI X N' scope cl C s H fp) [] B' H' s'/\tn i s'.heap/\(∀ b∈fp,H' b=none)/\W i n B' H') (λ n s3 hI=>?_) m0 ⟨0,B0,H0,I0,t0,f0,w0⟩
 obtain⟨i,B3,H3,I3,HZ,IG,w3⟩:=hI
 show wpAny _ X.A ((compTurn (.ListComp elt [⟨tg,iter,ifs,0⟩] scope pos) 0 (.ref it) (.ref D) (compEnvC scope cl C X.env)).onRaise (λ x=>do noteFrame x (compEnvC scope cl C X.env);theTreesLotGoes x)) _ _ s3
 refine wpAny_noted ?_
 rw[compTurn_list]
 refine Jg (wpAny_standAt (Jg ?_))
 rcases turn i n B3 H3 w3 with ⟨stop,qn⟩ | ⟨go,step⟩
 ·refine zC (T.done (yI X N' scope cl C s H fp) rfl rfl rfl hc i [] s3 B3 H3 _ I3 (Gm IG) HZ stop) λ r s4 ⟨hr,I4⟩=>?_
  subst hr
  exact Ab (fin B3 H3 s4 I4 qn)
 ·refine zC (T.item (yI X N' scope cl C s H fp) rfl rfl rfl hc i [] s3 B3 H3 _ I3 (Gm IG) HZ go) λ r s4 ⟨u,hr,h4⟩=>?_
  subst hr
  refine Jg (zC h4 λ _ s5 ⟨x,H5,I5,r5,y5,Ht,JW⟩=>?_)
  have J8:=I5.pinned (Gm JW) (T.obj _ _ Ht)
  refine Jg (Kc (hg _ s5 B3 H5 x u _ J8 r5 (step x H5 y5)) (λ _ s6 ⟨B6,H6,I6,q6⟩=>?_) λ _ _ z=>False.elim z)
  refine Jg (Kc (hf _ s6 B6 H6 _ I6 q6) (λ ok s7 ⟨H7,I7,q7⟩=>?_) λ _ _ z=>False.elim z)
  have back:∀ {H8:Hp}{s8:Shared},Inv (yI X N' scope cl C s H fp) ([]++nh fp s5.heap) B6 H8 s8->(∃ m',m'<n/\W (i+1) m' B6 H8)->∃ m,m<n/\∃ i B' H',Inv (yI X N' scope cl C s H fp) [] B' H' s8/\tn i s8.heap/\(∀ b∈fp,H' b=none)/\W i m B' H':=λ{H8 s8} I8 ⟨m',hm,w8⟩=>by
   refine⟨m',hm,i+1,B6,H8,I8.oG,T.keep _ _ _ Ht λ b hb o e=>(I8.pin (b,o) (AX _ (AX _ (ko hb e)))).1,λ b hb=>?_,w8⟩
   obtain⟨o,e,d⟩:=T.obj _ _ Ht b hb
   exact (I8.pin (b,o) (AX _ (AX _ (ko hb e)))).2.1
  cases ok with
  | false=>
   rw[if_neg BB] at q7
   exact Ab ⟨rfl,back I7 q7⟩
  | true=>
   rw[if_pos rfl] at q7
   refine Jg (Jg (Kc (he _ s7 B6 H7 _ I7 q7) (λ uy s8 ⟨y,H8,I8,r8,ys,m',e8,z8,hm,w8⟩=>?_) λ _ _ z=>False.elim z))
   refine Jg (Kc (ag (X:=yI X N' scope cl C s H fp) _ s8 B6 H8 (.ref D) [y] (.ref D) [uy] (λ _ H9=>W (i+1) m' B6 H9) I8 rfl (.cons r8 .nil) ⟨D,ys,y,rfl,rfl,e8,z8,w8⟩) (λ _ s9 ⟨_,H9,I9,_,q9⟩=>?_) λ _ _ z=>False.elim z)
   exact Ab (Ab ⟨rfl,back I9 ⟨m',hm,q9⟩⟩)
def aD {EF:Ag}{B:St}{H:Hp}{s:Shared}{it:Addr}{fp:List Addr}{tn:Nat->Heap->Prop}{J:It}{cl:List (Str×Addr)}{Q:V->Hp->Prop}{E:Ad}{RR:Value->Addr->Result->Shared->Prop}
  (S:qS X N' pick scope) (hc:X.calm=true) (hg:∀ cl C s H fp,PG (yI X N' scope cl C s H fp) tg g) (hf:∀ cl C s H fp,PF (yI X N' scope cl C s H fp) ifs tc) (he:∀ cl C s H fp,PE (yI X N' scope cl C s H fp) elt te)
  (c1:∀ x c,cl.lookup x=some c->(x,NameKind.free)∈scope.names/\X.env.cells.lookup x=some c) (c2:∀ x,(x,NameKind.free)∈scope.names->(cl.lookup x).isSome)
  (I:Inv X EF B H s) (T:Turn X.prog X.w X.K tg J fp it tn) (t0:tn 0 s.heap) (Bh:∀ b∈fp,vS X EF H b)
  (rd:∀ D,H D=none->∃ W:Nat->Nat->St->Hp->Prop,(∃ m,W 0 m (ua pick B) (upd H D (.lst [])))/\
   ∀ i m B H,W i m B H->(J.stop i H/\Q (.ref D) H)\/(J.go i H/\∀ x H',J.qT i H x H'->g x B H' fun B2 H2=>tc B2 H2 λ b H3=>
    if b=true then te B2 H3 λ y H4=>∃ ys m',H4 D=some (.lst ys)/\ys.length<sizeLine/\m'<m/\W (i+1) m' B2 (upd H4 D (.lst (ys++[y]))) else ∃ m',m'<m/\W (i+1) m' B2 H3))
  (fin:∀ C D oC H' s',s.heap.objs.size<C->Inv X (EF++[(C,oC)]) B H' s'->s'.heap.get? C=some oC->(∃ m,s'.heap.Ns C m)->Q (.ref D) H'->RR (.ref D) C (.ok .next) s'):
  wpAny (model X.prog X.w) X.A (newList []) (λ acc s₃=>wpAny (model X.prog X.w) X.A (newFunctionEnv scope X.env.globals cl [] X.env.qual none .none (some X.env)) (λ II s₄=>
   codeAny (model X.prog X.w) X.A (.compStart (.ListComp elt [⟨tg,iter,ifs,0⟩] scope pos) 0 (.ref it) acc { II with scope:=relabel scope X.env }) (RR acc II.locals) s₄) E s₃) E s:=by
 refine Kf (wpAny_newFunctionEnv S.bW (by intro y hy;simp at hy) (λ h₁ HE G6=>?_) S.kind)
 dsimp only at HE G6 ⊢
 generalize JO:s.heap.push { cls:=.type "list",dict:=none,data:=.seq ([]:Ae).toArray }=H2 at HE G6 ⊢
 have hC:H2.objs.size=s.heap.objs.size+1:=by rw[<- JO,Heap.size_push]
 have Ak:s.heap.objs.size<H2.objs.size:=by rw[hC];exact Cf _
 have old:∀ b o,s.heap.get? b=some o->h₁.get? b=some o:=λ b o e=>G6.extBut b o (Au (CV (Am e) Ak)) (J9 _ (JO▸J9 _ e))
 have AO:h₁.get? s.heap.objs.size=some { cls:=.type "list",data:=.seq #[] 0 }:=G6.extBut _ _ (Au Ak) (J9 _ (JO▸AD _ rfl))
 have Df:∀ b∈fp,b<s.heap.objs.size:=λ b hb=>by
  obtain⟨o,e,_⟩:=T.obj _ _ t0 b hb
  exact Am e
 have JP:H s.heap.objs.size=none:=I.zw.fresh (Ah _)
 obtain⟨W,⟨m0,w0⟩,turn⟩:=rd s.heap.objs.size JP
 have I0:=Q6 (t':=s.toks+([]:List (Str×Value)).length) S I Bh Df c1 c2 Ak old HE AO
 have t1:tn 0 h₁:=T.keep _ _ _ t0 λ b _ o e=>old b o e
 have AV:∀ b∈fp,b≠H2.objs.size/\b∉vJ X.stack/\∀ x c,cl.lookup x=some c->c≠b:=λ b hb=>I0.ok.g_ b hb |> λ q=>⟨q.1,I0.ok.nX b hb,q.2⟩
 have loop:codeAny (model X.prog X.w) X.A (.compLoop (.ListComp elt [⟨tg,iter,ifs,0⟩] scope pos) 0 (.ref it) (.ref s.heap.objs.size) (compEnvC scope cl H2.objs.size X.env)) (RR (.ref s.heap.objs.size) H2.objs.size) { s with heap:=h₁,toks:=s.toks+([]:List (Str×Value)).length }:=by
  refine Qb (B:=B) hc (hg _ _ _ _ _) (hf _ _ _ _ _) (he _ _ _ _ _) T Bh AV turn (fun B' H' s' I' q=>?_) I0 t1 (λ b hb=>?_) w0
  ·obtain⟨m,hn,_⟩:=I'.loc
   have Ja:s'.heap.Ns H2.objs.size m:=hn
   obtain⟨oC,es,ep,ho,hr⟩:=id Ja
   exact fin _ _ oC H' s' Ak (Q3 I Bh Ak I' ho) ho ⟨m,Ja⟩ q
  ·show upd H s.heap.objs.size (.lst []) b=none
   rw[yj (Au (Df b hb))]
   exact (Bh b hb).1
 exact codeAny_compStart_list loop (T.self _ 0 _ _ _ t1 loop)
def Ut (S:qS X N' pick scope) (hc:X.calm=true) (hi:PI X tg iter wi) (hg:∀ cl C s H fp,PG (yI X N' scope cl C s H fp) tg g) (hf:∀ cl C s H fp,PF (yI X N' scope cl C s H fp) ifs tc) (he:∀ cl C s H fp,PE (yI X N' scope cl C s H fp) elt te)
  (hs:∀ x,foldedSetIterable iter X.env x=pure x:=by intro _;rfl):PE X (.ListComp elt [⟨tg,iter,ifs,0⟩] scope pos) (jC pick wi g tc te):=by
 intro EF s B H Q I h
 obtain⟨cl,GY,c1,c2⟩:=Yd (scope:=scope) (env:=X.env) λ y hy hk=>I.ok.has y.1 (S.free y hy hk)
 rw[eval_ListComp]
 refine wpAny_comprehension_free (use:=none) rfl hs GY S.kind S.names (zC (hi EF s B H _ I h) λ v s1 h1=>zC h1 λ IX s2 h2=>?_)
 obtain⟨it,fp,tn,J,H2,e,I2,T,H_,f2,rd⟩:=h2
 subst e
 refine aD (RR:=λ acc C=>compPost (model X.prog X.w) X.A X.xe none (EP X EF B Q) acc C) S hc hg hf he c1 c2 I2 T H_ f2 rd λ C D oC H' s' hC J' ho hn q=>?_
 obtain⟨m,hn⟩:=hn
 exact⟨m,hn,λ h' GJ=>⟨.ref D,H',aY I2 hC J' GJ,rfl,q⟩⟩
def VB {i:Nat}{y:Str}{py BE:Pos}(S:qS X N' pick scope) (hc:X.calm=true) (hi:PI X tg iter wi) (hg:∀ cl C s H fp,PG (yI X N' scope cl C s H fp) tg g) (hf:∀ cl C s H fp,PF (yI X N' scope cl C s H fp) ifs tc) (he:∀ cl C s H fp,PE (yI X N' scope cl C s H fp) elt te)
  (hN:X.N.Nodup) (hy:X.N[i]?=some y) (hx:Loc X.env.scope y)
  (Ct:swapsWith (.ListComp elt [⟨tg,iter,ifs,0⟩] scope pos) (some (.Name y py)) BE.line X.env=pure true:=by rfl)
  (CB:X.fn y=true\/X.env.scope.names.lookup y=some .local:=by first | exact .inl rfl | exact .inr rfl | assumption)
  (hs:∀ x,foldedSetIterable iter X.env x=pure x:=by intro _;rfl):PS X (.Assign [.Name y py] (.ListComp elt [⟨tg,iter,ifs,0⟩] scope pos) BE) (oJ (jC pick wi g tc te) (pU i)):=by
 intro EF s B H Q I h
 obtain⟨cl,GY,c1,c2⟩:=Yd (scope:=scope) (env:=X.env) λ y hy hk=>I.ok.has y.1 (S.free y hy hk)
 rw[exec_Assign_Name_used _ _ _ _ Ct]
 refine Jg (wpAny_standAt (Jg ?_))
 show wpAny _ X.A (do let _ <- comprehension (.ListComp elt [⟨tg,iter,ifs,0⟩] scope pos) scope X.env _ (newList []) false (eval iter X.env) (some (assign (.Name y py) X.env))) _ _ s
 refine Jg (Kc (wpAny_comprehension_free (use:=some (assign (.Name y py) X.env)) (Q:=λ _ s'=>SP X EF Q .next s') rfl hs GY S.kind S.names
  (zC (hi EF s B H _ I h) λ v s1 h1=>zC h1 λ IX s2 h2=>?_)) (λ _ s' hq=>Ab (Ab hq)) λ _ _ e=>e)
 obtain⟨it,fp,tn,J,H2,e,I2,T,H_,f2,rd⟩:=h2
 subst e
 refine aD (Q:=λ x H1=>pU i x B H1 Q.nx) (RR:=λ acc C=>compPost (model X.prog X.w) X.A X.xe (some (assign (.Name y py) X.env)) (λ _ s'=>SP X EF Q .next s') acc C) S hc hg hf he c1 c2 I2 T H_ f2 rd λ C D oC H' s' hC J' ho hn q=>?_
 show wpAny _ X.A (assign (.Name y py) X.env (.ref D)) _ _ _
 refine wpAny_assign_Name (jF J' hN hy hx (v:=.ref D) rfl (λ s3 J3=>?_) CB)
 have hp:=(J3.pin (C,oC) (AX _ (AX _ (AQ.mpr rfl)))).1
 obtain⟨m,o,es,ep,FT,hr⟩:=hn
 have:o=oC:=A4 (FT.symm.trans ho)
 subst this
 exact⟨m,⟨o,es,ep,hp,hr⟩,λ h' GJ=>⟨_,H',aY I2 hC J3 GJ,q⟩⟩
end
end L2
namespace L3
open PySem PySem.Spec L2
open PyProof.Rows hiding St
inductive D where
 | zm | bl (b:Bool) | int (i:Int) | str (x:Str) | tup (ds:List D) | xr (ds:List D) | ref (a:Addr) | err (c f:Str) (d:D)
def ot (K:Ac) (H:Hp) (a:Addr) (xs:List V):Prop:=
 (∃ o,H a=some (.xW o (.lst xs)))\/
  ∃ (o:Obj) (its:Ap) (n:Nat),K.lookup a=some o/\o.cls=.type "list"/\o.dict=none/\o.data=.seq its n/\its.size<=sizeLine/\Vals xs its.toList
def ot.sq {K:Ac}{H:Hp}{a:Addr}{xs:List V}(h:ot K H a xs):zJ K H a xs:=by
 rcases h with h | h
 ·exact .inl (.inr h)
 ·exact .inr h
abbrev Yo:List Value:=[.type "ValueError",.type "Exception",.type "BaseException",.type "object"]
abbrev bX:List Str:=["__getattribute__","__getattr__","__class__","__setattr__","place","pair","way","times","told","name","row"]
def YB (K:Ac) (c:Str) (C:Addr) (bm:Ae) (N:Addr):Prop:=
 (∃ (q:Str) (bs:Ae) (sn:List Str) (sub:Ae) (ab:Bool) (col:Option Bool) (dd:Option Addr) (k0 k1 k2 k3 k5:Option Value),K.lookup C=some (excClassObj c q C N bs bm true sn sub ab col dd k0 k1 k2 k3 k5 "ValueError.__new__"))/\
 PySem.W.nsOkIn K N=true/\∀ n∈bX,PySem.W.nsIn K N n=some none
structure NF (K:Ac) (c:Str) (C P N NP:Addr):Prop where
 own:YB K c C (.ref P::Yo) N
 par:YB K "PurseError" P Yo NP
 top:PySem.W.nsIn K mainGlobals c=some (some (.ref C))
 zad:PySem.W.nsIn K mainGlobals "PurseError"=some (some (.ref P))
 zae:PySem.W.nsIn K NP "__init__"=some none
def lu (K:Ac) (c:Str) (C:Addr):Prop:=∃ P N NP,NF K c C P N NP
noncomputable def ownIn (K:Ac) (c:Str) (C:Addr) (bm:Ae):Option Addr:=match K.lookup C with
 | some ⟨.type "type",_,.cls cd,sl⟩=>(match cd.mro,sl.toList with
  | .ref C'::bm',[_,_,_,_,some (.builtin n),_]=>if C' == C&&n == "ValueError.__new__"&&!cd.hasDel&&bm' == bm&&cd.hasDict&&cd.name == c&&PySem.W.nsOkIn K cd.ns&&bX.all (λ n=>PySem.W.nsIn K cd.ns n == some none) then some cd.ns else none
  | _,_=>none)
 | _=>none
noncomputable def s_ (e C dx:Addr):HO:=.ext λ h=>∃ oe vs,h.get? e=some oe/\oe.cls=.ref C/\oe.dict=some dx/\oe.data=.fields vs
mutual
noncomputable def zg (K:Ac) (H:Hp):D->V->Prop
 | .zm,v=>v=.zm
 | .bl b,v=>v=.bl b
 | .int i,v=>v=.int i
 | .str x,v=>v=.str x
 | .tup ds,v=>∃ a xs,v=.ref a/\zL K H a xs/\zj K H ds xs
 | .xr ds,v=>∃ a xs,v=.ref a/\ot K H a xs/\zj K H ds xs
 | .ref a,v=>v=.ref a
 | .err c f d,v=>∃ e C dx w,v=.ref e/\(lu K c C/\H e=some (s_ e C dx)/\H dx=some (.xd [(f,w)]))/\zg K H d w
noncomputable def zj (K:Ac) (H:Hp):List D->List V->Prop
 | [],xs=>xs=[]
 | d::ds,xs=>∃ x r,xs=x::r/\zg K H d x/\zj K H ds r
end
structure Ext (H H':Hp):Prop where
 tup:∀ b xs,H b=some (.tup xs)->H' b=some (.tup xs)
 xW:∀ b o u,H b=some (.xW o u)->H' b=some (.xW o u)
 ext:∀ b φ,H b=some (.ext φ)->H' b=some (.ext φ)
 xd:∀ b fs,H b=some (.xd fs)->H' b=some (.xd fs)
def Ext.refl (H:Hp):Ext H H:=⟨λ _ _ h=>h,λ _ _ _ h=>h,λ _ _ h=>h,λ _ _ h=>h⟩
def Ext.trans {H H1 H2:Hp}(a:Ext H H1) (b:Ext H1 H2):Ext H H2:=⟨λ c xs h=>b.tup c xs (a.tup c xs h),λ c o u h=>b.xW c o u (a.xW c o u h),λ c u h=>b.ext c u (a.ext c u h),λ c u h=>b.xd c u (a.xd c u h)⟩
def Ext.new {H:Hp}{p:Addr}(h:H p=none) (o:HO):Ext H (upd H p o):=
 ⟨λ b xs q=>by rw[yj (uX q h)];exact q,λ b ob u q=>by rw[yj (uX q h)];exact q,λ b u q=>by rw[yj (uX q h)];exact q,λ b u q=>by rw[yj (uX q h)];exact q⟩
theorem Ext.lst {H:Hp}{p:Addr}{xs:List V}(h:H p=some (.lst xs)) (o:HO):Ext H (upd H p o):=
 ⟨λ b ys q=>by rw[yj (sA q h (by intro z;cases z))];exact q,λ b ob u q=>by rw[yj (sA q h (by intro z;cases z))];exact q,λ b u q=>by rw[yj (sA q h (by intro z;cases z))];exact q,λ b u q=>by rw[yj (sA q h (by intro z;cases z))];exact q⟩
def Ext.lD {K:Ac}{H H':Hp}{a:Addr}{xs:List V}(e:Ext H H') (h:zL K H a xs):zL K H' a xs:=by
 rcases h with (h | ⟨o,h⟩) | h
 ·exact .inl (.inl (e.tup _ _ h))
 ·exact .inl (.inr ⟨o,e.xW _ _ _ h⟩)
 ·exact .inr h
def Ext.lE {K:Ac}{H H':Hp}{a:Addr}{xs:List V}(e:Ext H H') (h:ot K H a xs):ot K H' a xs:=by
 rcases h with ⟨o,h⟩ | h
 ·exact .inl ⟨o,e.xW _ _ _ h⟩
 ·exact .inr h
section
variable {K:Ac}{H H':Hp}
mutual
theorem zg.ext (e:Ext H H'):∀ (d:D) {v:V},zg K H d v->zg K H' d v
 | .zm,v,h=>by simpa only [zg] using h
 | .bl b,v,h=>by simpa only [zg] using h
 | .int i,v,h=>by simpa only [zg] using h
 | .str x,v,h=>by simpa only [zg] using h
 | .ref a,v,h=>by simpa only [zg] using h
 | .err c f d,v,h=>by
  simp only[zg] at h ⊢
  obtain⟨a,C,dx,w,h1,⟨h2,h3,h4⟩,h5⟩:=h
  exact⟨a,C,dx,w,h1,⟨h2,e.ext _ _ h3,e.xd _ _ h4⟩,zg.ext e d h5⟩
 | .tup ds,v,h=>by
  simp only[zg] at h ⊢
  obtain⟨a,xs,h1,h2,h3⟩:=h
  exact⟨a,xs,h1,e.lD h2,zj.ext e ds h3⟩
 | .xr ds,v,h=>by
  simp only[zg] at h ⊢
  obtain⟨a,xs,h1,h2,h3⟩:=h
  exact⟨a,xs,h1,e.lE h2,zj.ext e ds h3⟩
theorem zj.ext (e:Ext H H'):∀ (ds:List D) {xs:List V},zj K H ds xs->zj K H' ds xs
 | [],xs,h=>by simpa only [zj] using h
 | d::ds,xs,h=>by
  simp only[zj] at h ⊢
  obtain⟨x,r,h1,h2,h3⟩:=h
  exact⟨x,r,h1,zg.ext e d h2,zj.ext e ds h3⟩
end
theorem zj.length:∀ {ds:List D}{xs:List V},zj K H ds xs->ds.length=xs.length
 | [],xs,h=>by simp only[zj] at h;subst h;rfl
 | d::ds,xs,h=>by
  simp only[zj] at h
  obtain⟨x,r,h1,_,h3⟩:=h
  subst h1
  simp[zj.length h3]
theorem zj.get:∀ {ds:List D}{xs:List V}{i:Nat}{d:D},zj K H ds xs->ds[i]?=some d->∃ x,xs[i]?=some x/\zg K H d x
 | [],_,i,d,_,e=>by simp at e
 | c::ds,xs,i,d,h,e=>by
  simp only[zj] at h
  obtain⟨x,r,h1,h2,h3⟩:=h
  subst h1
  cases i with
  | zero=>simp at e;subst e;exact⟨x,rfl,h2⟩
  | succ i=>
   obtain⟨y,e1,e2⟩:=zj.get (i:=i) h3 (by simpa using e)
   exact⟨y,by simpa using e1,e2⟩
theorem zj.append:∀ {ds es:List D}{xs ys:List V},zj K H ds xs->zj K H es ys->zj K H (ds++es) (xs++ys)
 | [],es,xs,ys,h,h'=>by simp only[zj] at h;subst h;simpa using h'
 | d::ds,es,xs,ys,h,h'=>by
  simp only[zj] at h
  obtain⟨x,r,h1,h2,h3⟩:=h
  subst h1
  show zj K H (d::(ds++es)) (x::(r++ys))
  simp only[zj]
  exact⟨x,r++ys,rfl,h2,zj.append h3 h'⟩
def zj.nil:zj K H [] []:=by simp only[zj]
def zj.cons {d:D}{ds:List D}{x:V}{xs:List V}(h:zg K H d x) (h':zj K H ds xs):zj K H (d::ds) (x::xs):=by
 simp only[zj];exact⟨x,xs,rfl,h,h'⟩
def zj.snoc {d:D}{ds:List D}{x:V}{xs:List V}(h':zj K H ds xs) (h:zg K H d x):zj K H (ds++[d]) (xs++[x]):=h'.append (.cons h .nil)
theorem zj.ints:∀ {ns:List Int}{xs:List V},zj K H (ns.map D.int) xs->xs=ns.map V.int
 | [],xs,h=>by simpa only [A6,zj] using h
 | n::ns,xs,h=>by
  rw[Ar] at h
  simp only[zj,zg] at h
  obtain⟨x,r,h1,h2,h3⟩:=h
  subst h1 h2
  rw[Ar,zj.ints h3]
theorem zj.hJ:∀ (ns:List Int),zj K H (ns.map D.int) (ns.map V.int)
 | []=>.nil
 | n::ns=>.cons (by simp only[zg]) (zj.hJ ns)
theorem zj.bools:∀ {ns:List Bool}{xs:List V},zj K H (ns.map D.bl) xs->xs=ns.map V.bl
 | [],xs,h=>by simpa only [A6,zj] using h
 | n::ns,xs,h=>by
  rw[Ar] at h
  simp only[zj,zg] at h
  obtain⟨x,r,h1,h2,h3⟩:=h
  subst h1 h2
  rw[Ar,zj.bools h3]
end
inductive O where
 | lst (ds:List D)
 | z_ (Aa:List (Key×D))
abbrev SS:=Addr->Option O
def yN (K:Ac) (H:Hp):List (Key×D)->List (Key×V)->Prop:=Paired λ p q=>p.1=q.1/\zg K H p.2 q.2
noncomputable def qK (K:Ac) (H:Hp) (a:Addr):O->Prop
 | .lst ds=>∃ xs,H a=some (.lst xs)/\zj K H ds xs
 | .z_ Aa=>∃ vs,H a=some (.dK vs)/\yN K H Aa vs
def zH (K:Ac) (H:Hp) (S:SS):Prop:=∀ a o,S a=some o->qK K H a o
noncomputable def ups (S:SS) (a:Addr) (o:O):SS:=λ b=>if b=a then some o else S b
def rf {S:SS}{a:Addr}{o:O}:ups S a o a=some o:=by unfold ups;rw[if_pos rfl]
def tR {S:SS}{a b:Addr}{o:O}(h:b≠a):ups S a o b=S b:=by unfold ups;rw[if_neg h]
def Sx (S S':SS):Prop:=∀ b o,S b=some o->S' b=some o
def Sx.refl (S:SS):Sx S S:=λ _ _ h=>h
def Sx.trans {S S1 S2:SS}(a:Sx S S1) (b:Sx S1 S2):Sx S S2:=λ c o h=>b c o (a c o h)
def Sx.new {S:SS}{p:Addr}(h:S p=none) (o:O):Sx S (ups S p o):=λ b u q=>by
 rw[tR (by intro z;subst z;rw[h] at q;cases q)];exact q
theorem Sx.none {S S':SS}(e:Sx S S') {p:Addr}(h:S' p=Option.none):S p=Option.none:=by
 cases q:S p with
 | none=>rfl
 | some o=>rw[e p o q] at h;cases h
section
variable {K:Ac}{H H':Hp}{S:SS}
def qK.has {a:Addr}{o:O}(h:qK K H a o):H a≠none:=by
 cases o with
 | lst ds=>obtain⟨xs,h,_⟩:=h;rw[h];simp
 | z_ Aa=>obtain⟨xs,h,_⟩:=h;rw[h];simp
theorem zH.none (r:zH K H S) {p:Addr}(h:H p=Option.none):S p=Option.none:=by
 cases q:S p with
 | none=>rfl
 | some o=>exact absurd h (r p o q).has
theorem yN.ext (e:Ext H H') {Aa:List (Key×D)}{vs:List (Key×V)}(h:yN K H Aa vs):yN K H' Aa vs:=
 Paired.kr h λ p q z=>⟨z.1,zg.ext e p.2 z.2⟩
def qK.keep {a:Addr}{o:O}(e:Ext H H') (k:∀ u,H a=some u->H' a=some u) (h:qK K H a o):qK K H' a o:=by
 cases o with
 | lst ds=>obtain⟨xs,h1,h2⟩:=h;exact⟨xs,k _ h1,zj.ext e ds h2⟩
 | z_ Aa=>obtain⟨xs,h1,h2⟩:=h;exact⟨xs,k _ h1,h2.ext e⟩
theorem zH.keep (e:Ext H H') (k:∀ a u o,S a=some o->H a=some u->H' a=some u) (r:zH K H S):zH K H' S:=λ a o h=>(r a o h).keep e λ u q=>k a u o h q
theorem zH.new {p:Addr}{u:HO}(hp:H p=Option.none) (r:zH K H S):zH K (upd H p u) S:=
 r.keep (Ext.new hp u) λ a v o _ q=>by rw[yj (uX q hp)];exact q
theorem zH.ups {p:Addr}{u:HO}{o:O}(e:Ext H (upd H p u)) (hn:qK K (upd H p u) p o) (r:zH K H S):zH K (upd H p u) (ups S p o):=λ a o' h=>by
 by_cases ha:a=p
 ·subst ha;rw[rf] at h;cases h;exact hn
 ·rw[tR ha] at h
  exact (r a o' h).keep e λ v q=>by rw[yj ha];exact q
end
abbrev ye:=List (Option D)
def yF (K:Ac) (H:Hp) (Y:ye) (B:St):Prop:=Y.length=B.length/\∀ (i:Nat) (d:D),Y[i]?=some (some d)->∃ v,B[i]?=some (some v)/\zg K H d v
theorem yF.ext {K:Ac}{H H':Hp}{Y:ye}{B:St}(e:Ext H H') (r:yF K H Y B):yF K H' Y B:=⟨r.1,λ i d h=>by
 obtain⟨v,h1,h2⟩:=r.2 i d h
 exact⟨v,h1,zg.ext e d h2⟩⟩
theorem yF.set {K:Ac}{H:Hp}{Y:ye}{B:St}(i:Nat) {d:D}{v:V}(r:yF K H Y B) (h:zg K H d v):yF K H (Y.set i (some d)) (B.set i (some v)):=by
 refine⟨by rw[Dz,Dz];exact r.1,λ j c hc=>?_⟩
 rw[Dx] at hc ⊢
 by_cases hj:i=j
 ·subst hj
  rw[if_pos rfl] at hc ⊢
  by_cases hl:i < Y.length
  ·rw[if_pos hl] at hc
   rw[if_pos (by rw[<- r.1];exact hl)]
   cases hc
   exact⟨v,rfl,h⟩
  ·rw[if_neg hl] at hc;cases hc
 ·rw[if_neg hj] at hc ⊢
  exact r.2 j c hc
abbrev DK:=D->SS->Prop
abbrev zr:=ye->SS->DK->Prop
abbrev y7:=ye->SS->(Bool->SS->Prop)->Prop
abbrev yh:=ye->SS->(List D->SS->Prop)->Prop
def yf (t:zr):Prop:=∀ Y S (Q Q':DK),(∀ d S',Q d S'->Q' d S')->t Y S Q->t Y S Q'
def wQ (t:y7):Prop:=∀ Y S (Q Q':Bool->SS->Prop),(∀ d S',Q d S'->Q' d S')->t Y S Q->t Y S Q'
def sV (t:yh):Prop:=∀ Y S (Q Q':List D->SS->Prop),(∀ d S',Q d S'->Q' d S')->t Y S Q->t Y S Q'
def wx (K:Ac) (H:Hp) (Q:VK):DK:=λ d S'=>∀ v H',zg K H' d v->Ext H H'->zH K H' S'->Q v H'
def md (K:Ac) (H:Hp) (Q:Bool->Hp->Prop):Bool->SS->Prop:=λ b S'=>∀ H',Ext H H'->zH K H' S'->Q b H'
def PU (K:Ac) (H:Hp) (Q:List V->Hp->Prop):List D->SS->Prop:=λ ds S'=>∀ vs H',zj K H' ds vs->Ext H H'->zH K H' S'->Q vs H'
def wZ (K:Ac) (H:Hp) (Q:St->Hp->Prop):ye->SS->Prop:=fun Y S'=>∀ B H',yF K H' Y B->Ext H H'->zH K H' S'->Q B H'
def wx.ext {K:Ac}{H H':Hp}{Q:VK}(e:Ext H H') {d:D}{S:SS}(h:wx K H Q d S):wx K H' Q d S:=λ v H2 r x q=>h v H2 r (e.trans x) q
def md.ext {K:Ac}{H H':Hp}{Q:Bool->Hp->Prop}(e:Ext H H') {d:Bool}{S:SS}(h:md K H Q d S):md K H' Q d S:=λ H2 x q=>h H2 (e.trans x) q
def wZ.ext {K:Ac}{H H':Hp}{Q:St->Hp->Prop}(e:Ext H H') {d:ye}{S:SS}(h:wZ K H Q d S):wZ K H' Q d S:=λ v H2 r x q=>h v H2 r (e.trans x) q
def zK (K:Ac) (t:zr):TE:=fun B H Q=>∃ Y S,yF K H Y B/\zH K H S/\t Y S (wx K H Q)
def wa (K:Ac) (t:y7):TT:=fun B H Q=>∃ Y S,yF K H Y B/\zH K H S/\t Y S (md K H Q)
def wb (K:Ac) (t:yh):TA:=fun B H Q=>∃ Y S,yF K H Y B/\zH K H S/\t Y S (PU K H Q)
structure PD (X:Cx) (e:Expr) (t:zr):Prop where
 mo:yf t
 pe:PE X e (zK X.K t)
structure xC (X:Cx) (e:Expr) (t:y7):Prop where
 mo:wQ t
 pt:PT X e (wa X.K t)
structure yY (X:Cx) (es:List Expr) (t:yh):Prop where
 mo:sV t
 pa:PA X es (wb X.K t)
def PE.imp {X:Cx}{e:Expr}{t t':TE}(h:PE X e t) (hi:∀ B H Q,t' B H Q->t B H Q):PE X e t':=λ EF s B H Q I q=>h EF s B H Q I (hi B H Q q)
def PT.imp {X:Cx}{e:Expr}{t t':TT}(h:PT X e t) (hi:∀ B H Q,t' B H Q->t B H Q):PT X e t':=λ EF s B H Q I q=>h EF s B H Q I (hi B H Q q)
def PA.imp {X:Cx}{e:List Expr}{t t':TA}(h:PA X e t) (hi:∀ B H Q,t' B H Q->t B H Q):PA X e t':=λ pos EF s B H Q I q=>h pos EF s B H Q I (hi B H Q q)
def PS.imp {X:Cx}{e:Stmt}{t t':TS}(h:PS X e t) (hi:∀ D B H,t' D B H->t D B H):PS X e t':=λ EF s B H Q I q=>h EF s B H Q I (hi Q B H q)
def xP.imp {X:Cx}{e:List Stmt}{t t':TS}(h:xP X e t) (hi:∀ D B H,t' D B H->t D B H):xP X e t':=λ EF s B H Q I q=>h EF s B H Q I (hi Q B H q)
section
variable {X:Cx}{K:Ac}
def zK.go {t:zr}{B:St}{H:Hp}{Q:VK}{Y:ye}{S:SS}{R:DK}(mo:yf t) (r1:yF K H Y B) (r2:zH K H S) (h:t Y S R) (k:∀ d S' v H',R d S'->zg K H' d v->Ext H H'->zH K H' S'->Q v H'):zK K t B H Q:=
 ⟨Y,S,r1,r2,mo Y S _ _ (λ d S' q v H' a b c=>k d S' v H' q a b c) h⟩
def wa.go {t:y7}{B:St}{H:Hp}{Q:Bool->Hp->Prop}{Y:ye}{S:SS}{R:Bool->SS->Prop}(mo:wQ t) (r1:yF K H Y B) (r2:zH K H S) (h:t Y S R) (k:∀ d S' H',R d S'->Ext H H'->zH K H' S'->Q d H'):wa K t B H Q:=
 ⟨Y,S,r1,r2,mo Y S _ _ (λ d S' q H' b c=>k d S' H' q b c) h⟩
def wb.go {t:yh}{B:St}{H:Hp}{Q:List V->Hp->Prop}{Y:ye}{S:SS}{R:List D->SS->Prop}(mo:sV t) (r1:yF K H Y B) (r2:zH K H S) (h:t Y S R) (k:∀ d S' v H',R d S'->zj K H' d v->Ext H H'->zH K H' S'->Q v H'):wb K t B H Q:=
 ⟨Y,S,r1,r2,mo Y S _ _ (λ d S' q v H' a b c=>k d S' v H' q a b c) h⟩
def y4 (i:Nat):zr:=fun Y S Q=>match Y[i]? with
 | some (some d)=>Q d S
 | _=>False
def dC (d:D):zr:=λ _ S Q=>Q d S
def UN (i:Nat) {x:Str}{pos:Pos}(h:PE X (.Name x pos) (jA i)):PD X (.Name x pos) (y4 i):=by
 refine⟨fun Y S Q Q' hq h=>?_,PE.imp h fun B H Q hu=>?_⟩
 ·unfold y4 at h ⊢
  split at h
  ·exact hq _ _ h
  ·exact h
 ·obtain⟨Y,S,r1,r2,h⟩:=hu
  unfold y4 at h
  split at h
  ·rename_i d e
   obtain⟨v,h1,h2⟩:=r1.2 i d e
   exact⟨v,h1,h v H h2 (Ext.refl H) r2⟩
  ·exact h.elim
def dC.mo (d:D):yf (dC d):=λ _ _ _ _ hq h=>hq _ _ h
def nr {e:Expr}{d:D}{v:V}(h:PE X e (tC v)) (r:∀ H,zg X.K H d v):PD X e (dC d):=
 ⟨dC.mo d,PE.imp h λ _ H _ ⟨_,_,_,r2,h⟩=>h v H (r H) (Ext.refl H) r2⟩
def zh {i j pos}:PD X (.Constant (.int i) j pos) (dC (.int i)):=nr Uv λ _=>by simp only[zg]
def p8 {i j pos}:PD X (.Constant (.bool i) j pos) (dC (.bl i)):=nr U6 λ _=>by simp only[zg]
def uT {j pos}:PD X (.Constant .none j pos) (dC .zm):=nr Uq λ _=>by simp only[zg]
def iL {x j pos}:PD X (.Constant (.str x) j pos) (dC (.str x)):=nr Uj λ _=>by simp only[zg]
abbrev yJ:=D->D->SS->DK->Prop
def xv (f:yJ):Prop:=∀ x y S (Q Q':DK),(∀ d S',Q d S'->Q' d S')->f x y S Q->f x y S Q'
def xq (K:Ac) (f:yJ) (r:R2):Prop:=∀ x y d e H S Q,zg K H d x->zg K H e y->zH K H S->f d e S (wx K H Q)->r x y H Q
def yn (f:yJ) (ta tb:zr):zr:=fun Y S Q=>ta Y S λ x S1=>tb Y S1 λ y S2=>f x y S2 Q
def yn.mo {f:yJ}{ta tb:zr}(hf:xv f) (ha:yf ta) (hb:yf tb):yf (yn f ta tb):=fun Y S Q Q' hq h=>
 ha Y S _ _ (λ x S1 h=>hb Y S1 _ _ (λ y S2 h=>hf x y S2 _ _ hq h) h) h
def l6 {f:yJ}{r:R2}{ta tb:zr}(hr:xq K f r) (hf:xv f) (ha:yf ta) (hb:yf tb) {B:St}{H:Hp}{Q:VK}(h:zK K (yn f ta tb) B H Q):oH r (zK K ta) (zK K tb) B H Q:=by
 obtain⟨Y,S,r1,r2,h⟩:=h
 refine zK.go ha r1 r2 h λ x S1 v H1 h1 q1 e1 p1=>?_
 refine zK.go hb (r1.ext e1) p1 h1 λ y S2 w H2 h2 q2 e2 p2=>?_
 exact hr v w x y H2 S2 Q (zg.ext e2 x q1) q2 p2 (hf x y S2 _ _ (λ d S' z=>z.ext (e1.trans e2)) h2)
def r9 {a b:Expr}{op:Operator}{pos:Pos}{f:yJ}{r:R2}{ta tb:zr}(ho:ya X (binaryOp op) r) (hr:xq X.K f r) (hf:xv f) (ha:PD X a ta) (hb:PD X b tb):PD X (.BinOp a op b pos) (yn f ta tb):=
 ⟨yn.mo hf ha.mo hb.mo,PE.imp (Ul ho ha.pe hb.pe) λ _ _ _ h=>l6 hr hf ha.mo hb.mo h⟩
def iR {a b:Expr}{op:CmpOp}{pos:Pos}{f:yJ}{r:R2}{ta tb:zr}(ho:ya X (compareOp op) r) (hr:xq X.K f r) (hf:xv f) (ha:PD X a ta) (hb:PD X b tb) (hm:behindInMarks op b=false):PD X (.Compare a [op] [b] pos) (yn f ta tb):=
 ⟨yn.mo hf ha.mo hb.mo,PE.imp (U1 ho ha.pe hb.pe hm) λ _ _ _ h=>l6 hr hf ha.mo hb.mo h⟩
def uk (t:zr):y7:=fun Y S Q=>t Y S λ x S1=>match x with
 | .bl b=>Q b S1
 | _=>False
def uk.mo {t:zr}(h:yf t):wQ (uk t):=fun Y S Q Q' hq q=>h Y S _ _ (λ d S' z=>by
 cases d <;> first
  | exact hq _ _ z
  | exact z) q
def ql {a b:Expr}{op:CmpOp}{pos:Pos}{f:yJ}{r:R2}{ta tb:zr}(ho:ya X (compareOp op) r) (hr:xq X.K f r) (hf:xv f) (ha:PD X a ta) (hb:PD X b tb) (hm:behindInMarks op b=false):xC X (.Compare a [op] [b] pos) (uk (yn f ta tb)):=by
 refine⟨uk.mo (yn.mo hf ha.mo hb.mo),PT.imp (V6 ho ha.pe hb.pe hm) fun B H Q h=>?_⟩
 obtain⟨Y,S,r1,r2,h⟩:=h
 refine l6 hr hf ha.mo hb.mo ⟨Y,S,r1,r2,yn.mo hf ha.mo hb.mo Y S _ _ (λ d S' z v H' a b c=>?_) h⟩
 cases d with
 | bl k=>simp only[zg] at a;exact⟨k,a,z H' b c⟩
 | _=>exact z.elim
def fI (C:Int->Int->Prop) (g:Int->Int->D):yJ:=λ x y S Q=>match x,y with
 | .int i,.int j=>C i j/\Q (g i j) S
 | _,_=>False
def fI.mo {C:Int->Int->Prop}{g:Int->Int->D}:xv (fI C g):=λ x y S Q Q' hq h=>by
 unfold fI at h ⊢
 split at h
 ·exact⟨h.1,hq _ _ h.2⟩
 ·exact h.elim
def xK (g:Int->Int->D):yJ:=λ x y S Q=>match x,y with
 | .int i,.int j=>Q (g i j) S
 | _,_=>False
def xK.mo {g:Int->Int->D}:xv (xK g):=λ x y S Q Q' hq h=>by
 unfold xK at h ⊢
 split at h
 ·exact hq _ _ h
 ·exact h.elim
def fI.fits {C:Int->Int->Prop}{g:Int->Int->D}{g':Int->Int->V}(hg:∀ i j H,zg K H (g i j) (g' i j)):xq K (fI C g) (rI C g'):=λ x y d e H S Q h1 h2 h3 h=>by
 unfold fI at h
 split at h
 ·simp only[zg] at h1 h2
  exact⟨_,_,h1,h2,h.1,h.2 _ H (hg _ _ H) (Ext.refl H) h3⟩
 ·exact h.elim
def xK.fits {g:Int->Int->D}{g':Int->Int->V}(hg:∀ i j H,zg K H (g i j) (g' i j)):xq K (xK g) (v9 g'):=λ x y d e H S Q h1 h2 h3 h=>by
 unfold xK at h
 split at h
 ·simp only[zg] at h1 h2
  exact⟨_,_,h1,h2,h _ H (hg _ _ H) (Ext.refl H) h3⟩
 ·exact h.elim
variable {a b:Expr}{ta tb:zr}{pos:Pos}
def qm (ha:PD X a ta) (hb:PD X b tb):PD X (.BinOp a .Sub b pos) (yn (xK λ i j=>.int (i-j)) ta tb):=r9 Tg (xK.fits λ _ _ _=>by simp only[zg]) xK.mo ha hb
def yw (ha:PD X a ta) (hb:PD X b tb):PD X (.BinOp a .Mod b pos) (yn (fI (λ _ j=>0<j) λ i j=>.int (i%j)) ta tb):=r9 Tt (fI.fits λ _ _ _=>by simp only[zg]) fI.mo ha hb
def wF (ha:PD X a ta) (hb:PD X b tb):PD X (.BinOp a .FloorDiv b pos) (yn (fI xQ λ i j=>.int (i/j)) ta tb):=r9 T3 (fI.fits λ _ _ _=>by simp only[zg]) fI.mo ha hb
def sf (ha:PD X a ta) (hb:PD X b tb):PD X (.BinOp a .Pow b pos) (yn (fI rb λ i j=>.int (i ^ j.toNat)) ta tb):=r9 Th (fI.fits λ _ _ _=>by simp only[zg]) fI.mo ha hb
abbrev gX:yJ:=xK λ i j=>.bl (decide (i<=j))
abbrev gY:yJ:=xK λ i j=>.bl (decide (j<=i))
def fit_le:xq K gX (v9 λ i j=>.bl (decide (i<=j))):=xK.fits λ _ _ _=>by simp only[zg]
def Pl:xq K gY (v9 λ i j=>.bl (decide (j<=i))):=xK.fits λ _ _ _=>by simp only[zg]
def iQ (ha:PD X a ta) (hb:PD X b tb):PD X (.Compare a [.GtE] [b] pos) (yn gY ta tb):=iR Tz Pl xK.mo ha hb (sy _)
def U8 (ha:PD X a ta) (hb:PD X b tb):xC X (.Compare a [.LtE] [b] pos) (uk (yn gX ta tb)):=ql iU fit_le xK.mo ha hb (sy _)
end
section
variable {X:Cx}{K:Ac}{a b c:Expr}{ta tb:zr}{pos:Pos}
def ml (ta tb:zr):zr:=fun Y S Q=>ta Y S λ x S1=>match x with
 | .bl k=>if k=true then tb Y S1 Q else Q (.bl false) S1
 | _=>False
def mh (ta:zr):zr:=fun Y S Q=>ta Y S λ x S1=>match x with
 | .bl k=>Q (.bl (!k)) S1
 | _=>False
def wX {c:Prop} [Decidable c] {A B A' B':Prop}(h1:A->A') (h2:B->B') (h:if c then A else B):if c then A' else B':=by
 by_cases q:c
 ·rw[if_pos q] at h ⊢;exact h1 h
 ·rw[if_neg q] at h ⊢;exact h2 h
def ml.mo (ha:yf ta) (hb:yf tb):yf (ml ta tb):=fun Y S Q Q' hq h=>ha Y S _ _ (λ x S1 z=>by
 cases x <;> first
  | exact wX (hb Y S1 _ _ hq) (hq _ _) z
  | exact z) h
def mh.mo (ha:yf ta):yf (mh ta):=fun Y S Q Q' hq h=>ha Y S _ _ (λ x S1 z=>by
 cases x <;> first
  | exact hq _ _ z
  | exact z) h
def qo {op} {t:zr}(h:PD X a t):PD X (.BoolOp op [a] pos) t:=⟨h.mo,Um h.pe⟩
variable {EK:List Expr}
def rA (ha:PD X a ta) (hb:PD X (.BoolOp .And (b::EK) pos) tb):PD X (.BoolOp .And (a::b::EK) pos) (ml ta tb):=by
 refine⟨ml.mo ha.mo hb.mo,PE.imp (U7 ha.pe hb.pe) fun B H Q hu=>?_⟩
 obtain⟨Y,S,r1,r2,h⟩:=hu
 refine zK.go ha.mo r1 r2 h λ x S1 v H1 h1 q1 e1 p1=>?_
 cases x with
 | bl k=>
  simp only[zg] at q1
  refine⟨k,q1,wX (λ z=>?_) (λ z=>?_) h1⟩
  ·exact zK.go hb.mo (r1.ext e1) p1 z λ y S2 w H2 h2 q2 e2 p2=>h2 w H2 q2 (e1.trans e2) p2
  ·exact z _ H1 (by simp only[zg]) e1 p1
 | _=>exact h1.elim
def bu (ha:PD X a ta):PD X (.UnaryOp .Not a pos) (mh ta):=by
 refine⟨mh.mo ha.mo,PE.imp (Uo ha.pe) fun B H Q hu=>?_⟩
 obtain⟨Y,S,r1,r2,h⟩:=hu
 refine zK.go ha.mo r1 r2 h λ x S1 v H1 h1 q1 e1 p1=>?_
 cases x with
 | bl k=>
  simp only[zg] at q1
  exact⟨k,q1,h1 _ H1 (by simp only[zg]) e1 p1⟩
 | _=>exact h1.elim
def n_ (t u:y7):y7:=fun Y S Q=>t Y S λ k S1=>if k=true then u Y S1 Q else Q false S1
def nY (t u:y7):y7:=fun Y S Q=>t Y S λ k S1=>if k=true then Q true S1 else u Y S1 Q
def nZ (t:y7):y7:=fun Y S Q=>t Y S λ k S1=>Q (!k) S1
variable {t u:y7}
def n_.mo (h:wQ t) (h':wQ u):wQ (n_ t u):=fun Y S _ _ hq z=>h Y S _ _ (λ k S1 z=>wX (h' Y S1 _ _ hq) (hq _ _) z) z
def nY.mo (h:wQ t) (h':wQ u):wQ (nY t u):=fun Y S _ _ hq z=>h Y S _ _ (λ k S1 z=>wX (hq _ _) (h' Y S1 _ _ hq) z) z
def nZ.mo (h:wQ t):wQ (nZ t):=fun Y S _ _ hq z=>h Y S _ _ (λ k S1 z=>hq _ _ z) z
structure wO (X:Cx) (e:Expr) (t:y7):Prop where
 mo:wQ t
 pw:PW X e (wa X.K t)
def PW.imp {e:Expr}{t t':TT}(h:PW X e t) (hi:∀ B H Q,t' B H Q->t B H Q):PW X e t':=λ whole EF s B H Q I q=>h whole EF s B H Q I (hi B H Q q)
theorem wO.pt {e:Expr}{t:y7}(h:wO X e t):xC X e t:=⟨h.mo,PW.pt h.pw⟩
def bf (h:xC X a t):wO X (.BoolOp .And [a] pos) t:=⟨h.mo,V0 h.pt⟩
def pj (h:xC X a t):wO X (.BoolOp .Or [a] pos) t:=⟨h.mo,Vy h.pt⟩
def bg (ha:xC X a t) (hb:wO X (.BoolOp .And (b::EK) pos) u):wO X (.BoolOp .And (a::b::EK) pos) (n_ t u):=by
 refine⟨n_.mo ha.mo hb.mo,PW.imp (V1 ha.pt hb.pw) fun B H Q hu=>?_⟩
 obtain⟨Y,S,r1,r2,h⟩:=hu
 refine wa.go ha.mo r1 r2 h λ k S1 H1 h1 e1 p1=>wX (λ z=>?_) (λ z=>z H1 e1 p1) h1
 exact wa.go hb.mo (r1.ext e1) p1 z λ y S2 H2 h2 e2 p2=>h2 H2 (e1.trans e2) p2
def pk (ha:xC X a t) (hb:wO X (.BoolOp .Or (b::EK) pos) u):wO X (.BoolOp .Or (a::b::EK) pos) (nY t u):=by
 refine⟨nY.mo ha.mo hb.mo,PW.imp (Vz ha.pt hb.pw) fun B H Q hu=>?_⟩
 obtain⟨Y,S,r1,r2,h⟩:=hu
 refine wa.go ha.mo r1 r2 h λ k S1 H1 h1 e1 p1=>wX (λ z=>z H1 e1 p1) (λ z=>?_) h1
 exact wa.go hb.mo (r1.ext e1) p1 z λ y S2 H2 h2 e2 p2=>h2 H2 (e1.trans e2) p2
def rq (ha:xC X a t):xC X (.UnaryOp .Not a pos) (nZ t):=by
 refine⟨nZ.mo ha.mo,PT.imp (V5 ha.pt) fun B H Q hu=>?_⟩
 obtain⟨Y,S,r1,r2,h⟩:=hu
 exact wa.go ha.mo r1 r2 h λ k S1 H1 h1 e1 p1=>h1 H1 e1 p1
def mi (t:y7) (ta tb:zr):zr:=fun Y S Q=>t Y S λ k S1=>if k=true then ta Y S1 Q else tb Y S1 Q
def mi.mo (h:wQ t) (ha:yf ta) (hb:yf tb):yf (mi t ta tb):=fun Y S _ _ hq z=>h Y S _ _ (λ k S1 z=>wX (ha Y S1 _ _ hq) (hb Y S1 _ _ hq) z) z
def US (hc:xC X c t) (ha:PD X a ta) (hb:PD X b tb):PD X (.IfExp c a b pos) (mi t ta tb):=by
 refine⟨mi.mo hc.mo ha.mo hb.mo,PE.imp (Uw hc.pt ha.pe hb.pe) fun B H Q hu=>?_⟩
 obtain⟨Y,S,r1,r2,h⟩:=hu
 refine wa.go hc.mo r1 r2 h λ k S1 H1 h1 e1 p1=>wX (λ z=>?_) (λ z=>?_) h1
 ·exact zK.go ha.mo (r1.ext e1) p1 z λ y S2 w H2 h2 q2 e2 p2=>h2 w H2 q2 (e1.trans e2) p2
 ·exact zK.go hb.mo (r1.ext e1) p1 z λ y S2 w H2 h2 q2 e2 p2=>h2 w H2 q2 (e1.trans e2) p2
def v5 (d:D) (S:SS) (Q:Bool->SS->Prop):Prop:=match d with
 | .zm=>Q false S
 | .bl k=>Q k S
 | .int i=>Q (i != 0) S
 | .str x=>x.length<=sizeLine/\Q ((x.length:Int) != 0) S
 | .tup ds=>Q (!ds.isEmpty) S
 | .xr ds=>Q (!ds.isEmpty) S
 | .ref p=>match S p with
  | some (.lst ds)=>Q (!ds.isEmpty) S
  | some (.z_ Aa)=>Q (!Aa.isEmpty) S
  | none=>False
 | .err _ _ _=>False
def ZH (ta:zr):y7:=fun Y S Q=>ta Y S λ x S1=>v5 x S1 Q
def v5.mo {d:D}{S:SS}{Q Q':Bool->SS->Prop}(hq:∀ k S',Q k S'->Q' k S') (h:v5 d S Q):v5 d S Q':=by
 cases d with
 | str x=>exact⟨h.1,hq _ _ h.2⟩
 | err _ _ _=>exact h.elim
 | ref p=>
  unfold v5 at h ⊢
  dsimp only at h ⊢
  split at h
  ·exact hq _ _ h
  ·exact hq _ _ h
  ·exact h
 | _=>exact hq _ _ h
theorem zj.isEmpty {H:Hp}{ds:List D}{xs:List V}(h:zj K H ds xs):ds.isEmpty=xs.isEmpty:=by
 have:=h.length
 cases ds <;> cases xs <;> simp_all
def Nn {α β:Type}{F:α->β->Prop}{xs:List α}{ys:List β}(h:Paired F xs ys):xs.isEmpty=ys.isEmpty:=by cases h <;> rfl
def v5.fits {H:Hp}{d:D}{v:V}{S:SS}{Q:Bool->Hp->Prop}(r:zg K H d v) (p:zH K H S) (h:v5 d S (md K H Q)):∃ k,fU K v H k/\Q k H:=by
 cases d with
 | zm=>simp only[zg] at r;subst r;exact⟨false,rfl,h H (.refl H) p⟩
 | bl k=>simp only[zg] at r;subst r;exact⟨k,rfl,h H (.refl H) p⟩
 | int i=>simp only[zg] at r;subst r;exact⟨_,rfl,h H (.refl H) p⟩
 | str x=>simp only[zg] at r;subst r;exact⟨_,⟨h.1,rfl⟩,h.2 H (.refl H) p⟩
 | err _ _ _=>exact h.elim
 | tup ds=>
  simp only[zg] at r
  obtain⟨a,xs,rfl,r1,r2⟩:=r
  exact⟨_,.inr (.inl ⟨xs,r1,by rw[r2.isEmpty]⟩),h H (.refl H) p⟩
 | xr ds=>
  simp only[zg] at r
  obtain⟨a,xs,rfl,r1,r2⟩:=r
  exact⟨_,.inl ⟨xs,r1.sq,by rw[r2.isEmpty]⟩,h H (.refl H) p⟩
 | ref a=>
  simp only[zg] at r
  subst r
  unfold v5 at h
  dsimp only at h
  split at h
  ·rename_i ds e
   obtain⟨xs,e1,r2⟩:=p a _ e
   exact⟨_,.inl ⟨xs,zJ.of e1,by rw[r2.isEmpty]⟩,h H (.refl H) p⟩
  ·rename_i Aa e
   obtain⟨xs,e1,r2⟩:=p a _ e
   exact⟨_,.inr (.inr ⟨xs,e1,by rw[Nn r2]⟩),h H (.refl H) p⟩
  ·exact h.elim
def vf (ha:PD X a ta) (he:∀ whole,isTrue a X.env whole=(do let v <- whole;standAt a.pos;holding [v] (truthy v)):=by intro _;rfl):xC X a (ZH ta):=by
 refine⟨fun Y S Q Q' hq h=>ha.mo Y S _ _ (λ x S1 z=>v5.mo hq z) h,PT.imp (V4 ha.pe he) fun B H Q hu=>?_⟩
 obtain⟨Y,S,r1,r2,h⟩:=hu
 refine zK.go ha.mo r1 r2 h λ x S1 v H1 h1 q1 e1 p1=>?_
 exact v5.fits q1 p1 (v5.mo (λ k S' z=>z.ext e1) h1)
def kL:yh:=λ _ S Q=>Q [] S
def qC (te:zr) (tr:yh):yh:=fun Y S Q=>te Y S λ x S1=>tr Y S1 λ xs S2=>Q (x::xs) S2
variable {e:Expr}{es:List Expr}{te:zr}{tA:yh}
def qC.mo (h:yf te) (h':sV tA):sV (qC te tA):=fun Y S _ _ hq z=>h Y S _ _ (λ x S1 z=>h' Y S1 _ _ (λ xs S2 z=>hq _ _ z) z) z
def zl:yY X [] kL:=⟨λ _ _ _ _ hq h=>hq _ _ h,PA.imp p9 fun B H Q ⟨_,_,_,r2,h⟩=>h [] H .nil (.refl H) r2⟩
def ze (ha:PD X e te) (hr:yY X es tA) (hs:starEach (e::es) X.env=(false,eval e X.env)::starEach es X.env:=by rfl):yY X (e::es) (qC te tA):=by
 refine⟨qC.mo ha.mo hr.mo,PA.imp (qp ha.pe hr.pa hs) fun B H Q hu=>?_⟩
 obtain⟨Y,S,r1,r2,h⟩:=hu
 refine zK.go ha.mo r1 r2 h λ x S1 v H1 h1 q1 e1 p1=>?_
 refine wb.go hr.mo (r1.ext e1) p1 h1 λ xs S2 w H2 h2 q2 e2 p2=>?_
 exact h2 (v::w) H2 (.cons (zg.ext e2 x q1) q2) (e1.trans e2) p2
def ZO (t:yh):zr:=fun Y S Q=>t Y S λ ds S1=>ds.length<=sizeLine/\Q (.tup ds) S1
def ZU (t:yh):zr:=fun Y S Q=>t Y S λ ds S1=>ds.length<=sizeLine/\∀ p,S1 p=none->Q (.ref p) (ups S1 p (.lst ds))
def yr {k} (h:yY X es tA):PD X (.Tuple es k pos) (ZO tA):=by
 refine⟨fun Y S _ _ hq z=>h.mo Y S _ _ (λ ds S1 z=>⟨z.1,hq _ _ z.2⟩) z,PE.imp (Ui h.pa) fun B H Q hu=>?_⟩
 obtain⟨Y,S,r1,r2,h'⟩:=hu
 refine wb.go h.mo r1 r2 h' λ ds S1 xs H1 h1 q1 e1 p1=>⟨by rw[<- q1.length];exact h1.1,λ p hp=>?_⟩
 refine h1.2 _ _ ?_ (e1.trans (.new hp _)) (p1.new hp)
 simp only[zg]
 exact⟨p,xs,rfl,zL.of y6,zj.ext (.new hp _) ds q1⟩
def vg (h:yY X es tA):PD X (.List es pos) (ZU tA):=by
 refine⟨fun Y S _ _ hq z=>h.mo Y S _ _ (λ ds S1 z=>⟨z.1,λ p hp=>hq _ _ (z.2 p hp)⟩) z,PE.imp (Us h.pa) fun B H Q hu=>?_⟩
 obtain⟨Y,S,r1,r2,h'⟩:=hu
 refine wb.go h.mo r1 r2 h' λ ds S1 xs H1 h1 q1 e1 p1=>⟨by rw[<- q1.length];exact h1.1,λ p hp=>?_⟩
 refine h1.2 p (p1.none hp) _ _ (by simp only[zg]) (e1.trans (.new hp _)) ?_
 exact p1.ups (.new hp _) ⟨xs,y6,zj.ext (.new hp _) ds q1⟩
def wu:yJ:=λ x y S Q=>match x,y with
 | .tup ds,.int i=>match zI ds i with
  | some d=>Q d S
  | none=>False
 | .xr ds,.int i=>match zI ds i with
  | some d=>Q d S
  | none=>False
 | .ref p,.int i=>match S p with
  | some (.lst ds)=>match zI ds i with
   | some d=>Q d S
   | none=>False
  | _=>False
 | _,_=>False
def wu.mo:xv wu:=λ x y S Q Q' hq h=>by
 unfold wu at h ⊢
 split at h
 ·skip
  split at h
  ·exact hq _ _ h
  ·exact h
 ·skip
  split at h
  ·exact hq _ _ h
  ·exact h
 ·skip
  split at h
  ·skip
   split at h
   ·exact hq _ _ h
   ·exact h
  ·exact h.elim
 ·exact h.elim
theorem zj.zI {H:Hp}{ds:List D}{xs:List V}{i:Int}{d:D}(h:zj K H ds xs) (e:L2.zI ds i=some d):∃ x,L2.zI xs i=some x/\zg K H d x:=by
 unfold L2.zI at e ⊢
 rw[h.length] at e
 cases q:wW xs.length i with
 | none=>rw[q] at e;cases e
 | some j=>
  rw[q] at e
  exact h.get e
def wu.fits:xq K wu (cM K):=λ x y d e H S Q h1 h2 h3 h=>by
 unfold wu at h
 split at h
 ·split at h
  ·rename_i q
   simp only[zg] at h1 h2
   obtain⟨a,xs,rfl,r1,r2⟩:=h1
   obtain⟨x',e1,e2⟩:=r2.zI q
   exact .inr (.inl ⟨a,xs,_,x',rfl,h2,r1,e1,h x' H e2 (.refl H) h3⟩)
  ·exact h.elim
 ·split at h
  ·rename_i q
   simp only[zg] at h1 h2
   obtain⟨a,xs,rfl,r1,r2⟩:=h1
   obtain⟨x',e1,e2⟩:=r2.zI q
   exact .inl ⟨a,xs,_,x',rfl,h2,r1.sq,e1,h x' H e2 (.refl H) h3⟩
  ·exact h.elim
 ·split at h
  ·rename_i q0
   split at h
   ·rename_i q
    simp only[zg] at h1 h2
    subst h1
    obtain⟨xs,r1,r2⟩:=h3 _ _ q0
    obtain⟨x',e1,e2⟩:=r2.zI q
    exact .inl ⟨_,xs,_,x',rfl,h2,zJ.of r1,e1,h x' H e2 (.refl H) h3⟩
   ·exact h.elim
  ·exact h.elim
 ·exact h.elim
def zx (ha:PD X a ta) (hb:PD X b tb) (hs:Y9 b:=by exact λ _ _=>rfl):PD X (.Subscript a b pos) (yn wu ta tb):=
 ⟨yn.mo wu.mo ha.mo hb.mo,PE.imp (Uu Qw ha.pe hb.pe hs) λ _ _ _ h=>l6 wu.fits wu.mo ha.mo hb.mo h⟩
abbrev xn:=List D->SS->DK->Prop
def vw (f:xn):Prop:=∀ ds S (Q Q':DK),(∀ d S',Q d S'->Q' d S')->f ds S Q->f ds S Q'
def uv (K:Ac) (f:xn) (r:List V->Hp->VK->Prop):Prop:=∀ xs ds H S Q,zj K H ds xs->zH K H S->f ds S (wx K H Q)->r xs H Q
def xm (f:xn) (t:yh):zr:=fun Y S Q=>t Y S λ ds S1=>f ds S1 Q
def xm.mo {f:xn}(hf:vw f) (h:sV tA):yf (xm f tA):=fun Y S _ _ hq z=>h Y S _ _ (λ ds S1 z=>hf ds S1 _ _ hq z) z
def dE {f:xn}{r:List V->Hp->VK->Prop}(hf:vw f) (hr:uv K f r) (h:sV tA) {B:St}{H:Hp}{Q:VK}(hu:zK K (xm f tA) B H Q):oI r (wb K tA) B H Q:=by
 obtain⟨Y,S,r1,r2,h'⟩:=hu
 refine wb.go h r1 r2 h' λ ds S1 xs H1 h1 q1 e1 p1=>?_
 exact hr xs ds H1 S1 Q q1 p1 (hf ds S1 _ _ (λ d S' z=>z.ext e1) h1)
def u6 {f:xn}{r:List V->Hp->VK->Prop}{e:Expr}(h:PE X e (oI r (wb X.K tA))) (hf:vw f) (hr:uv X.K f r) (ha:sV tA):PD X e (xm f tA):=
 ⟨xm.mo hf ha,PE.imp h λ _ _ _ hu=>dE hf hr ha hu⟩
noncomputable def zM (d:D) (S:SS):Option (List D):=match d with
 | .tup ds=>some ds
 | .xr ds=>some ds
 | .ref p=>match S p with
  | some (.lst ds)=>some ds
  | _=>none
 | _=>none
theorem zM.sq {H:Hp}{S:SS}{d:D}{v:V}{ds:List D}(r:zg K H d v) (p:zH K H S) (e:zM d S=some ds):∃ a xs,v=.ref a/\(zJ K H a xs\/zL K H a xs)/\zj K H ds xs:=by
 unfold zM at e
 split at e
 ·cases e
  simp only[zg] at r
  obtain⟨a,xs,h1,h2,h3⟩:=r
  exact⟨a,xs,h1,.inr h2,h3⟩
 ·cases e
  simp only[zg] at r
  obtain⟨a,xs,h1,h2,h3⟩:=r
  exact⟨a,xs,h1,.inl h2.sq,h3⟩
 ·split at e
  ·rename_i q
   cases e
   simp only[zg] at r
   subst r
   obtain⟨xs,h1,h2⟩:=p _ _ q
   exact⟨_,xs,rfl,.inl (zJ.of h1),h2⟩
  ·cases e
 ·cases e
def zj.one {H:Hp}{d:D}{xs:List V}(h:zj K H [d] xs):∃ x,xs=[x]/\zg K H d x:=by
 simp only[zj] at h
 obtain⟨x,r,rfl,h2,rfl⟩:=h
 exact⟨x,rfl,h2⟩
def zj.two {H:Hp}{d d':D}{xs:List V}(h:zj K H [d,d'] xs):∃ x y,xs=[x,y]/\zg K H d x/\zg K H d' y:=by
 simp only[zj] at h
 obtain⟨x,r,rfl,h2,y,r',rfl,h3,rfl⟩:=h
 exact⟨x,y,rfl,h2,h3⟩
def uh:xn:=λ ds S Q=>match ds with
 | [d]=>match zM d S with
  | some ds=>Q (.int ds.length) S
  | none=>match d with
   | .str z=>z.length<=sizeLine/\Q (.int z.length) S
   | _=>False
 | _=>False
def uh.mo:vw uh:=λ ds S Q Q' hq h=>by
 unfold uh at h ⊢
 split at h
 ·skip
  split at h
  ·exact hq _ _ h
  ·split at h
   ·exact⟨h.1,hq _ _ h.2⟩
   ·exact h.elim
 ·exact h.elim
abbrev Vx (K:Ac):List V->Hp->VK->Prop:=λ xs H Q=>(∃ p ys,xs=[.ref p]/\(zJ K H p ys\/zL K H p ys)/\Q (.int ys.length) H)\/(∃ z,xs=[.str z]/\z.length<=sizeLine/\Q (.int z.length) H)
def uh.fits:uv K uh (Vx K):=λ xs ds H S Q h0 h2 h=>by
 unfold uh at h
 split at h
 ·obtain⟨x,hx,h1⟩:=h0.one;subst hx
  split at h
  ·rename_i e
   obtain⟨a,ys,rfl,q,r⟩:=zM.sq h1 h2 e
   refine .inl ⟨a,ys,rfl,q,?_⟩
   rw[<- r.length]
   exact h _ H (by simp only[zg]) (.refl H) h2
  ·split at h
   ·simp only[zg] at h1
    subst h1
    exact .inr ⟨_,rfl,h.1,h.2 _ H (by simp only[zg]) (.refl H) h2⟩
   ·exact h.elim
 ·exact h.elim
def ug:xn:=λ ds S Q=>match ds with
 | [d]=>match zM d S with
  | some ds=>∀ p,S p=none->Q (.ref p) (ups S p (.lst ds))
  | none=>False
 | _=>False
def ug.mo:vw ug:=λ ds S Q Q' hq h=>by
 unfold ug at h ⊢
 split at h
 ·skip
  split at h
  ·exact λ p hp=>hq _ _ (h p hp)
  ·exact h.elim
 ·exact h.elim
def ug.fits:uv K ug (λ xs H Q=>∃ p ys,xs=[.ref p]/\(zJ K H p ys\/zL K H p ys)/\∀ l,H l=none->Q (.ref l) (upd H l (.lst ys))):=λ xs ds H S Q h0 h2 h=>by
 unfold ug at h
 split at h
 ·obtain⟨x,hx,h1⟩:=h0.one;subst hx
  split at h
  ·rename_i e
   obtain⟨a,ys,rfl,q,r⟩:=zM.sq h1 h2 e
   refine⟨a,ys,rfl,q,λ l hl=>?_⟩
   exact h l (h2.none hl) _ _ (by simp only[zg]) (.new hl _) (h2.ups (.new hl _) ⟨ys,y6,zj.ext (.new hl _) _ r⟩)
  ·exact h.elim
 ·exact h.elim
def uf:xn:=λ ds S Q=>match ds with
 | [.tup ds]=>Q (.tup ds) S
 | [.xr ds]=>Q (.tup ds) S
 | [.ref p]=>match S p with
  | some (.lst ds)=>Q (.tup ds) S
  | _=>False
 | _=>False
def uf.mo:vw uf:=λ ds S Q Q' hq h=>by
 unfold uf at h ⊢
 split at h
 ·exact hq _ _ h
 ·exact hq _ _ h
 ·skip
  split at h
  ·exact hq _ _ h
  ·exact h.elim
 ·exact h.elim
def uf.fits:uv K uf (λ xs H Q=>∃ p ys,xs=[.ref p]/\((zJ K H p ys/\∀ l,H l=none->Q (.ref l) (upd H l (.tup ys)))\/(zL K H p ys/\Q (.ref p) H))):=λ xs ds H S Q h0 h2 h=>by
 unfold uf at h
 split at h
 ·obtain⟨x,hx,h1⟩:=h0.one;subst hx
  have IE:=h1
  simp only[zg] at h1
  obtain⟨a,xs,rfl,r1,r2⟩:=h1
  exact⟨a,xs,rfl,.inr ⟨r1,h _ H IE (.refl H) h2⟩⟩
 ·obtain⟨x,hx,h1⟩:=h0.one;subst hx
  simp only[zg] at h1
  obtain⟨a,xs,rfl,r1,r2⟩:=h1
  refine⟨a,xs,rfl,.inl ⟨r1.sq,λ l hl=>h _ _ ?_ (.new hl _) (h2.new hl)⟩⟩
  simp only[zg]
  exact⟨l,xs,rfl,zL.of y6,zj.ext (.new hl _) _ r2⟩
 ·obtain⟨x,hx,h1⟩:=h0.one;subst hx
  split at h
  ·rename_i e
   simp only[zg] at h1
   subst h1
   obtain⟨xs,r1,r2⟩:=h2 _ _ e
   refine⟨_,xs,rfl,.inl ⟨zJ.of r1,λ l hl=>h _ _ ?_ (.new hl _) (h2.new hl)⟩⟩
   simp only[zg]
   exact⟨l,xs,rfl,zL.of y6,zj.ext (.new hl _) _ r2⟩
  ·exact h.elim
 ·exact h.elim
def vL (g:Int->Int->D):xn:=λ ds S Q=>match ds with
 | [.int i,.int j]=>Q (g i j) S
 | _=>False
def vL.mo {g:Int->Int->D}:vw (vL g):=λ ds S Q Q' hq h=>by
 unfold vL at h ⊢
 split at h
 ·exact hq _ _ h
 ·exact h.elim
def vL.fits {g:Int->Int->D}{g':Int->Int->V}(hg:∀ i j H,zg K H (g i j) (g' i j)):uv K (vL g) (λ xs H Q=>∃ i j,xs=[.int i,.int j]/\Q (g' i j) H):=λ xs ds H S Q h0 h2 h=>by
 unfold vL at h
 split at h
 ·obtain⟨x,y,hx,h1,h3⟩:=h0.two;subst hx
  simp only[zg] at h1 h3
  subst h1 h3
  exact⟨_,_,rfl,h _ H (hg _ _ H) (.refl H) h2⟩
 ·exact h.elim
def zaf:yJ:=λ x y S Q=>match x,y with
 | .ref p,.ref q=>match S p,S q with
  | some (.lst ds),some (.lst es)=>ds.length+es.length<=sizeLine/\∀ r,S r=none->Q (.ref r) (ups S r (.lst (ds++es)))
  | _,_=>False
 | _,_=>False
def rV (to te:zr):zr:=fun Y S Q=>to Y S λ x S1=>match x with
 | .ref p=>(∃ ds,S1 p=some (.lst ds))/\te Y S1 λ y S2=>match S2 p with
  | some (.lst ds)=>ds.length<sizeLine/\Q .zm (ups S2 p (.lst (ds++[y])))
  | _=>False
 | _=>False
def rV.mo {to te:zr}(h:yf to) (h':yf te):yf (rV to te):=fun Y S Q Q' hq z=>h Y S _ _ (λ x S1 z=>by
 cases x with
 | ref p=>
  refine⟨z.1,h' Y S1 _ _ (λ y S2 w=>?_) z.2⟩
  split at w
  ·exact⟨w.1,hq _ _ w.2⟩
  ·exact w.elim
 | _=>exact z) z
def Ta {o e:Expr}{to te:zr}{e0:Expr}(Ee:PE X e0 (jE X.K "list" cT (zK X.K to) (jD (zK X.K te) jB))) (h:yf to) (h':yf te):PD X e0 (rV to te):=by
 refine⟨rV.mo h h',PE.imp Ee fun B H Q hu=>?_⟩
 obtain⟨Y,S,r1,r2,z⟩:=hu
 refine zK.go h r1 r2 z λ x S1 v H1 h1 q1 e1 p1=>?_
 cases x with
 | ref p=>
  obtain⟨⟨ds,hd⟩,h1⟩:=h1
  simp only[zg] at q1
  subst q1
  obtain⟨xs,g1,g2⟩:=p1 _ _ hd
  refine⟨.inl ⟨rfl,xs,zJ.of g1⟩,?_⟩
  refine zK.go h' (r1.ext e1) p1 h1 λ y S2 w H2 h2 q2 e2 p2=>?_
  split at h2
  ·rename_i G3 e3
   obtain⟨E9,g3,g4⟩:=p2 _ _ e3
   refine⟨p,E9,w,rfl,rfl,g3,by rw[<- g4.length];exact h2.1,?_⟩
   have e4:Ext H2 (upd H2 p (.lst (E9++[w]))):=.lst g3 _
   exact h2.2 _ _ (by simp only[zg]) ((e1.trans e2).trans e4) (p2.ups e4 ⟨_,y6,zj.ext e4 _ (g4.snoc q2)⟩)
  ·exact h2.elim
 | _=>exact h1.elim
end
structure qb where
 nx:ye->SS->Prop
 rt:DK
 bk:ye->SS->Prop:=λ _ _=>False
 ct:ye->SS->Prop:=λ _ _=>False
abbrev yD:=qb->ye->SS->Prop
structure qb.Le (E E':qb):Prop where
 nx:∀ Y S,E.nx Y S->E'.nx Y S
 rt:∀ d S,E.rt d S->E'.rt d S
 bk:∀ Y S,E.bk Y S->E'.bk Y S
 ct:∀ Y S,E.ct Y S->E'.ct Y S
def tN (t:yD):Prop:=∀ E E' Y S,qb.Le E E'->t E Y S->t E' Y S
def tD (K:Ac) (H:Hp) (D:Ends):qb:=⟨wZ K H D.nx,wx K H D.rt,wZ K H D.bk,wZ K H D.ct⟩
theorem tD.ext {K:Ac}{H H':Hp}{D:Ends}(e:Ext H H'):(tD K H D).Le (tD K H' D):=⟨λ _ _ h=>wZ.ext e h,λ _ _ h=>wx.ext e h,λ _ _ h=>wZ.ext e h,λ _ _ h=>wZ.ext e h⟩
def j6 (K:Ac) (t:yD):TS:=λ D B H=>∃ Y S,yF K H Y B/\zH K H S/\t (tD K H D) Y S
structure vq (X:Cx) (st:Stmt) (t:yD):Prop where
 mo:tN t
 ps:PS X st (j6 X.K t)
structure ur (X:Cx) (st:List Stmt) (t:yD):Prop where
 mo:tN t
 ps:xP X st (j6 X.K t)
section
variable {X:Cx}{K:Ac}{st:Stmt}{EK:List Stmt}{t u:yD}{pos:Pos}{e:Expr}{te:zr}
def ZR:yD:=λ E Y S=>E.nx Y S
def mf (t u:yD):yD:=λ E Y S=>t { E with nx:=u E } Y S
def mf.mo (h:tN t) (h':tN u):tN (mf t u):=λ E E' Y S hE z=>h { E with nx:=u E } { E' with nx:=u E' } Y S ⟨fun Y S q=>h' E E' Y S hE q,hE.rt,hE.bk,hE.ct⟩ z
def xb:ur X [] ZR:=⟨λ _ _ _ _ hE h=>hE.nx _ _ h,xP.imp V8 λ D B H ⟨Y,S,r1,r2,h⟩=>h B H r1 (.refl H) r2⟩
def zA (h:vq X st t):ur X [st] t:=⟨h.mo,V7 h.ps⟩
def zy (h:vq X st t) (h':ur X EK u):ur X (st::EK) (mf t u):=by
 refine⟨mf.mo h.mo h'.mo,xP.imp (V9 h.ps h'.ps) λ D B H hu=>?_⟩
 obtain⟨Y,S,r1,r2,z⟩:=hu
 refine⟨Y,S,r1,r2,h.mo { tD X.K H D with nx:=u (tD X.K H D) } _ Y S ⟨fun Y' S' q B' H' q1 q2 q3=>?_,λ _ _ q=>q,λ _ _ q=>q,λ _ _ q=>q⟩ z⟩
 exact⟨Y',S',q1,q3,h'.mo _ _ Y' S' (tD.ext q2) q⟩
def kM (te:zr):yD:=λ E Y S=>te Y S λ _ S1=>E.nx Y S1
def wD (he:PD X e te) (hs:swapsWith e none pos.line X.env=pure false:=by rfl):vq X (.Expr e pos) (kM te):=by
 refine⟨λ E E' Y S hE z=>he.mo Y S _ _ (λ _ _ q=>hE.nx _ _ q) z,PS.imp (VG he.pe hs) λ D B H hu=>?_⟩
 obtain⟨Y,S,r1,r2,z⟩:=hu
 exact zK.go he.mo r1 r2 z λ x S1 v H1 h1 q1 e1 p1=>h1 B H1 (r1.ext e1) e1 p1
def fu (te:zr):yD:=λ E Y S=>te Y S E.rt
def zT (he:PD X e te):vq X (.Return (some e) pos) (fu te):=by
 refine⟨λ E E' Y S hE z=>he.mo Y S _ _ (λ _ _ q=>hE.rt _ _ q) z,PS.imp (VD he.pe) λ D B H hu=>?_⟩
 obtain⟨Y,S,r1,r2,z⟩:=hu
 exact zK.go he.mo r1 r2 z λ x S1 v H1 h1 q1 e1 p1=>h1 v H1 q1 e1 p1
def ZW (c:y7) (t u:yD):yD:=λ E Y S=>c Y S λ k S1=>if k=true then t E Y S1 else u E Y S1
def xc {c:Expr}{p q:List Stmt}{tc:y7}(hc:xC X c tc) (h:ur X p t) (h':ur X q u):vq X (.If c p q pos) (ZW tc t u):=by
 refine⟨λ E E' Y S hE z=>hc.mo Y S _ _ (λ k S1 z=>wX (h.mo _ _ Y S1 hE) (h'.mo _ _ Y S1 hE) z) z,PS.imp (VE hc.pt h.ps h'.ps) λ D B H hu=>?_⟩
 obtain⟨Y,S,r1,r2,z⟩:=hu
 refine wa.go hc.mo r1 r2 z λ k S1 H1 h1 e1 p1=>wX (λ z=>?_) (λ z=>?_) h1
 ·exact⟨Y,S1,r1.ext e1,p1,h.mo _ _ Y S1 (tD.ext e1) z⟩
 ·exact⟨Y,S1,r1.ext e1,p1,h'.mo _ _ Y S1 (tD.ext e1) z⟩
abbrev yX:=D->ye->SS->(ye->SS->Prop)->Prop
abbrev wM:=List D->ye->SS->(ye->SS->Prop)->Prop
def mP (t:yX):Prop:=∀ d Y S (Q Q':ye->SS->Prop),(∀ Y S,Q Y S->Q' Y S)->t d Y S Q->t d Y S Q'
def YE (t:wM):Prop:=∀ d Y S (Q Q':ye->SS->Prop),(∀ Y S,Q Y S->Q' Y S)->t d Y S Q->t d Y S Q'
def oE (K:Ac) (t:yX):TG:=λ v B H Q=>∃ d Y S,zg K H d v/\yF K H Y B/\zH K H S/\t d Y S (wZ K H Q)
def dD (K:Ac) (t:wM):sQ:=λ v B H Q=>∃ d Y S,zj K H d v/\yF K H Y B/\zH K H S/\t d Y S (wZ K H Q)
structure sU (X:Cx) (e:Expr) (t:yX):Prop where
 mo:mP t
 pg:PG X e (oE X.K t)
structure kW (X:Cx) (es:List Expr) (t:wM):Prop where
 mo:YE t
 pg:tM X es (dD X.K t)
def PG.imp {e:Expr}{t t':TG}(h:PG X e t) (hi:∀ v B H Q,t' v B H Q->t v B H Q):PG X e t':=λ EF s B H v w Q I r q=>h EF s B H v w Q I r (hi v B H Q q)
def tM.imp {e:List Expr}{t t':sQ}(h:tM X e t) (hi:∀ v B H Q,t' v B H Q->t v B H Q):tM X e t':=λ EF s B H v w Q I r q=>h EF s B H v w Q I r (hi v B H Q q)
def hName (i:Nat):yX:=λ d Y S Q=>Q (Y.set i (some d)) S
def UM {e:Expr}{i:Nat}(h:PG X e (pU i)):sU X e (hName i):=
 ⟨λ _ _ _ _ _ hq z=>hq _ _ z,PG.imp h λ v B H Q ⟨d,Y,S,r1,r2,r3,z⟩=>z _ H (r2.set i r1) (.refl H) r3⟩
def gG:wM:=λ ds Y S Q=>ds=[]/\Q Y S
def gH (t:yX) (u:wM):wM:=λ ds Y S Q=>match ds with
 | d::r=>t d Y S fun Y' S'=>u r Y' S' Q
 | []=>False
def pz:kW X [] gG:=by
 refine⟨λ _ _ _ _ _ hq z=>⟨z.1,hq _ _ z.2⟩,tM.imp VY λ v B H Q hu=>?_⟩
 obtain⟨d,Y,S,r1,r2,r3,z1,z2⟩:=hu
 subst z1
 simp only[zj] at r1
 exact⟨r1,z2 B H r2 (.refl H) r3⟩
def vA {e:Expr}{es:List Expr}{t:yX}{u:wM}(h:sU X e t) (h':kW X es u) (hs:(assignEach (e::es) X.env).map (·.2)=assign e X.env::(assignEach es X.env).map (·.2):=by rfl):kW X (e::es) (gH t u):=by
 refine⟨λ ds Y S Q Q' hq z=>?_,tM.imp (VZ h.pg h'.pg hs) λ v B H Q hu=>?_⟩
 ·cases ds with
  | nil=>exact z
  | cons d r=>exact h.mo d Y S _ _ (fun Y' S' z=>h'.mo r Y' S' _ _ hq z) z
 ·obtain⟨ds,Y,S,r1,r2,r3,z⟩:=hu
  cases ds with
  | nil=>exact z.elim
  | cons d r=>
   simp only[zj] at r1
   obtain⟨x,xs,rfl,q1,q2⟩:=r1
   refine⟨x,xs,rfl,d,Y,S,q1,r2,r3,h.mo d Y S _ _ (fun Y' S' z B' H' g1 g2 g3=>?_) z⟩
   exact⟨r,Y',S',zj.ext g2 r q2,g1,g3,h'.mo r Y' S' _ _ (fun Y2 S2 z2=>wZ.ext g2 z2) z⟩
def kA (n:Nat) (t:wM):yX:=λ d Y S Q=>match d with
 | .tup ds=>ds.length=n/\t ds Y S Q
 | _=>False
def UL {e:Expr}{n:Nat}{t:wM}(h:PG X e (Zs X.K n (dD X.K t))) (hm:YE t):sU X e (kA n t):=by
 refine⟨λ d Y S Q Q' hq z=>?_,PG.imp h λ v B H Q hu=>?_⟩
 ·cases d with
  | tup ds=>exact⟨z.1,hm ds Y S _ _ hq z.2⟩
  | _=>exact z
 ·obtain⟨d,Y,S,r1,r2,r3,z⟩:=hu
  cases d with
  | tup ds=>
   simp only[zg] at r1
   obtain⟨a,xs,rfl,q1,q2⟩:=r1
   exact⟨a,xs,rfl,q1,by rw[<- q2.length];exact z.1,ds,Y,S,q2,r2,r3,z.2⟩
  | _=>exact z.elim
def vn (te:zr) (g:yX):yD:=λ E Y S=>te Y S λ x S1=>g x Y S1 E.nx
def vn.mo {g:yX}(h:yf te) (h':mP g):tN (vn te g):=λ E E' Y S hE z=>h Y S _ _ (λ x S1 q=>h' x Y S1 _ _ (fun Y S q=>hE.nx _ _ q) q) z
def X4 {g:yX}(h:yf te) (h':mP g) {D:Ends}{B:St}{H:Hp}(hu:j6 K (vn te g) D B H):oJ (zK K te) (oE K g) D B H:=by
 obtain⟨Y,S,r1,r2,z⟩:=hu
 refine zK.go h r1 r2 z λ x S1 v H1 h1 q1 e1 p1=>?_
 exact⟨x,Y,S1,q1,r1.ext e1,p1,h' x Y S1 _ _ (fun Y S q=>wZ.ext e1 q) h1⟩
def UE {tg e:Expr}{g:yX}(he:PD X e te) (hg:sU X tg g) (hs:swapsWithSole [tg] e pos.line X.env=pure false:=by rfl) (hw:swappedStores [tg] e X.env=pure none:=by rfl)
  (h1:(assignEach [tg] X.env).map (·.2)=[assign tg X.env]:=by rfl):vq X (.Assign [tg] e pos) (vn te g):=
 ⟨vn.mo he.mo hg.mo,PS.imp (cV he.pe hg.pg hs hw h1) λ _ _ _ hu=>X4 he.mo hg.mo hu⟩
def UB {e0:Stmt}{i:Nat}(h:PS X e0 (oJ (zK X.K te) (pU i))) (hm:yf te):vq X e0 (vn te (hName i)):=by
 refine⟨vn.mo hm λ _ _ _ _ _ hq z=>hq _ _ z,PS.imp h λ D B H hu=>?_⟩
 obtain⟨Y,S,r1,r2,z⟩:=hu
 refine zK.go hm r1 r2 z λ x S1 v H1 h1 q1 e1 p1=>?_
 exact h1 _ H1 ((r1.ext e1).set i q1) e1 p1
end
structure o8 where
 items:List D
 keep:SS->Prop
abbrev wy:=ye->SS->(o8->SS->Prop)->Prop
def jc (t:wy):Prop:=∀ Y S (Q Q':o8->SS->Prop),(∀ I S',Q I S'->Q' I S')->t Y S Q->t Y S Q'
def mR (K:Ac) (H1:Hp) (J:It) (I:o8):Prop:=∀ (i:Nat) (H:Hp) (S:SS),Ext H1 H->zH K H S->I.keep S->
 (∀ d,I.items[i]?=some d->J.go i H/\∀ x H',J.qT i H x H'->Ext H H'/\zH K H' S/\zg K H' d x)/\(I.items.length<=i->J.stop i H)
def PV (K:Ac) (H:Hp) (R:It->Hp->Prop):o8->SS->Prop:=λ I S1=>∀ J H1,Ext H H1->zH K H1 S1->mR K H1 J I->R J H1
def w9 (K:Ac) (t:wy):TI:=fun B H R=>∃ Y S,yF K H Y B/\zH K H S/\t Y S (PV K H R)
structure sT (X:Cx) (tg iter:Expr) (t:wy):Prop where
 mo:jc t
 pi:PI X tg iter (w9 X.K t)
def PI.imp {X:Cx}{tg e:Expr}{t t':TI}(h:PI X tg e t) (hi:∀ B H Q,t' B H Q->t B H Q):PI X tg e t':=λ EF s B H Q I q=>h EF s B H Q I (hi B H Q q)
section
variable {X:Cx}{K:Ac}{tg e:Expr}{pos:Pos}
theorem zj.at {H:Hp}{ds:List D}{xs:List V}{i:Nat}{d:D}{x:V}(r:zj K H ds xs) (h1:ds[i]?=some d) (h2:xs[i]?=some x):zg K H d x:=by
 obtain⟨y,e1,e2⟩:=r.get h1
 rw[h2] at e1;cases e1;exact e2
noncomputable def v8 (lo:Int) (n:Nat):List D:=(List.range n).map λ(k:Nat)=>D.int (lo+(k:Int))
def Vs {lo:Int}{n i:Nat}{d:D}(h:(v8 lo n)[i]?=some d):i<n/\d=.int (lo+(i:Int)):=by
 unfold v8 at h
 rw[Az] at h
 cases q:(List.range n)[i]? with
 | none=>rw[q] at h;cases h
 | some j=>
  rw[q] at h
  obtain⟨h1,h2⟩:=AI.mp q
  rw[BV] at h1
  rw[Dw] at h2
  subst h2
  cases h
  exact⟨h1,rfl⟩
def Vr (lo:Int) (n:Nat):(v8 lo n).length=n:=by unfold v8;rw[Ay,BV]
def mR.range {H1:Hp}{lo:Int}{n:Nat}:mR K H1 (je lo n) ⟨v8 lo n,λ _=>True⟩:=λ i H S _ x2 _=>by
 refine⟨λ d hd=>?_,λ hl=>by rw[show (o8.mk (v8 lo n) λ _=>True).items=v8 lo n from rfl,Vr] at hl;exact hl⟩
 obtain⟨h1,rfl⟩:=Vs hd
 refine⟨h1,λ x H' q=>?_⟩
 obtain⟨rfl,rfl⟩:=q
 exact⟨.refl _,x2,by simp only[zg]⟩
def gB (t:yh):wy:=fun Y S R=>t Y S λ ds S1=>match ds with
 | [.int j]=>(-(2 ^ 62)<=j/\j<2 ^ 62)/\R ⟨v8 0 j.toNat,λ _=>True⟩ S1
 | _=>False
variable {tA:yh}
def UK (h:PI X tg e (Zj (wb X.K tA))) (hm:sV tA):sT X tg e (gB tA):=by
 refine⟨fun Y S Q Q' hq z=>hm Y S _ _ (λ ds S1 z=>?_) z,PI.imp h fun B H R hu=>?_⟩
 ·split at z
  ·exact⟨z.1,hq _ _ z.2⟩
  ·exact z.elim
 ·obtain⟨Y,S,r1,r2,z⟩:=hu
  refine wb.go hm r1 r2 z λ ds S1 xs H1 h1 q1 e1 p1=>?_
  split at h1
  ·obtain⟨x,rfl,q⟩:=q1.one
   simp only[zg] at q
   subst q
   exact⟨_,rfl,h1.1.1,h1.1.2,h1.2 _ H1 e1 p1 .range⟩
  ·exact h1.elim
def mj (ti:wy) (g:yX) (tb:yD):yD:=λ E Y S=>ti Y S λ I S1=>∃ W:Nat->ye->SS->Prop,W 0 Y S1/\(∀ i Y S,W i Y S->I.keep S)/\
 (∀ i d Y S,I.items[i]?=some d->W i Y S->g d Y S fun Y2 S2=>tb { E with nx:=W (i+1),ct:=W (i+1),bk:=E.nx } Y2 S2)/\∀ Y S,W I.items.length Y S->E.nx Y S
def mj.mo {ti:wy}{g:yX}{tb:yD}(hi:jc ti) (hg:mP g) (hb:tN tb):tN (mj ti g tb):=λ E E' Y S hE z=>hi Y S _ _ (λ I S1 ⟨W,w0,wk,ws,wd⟩=>by
 refine⟨W,w0,wk,λ i d Y S hd hw=>hg d Y S _ _ (fun Y2 S2 z=>hb { E with nx:=W (i+1),ct:=W (i+1),bk:=E.nx } { E' with nx:=W (i+1),ct:=W (i+1),bk:=E'.nx } Y2 S2 ⟨λ _ _ q=>q,hE.rt,hE.nx,λ _ _ q=>q⟩ z) (ws i d Y S hd hw),fun Y S q=>hE.nx _ _ (wd Y S q)⟩) z
def wC {iter:Expr}{body:List Stmt}{ti:wy}{g:yX}{tb:yD}(hp:PassesOwn (model X.prog X.w) X.A X.env X.xe) (hc:X.calm=true) (hi:sT X tg iter ti) (hg:sU X tg g) (hb:ur X body tb)
  (hs:∀ x,foldedSetIterable iter X.env x=pure x:=by intro _;rfl):vq X (.For tg iter body [] pos) (mj ti g tb):=by
 refine⟨mj.mo hi.mo hg.mo hb.mo,PS.imp (VF hp hc hi.pi hg.pg hb.ps hs) λ D B H hu=>?_⟩
 obtain⟨Y,S,r1,r2,z⟩:=hu
 refine⟨Y,S,r1,r2,hi.mo Y S _ _ (λ I S1 hW J H1 e1 p1 rep=>?_) z⟩
 obtain⟨W,w0,wk,ws,wd⟩:=hW
 refine⟨λ i m B H2=>m=I.items.length-i/\i<=I.items.length/\Ext H1 H2/\∃ Y S,yF X.K H2 Y B/\zH X.K H2 S/\W i Y S,⟨_,rfl,AN _,.refl _,Y,S1,r1.ext e1,p1,w0⟩,?_⟩
 rintro i m B2 H2 ⟨rfl,Gk,x2,Y2,S2,q1,q2,w2⟩
 obtain⟨g1,g2⟩:=rep i H2 S2 x2 q2 (wk i Y2 S2 w2)
 by_cases hl:i<I.items.length
 ·have hd:I.items[i]?=some I.items[i]:=by simp[hl]
  obtain⟨go,yl⟩:=g1 _ hd
  refine .inr ⟨go,fun B' H'=>Ext H1 H'/\∃ Y S,yF X.K H' Y B'/\zH X.K H' S/\W (i+1) Y S,fun B' H' q=>⟨_,by lia,rfl,hl,q⟩,λ x H3 hy=>?_⟩
  obtain⟨x3,p3,d3⟩:=yl x H3 hy
  refine⟨_,Y2,S2,d3,q1.ext x3,p3,hg.mo _ Y2 S2 _ _ (fun Y4 S4 z4 B4 H4 a1 a2 a3=>?_) (ws i _ Y2 S2 hd w2)⟩
  refine⟨Y4,S4,a1,a3,hb.mo _ _ Y4 S4 ⟨fun Y5 S5 w5 B5 H5 b1 b2 b3=>⟨((x2.trans x3).trans a2).trans b2,Y5,S5,b1,b3,w5⟩,λ _ _ q=>wx.ext (((e1.trans x2).trans x3).trans a2) q,λ _ _ q=>wZ.ext (((e1.trans x2).trans x3).trans a2) q,fun Y5 S5 w5 B5 H5 b1 b2 b3=>⟨((x2.trans x3).trans a2).trans b2,Y5,S5,b1,b3,w5⟩⟩ z4⟩
 ·have e:i=I.items.length:=by lia
  subst e
  exact .inl ⟨g2 (Ah _),wd Y2 S2 w2 B2 H2 q1 (e1.trans x2) q2⟩
abbrev sR:=List D->SS->DK->Prop
def fY (sp:sR):Prop:=∀ ds S (Q Q':DK),(∀ d S',Q d S'->Q' d S')->sp ds S Q->sp ds S Q'
def tS (K:Ac) (sp:sR):Sp:=λ vs H Q _=>∃ ds S,zj K H ds vs/\zH K H S/\sp ds S (wx K H Q)
def kN (sp:sR) (t:yh):zr:=fun Y S Q=>t Y S λ ds S1=>sp ds S1 Q
def U_ {sp:sR}{E:XK}{e:Expr}(h:PE X e (dN (tS X.K sp) [] E (wb X.K tA))) (hs:fY sp) (hm:sV tA):PD X e (kN sp tA):=by
 refine⟨fun Y S Q Q' hq z=>hm Y S _ _ (λ ds S1 z=>hs ds S1 _ _ hq z) z,PE.imp h fun B H Q hu=>?_⟩
 obtain⟨Y,S,r1,r2,z⟩:=hu
 refine wb.go hm r1 r2 z λ ds S1 xs H1 h1 q1 e1 p1=>?_
 rw[CZ]
 exact⟨ds,S1,q1,p1,hs ds S1 _ _ (λ d S' q=>wx.ext e1 q) h1⟩
noncomputable def tU (N:List Str) (ds:List D):ye:=ds.map some++List.replicate (N.length-ds.length) none
def yF.init {H:Hp}{N:List Str}{ds:List D}{vs:List V}(r:zj K H ds vs):yF K H (tU N ds) (start N vs):=by
 have hl:=r.length
 refine⟨by unfold tU L2.start;simp[hl],λ i d h=>?_⟩
 unfold tU at h
 have hi:i<ds.length:=by
  rcases Bj i ds.length with q | q
  ·exact q
  ·rw[Cq (by simpa using q),DA] at h
   split at h <;> cases h
 rw[Cp (by simpa using hi),Az] at h
 cases q:ds[i]? with
 | none=>rw[q] at h;cases h
 | some d'=>
  rw[q] at h
  cases h
  obtain⟨x,e1,e2⟩:=r.get q
  refine⟨x,?_,e2⟩
  unfold L2.start
  rw[Cp (by simpa using by lia),Az,e1]
  rfl
def Pd {P:Program}{w:World}{K:Ac}{mg:AF}{base:Heap}{x qual:Str}{st:Stmt}{f:Addr}{fd:FuncData}{N ps:List Str}{k:Nat}{sp:sR}(F:uL K x qual st f fd) (Sc:zY N ps (zB st))
  (len:∀ ds S Q,sp ds S Q->ds.length=ps.length)
  (Fm:∀ (Af:Value) (A:Around) (outer:List Env) (s:Shared) (H:Hp) (E:XK),yq k (A.deeper (envOfC qual (zB st) s.heap.objs.size f Af))->
   ∃ t,ur (tF vy P w K mg base N qual (zB st) f Af A outer s H E).rD (w_ st) t/\∀ ds S Q,sp ds S Q->t { nx:=λ _ S'=>Q .zm S',rt:=Q } (tU N ds) S):uu P w K mg base vy (k+1) f fd ps (tS K sp):=by
 refine F.ok Sc (λ vs H Q E h=>?_) λ Af A outer s H vs Q E hr h=>?_
 ·obtain⟨ds,S,r1,_,z⟩:=h
  rw[<- r1.length];exact len _ _ _ z
 ·obtain⟨ds,S,r1,r2,z⟩:=h
  obtain⟨t,ht,hq⟩:=Fm Af A outer s H E hr
  refine⟨_,ht.ps,tU N ds,S,.init r1,r2,ht.mo { nx:=λ _ S'=>wx K H Q .zm S',rt:=wx K H Q } _ _ _ ⟨fun Y S' q B' H' _ b c=>q .zm H' (by simp only[zg]) b c,λ _ _ q=>q,λ _ _ q=>False.elim q,λ _ _ q=>False.elim q⟩ (hq ds S _ z)⟩
noncomputable def uc (pick:List (Option Nat)) (Y:ye):ye:=pick.map λ o=>o.bind λ i=>(Y[i]?).join
theorem yF.pick {H:Hp}{Y:ye}{B:St}(r:yF K H Y B) (pick:List (Option Nat)):yF K H (uc pick Y) (ua pick B):=by
 refine⟨by unfold uc ua;simp,λ i d h=>?_⟩
 unfold uc at h
 rw[Az] at h
 cases q:pick[i]? with
 | none=>rw[q] at h;cases h
 | some o=>
  rw[q] at h
  cases o with
  | none=>simp at h
  | some j=>
   simp only[Option.map_some,BD,Option.some.injEq] at h
   have hj:Y[j]?=some (some d):=by
    cases q2:Y[j]? with
    | none=>rw[q2] at h;cases h
    | some o2=>rw[q2] at h;simp only[Option.join_some] at h;rw[h]
   obtain⟨v,e1,e2⟩:=r.2 j d hj
   refine⟨v,?_,e2⟩
   unfold ua
   rw[Az,q]
   simp[e1]
def qI (Y Y':ye):Prop:=Y.length=Y'.length/\∀ (i:Nat) d,Y[i]?=some (some d)->Y'[i]?=some (some d)
def qI.rep {H:Hp}{Y Y':ye}{B:St}(h:qI Y Y') (r:yF K H Y' B):yF K H Y B:=⟨h.1.trans r.1,λ i d q=>r.2 i d (h.2 i d q)⟩
structure kX (X:Cx) (ifs:List Expr) (t:y7):Prop where
 mo:wQ t
 pf:PF X ifs (wa X.K t)
def PF.imp {ifs:List Expr}{t t':TT}(h:PF X ifs t) (hi:∀ B H Q,t' B H Q->t B H Q):PF X ifs t':=λ EF s B H Q I q=>h EF s B H Q I (hi B H Q q)
def ZG:y7:=λ _ S Q=>Q true S
def se:kX X [] ZG:=⟨λ _ _ _ _ hq z=>hq _ _ z,PF.imp Ud λ _ H _ ⟨_,_,_,r2,z⟩=>z H (.refl H) r2⟩
def lX {c:Expr}{t:y7}(h:xC X c t):kX X [c] t:=⟨h.mo,Uc h.pt⟩
end
end L3
namespace L2
open PySem PySem.Spec PyProof.Rows
def QD (K:Ac) (tl:TE):TI:=fun B H R=>tl B H λ x H1=>∃ a,x=.ref a/\(((∃ xs,zJ K H1 a xs)/\R (YH K a) H1)\/((∃ xs,zL K H1 a xs)/\R (YG K a) H1))
def VU {X:Cx}{tg l:Expr}{tl:TE}(hl:PE X l tl):PI X tg l (QD X.K tl):=by
 intro EF s B H R I h
 refine zC (hl EF s B H _ I h) λ v s1 ⟨x,H1,I1,r1,a,hx,q1⟩=>?_
 subst hx
 cases r1
 have new:∀ b∈[s1.heap.objs.size],vS X EF H1 b:=λ b hb=>by
  obtain rfl:b=s1.heap.objs.size:=AQ.mp hb
  exact I1.nU (Ah _) (I1.zw.fresh (Ah _))
 rcases q1 with ⟨⟨xs,hq⟩,q⟩ | ⟨⟨xs,hq⟩,q⟩
 ·obtain⟨its,_,pl,_⟩:=I1.list hq
  exact Kq pl.isList ⟨_,_,_,_,H1,rfl,I1.kept (t':=s1.toks) λ b o eo=>J9 _ eo,XF a _,⟨_,AD _ rfl,rfl,rfl⟩,new,q⟩
 ·obtain⟨its,_,pt,_⟩:=I1.tuple hq
  exact wpAny_pyIter_tuple (show s1.heap.IsTuple a its.toArray from pt) ⟨_,_,_,_,H1,rfl,I1.kept (t':=s1.toks) λ b o eo=>J9 _ eo,XC a _,⟨_,AD _ rfl,rfl,rfl⟩,new,q⟩
def range_all (bs:List Bool):(List.range bs.length).all (λ i=>bs.getD i true)=bs.all id:=by
 rw[Bz,BS,BS]
 constructor
 ·intro h b hb
  obtain⟨i,hi,rfl⟩:=BQ.mp hb
  have:=h i (AK.mpr hi)
  simpa [hi] using this
 ·intro h i hi
  have Gk:=AK.mp hi
  have:=h bs[i] (BL Gk)
  simpa [Gk] using this
def range_any (bs:List Bool):(List.range bs.length).any (λ i=>bs.getD i true)=bs.any id:=by
 rw[Bz,A_,A_]
 constructor
 ·rintro⟨i,hi,h⟩
  have Gk:=AK.mp hi
  exact⟨bs[i],BL Gk,by simpa [Gk] using h⟩
 ·rintro⟨b,hb,h⟩
  obtain⟨i,hi,rfl⟩:=BQ.mp hb
  exact⟨i,AK.mpr hi,by simpa [hi] using h⟩
def Yn {bs:List Bool}{its:Ae}(r:Vals (bs.map V.bl) its) {i:Nat}{v:Value}(h:its.toArray[i]?=some v):v=.bool (bs.getD i true):=by
 have hl:=r.length
 rw[Ay] at hl
 have h':its[i]?=some v:=by simpa using h
 have hi:i<bs.length:=by
  rw[hl]
  rcases Bj i its.length with q | q
  ·exact q
  ·rw[List.getElem?_eq_none q] at h';cases h'
 obtain⟨u,e1,e2⟩:=r.get (i:=i) (x:=.bl bs[i]) (by simp[hi])
 rw[h'] at e1;cases e1
 have:v=.bool bs[i]:=e2
 rw[this]
 simp[hi]
section
variable {X:Cx}
def OM (hc:X.calm=true):y8 X (.builtin "all") (λ xs H Q=>∃ p,∃ bs:List Bool,xs=[.ref p]/\zJ X.K H p (bs.map V.bl)/\Q (.bl (bs.all id)) H):=by
 intro EF s B H xs us Q I r h
 obtain⟨p,bs,rfl,hq,q⟩:=h
 obtain⟨u,rfl,ru⟩:=vals1 r
 cases ru
 obtain⟨its,rv,pl,hz⟩:=I.list hq
 have hl:=rv.length
 rw[Ay] at hl
 have Ak:p<s.heap.objs.size:=by obtain⟨o,n,e,_⟩:=pl;exact Am e
 refine call_all_walk (Kq pl.isList ?_)
 refine⟨s.heap.objs.size,_,_,_,_,_,λ i=>bs.getD i true,rfl,Walks.list (A:=X.A.in1) (I.ok.hd hc) s.heap.objs.size p (Au Ak) its.toArray,⟨⟨_,AD _ rfl,rfl,rfl⟩,pl.isList.push _⟩,λ i v s' Q' E' hv JE=>?_,λ h' tk hk=>?_⟩
 ·rw[Yn rv hv]
  exact Ko JE
 ·have e:(List.range its.toArray.size).all (λ i=>bs.getD i true)=bs.all id:=by rw[Ax,<- hl,range_all]
  rw[e]
  exact⟨.bl _,H,I.kept (t':=tk) λ b o eo=>hk b o (by simpa using Au (Am eo)) (J9 _ eo),rfl,q⟩
def OK (hc:X.calm=true):y8 X (.builtin "any") (λ xs H Q=>∃ p,∃ bs:List Bool,xs=[.ref p]/\zJ X.K H p (bs.map V.bl)/\Q (.bl (bs.any id)) H):=by
 intro EF s B H xs us Q I r h
 obtain⟨p,bs,rfl,hq,q⟩:=h
 obtain⟨u,rfl,ru⟩:=vals1 r
 cases ru
 obtain⟨its,rv,pl,hz⟩:=I.list hq
 have hl:=rv.length
 rw[Ay] at hl
 have Ak:p<s.heap.objs.size:=by obtain⟨o,n,e,_⟩:=pl;exact Am e
 refine call_any_walk (Kq pl.isList ?_)
 refine⟨s.heap.objs.size,_,_,_,_,_,λ i=>bs.getD i true,rfl,Walks.list (A:=X.A.in1) (I.ok.hd hc) s.heap.objs.size p (Au Ak) its.toArray,⟨⟨_,AD _ rfl,rfl,rfl⟩,pl.isList.push _⟩,λ i v s' Q' E' hv JE=>?_,λ h' tk hk=>?_⟩
 ·rw[Yn rv hv]
  exact Ko JE
 ·have e:(List.range its.toArray.size).any (λ i=>bs.getD i true)=bs.any id:=by rw[Ax,<- hl,range_any]
  rw[e]
  exact⟨.bl _,H,I.kept (t':=tk) λ b o eo=>hk b o (by simpa using Au (Am eo)) (J9 _ eo),rfl,q⟩
end
end L2
namespace L3
open PySem PySem.Spec L2
open PyProof.Rows hiding St
structure Bt (mg:AF):Prop where
 len:mg "len"=none
 range:mg "range"=none
 any:mg "any"=none
 all:mg "all"=none
 sorted:mg "sorted"=none
 isinstance:mg "isinstance"=none
 bool:mg "bool"=none
 int:mg "int"=none
 str:mg "str"=none
 list:mg "list"=none
 tuple:mg "tuple"=none
 max:mg "max"=none
 min:mg "min"=none
section
variable {X:Cx}{a e:Expr}{es:List Expr}{te:zr}{pos p:Pos}
def vN {N':List Str}{pick:List (Option Nat)}{scope esc:Scope}{N:List Str}(hE:X.env.scope=esc:=by rfl) (hN:X.N=N:=by rfl) (h1:scope.kind=.function:=by rfl) (h2:scope.names.all (λ y=>decide (y.2≠.cell))=true:=by decide +kernel)
  (h3:scope.names.all (λ y=>!decide (y.2=.local)||decide (scope.names.lookup y.1=some .local))=true:=by decide +kernel)
  (h4:scope.names.all (λ y=>!decide (y.2=.free)||(decide (esc.names.lookup y.1=some .cell)||decide (esc.names.lookup y.1=some .free)))=true:=by decide +kernel)
  (h5:pick.length=N'.length:=by rfl) (h6:ph N N' pick scope=true:=by decide +kernel):qS X N' pick scope:=by
 refine⟨h1,λ y hy=>?_,λ y hy hl=>?_,λ y hy hf=>?_,h5,by rw[hN];exact h6⟩
 ·exact of_decide_eq_true (BS.mp h2 y hy)
 ·have:=BS.mp h3 y hy
  rw[Ki hl] at this
  simpa using this
 ·have:=BS.mp h4 y hy
  rw[Ki hf] at this
  rw[hE]
  simpa using this
def yk (i:Nat) {x:Str}(hN:X.N.Nodup) (hi:X.N[i]?=some x:=by rfl) (hx:Loc X.env.scope x:=by first | exact Or.inl rfl | exact Or.inr rfl) (hf:X.fn x=true\/X.env.scope.names.lookup x=some .local:=by first | exact .inl rfl | exact .inr rfl):sU X (.Name x pos) (hName i):=
 UM (Ub hN hi hx hf)
def p0 {k:Nat}{t:wM}{n:Nat}(h:kW X es t) (hc:X.calm=true:=by rfl) (hn:(assignEach es X.env).length=n:=by rfl) (AV:(assignEach es X.env).findIdx? (·.1)=none:=by rfl):sU X (.Tuple es k pos) (kA n t):=
 UL (V_ hc h.pg hn AV) h.mo
def zU (i:Nat) {x:Str}{pos':Pos}(hN:X.N.Nodup) (he:PD X e te) (hi:X.N[i]?=some x:=by rfl) (hx:Loc X.env.scope x:=by first | exact Or.inl rfl | exact Or.inr rfl) (hs:swapsWith e (some (.Name x pos')) pos.line X.env=pure false:=by rfl)
  (hf:X.fn x=true\/X.env.scope.names.lookup x=some .local:=by first | exact .inl rfl | exact .inr rfl):vq X (.Assign [.Name x pos'] e pos) (vn te (hName i)):=
 UB (VC hN hi hx he.pe hs hf) he.mo
def gA (te:zr):wy:=fun Y S R=>te Y S λ x S1=>match x with
 | .tup ds=>R ⟨ds,λ _=>True⟩ S1
 | .xr ds=>R ⟨ds,λ _=>True⟩ S1
 | .ref p=>match S1 p with
  | some (.lst ds)=>R ⟨ds,λ S=>S p=some (.lst ds)⟩ S1
  | _=>False
 | _=>False
def xE {tg:Expr}(h:PD X e te):sT X tg e (gA te):=by
 refine⟨fun Y S Q Q' hq z=>h.mo Y S _ _ (λ x S1 z=>?_) z,?_⟩
 ·cases x with
  | ref p=>
   dsimp only at z ⊢
   split at z
   ·exact hq _ _ z
   ·exact z.elim
  | xr ds=>exact hq _ _ z
  | tup ds=>exact hq _ _ z
  | _=>exact z
 ·refine PI.imp (VU h.pe) fun B H R hu=>?_
  obtain⟨Y,S,r1,r2,z⟩:=hu
  refine zK.go h.mo r1 r2 z λ x S1 v H1 h1 q1 e1 p1=>?_
  cases x with
  | tup ds=>
   simp only[zg] at q1
   obtain⟨a,xs,rfl,g1,g2⟩:=q1
   refine⟨a,rfl,.inr ⟨⟨xs,g1⟩,h1 _ H1 e1 p1 λ i H2 S2 x1 x2 _=>⟨λ d hd=>?_,λ hl=>⟨xs,x1.lD g1,by rw[<- g2.length];exact hl⟩⟩⟩⟩
   obtain⟨y,hy,_⟩:=g2.get hd
   refine⟨⟨xs,y,x1.lD g1,hy⟩,λ x H' q=>?_⟩
   obtain⟨rfl,q⟩:=q
   exact⟨.refl _,x2,(zj.ext x1 ds g2).at hd (q xs (x1.lD g1))⟩
  | ref p=>
   dsimp only at h1
   split at h1
   ·rename_i ds e2
    simp only[zg] at q1
    subst q1
    obtain⟨xs0,g1,_⟩:=p1 _ _ e2
    refine⟨p,rfl,.inl ⟨⟨xs0,zJ.of g1⟩,h1 _ H1 e1 p1 λ i H2 S2 x1 x2 hk=>?_⟩⟩
    obtain⟨xs,g3,g4⟩:=x2 _ _ hk
    refine⟨λ d hd=>?_,λ hl=>⟨xs,zJ.of g3,by rw[<- g4.length];exact hl⟩⟩
    obtain⟨y,hy,_⟩:=g4.get hd
    refine⟨⟨xs,y,zJ.of g3,hy⟩,λ x H' q=>?_⟩
    obtain⟨rfl,q⟩:=q
    exact⟨.refl _,x2,g4.at hd (q xs (zJ.of g3))⟩
   ·exact h1.elim
  | xr ds=>
   simp only[zg] at q1
   obtain⟨a,xs,rfl,g1,g2⟩:=q1
   refine⟨a,rfl,.inl ⟨⟨xs,g1.sq⟩,h1 _ H1 e1 p1 λ i H2 S2 x1 x2 _=>⟨λ d hd=>?_,λ hl=>⟨xs,(x1.lE g1).sq,by rw[<- g2.length];exact hl⟩⟩⟩⟩
   obtain⟨y,hy,_⟩:=g2.get hd
   refine⟨⟨xs,y,(x1.lE g1).sq,hy⟩,λ x H' q=>?_⟩
   obtain⟨rfl,q⟩:=q
   exact⟨.refl _,x2,(zj.ext x1 ds g2).at hd (q xs (x1.lE g1).sq)⟩
  | _=>exact h1.elim
end
end L3
namespace L4
open PySem PySem.W PyProof.Rows
noncomputable def yx {α:Type}(n:Nat) (lt:Nat->Nat->Bool):KasT α->(α->Prop)->Prop
 | .ret a,Q=>Q a
 | .ask i j k,Q=>i<n/\j<n/\yx n lt (k (lt i j)) Q
theorem yx.mono {α:Type}{n:Nat}{lt:Nat->Nat->Bool}{Q Q':α->Prop}(hq:∀ a,Q a->Q' a):∀ {t:KasT α},yx n lt t Q->yx n lt t Q'
 | .ret _,h=>hq _ h
 | .ask _ _ _,h=>⟨h.1,h.2.1,yx.mono hq h.2.2⟩
theorem yx.bind {α β:Type}{n:Nat}{lt:Nat->Nat->Bool}{f:α->KasT β}{Q:β->Prop}:∀ {t:KasT α},yx n lt t (λ a=>yx n lt (f a) Q)->yx n lt (t.bind f) Q
 | .ret _,h=>h
 | .ask _ _ _,h=>⟨h.1,h.2.1,yx.bind h.2.2⟩
section
variable {n:Nat}{lt:Nat->Nat->Bool}
def Le (lt:Nat->Nat->Bool) (a b:Nat):Prop:=lt b a=false
structure Ord (lt:Nat->Nat->Bool):Prop where
 tr:∀ a b c,Le lt a b->Le lt b c->Le lt a c
 as:∀ a b,lt a b=true->Le lt a b
def Ord.refl (o:Ord lt) (a:Nat):Le lt a a:=by
 cases h:lt a a with
 | false=>exact h
 | true=>exact o.as a a h
def xj (n:Nat) (p:Array Nat):Prop:=p.Perm (List.range n).toArray
theorem xj.size {p:Array Nat}(h:xj n p):p.size=n:=by rw[Array.Perm.size_eq h];simp
def xj.below {p:Array Nat}(h:xj n p) {i:Nat}(hi:i<n):p.getD i 0<n:=by
 have hs:=h.size
 have hm:p.getD i 0∈p:=by
  rw[Dv,Be (by lia)]
  exact Array.getElem_mem (by lia)
 have:p.getD i 0∈(List.range n).toArray:=(Array.Perm.mem_iff h).mp hm
 simpa using this
def nS {p q:Array Nat}{i j:Nat}(h:p[i]?=q[j]?):p.getD i 0=q.getD j 0:=by rw[Dv,Dv,h]
def vp (lt:Nat->Nat->Bool) (p:Array Nat) (k:Nat):Prop:=∀ i j,i<=j->j<k->Le lt (p.getD i 0) (p.getD j 0)
def tP (lt:Nat->Nat->Bool) (p:Array Nat) (k:Nat):Prop:=∀ i j,i<=j->j<k->Le lt (p.getD j 0) (p.getD i 0)
def vp.next (o:Ord lt) {p:Array Nat}{k:Nat}(h:vp lt p k) (hk:1<=k) (hl:Le lt (p.getD (k-1) 0) (p.getD k 0)):vp lt p (k+1):=λ i j A3 hj=>by
 by_cases Et:j<k
 ·exact h i j A3 Et
 ·have e:j=k:=by lia
  subst e
  by_cases hi:i=j
  ·subst hi;exact o.refl _
  ·exact o.tr _ _ _ (h i (j-1) (by lia) (by lia)) hl
def tP.next (o:Ord lt) {p:Array Nat}{k:Nat}(h:tP lt p k) (hk:1<=k) (hl:Le lt (p.getD k 0) (p.getD (k-1) 0)):tP lt p (k+1):=λ i j A3 hj=>by
 by_cases Et:j<k
 ·exact h i j A3 Et
 ·have e:j=k:=by lia
  subst e
  by_cases hi:i=j
  ·subst hi;exact o.refl _
  ·exact o.tr _ _ _ hl (h i (j-1) (by lia) (by lia))
theorem fM (o:Ord lt) {p:Array Nat}(hp:xj n p):∀ (f a:Nat),1<=a->a+f<=n->vp lt p a->
  yx n lt (kas_asc p f a) λ m=>a<=m/\m<=a+f/\vp lt p m/\(m=a+f\/lt (p.getD m 0) (p.getD (m-1) 0)=true)
 | 0,a,_,_,hs=>⟨Ah _,Ah _,hs,.inl rfl⟩
 | f+1,a,h1,h2,hs=>by
  refine⟨hp.below (by lia),hp.below (by lia),?_⟩
  cases c:lt (p.getD a 0) (p.getD (a-1) 0) with
  | true=>exact⟨Ah _,by lia,hs,.inr c⟩
  | false=>
   refine yx.mono ?_ (fM o hp f (a+1) (by lia) (by lia) (hs.next o h1 c))
   rintro m ⟨g1,g2,g3,g4⟩
   exact⟨by lia,by lia,g3,g4.imp (λ e=>by lia) id⟩
def oZ {p:Array Nat}(hp:xj n p) (i j:Nat):xj n (kas_rev p i j):=Array.Perm.trans (mirror_perm _ _ _ _) hp
def o_ {p:Array Nat}(hp:xj n p) {i j:Nat}(hj:j<=n) (k:Nat):(kas_rev p i j).getD k 0=if i<=k/\k<j then p.getD (i+j-1-k) 0 else p.getD k 0:=by
 have e:=getElem?_mirror_all (xs:=p) (i:=i) (j:=j) (by rw[hp.size];exact hj) k
 split
 ·rename_i h;rw[if_pos h] at e;exact nS e
 ·rename_i h;rw[if_neg h] at e;exact nS e
def rev_eq (o:Ord lt) {p:Array Nat}(hp:xj n p) {i j:Nat}(hj:j<=n) (he:∀ a b,i<=a->a<j->i<=b->b<j->Le lt (p.getD a 0) (p.getD b 0)) (k:Nat):
  Le lt ((kas_rev p i j).getD k 0) (p.getD k 0)/\Le lt (p.getD k 0) ((kas_rev p i j).getD k 0):=by
 rw[o_ hp hj]
 split
 ·rename_i h;exact⟨he _ _ (by lia) (by lia) h.1 h.2,he _ _ h.1 h.2 (by lia) (by lia)⟩
 ·exact⟨o.refl _,o.refl _⟩
def tP.of_eq (o:Ord lt) {p q:Array Nat}{k:Nat}(h:tP lt p k) (e:∀ k,Le lt (q.getD k 0) (p.getD k 0)/\Le lt (p.getD k 0) (q.getD k 0)):tP lt q k:=λ i j A3 hj=>
 o.tr _ _ _ (e j).1 (o.tr _ _ _ (h i j A3 hj) (e i).2)
def eA (lt:Nat->Nat->Bool) (p:Array Nat) (m q:Nat):Prop:=∀ a b,m-(q+1)<=a->a<m->m-(q+1)<=b->b<m->Le lt (p.getD a 0) (p.getD b 0)
theorem kJ (o:Ord lt):∀ (f:Nat) (p:Array Nat) (m q:Nat),xj n p->1<=m->m+f<=n->tP lt p m->q+1<=m->eA lt p m q->
  yx n lt (kas_desc f p m q) λ r=>xj n r.1/\m<=r.2.1/\r.2.1<=m+f/\tP lt r.1 r.2.1/\r.2.2+1<=r.2.1/\eA lt r.1 r.2.1 r.2.2
 | 0,p,m,q,hp,_,_,hd,hq,hb=>⟨hp,Ah _,Ah _,hd,hq,hb⟩
 | f+1,p,m,q,hp,h1,h2,hd,hq,hb=>by
  have one:∀ p':Array Nat,eA lt p' (m+1) 0:=λ p' a b a1 a2 b1 b2=>by
   have:a=b:=by lia
   subst this;exact o.refl _
  refine⟨hp.below (by lia),hp.below (by lia),?_⟩
  cases c:lt (p.getD m 0) (p.getD (m-1) 0) with
  | true=>
   dsimp only
   rw[if_pos rfl]
   have hl:=o.as _ _ c
   by_cases h0:q>0
   ·rw[if_pos h0]
    have e:=rev_eq o hp (i:=m-(q+1)) (j:=m) (by lia) hb
    have Gi:=oZ hp (m-(q+1)) m
    refine yx.mono ?_ (kJ o f _ (m+1) 0 Gi (by lia) (by lia) ((hd.of_eq o e).next o h1 (o.tr _ _ _ (e m).1 (o.tr _ _ _ hl (e (m-1)).2))) (by lia) (one _))
    rintro r ⟨a1,a2,a3,a4⟩
    exact⟨a1,by lia,by lia,a4⟩
   ·rw[if_neg h0]
    refine yx.mono ?_ (kJ o f _ (m+1) 0 hp (by lia) (by lia) (hd.next o h1 hl) (by lia) (one _))
    rintro r ⟨a1,a2,a3,a4⟩
    exact⟨a1,by lia,by lia,a4⟩
  | false=>
   dsimp only
   rw[if_neg BB]
   refine⟨hp.below (by lia),hp.below (by lia),?_⟩
   cases d:lt (p.getD (m-1) 0) (p.getD m 0) with
   | true=>exact⟨hp,Ah _,(by show m<=m+(f+1);lia),hd,hq,hb⟩
   | false=>
    dsimp only
    rw[if_neg BB]
    refine yx.mono ?_ (kJ o f _ (m+1) (q+1) hp (by lia) (by lia) (hd.next o h1 d) (by lia) λ a b a1 a2 b1 b2=>?_)
    ·rintro r ⟨a1,a2,a3,a4⟩
     exact⟨a1,by lia,by lia,a4⟩
    ·by_cases ha:a=m
     ·by_cases GL:b=m
      ·subst ha;subst GL;exact o.refl _
      ·subst ha;exact o.tr _ _ _ d (hb (a-1) b (by lia) (by lia) (by lia) (by lia))
     ·by_cases GL:b=m
      ·subst GL;exact o.tr _ _ _ (hb a (b-1) (by lia) (by lia) (by lia) (by lia)) c
      ·exact hb a b (by lia) (by lia) (by lia) (by lia)
def dJ (o:Ord lt) {p:Array Nat}{m:Nat}(hp:xj n p) (h1:1<=m) (h2:m<=n) (hd:tP lt p m):yx n lt (kas_tail3 m n p) λ r=>xj n r.2/\r.1<=n/\vp lt r.2 r.1:=by
 refine yx.bind (yx.mono ?_ (fM o (oZ hp 0 m) (n-m) m h1 (by lia) λ i j A3 hj=>?_))
 ·rintro k ⟨a1,a2,a3,_⟩
  exact⟨oZ hp 0 m,by lia,a3⟩
 ·rw[o_ hp h2,o_ hp h2,if_pos ⟨AN _,by lia⟩,if_pos ⟨AN _,hj⟩]
  exact hd _ _ (by lia) (by lia)
def ZL (o:Ord lt) {p:Array Nat}{m:Nat}(hp:xj n p) (h1:1<=m) (h2:m<n) (hd:tP lt p m) (hl:lt (p.getD m 0) (p.getD (m-1) 0)=true):yx n lt (kas_descPart m n p) λ r=>xj n r.2/\r.1<=n/\vp lt r.2 r.1:=by
 refine yx.bind (yx.mono ?_ (kJ o (n-(m+1)) p (m+1) 0 hp (by lia) (by lia) (hd.next o h1 (o.as _ _ hl)) (by lia) λ a b a1 a2 b1 b2=>?_))
 ·rintro⟨p',m',q'⟩ ⟨a1,a2,a3,a4,a5,a6⟩
  dsimp only at a1 a2 a3 a4 a5 a6 ⊢
  by_cases h0:q'>0
  ·rw[if_pos h0]
   exact dJ o (oZ a1 _ _) (by lia) (by lia) (a4.of_eq o (rev_eq o a1 (i:=m'-(q' + 1)) (j:=m') (by lia) a6))
  ·rw[if_neg h0]
   exact dJ o a1 (by lia) (by lia) a4
 ·have:a=b:=by lia
  subst this;exact o.refl _
def Om (o:Ord lt) {p:Array Nat}(hp:xj n p) (h1:1<=n):yx n lt (kas_count n p) λ r=>xj n r.2/\r.1<=n/\vp lt r.2 r.1:=by
 refine yx.bind (yx.mono ?_ (fM o hp (n-1) 1 (Ah _) (by lia) λ i j A3 hj=>?_))
 ·rintro m ⟨a1,a2,a3,a4⟩
  by_cases hm:m=n
  ·rw[if_pos (by simp[hm])]
   exact⟨hp,by lia,a3⟩
  ·rw[if_neg (by simp[hm])]
   have hl:lt (p.getD m 0) (p.getD (m-1) 0)=true:=a4.resolve_left (by lia)
   by_cases h2:m>1
   ·rw[if_pos h2]
    refine⟨hp.below (by lia),hp.below (by lia),?_⟩
    cases c:lt (p.getD 0 0) (p.getD (m-1) 0) with
    | true=>exact⟨hp,by lia,a3⟩
    | false=>
     dsimp only
     rw[if_neg BB]
     have all:∀ a b,0<=a->a<m->0<=b->b<m->Le lt (p.getD a 0) (p.getD b 0):=λ a b _ ha _ hb=>
      o.tr _ _ _ (a3 a (m-1) (by lia) (by lia)) (o.tr _ _ _ c (a3 0 b (by lia) hb))
     have e:=rev_eq o hp (i:=0) (j:=m) (by lia) all
     refine ZL o (oZ hp 0 m) (by lia) (by lia) (λ i j A3 hj=>o.tr _ _ _ (e j).1 (o.tr _ _ _ (all _ _ (AN _) hj (AN _) (by lia)) (e i).2)) ?_
     rw[o_ hp (by lia),o_ hp (by lia),if_neg (by lia),if_pos (by lia)]
     cases q:lt (p.getD m 0) (p.getD (0+m-1-(m-1)) 0) with
     | true=>rfl
     | false=>
      have:=o.tr _ _ _ (all (m-1) (0+m-1-(m-1)) (AN _) (by lia) (AN _) (by lia)) q
      unfold Le at this
      rw[this] at hl;cases hl
   ·rw[if_neg h2]
    have e:m=1:=by lia
    subst e
    refine ZL o hp (Ah _) (by lia) (λ i j A3 hj=>?_) hl
    have:i=j:=by lia
    subst this;exact o.refl _
 ·have:i=j:=by lia
  subst this;exact o.refl _
theorem iE {p:Array Nat}{k:Nat}(hp:xj n p) (hk:k<n) (hs:vp lt p k) (o:Ord lt):∀ (f l r:Nat),r-l<=f->l<=r->r<=k->(∀ i,i<l->Le lt (p.getD i 0) (p.getD k 0))->(∀ i,r<=i->i<k->lt (p.getD k 0) (p.getD i 0)=true)->
  yx n lt (kas_place p k f l r) λ m=>m<=k/\(∀ i,i<m->Le lt (p.getD i 0) (p.getD k 0))/\(∀ i,m<=i->i<k->lt (p.getD k 0) (p.getD i 0)=true)
 | 0,l,r,h0,h1,h2,ha,hb=>by
  have:l=r:=by lia
  subst this
  exact⟨h2,ha,hb⟩
 | f+1,l,r,h0,h1,h2,ha,hb=>by
  unfold kas_place
  by_cases BM:l≥r
  ·rw[if_pos BM]
   have:l=r:=by lia
   subst this
   exact⟨h2,ha,hb⟩
  ·rw[if_neg BM]
   refine⟨hp.below hk,hp.below (by lia),?_⟩
   cases c:lt (p.getD k 0) (p.getD ((l+r)/2) 0) with
   | true=>
    dsimp only
    rw[if_pos rfl]
    refine iE hp hk hs o f l ((l+r)/2) (by lia) (by lia) (by lia) ha λ i hi DH=>?_
    cases q:lt (p.getD k 0) (p.getD i 0) with
    | true=>rfl
    | false=>
     have:=o.tr _ _ _ (hs ((l+r)/2) i hi DH) q
     unfold Le at this
     rw[this] at c;cases c
   | false=>
    dsimp only
    rw[if_neg BB]
    refine iE hp hk hs o f ((l+r)/2+1) r (by lia) (by lia) h2 (λ i hi=>?_) hb
    exact o.tr _ _ _ (hs i ((l+r)/2) (by lia) (by lia)) c
theorem Yx (o:Ord lt):∀ (f:Nat) (p:Array Nat) (k:Nat),xj n p->k+f=n->vp lt p k->yx n lt (kas_bin f p k) λ r=>xj n r/\vp lt r n
 | 0,p,k,hp,h1,hs=>by
  have:k=n:=by lia
  subst this
  exact⟨hp,hs⟩
 | f+1,p,k,hp,h1,hs=>by
  refine yx.bind (yx.mono ?_ (iE hp (by lia) hs o k 0 k (by lia) (AN _) (Ah _) (λ i hi=>absurd hi (Nat.not_lt_zero _)) λ i hi DH=>absurd DH (by lia)))
  rintro l ⟨a1,a2,a3⟩
  refine Yx o f _ (k+1) (Array.Perm.trans (bubble_perm _ _ _) hp) (by lia) λ i j A3 hj=>?_
  have ev:∀ x,(bubble p k (k-l)).getD x 0=if x=l then p.getD k 0 else if l<x/\x<=k then p.getD (x-1) 0 else p.getD x 0:=λ x=>by
   have e:=getElem?_bubble (xs:=p) (src:=k) (by rw[hp.size];lia) (k-l) (by lia) x
   rw[show k-(k-l)=l by lia] at e
   split
   ·rename_i h;rw[if_pos h] at e;exact nS e
   ·rename_i h
    rw[if_neg h] at e
    split
    ·rename_i h';rw[if_pos h'] at e;exact nS e
    ·rename_i h';rw[if_neg h'] at e;exact nS e
  rw[ev i,ev j]
  by_cases hi:i=l
  ·rw[if_pos hi]
   by_cases F_:j=l
   ·rw[if_pos F_];exact o.refl _
   ·rw[if_neg F_,if_pos ⟨by lia,by lia⟩]
    exact o.as _ _ (a3 (j-1) (by lia) (by lia))
  ·rw[if_neg hi]
   by_cases F_:j=l
   ·rw[if_pos F_,if_neg (by lia)]
    exact a2 i (by lia)
   ·rw[if_neg F_]
    by_cases hi2:l<i/\i<=k
    ·rw[if_pos hi2,if_pos ⟨by lia,by lia⟩]
     exact hs _ _ (by lia) (by lia)
    ·rw[if_neg hi2]
     by_cases hj2:l<j/\j<=k
     ·rw[if_pos hj2]
      exact hs _ _ (by lia) (by lia)
     ·rw[if_neg hj2]
      exact hs _ _ A3 (by lia)
def Wz (o:Ord lt) (h1:1<=n):yx n lt (kas_sort n) λ r=>xj n r/\vp lt r n:=by
 have hp:xj n (List.range n).toArray:=Array.Perm.refl _
 refine yx.bind (yx.mono ?_ (Om o hp h1))
 rintro⟨m,p⟩ ⟨a1,a2,a3⟩
 dsimp only at a1 a2 a3 ⊢
 by_cases hm:m<n
 ·rw[if_pos hm]
  refine Yx o _ p (max m 1) a1 (by lia) ?_
  by_cases h0:m=0
  ·subst h0
   intro i j A3 hj
   have:i=j:=by lia
   subst this;exact o.refl _
  ·rw[show max m 1=m by lia];exact a3
 ·rw[if_neg hm]
  have:m=n:=by lia
  subst this
  exact⟨a1,a3⟩
end
end L4
namespace L4
open PySem PySem.W PySem.Calls PyProof.Rows
section
variable {prog:Program}{w:World}{A:Around}{E:Ad}{s:Shared}
def Core (prog:Program) (w:World) (A:Around) (E:Ad) (vs:Ae) (Out:Array Value->Prop) (s6:Shared):Prop:=
 wpAny (model prog w) A (keyKind' vs.toArray) (fun κ s'=>s'=s6/\wpAny (model prog w) A ((sortRuns').run (SortSt.mk' κ (vs.toArray.zip vs.toArray) #[] 7 none))
  (λ r G4=>G4=s6/\failedOf r.2=none/\Out ((arrOf r.2).map (·.2))/\(arrOf r.2).size=vs.length) E s') E s6
def gr {a:Addr}{vs:Ae}{n:Nat}{P:PySem.Fin->Shared->Prop}{Out:Array Value->Prop}(ho:s.heap.get? a=some (seqObj "list" vs.toArray n)) (hz:vs.length<=sizeLine)
  (core:2<=vs.length->∀ s6:Shared,(∀ b o,b≠a->s.heap.get? b=some o->s6.heap.get? b=some o)->Core prog w A E vs Out s6) (short:vs.length<2->Out vs.toArray)
  (fin:∀ out:Array Value,Out out->out.size=vs.length->P (.done (.ret .none)) { s with heap:=sortedHeap s.heap a vs out }):
  wpAny (model prog w) A (Builtin.«list.sort» ⟨[.ref a],[]⟩) P E s:=by
 have ha:a<s.heap.objs.size:=Am ho
 obtain⟨e1,g1⟩:∃ e1,(s.heap.update a (Obj.mapSeq λ _=>#[])).get? a=some (seqObj "list" #[] e1):=⟨_,get?_update_seq ho (λ _=>#[])⟩
 have IZ:vs.toArray.size<=sizeLine:=by rw[Ax];exact hz
 have g6:(((s.heap.update a (Obj.mapSeq λ _=>#[])).push (seqObj "tuple" vs.toArray 0)).push (seqObj "list" #[] 0)).get? a=some (seqObj "list" #[] e1):=J9 _ (J9 _ g1)
 have keep:∀ b o,b≠a->s.heap.get? b=some o->(((s.heap.update a (Obj.mapSeq λ _=>#[])).push (seqObj "tuple" vs.toArray 0)).push (seqObj "list" #[] 0)).get? b=some o:=
  λ b o hb e=>J9 _ (J9 _ (by rw[Heap.get?_update_ne _ _ _ _ hb];exact e))
 rw[list_sort_plain]
 refine Jg (listItems_at ho rfl (Jg (listUpdate_at ho rfl (Jg (seqEpoch_at g1 rfl (Jg (wpAny_newTuple (Jg (wpAny_newList (J_ ?_))) (by simpa using hz))))) IZ (AN _))))
 by_cases h2:vs.toArray.size<2
 ·rw[if_pos h2,if_pos h2]
  have e2:(arrOf (SortSt.mk' general' (vs.toArray.zip vs.toArray) #[] 7 none)).map (·.2)=vs.toArray:=by
   show (vs.toArray.zip vs.toArray).map (·.2)=vs.toArray
   apply Array.ext (by simp)
   intro i h1 h2
   simp
  refine Jg (Ab ?_)
  dsimp only
  rw[StateT.run_pure]
  refine Jg (Ab ?_)
  dsimp only
  refine Jg (seqEpoch_at g6 rfl (Jg (listUpdate_at g6 rfl ?_ (AN _) ?_)))
  ·simp only[bne_self_eq_false,A5,if_false]
   have q:=fin _ (e2▸short (by simpa using h2)) (by rw[e2];simp)
   exact Ab q
  ·show (((arrOf (SortSt.mk' general' (vs.toArray.zip vs.toArray) #[] 7 none)).map (·.2))).size<=sizeLine+1
   rw[e2];lia
 ·rw[if_neg h2,if_neg h2]
  have JR:2<=vs.length:=by simpa using h2
  refine Jg (Kc (core JR _ keep) (fun κ s7 ⟨hs,h7⟩=>?_) λ _ _ z=>z)
  subst hs
  refine Jg (Kc h7 (λ r s8 ⟨hs,hf,Ef,hsz⟩=>?_) λ _ _ z=>z)
  subst hs
  obtain⟨⟨⟩,st⟩:=r
  refine Jg (seqEpoch_at g6 rfl (Jg (listUpdate_at g6 rfl ?_ (AN _) ?_)))
  ·have GD:failedOf st=none:=hf
   rw[GD]
   simp only[bne_self_eq_false,A5,if_false]
   exact Ab (fin _ Ef (by rw[CU];exact hsz))
  ·show ((arrOf st).map (·.2)).size<=sizeLine+1
   rw[CU]
   have:(arrOf st).size=vs.length:=hsz
   lia
def Wx {l:Addr}{vs:Ae}{Q:Ad}{Out:Array Value->Prop}(hl:s.heap.IsList l vs.toArray) (hz:vs.length<=sizeLine)
  (core:2<=vs.length->∀ s6:Shared,(∀ b o,s.heap.get? b=some o->s6.heap.get? b=some o)->Core prog w A.in1.in1 E vs Out s6) (short:vs.length<2->Out vs.toArray)
  (fin:∀ out:Array Value,Out out->out.size=vs.length->Q (.ref (s.heap.objs.size+1)) { s with heap:=sortedAll s.heap vs out }):
  wpAny (model prog w) A (call (.builtin "sorted") [.ref l]) Q E s:=by
 have hsz:((s.heap.push (seqObj "list" #[] 0)).update s.heap.objs.size (Obj.mapSeq (·++vs.toArray))).objs.size=s.heap.objs.size+1:=by
  rw[Heap.size_update,size_push']
 have Hf:(((s.heap.push (seqObj "list" #[] 0)).update s.heap.objs.size (Obj.mapSeq (·++vs.toArray))).push (seqObj "list" vs.toArray 0)).get? (s.heap.objs.size+1)=some (seqObj "list" vs.toArray 0):=hsz▸AD _ rfl
 have keep:∀ b o,s.heap.get? b=some o->(((s.heap.push (seqObj "list" #[] 0)).update s.heap.objs.size (Obj.mapSeq (·++vs.toArray))).push (seqObj "list" vs.toArray 0)).get? b=some o:=λ b o q=>
  J9 _ (by rw[Heap.get?_update_ne _ _ _ _ (Au (Am q))];exact J9 _ q)
 refine Calls.call_function_entry kind_sorted plain_sorted entry_sorted (args_sorted1 _) ?_
 unfold Builtin.«sorted»
 refine Jg (m:=checkCount "sorted" 1 1 _) (Ab (Jg (collect_list hl (Jg (wpAny_newList ?_ hz)) hz)))
 show wpAny _ _ _ _ _ { s with heap:=((s.heap.push (seqObj "list" #[] 0)).update s.heap.objs.size (Obj.mapSeq (·++vs.toArray))).push (seqObj "list" vs.toArray 0) }
 rw[hsz]
 refine Jg (J_ (Ke slot_list_sort ⟨_,Hf,rfl⟩ entry_list_sort (gr Hf hz (λ h2 s6 k=>core h2 s6 λ b o q=>k b o ?_ (keep b o q)) short λ out h1 h2=>⟨_,rfl,?_⟩) (args_list_sort _)))
 ·exact Au (Bb (Am q))
 ·exact Ab ⟨_,rfl,fin out h1 h2⟩
end
end L4
namespace L4
open PySem PySem.W PySem.Calls PyProof.Rows L2
theorem gw:∀ a b:List Int,HT.lexLt a b=true->HT.lexLt b a=false
 | [],[],h=>by cases h
 | [],_::_,_=>rfl
 | _::_,[],h=>by cases h
 | x::a,y::b,h=>by
  rw[HT.tf] at h ⊢
  by_cases e:x=y
  ·subst e;rw[if_pos rfl] at h ⊢;exact gw a b h
  ·rw[if_neg e] at h;rw[if_neg (Ne.symm e)]
   have:=of_decide_eq_true h
   exact Kd (by lia)
theorem ax:∀ a b:List Int,HT.lexLt a b=false->HT.lexLt b a=false->a=b
 | [],[],_,_=>rfl
 | [],_::_,h,_=>by cases h
 | _::_,[],_,h=>by cases h
 | x::a,y::b,h,h'=>by
  rw[HT.tf] at h h'
  by_cases e:x=y
  ·subst e;rw[if_pos rfl] at h h';rw[ax a b h h']
  ·rw[if_neg e] at h;rw[if_neg (Ne.symm e)] at h'
   have h1:=of_decide_eq_false h
   have h2:=of_decide_eq_false h'
   lia
theorem gu:∀ a b c:List Int,HT.lexLt b a=false->HT.lexLt c b=false->HT.lexLt c a=false
 | [],[],[],_,_=>rfl
 | [],[],_::_,_,h=>h
 | [],_::_,[],_,h=>by cases h
 | [],_::_,_::_,_,_=>rfl
 | _::_,[],_,h,_=>by cases h
 | _::_,_::_,[],_,h=>by cases h
 | x::a,y::b,z::c,h,h'=>by
  rw[HT.tf] at h h' ⊢
  by_cases e1:y=x
  ·subst e1
   rw[if_pos rfl] at h
   by_cases e2:z=y
   ·subst e2;rw[if_pos rfl] at h' ⊢;exact gu a b c h h'
   ·rw[if_neg e2] at h' ⊢;exact h'
  ·rw[if_neg e1] at h
   have h1:=of_decide_eq_false h
   by_cases e2:z=y
   ·subst e2;rw[if_neg e1];exact h
   ·rw[if_neg e2] at h'
    have h2:=of_decide_eq_false h'
    rw[if_neg (by lia)]
    exact Kd (by lia)
theorem iI {α:Type}{r:α->α->Prop}(an:∀ a b,r a b->r b a->a=b):∀ {l₁ l₂:List α},l₁.Perm l₂->l₁.Pairwise r->l₂.Pairwise r->l₁=l₂
 | [],l₂,h,_,_=>(List.nil_perm.mp h).symm
 | a::l₁,[],h,_,_=>absurd (List.perm_nil.mp h) (by simp)
 | a::l₁,b::l₂,h,h1,h2=>by
  have CO:a=b:=by
   have ha:a∈b::l₂:=h.mem_iff.mp Ao
   have hb:b∈a::l₁:=h.mem_iff.mpr Ao
   rcases Ai.mp ha with e | ha
   ·exact e
   ·rcases Ai.mp hb with e | hb
    ·exact e.symm
    ·exact an _ _ (List.rel_of_pairwise_cons h1 hb) (List.rel_of_pairwise_cons h2 ha)
  subst CO
  rw[iI an (List.Perm.cons_inv h) (Bn.mp h1).2 (Bn.mp h2).2]
def xw (rows:List (List Int)):List (List Int):=rows.mergeSort λ a b=>!HT.lexLt b a
def tW (rows:List (List Int)):(xw rows).Perm rows:=List.mergeSort_perm _ _
def jH (rows:List (List Int)):(xw rows).Pairwise λ a b=>HT.lexLt b a=false:=by
 have:=List.pairwise_mergeSort (le:=λ a b:List Int=>!HT.lexLt b a) (λ a b c h1 h2=>by simp at h1 h2 ⊢;exact gu a b c h1 h2)
  (λ a b=>by
   cases h:HT.lexLt b a with
   | false=>simp
   | true=>simp[gw b a h]) rows
 exact this.imp λ h=>by simpa using h
def dR {rows out:List (List Int)}(hp:out.Perm rows) (hs:out.Pairwise λ a b=>HT.lexLt b a=false):out=xw rows:=
 iI (λ a b h1 h2=>ax a b h2 h1) (hp.trans (tW rows).symm) hs (jH rows)
def oV (rows:List (List Int)) (i j:Nat):Bool:=HT.lexLt (rows.getD i []) (rows.getD j [])
def Vi (rows:List (List Int)):Ord (oV rows):=⟨λ _ _ _ h1 h2=>gu _ _ _ h1 h2,λ _ _ h=>gw _ _ h⟩
section
variable {prog:Program}{w:World}{A:Around}{E:Ad}{s:Shared}{Q:Bool->Shared->Prop}
theorem aI {b:Bool}:∀ (ns ms:List Int) (us ws:Ae) (i:Nat),IntsAre us ns->IntsAre ws ms->Q (HT.lexLt ns ms) s->KatLex prog w A b (decide (ns.length<ms.length)) Q (us.zip ws) i s
 | [],[],_,_,_,.nil,.nil,h=>kat_nil (by simpa [HT.lexLt] using h)
 | [],_::_,_,_,_,.nil,.cons _ _ _,h=>kat_nil (by simpa [HT.lexLt] using h)
 | _::_,[],_,_,_,.cons _ _ _,.nil,h=>kat_nil (by simpa [HT.lexLt] using h)
 | n::ns,m::ms,_,_,i,.cons _ t hu,.cons _ u hw,h=>by
  rw[HT.tf] at h
  refine kat_cons (SeqAt.EqAt.int_int n t m u prog w _ _ (kat_go (λ e=>kat_yes ?_) λ e=>kat_no ?_))
  ·have e':n=m:=by simpa using e
   rw[if_pos e'] at h
   rw[show decide ((n::ns).length<(m::ms).length)=decide (ns.length<ms.length) by simp]
   exact aI ns ms _ _ (i+1) hu hw h
  ·have e':¬ n=m:=by simpa using e
   rw[if_neg e'] at h
   cases b&&i == 0 with
   | true=>exact kat_lt_int h
   | false=>exact kat_one _ _ (lt_int h)
def sS (h:Heap):List Value->List (List Int)->Prop:=Paired λ v r=>r≠[]/\∃ b o its n,v=.ref b/\h.get? b=some o/\o.cls=.type "tuple"/\o.data=.seq its n/\IntsAre its.toList r
theorem sS.Zz {h:Heap}:∀ {vs:Ae}{rows:List (List Int)},sS h vs rows->∃ fs,KatTups h vs fs/\fs.length=vs.length/\∀ v∈fs,∃ n t,v=Value.int n t
 | _,_,.nil=>⟨[],KatTups.nil,rfl,λ _ hv=>absurd hv (by simp)⟩
 | _,_,.cons ⟨Aq,b,o,its,n,hv,ho,hc,hd,hi⟩ r=>by
  obtain⟨fs,h1,h2,h3⟩:=sS.Zz r
  subst hv
  obtain⟨its⟩:=its
  cases hi with
  | nil=>exact absurd rfl Aq
  | cons k t _=>exact⟨.int k t::fs,KatTups.cons ho hc hd rfl h1,by simp[h2],λ v hv=>(Ai.mp hv).elim (λ e=>⟨k,t,e⟩) (h3 v)⟩
theorem Paired.at' {α β:Type}{F:α->β->Prop}:∀ {l₁:List α}{l₂:List β}{i:Nat},Paired F l₁ l₂->i<l₁.length->∀ (d:α) (e:β),F (l₁.getD i d) (l₂.getD i e)
 | _,_,_,.nil,h,_,_=>absurd h (by simp)
 | _,_,0,.cons r _,_,_,_=>r
 | _,_,i+1,.cons _ t,h,d,e=>by simpa using Paired.at' (i:=i) t (by simpa using h) d e
def sS.ask {vs:Ae}{rows:List (List Int)}{b:Bool}(r:sS s.heap vs rows) {i j:Nat}(hi:i<vs.length) (hj:j<vs.length) {C:Bool->Shared->Prop}(h:C (oV rows i j) s):kas_ask prog w A (tuples' b) vs i j C s:=by
 obtain⟨_,b1,o1,its1,n1,e1,g1,_,d1,q1⟩:=Paired.at' r hi Value.none []
 obtain⟨_,b2,o2,Fc,n2,e2,g2,_,d2,q2⟩:=Paired.at' r hj Value.none []
 unfold kas_ask
 rw[e1,e2]
 refine kat_lt g1 d1 g2 d2 ?_
 have l1:=q1.length
 have l2:=q2.length
 rw[Bl] at l1 l2
 rw[l1,l2]
 exact aI _ _ _ _ 0 q1 q2 h
theorem di {α:Type}{n:Nat}{lt:Nat->Nat->Bool}{cmp:Nat->Nat->(Bool->Shared->Prop)->Shared->Prop}{Q:α->Shared->Prop}(hc:∀ i j C,i<n->j<n->C (lt i j) s->cmp i j C s):∀ {t:KasT α},yx n lt t (λ a=>Q a s)->t.kasWp cmp Q s
 | .ret _,h=>h
 | .ask i j _,h=>hc i j _ h.1 h.2.1 (di hc h.2.2)
def mM (vs:Ae) (rows:List (List Int)) (out:Ap):Prop:=
 ∃ idx:List Nat,idx.Perm (List.range vs.length)/\out.toList=idx.map (λ i=>vs.getD i Value.none)/\(idx.map λ i=>rows.getD i []).Pairwise λ a b=>HT.lexLt b a=false
def Wt {rows:List (List Int)}{p:Array Nat}{n:Nat}(hn:p.size=n) (h:vp (oV rows) p n):(p.toList.map λ i=>rows.getD i []).Pairwise λ a b=>HT.lexLt b a=false:=by
 rw[Cd,Cc]
 intro i j hi hj A3
 have:=h i j (BC A3) (by rw[<- hn];simpa using hj)
 simp only[Bl] at hi hj
 unfold Le oV at this
 simpa [Dv,hi,hj] using this
def fy {vs:Ae}{rows:List (List Int)}(r:sS s.heap vs rows) (h2:2<=vs.length) (F4:vs.length<64):Core prog w A E vs (mM vs rows) s:=by
 obtain⟨fs,t,hl,hf⟩:=r.Zz
 unfold Core
 refine kat_kind (T:=.type "int") t (by lia) (λ v hv=>?_) rfl ⟨rfl,?_⟩
 ·obtain⟨n,t,rfl⟩:=hf v hv
  exact Looks.of_pure rfl
 ·refine kat_run (ks:=vs) (Q:=λ st G4=>G4=s/\failedOf st=none/\mM vs rows ((arrOf st).map (·.2))/\(arrOf st).size=vs.length) (G:=λ p G4=>G4=s/\xj vs.length p/\vp (oV rows) p vs.length) rfl h2 F4 (λ p st s' hs ha Ex hg=>?_) ?_
  ·obtain⟨h1,h3,h4⟩:=hg
   refine⟨h1,Ex,⟨p.toList,?_,?_,Wt hs h4⟩,by rw[ha,CU];exact hs⟩
   ·have:=Array.Perm.toList h3
    simpa using this
   ·rw[kat_snds rfl ha]
  ·exact di (λ i j C hi hj hC=>r.ask hi hj hC) (yx.mono (λ p hp=>⟨rfl,hp⟩) (Wz (Vi rows) (by lia)))
end
section
variable {X:Cx}
def O5:y8 X (.builtin "sorted") (λ xs H Q=>∃ p ys,∃ rows:List (List Int),xs=[.ref p]/\zJ X.K H p ys/\Paired (λ v r=>r≠[]/\∃ b,v=V.ref b/\zL X.K H b (r.map V.int)) ys rows/\rows.length<64/\
  ∀ (l:Addr) (idx:List Nat),H l=none->idx.Perm (List.range ys.length)->(idx.map λ i=>rows.getD i []).Pairwise (λ a b=>HT.lexLt b a=false)->Q (.ref l) (upd H l (.lst (idx.map λ i=>ys.getD i .zm)))):=by
 intro EF s B H xs us Q I r h
 obtain⟨p,ys,rows,rfl,hq,hr,F4,q⟩:=h
 obtain⟨u,rfl,ru⟩:=vals1 r
 cases ru
 obtain⟨its,rv,pl,hz⟩:=I.list hq
 have hl:=rv.length
 have BM:ys.length=rows.length:=Paired.length hr
 have Fw:∀ h6:Heap,(∀ b o,s.heap.get? b=some o->h6.get? b=some o)->sS h6 its rows:=λ h6 k=>by
  clear q hz hl BM F4 hq pl r
  induction hr generalizing its with
  | nil=>cases rv;exact .nil
  | cons g t ih=>
   cases rv with
   | cons r1 r2=>
    refine .cons ?_ (ih _ r2)
    obtain⟨Aq,b,rfl,hb⟩:=g
    cases r1
    obtain⟨Fc,GG,⟨o,e,hc,n,hd⟩,_⟩:=I.tuple hb
    exact⟨Aq,b,o,_,n,rfl,k _ _ e,hc,hd,by simpa using intsAre_of GG⟩
 refine Wx (Out:=mM its rows) pl.isList (by rw[<- hl];exact hz) (λ h2 s6 k=>fy (Fw _ k) h2 (by lia)) (λ h1=>?_) λ out ho hs=>?_
 ·refine⟨List.range its.length,.refl _,?_,?_⟩
  ·refine BP (by simp) λ i h1 h2=>?_
   simp at h1
   simp[h1]
  ·rw[Cd,Cc]
   intro i j hi hj A3
   simp at hi hj
   lia
 ·obtain⟨idx,g1,g2,g3⟩:=ho
  obtain⟨e,ho⟩:=sortedAll_at s.heap its out
  have BN:H (s.heap.objs.size+1)=none:=I.zw.fresh (CT _)
  have GZ:idx.Perm (List.range ys.length):=by rw[hl];exact g1
  refine⟨.ref (s.heap.objs.size+1),_,I.laid (t':=s.toks) (o:=.lst (idx.map λ i=>ys.getD i .zm)) (λ b o q=>sortedAll_old q) (CT _) ?_,rfl,q _ idx BN GZ g3⟩
  refine⟨by rw[Ay,GZ.length_eq,BV];exact hz,out.toList,e,?_,by simpa using ho⟩
  rw[g2]
  have Ak:∀ i∈idx,i<ys.length:=λ i hi=>by simpa using GZ.mem_iff.mp hi
  clear g1 GZ g2 g3 q
  induction idx with
  | nil=>exact .nil
  | cons i idx ih=>
   refine .cons ?_ (ih λ j hj=>Ak j (Aw _ hj))
   have hi:=Ak i Ao
   obtain⟨u,e1,e2⟩:=rv.get (i:=i) (x:=ys[i]) (by simp[hi])
   have e3:its.getD i Value.none=u:=by simp[e1]
   have e4:ys.getD i .zm=ys[i]:=by simp[hi]
   show RelV (ys.getD i .zm) (its.getD i Value.none)
   rw[e3,e4];exact e2
end
end L4
namespace L2
open PySem PySem.Spec PyProof.Rows
noncomputable def wg (ty T:String):Bool:=ty == T||(ty == "bool"&&T == "int")
def l8 (ty T:String):Bool:=PySem.W.kitMeta T&&decide ((fastBuiltinMro ty).map (λ l=>l.contains (Value.type T))=some (wg ty T))
def XA:(["NoneType","bool","int","str","tuple","list","dict"].all λ ty=>["int","bool","tuple","list","str"].all λ T=>l8 ty T)=true:=by decide +kernel
def Qj {K:Ac}{ty T:String}(h:l8 ty T=true):PySem.W.kitOne K (.type ty) (.type T)=some (wg ty T):=by
 unfold l8 at h
 rw[Bw] at h
 unfold PySem.W.kitOne
 split
 ·rename_i e
  have e':ty=T:=by have:=eq_of_beq e;injection this
  subst e'
  simp[wg]
 ·show (if PySem.W.kitMeta T=true then PySem.W.subIn K (.type ty) (.type T) else none)=_
  rw[if_pos h.1]
  exact of_decide_eq_true h.2
noncomputable def Y7 (K:Ac) (H:Hp):V->String->Prop
 | .zm,t=>t="NoneType"
 | .bl _,t=>t="bool"
 | .int _,t=>t="int"
 | .str _,t=>t="str"
 | .ref a,t=>(t="tuple"/\∃ xs,zL K H a xs)\/(t="list"/\∃ xs,zJ K H a xs)\/(t="dict"/\∃ Aa,H a=some (.dK Aa))
 | _,_=>False
def OJ {X:Cx}:y8 X (.builtin "isinstance") (λ xs H Q=>∃ x T ty,xs=[x,.ty T]/\Y7 X.K H x ty/\l8 ty T=true/\Q (.bl (wg ty T)) H):=by
 intro EF s B H xs us Q I r h
 obtain⟨x,T,ty,rfl,hx,hT,q⟩:=h
 obtain⟨u,c,rfl,ru,rc⟩:=vals2 r
 cases (show c=Value.type T from rc)
 have e:PySem.W.kitOne X.K (.type ty) (.type T)=some (wg ty T):=Qj hT
 have fin:∀ tk,EP X EF B Q (.bool (wg ty T)) { s with toks:=tk }:=λ tk=>⟨.bl _,H,I.tok tk,rfl,q⟩
 cases x with
 | zm=>cases (show u=Value.none from ru);cases (show ty=_ from hx);exact PySem.W.kia_one PySem.W.kitx_none I.vF True.intro e (λ z=>nomatch z) fin
 | bl y=>cases (show u=Value.bool y from ru);cases (show ty=_ from hx);exact PySem.W.kia_one PySem.W.kitx_bool I.vF True.intro e (λ z=>nomatch z) fin
 | int i=>obtain⟨t,rfl⟩:=(show ∃ t,u=Value.int i t from ru);cases (show ty=_ from hx);exact PySem.W.kia_one PySem.W.kitx_int I.vF True.intro e (λ z=>nomatch z) fin
 | str y=>obtain⟨t,rfl⟩:=(show ∃ t,u=Value.str y t from ru);cases (show ty=_ from hx);exact PySem.W.kia_one PySem.W.kitx_str I.vF True.intro e (λ z=>nomatch z) fin
 | ref a=>
  cases (show u=Value.ref a from ru)
  rcases hx with ⟨rfl,ys,hq⟩ | ⟨rfl,ys,hq⟩ | ⟨rfl,Aa,hq⟩
  ·obtain⟨its,_,⟨o,h1,h2,_⟩,_⟩:=I.tuple hq
   exact PySem.W.kia_one PySem.W.kitx_tuple I.vF ⟨o,h1,h2⟩ e (λ z=>nomatch z) fin
  ·obtain⟨its,_,⟨o,n,h1,h2,_⟩,_⟩:=I.list hq
   exact PySem.W.kia_one PySem.W.kitx_list I.vF ⟨o,h1,h2⟩ e (λ z=>nomatch z) fin
  ·obtain⟨_,_,vs,_,p⟩:=(show yO X.prog X.w H s.heap a (.dK Aa) from I.zw a _ hq)
   obtain⟨o,es,ep,h1,h2,_⟩:=p
   exact PySem.W.kia_one PySem.W.kitx_dict I.vF ⟨o,h1,h2.1⟩ e (λ z=>nomatch z) fin
 | _=>exact hx.elim
end L2
namespace L3
open PySem PySem.Spec L2
open PyProof.Rows hiding St
section
variable {X:Cx}{K:Ac}{a b e:Expr}{es:List Expr}{te:zr}{tA:yh}{pos p q:Pos}
def u7 (hm:X.mg "len"=none) (ha:yY X (e::es) tA) (hg:Gl X "len":=by rfl) (he:starEach (e::es) X.env=(false,eval e X.env)::starEach es X.env:=by rfl) (An:(backTo pos (starEach es X.env)).any (·.1)=false:=by rfl):PD X (.Call (.Name "len" p) (e::es) [] pos) (xm uh tA):=
 u6 (uS (OH.or OG) hg hm PySem.boot_len ha.pa (by decide) (by decide) he An) uh.mo uh.fits ha.mo
def iO (hm:X.mg "list"=none) (ha:yY X (e::es) tA) (hg:Gl X "list":=by rfl) (he:starEach (e::es) X.env=(false,eval e X.env)::starEach es X.env:=by rfl) (An:(backTo pos (starEach es X.env)).any (·.1)=false:=by rfl):PD X (.Call (.Name "list" p) (e::es) [] pos) (xm ug tA):=
 u6 (nj OD hg hm PyProof.Rows.boot_list ha.pa (by decide) (by decide) he An) ug.mo ug.fits ha.mo
def lY (hm:X.mg "tuple"=none) (ha:yY X (e::es) tA) (hg:Gl X "tuple":=by rfl) (he:starEach (e::es) X.env=(false,eval e X.env)::starEach es X.env:=by rfl) (An:(backTo pos (starEach es X.env)).any (·.1)=false:=by rfl):PD X (.Call (.Name "tuple" p) (e::es) [] pos) (xm uf tA):=
 u6 (nj O0 hg hm PyProof.Rows.boot_tuple ha.pa (by decide) (by decide) he An) uf.mo uf.fits ha.mo
abbrev Z5:xn:=vL λ i j=>.int (if j>i then j else i)
abbrev Z4:xn:=vL λ i j=>.int (if j<i then j else i)
def nq (hm:X.mg "max"=none) (ha:yY X (e::es) tA) (hc:X.calm=true:=by rfl) (hg:Gl X "max":=by rfl) (he:starEach (e::es) X.env=(false,eval e X.env)::starEach es X.env:=by rfl) (An:(backTo pos (starEach es X.env)).any (·.1)=false:=by rfl):PD X (.Call (.Name "max" p) (e::es) [] pos) (xm Z5 tA):=
 u6 (uS (OC hc) hg hm boot_max ha.pa (by decide) (by decide) he An) vL.mo (vL.fits λ _ _ _=>by simp only[zg]) ha.mo
def l_ (hm:X.mg "min"=none) (ha:yY X (e::es) tA) (hc:X.calm=true:=by rfl) (hg:Gl X "min":=by rfl) (he:starEach (e::es) X.env=(false,eval e X.env)::starEach es X.env:=by rfl) (An:(backTo pos (starEach es X.env)).any (·.1)=false:=by rfl):PD X (.Call (.Name "min" p) (e::es) [] pos) (xm Z4 tA):=
 u6 (uS (OB hc) hg hm boot_min ha.pa (by decide) (by decide) he An) vL.mo (vL.fits λ _ _ _=>by simp only[zg]) ha.mo
noncomputable def xS (r:List Int):D:=.tup (r.map D.int)
theorem oU {H:Hp}:∀ {rows:List (List Int)}{ys:List V},zj K H (rows.map xS) ys->(∀ r∈rows,r≠[])->Paired (λ v r=>r≠[]/\∃ b,v=V.ref b/\zL K H b (r.map V.int)) ys rows
 | [],ys,h,_=>by simp only[A6,zj] at h;subst h;exact .nil
 | r::rows,ys,h,hn=>by
  rw[Ar] at h
  simp only[zj,xS,zg] at h
  obtain⟨x,IJ,rfl,⟨a,xs,rfl,g1,g2⟩,h3⟩:=h
  rw[g2.ints] at g1
  exact .cons ⟨hn r Ao,a,rfl,g1⟩ (oU h3 λ r' hr=>hn r' (Aw _ hr))
def ah {α:Type}{rows:List α}{d:α}{idx:List Nat}(h:idx.Perm (List.range rows.length)):(idx.map λ i=>rows.getD i d).Perm rows:=by
 refine (h.map _).trans ?_
 have:(List.range rows.length).map (λ i=>rows.getD i d)=rows:=by
  refine BP (by simp) λ i h1 h2=>?_
  simp[h2]
 rw[this]
theorem zj.perm {H:Hp}{rows:List (List Int)}{ys:List V}(h:zj K H (rows.map xS) ys):∀ {idx:List Nat},(∀ i∈idx,i<rows.length)->zj K H ((idx.map λ i=>rows.getD i []).map xS) (idx.map λ i=>ys.getD i .zm)
 | [],_=>.nil
 | i::idx,hi=>by
  have h1:=hi i Ao
  obtain⟨x,e1,e2⟩:=h.get (i:=i) (d:=xS rows[i]) (by simp[h1])
  refine .cons ?_ (zj.perm h λ j hj=>hi j (Aw _ hj))
  have e3:ys.getD i .zm=x:=by simp[e1]
  have e4:rows.getD i []=rows[i]:=by simp[h1]
  show zg K H (xS (rows.getD i [])) (ys.getD i .zm)
  rw[e3,e4];exact e2
def px {tg:Expr}(hm:X.mg "range"=none) (ha:yY X [a] tA) (hg:Gl X "range":=by rfl) (hs:starEach [a] X.env=[(false,eval a X.env)]:=by rfl):sT X tg (.Call (.Name "range" p) [a] [] pos) (gB tA):=UK (VW hg hm ha.pa hs) ha.mo
noncomputable def rg (d:D) (S:SS):Option String:=match d with
 | .zm=>some "NoneType"
 | .bl _=>some "bool"
 | .int _=>some "int"
 | .str _=>some "str"
 | .tup _=>some "tuple"
 | .xr _=>some "list"
 | .ref p=>match S p with
  | some (.lst _)=>some "list"
  | some (.z_ _)=>some "dict"
  | none=>none
 | .err _ _ _=>none
def pY (T:String) (te:zr):zr:=fun Y S Q=>te Y S λ x S1=>match rg x S1 with
 | some ty=>Q (.bl (wg ty T)) S1
 | none=>False
def rg.ok {H:Hp}{d:D}{v:V}{S:SS}{ty:String}(r:zg K H d v) (p:zH K H S) (h:rg d S=some ty):Y7 K H v ty/\ty∈["NoneType","bool","int","str","tuple","list","dict"]:=by
 cases d with
 | err _ _ _=>cases h
 | tup ds=>
  simp only[zg] at r
  obtain⟨a,xs,rfl,g1,_⟩:=r
  cases h
  exact⟨.inl ⟨rfl,xs,g1⟩,by simp⟩
 | xr ds=>
  simp only[zg] at r
  obtain⟨a,xs,rfl,g1,_⟩:=r
  cases h
  exact⟨.inr (.inl ⟨rfl,xs,g1.sq⟩),by simp⟩
 | ref a=>
  simp only[zg] at r
  subst r
  unfold rg at h
  dsimp only at h
  split at h
  ·rename_i e
   cases h
   obtain⟨xs,g1,_⟩:=p _ _ e
   exact⟨.inr (.inl ⟨rfl,xs,zJ.of g1⟩),by simp⟩
  ·rename_i e
   cases h
   obtain⟨xs,g1,_⟩:=p _ _ e
   exact⟨.inr (.inr ⟨rfl,xs,g1⟩),by simp⟩
  ·cases h
 | _=>simp only[zg] at r;subst r;cases h;exact⟨rfl,by simp⟩
def ka {T:String}{x:Str}(hT:T∈["int","bool","tuple","list","str"]) (hm:X.mg "isinstance"=none) (G7:X.mg x=none) (hv:bootBuiltins x=some (.type T)) (GC:Gl X x) (hn:x≠"__name__") (hd:(x == ("__debug__":Str))=false) (he:PD X e te) (hg:Gl X "isinstance":=by rfl)
  (h1:starEach (e::[.Name x q]) X.env=(false,eval e X.env)::starEach [.Name x q] X.env:=by rfl) (h2:(backTo pos (starEach [.Name x q] X.env)).any (·.1)=false:=by rfl) (h3:starEach [.Name x q] X.env=(false,eval (.Name x q) X.env)::starEach [] X.env:=by rfl):
  PD X (.Call (.Name "isinstance" p) [e,.Name x q] [] pos) (pY T te):=by
 refine⟨fun Y S Q Q' hq z=>he.mo Y S _ _ (λ y S1 z=>?_) z,PE.imp (uS OJ hg hm boot_isinstance (qp he.pe (qp (U5 (v:=.ty T) GC G7 hv rfl hn hd) p9 h3) h1) (by decide) (by decide) h1 h2) fun B H Q hu=>?_⟩
 ·split at z
  ·exact hq _ _ z
  ·exact z
 ·obtain⟨Y,S,r1,r2,z⟩:=hu
  refine zK.go he.mo r1 r2 z λ y S1 v H1 z1 q1 e1 p1=>?_
  split at z1
  ·rename_i ty ht
   obtain⟨g1,g2⟩:=rg.ok q1 p1 ht
   refine⟨v,T,ty,rfl,g1,?_,z1 _ H1 (by simp only[zg]) e1 p1⟩
   exact BS.mp (BS.mp XA ty g2) T hT
  ·exact z1.elim
def bz (T:Bt X.mg) (he:PD X e te) (hg:Gl X "isinstance":=by rfl) (GC:Gl X "bool":=by rfl) (h1:starEach (e::[.Name "bool" q]) X.env=(false,eval e X.env)::starEach [.Name "bool" q] X.env:=by rfl) (h2:(backTo pos (starEach [.Name "bool" q] X.env)).any (·.1)=false:=by rfl) (h3:starEach [.Name "bool" q] X.env=(false,eval (.Name "bool" q) X.env)::starEach [] X.env:=by rfl):
  PD X (.Call (.Name "isinstance" p) [e,.Name "bool" q] [] pos) (pY "bool" te):=ka (by simp) T.isinstance T.bool PyProof.Rows.boot_bool GC (by decide) (by decide) he hg h1 h2 h3
def bx (T:Bt X.mg) (he:PD X e te) (hg:Gl X "isinstance":=by rfl) (GC:Gl X "int":=by rfl) (h1:starEach (e::[.Name "int" q]) X.env=(false,eval e X.env)::starEach [.Name "int" q] X.env:=by rfl) (h2:(backTo pos (starEach [.Name "int" q] X.env)).any (·.1)=false:=by rfl) (h3:starEach [.Name "int" q] X.env=(false,eval (.Name "int" q) X.env)::starEach [] X.env:=by rfl):
  PD X (.Call (.Name "isinstance" p) [e,.Name "int" q] [] pos) (pY "int" te):=ka (by simp) T.isinstance T.int PyProof.Rows.boot_int GC (by decide) (by decide) he hg h1 h2 h3
def iP (T:Bt X.mg) (he:PD X e te) (hg:Gl X "isinstance":=by rfl) (GC:Gl X "tuple":=by rfl) (h1:starEach (e::[.Name "tuple" q]) X.env=(false,eval e X.env)::starEach [.Name "tuple" q] X.env:=by rfl) (h2:(backTo pos (starEach [.Name "tuple" q] X.env)).any (·.1)=false:=by rfl) (h3:starEach [.Name "tuple" q] X.env=(false,eval (.Name "tuple" q) X.env)::starEach [] X.env:=by rfl):
  PD X (.Call (.Name "isinstance" p) [e,.Name "tuple" q] [] pos) (pY "tuple" te):=ka (by simp) T.isinstance T.tuple PyProof.Rows.boot_tuple GC (by decide) (by decide) he hg h1 h2 h3
def uU {o:Expr}{to:zr}{apos Al:Pos}(ho:PD X o to) (he:PD X e te)
  (Gg:attributeBase o "append" X.env (eval o X.env)=eval o X.env:=by rfl)
  (AJ:((backTo Al (starEach [e] X.env)).all (λ x=>!x.1)&&(backToKw Al (keywordEach [] X.env)).all (λ x=>x.1.isSome)
   && decide ([e].length+([]:List Keyword).length+(if ([]:List Keyword).isEmpty then 0 else 1)<30))=true:=by rfl)
  (Ge:(apos.endLine == Al.line)=true:=by rfl) (hs:starEach [e] X.env=(false,eval e X.env)::starEach [] X.env:=by rfl) (FN:(backTo Al (starEach [] X.env)).any (·.1)=false:=by rfl):
  PD X (.Call (.Attribute o "append" apos) [e] [] Al) (rV to te):=
 Ta (o:=o) (e:=e) (bc PySem.F.plainAttrs_list PySem.F.slot_list_append PySem.F.type_list_append ag ho.pe (qp he.pe p9 hs) Gg AJ Ge hs FN) ho.mo he.mo
structure FD (P:Program) (w:World) (K:Ac) (mg:AF) (base:Heap) (x:Str) (k:Nat) (ps:List Str) (sp:sR):Prop where
 ex:∃ (f:Addr) (fd:FuncData),uu P w K mg base vy k f fd ps (tS K sp)/\mg x=some (.ref f)/\PySem.W.keepIn K (.ref f)=true/\Binds K fd ps []
 mo:fY sp
def b9 {x:Str}{k:Nat}{ps:List Str}{sp:sR}(F:FD X.prog X.w X.K X.mg X.base x k ps sp) (hr:yq k X.A) (ha:yY X (e::es) tA) (hg:Gl X x:=by rfl) (B_:(x == ("__debug__":Str))=false:=by decide)
  (he:starEach (e::es) X.env=(false,eval e X.env)::starEach es X.env:=by rfl) (An:(backTo pos (starEach es X.env)).any (·.1)=false:=by rfl):PD X (.Call (.Name x p) (e::es) [] pos) (kN sp tA):=by
 obtain⟨⟨f,fd,h1,h2,h3,h4⟩,hm⟩:=F
 exact U_ (E:=E0) (U4 h1 hr hg h2 h3 h4 .nil Td ha.pa B_ he An) hm ha.mo
end
def Pp {S:SS}{p:Addr}{ds:List D}{Q:DK}(e:S p=some (.lst ds)) (h:Q (.tup ds) S):uf [.ref p] S Q:=by
 unfold uf;dsimp only;rw[e];exact h
def Pq {S:SS}{d:D}{ds:List D}{Q:DK}(e:zM d S=some ds) (h:∀ p,S p=none->Q (.ref p) (ups S p (.lst ds))):ug [d] S Q:=by
 unfold ug;dsimp only;rw[e];exact h
def Pt {S:SS}{d:D}{ds:List D}{Q:DK}(e:zM d S=some ds) (h:Q (.int ds.length) S):uh [d] S Q:=by
 unfold uh;dsimp only;rw[e];exact h
def XJ {S:SS}{p:Addr}{ds:List D}{Q:Bool->SS->Prop}(e:S p=some (.lst ds)) (h:Q (!ds.isEmpty) S):v5 (.ref p) S Q:=by
 unfold v5;dsimp only;rw[e];exact h
def Px {S:SS}{p:Addr}{ds:List D}{i:Int}{d:D}{Q:DK}(e:S p=some (.lst ds)) (e2:L2.zI ds i=some d) (h:Q d S):wu (.ref p) (.int i) S Q:=by
 unfold wu;dsimp only;rw[e];dsimp only;rw[e2];exact h
def Pu {S:SS}{ds:List D}{i:Int}{d:D}{Q:DK}(e2:L2.zI ds i=some d) (h:Q d S):wu (.tup ds) (.int i) S Q:=by
 unfold wu;dsimp only;rw[e2];exact h
def Pw {S:SS}{ds:List D}{i:Int}{d:D}{Q:DK}(e2:L2.zI ds i=some d) (h:Q d S):wu (.xr ds) (.int i) S Q:=by
 unfold wu;dsimp only;rw[e2];exact h
inductive T where
 | zm | bl (b:Bool) | int (i:Int) | str (x:Str) | tup (ts:List T) | lst (ts:List T) | yW | err (c f:Str) (t:T)
mutual
noncomputable def eqT:T->T->Bool
 | .zm,.zm=>true
 | .bl a,.bl b=>a == b
 | .bl a,.int b=>(if a then 1 else 0) == b
 | .int a,.bl b=>a == (if b then 1 else 0)
 | .int a,.int b=>a == b
 | .str a,.str b=>a == b
 | .tup a,.tup b=>xu a b
 | .lst a,.lst b=>xu a b
 | .yW,.yW=>true
 | .err a b t,.err c d u=>a == c&&(b == d&&eqT t u)
 | _,_=>false
noncomputable def xu:List T->List T->Bool
 | [],[]=>true
 | a::as,b::bs=>eqT a b&&xu as bs
 | _,_=>false
end
mutual
noncomputable def dep:T->Nat
 | .tup ts=>1+xM ts
 | .lst ts=>1+xM ts
 | .yW=>cLine
 | .err _ _ _=>cLine
 | _=>0
noncomputable def xM:List T->Nat
 | []=>0
 | t::ts=>max (dep t) (xM ts)
end
noncomputable def iW:List T->Bool
 | []=>true
 | .int _::ts=>iW ts
 | _=>false
def TB (ns:List Int):iW (ns.map T.int)=true:=by
 induction ns with
 | nil=>rfl
 | cons n ns ih=>exact ih
mutual
noncomputable def Sn (S:SS):T->D->Prop
 | .zm,d=>d=.zm
 | .bl b,d=>d=.bl b
 | .int i,d=>d=.int i
 | .str x,d=>d=.str x
 | .tup ts,d=>∃ ds,d=.tup ds/\zi S ts ds
 | .lst ts,d=>∃ ds,((d=.xr ds/\iW ts=true)\/∃ a,d=.ref a/\S a=some (.lst ds))/\zi S ts ds
 | .yW,d=>∃ a Aa,(d=.ref a/\Aa=[])/\S a=some (.z_ Aa)
 | .err c f t,d=>∃ x,d=.err c f x/\Sn S t x
noncomputable def zi (S:SS):List T->List D->Prop
 | [],ds=>ds=[]
 | t::ts,ds=>∃ c cs,ds=c::cs/\Sn S t c/\zi S ts cs
end
mutual
theorem fh:∀ t:T,eqT t t=true
 | .zm=>by simp[eqT]
 | .bl b=>by simp[eqT]
 | .int i=>by simp[eqT]
 | .str x=>by simp[eqT]
 | .tup ts=>by simp only[eqT];exact kF ts
 | .lst ts=>by simp only[eqT];exact kF ts
 | .yW=>by simp[eqT]
 | .err _ _ t=>by simp[eqT,fh t]
theorem kF:∀ ts:List T,xu ts ts=true
 | []=>by simp[xu]
 | t::ts=>by simp only[xu,fh t,kF ts,Du]
end
theorem fg:∀ ts us:List T,xu ts us=((List.range (min ts.length us.length)).all (λ j=>eqT (ts.getD j .zm) (us.getD j .zm))&&ts.length == us.length)
 | [],[]=>by simp[xu]
 | [],_::_=>by simp[xu]
 | _::_,[]=>by simp[xu]
 | t::ts,u::us=>by
  simp only[xu,fg ts us,AW]
  rw[show min (ts.length+1) (us.length+1)=min ts.length us.length+1 by lia,CF,List.all_cons,List.all_map]
  have:(ts.length+1 == us.length+1)=(ts.length == us.length):=by rw[Bz];simp
  rw[this,Bool.and_assoc]
  rfl
theorem zi.length {S:SS}:∀ {ts:List T}{ds:List D},zi S ts ds->ts.length=ds.length
 | [],ds,h=>by simp only[zi] at h;subst h;rfl
 | t::ts,ds,h=>by
  simp only[zi] at h
  obtain⟨c,cs,rfl,_,h2⟩:=h
  simp[zi.length h2]
section
variable {X:Cx}{EF:Ag}{B:St}{H:Hp}{s:Shared}{S:SS}
def aV (I:Inv X EF B H s) {a:Addr}{xs ys:List V}(h1:zL X.K H a xs) (h2:zJ X.K H a ys):False:=by
 obtain⟨_,_,⟨o,e,c,_⟩,_⟩:=I.tuple h1
 obtain⟨_,_,⟨o',n,e',c',_⟩,_⟩:=I.list h2
 rw[e] at e';cases e'
 rw[c] at c'
 injection c' with q
 exact absurd q (by decide)
def Sn.u_ (p:zH X.K H S) {ts:List T}{d:D}{x:V}(h:Sn S (.lst ts) d) (r:zg X.K H d x):∃ a xs ds,x=.ref a/\zJ X.K H a xs/\zj X.K H ds xs/\zi S ts ds:=by
 simp only[Sn] at h
 obtain⟨ds,⟨h,_⟩ | ⟨a,h,e⟩,h2⟩:=h
 ·subst h
  simp only[zg] at r
  obtain⟨a,xs,rfl,g1,g2⟩:=r
  exact⟨a,xs,ds,rfl,g1.sq,g2,h2⟩
 ·subst h
  simp only[zg] at r
  obtain⟨xs,g1,g2⟩:=p _ _ e
  exact⟨a,xs,ds,r,zJ.of g1,g2,h2⟩
def Sn.uO {ts:List T}{d:D}{x:V}(h:Sn S (.tup ts) d) (r:zg X.K H d x):∃ a xs ds,x=.ref a/\zL X.K H a xs/\zj X.K H ds xs/\zi S ts ds:=by
 simp only[Sn] at h
 obtain⟨ds,rfl,h2⟩:=h
 simp only[zg] at r
 obtain⟨a,xs,rfl,g1,g2⟩:=r
 exact⟨a,xs,ds,rfl,g1,g2,h2⟩
def Sn.rR (p:zH X.K H S) {d:D}{x:V}(h:Sn S .yW d) (r:zg X.K H d x):∃ a vs,x=.ref a/\H a=some (.dK vs):=by
 simp only[Sn] at h
 obtain⟨a,Aa,⟨rfl,_⟩,e⟩:=h
 simp only[zg] at r
 obtain⟨xs,g1,g2⟩:=p _ _ e
 exact⟨a,xs,r,g1⟩
def Za (I:Inv X EF B H s) {a:Addr}{vs:List (Key×V)}(h:H a=some (.dK vs)):∃ o,s.heap.get? a=some o/\o.cls=.type "dict":=by
 obtain⟨_,_,_,_,o,_,_,e,c⟩:=(show yO X.prog X.w H s.heap a (.dK vs) from I.zw a _ h)
 exact⟨o,e,c.1.1⟩
def aX (I:Inv X EF B H s) {a:Addr}{xs:List V}{vs:List (Key×V)}(h1:zL X.K H a xs) (h2:H a=some (.dK vs)):False:=by
 obtain⟨_,_,⟨o,e,c,_⟩,_⟩:=I.tuple h1
 obtain⟨o',e',c'⟩:=Za I h2
 rw[e] at e';cases e'
 rw[c] at c'
 injection c' with q
 exact absurd q (by decide)
def a_ (I:Inv X EF B H s) {a:Addr}{xs:List V}{vs:List (Key×V)}(h1:zJ X.K H a xs) (h2:H a=some (.dK vs)):False:=by
 obtain⟨_,_,⟨o,n,e,c,_⟩,_⟩:=I.list h1
 obtain⟨o',e',c'⟩:=Za I h2
 rw[e] at e';cases e'
 rw[c] at c'
 injection c' with q
 exact absurd q (by decide)
theorem Sn.flat {t:T}{d:D}{x:V}(h:Sn S t d) (r:zg X.K H d x):match t with
  | .zm=>x=.zm
  | .bl b=>x=.bl b
  | .int i=>x=.int i
  | .str y=>x=.str y
  | _=>True:=by
 cases t <;> first
  | trivial
  | (simp only[Sn] at h;subst h;simpa only [zg] using r)
def Sn.sI {c f:Str}{t:T}{d:D}{x:V}(h:Sn S (.err c f t) d) (r:zg X.K H d x):∃ e C dx w y,x=.ref e/\(lu X.K c C/\H e=some (s_ e C dx)/\H dx=some (.xd [(f,w)]))/\Sn S t y/\zg X.K H y w:=by
 simp only[Sn] at h
 obtain⟨y,rfl,h⟩:=h
 simp only[zg] at r
 obtain⟨e,C,dx,w,r1,r2,r3⟩:=r
 exact⟨e,C,dx,w,y,r1,r2,h,r3⟩
def k6 (I:Inv X EF B H s) {e C dx:Addr}(h:H e=some (s_ e C dx)):∃ oe vs,s.heap.get? e=some oe/\oe.cls=.ref C/\oe.dict=some dx/\oe.data=.fields vs:=(show yO X.prog X.w H s.heap e (s_ e C dx) from I.zw e _ h).1
def aW (I:Inv X EF B H s) {a C dx:Addr}{xs:List V}(h1:zL X.K H a xs) (h2:H a=some (s_ a C dx)):False:=by
 obtain⟨_,_,⟨o,e,c,_⟩,_⟩:=I.tuple h1
 obtain⟨o',_,e',c',_⟩:=k6 I h2
 rw[e] at e';cases e'
 rw[c] at c';cases c'
def aZ (I:Inv X EF B H s) {a C dx:Addr}{xs:List V}(h1:zJ X.K H a xs) (h2:H a=some (s_ a C dx)):False:=by
 obtain⟨_,_,⟨o,n,e,c,_⟩,_⟩:=I.list h1
 obtain⟨o',_,e',c',_⟩:=k6 I h2
 rw[e] at e';cases e'
 rw[c] at c';cases c'
def Zb (I:Inv X EF B H s) {a C dx:Addr}{vs:List (Key×V)}(h1:H a=some (.dK vs)) (h2:H a=some (s_ a C dx)):False:=by
 rw[h1] at h2;cases h2
def Q5 (I:Inv X EF B H s) {e C dx C' J4:Addr}(h1:H e=some (s_ e C dx)) (h2:H e=some (s_ e C' J4)):C=C'/\dx=J4:=by
 obtain⟨o,_,e1,c1,d1,_⟩:=k6 I h1
 obtain⟨o',_,e2,c2,d2,_⟩:=k6 I h2
 rw[e1] at e2;cases e2
 rw[c1] at c2;rw[d1] at d2
 cases c2;cases d2
 exact⟨rfl,rfl⟩
def lu.inj {K:Ac}{c c':Str}{C:Addr}(h1:lu K c C) (h2:lu K c' C):c=c':=by
 obtain⟨_,_,_,⟨⟨⟨_,_,_,_,_,_,_,_,_,_,_,_,a⟩,_⟩,_,_,_,_⟩⟩:=h1
 obtain⟨_,_,_,⟨⟨⟨_,_,_,_,_,_,_,_,_,_,_,_,b⟩,_⟩,_,_,_,_⟩⟩:=h2
 rw[a] at b
 cases b;rfl
mutual
theorem l7 (I:Inv X EF B H s) (p:zH X.K H S):∀ (t u:T) {d e:D}{x:V},Sn S t d->Sn S u e->zg X.K H d x->zg X.K H e x->t=u
 | .tup ts,u,d,e,x,h1,h2,r1,r2=>by
  obtain⟨a,xs,ds,rfl,g1,g2,g3⟩:=h1.uO r1
  cases u with
  | yW=>obtain⟨_,_,q,g⟩:=h2.rR p r2;cases q;exact (aX I g1 g).elim
  | err _ _ _=>obtain⟨_,_,_,_,_,q,g,_⟩:=h2.sI r2;cases q;exact (aW I g1 g.2.1).elim
  | tup us=>
   obtain⟨a',E9,G3,q,k1,k2,k3⟩:=h2.uO r2
   cases q
   have:=I.j8 g1 k1
   subst this
   rw[j7 I p ts us g3 k3 g2 k2]
  | lst us=>
   obtain⟨a',E9,G3,q,k1,k2,k3⟩:=h2.u_ p r2
   cases q
   exact (aV I g1 k1).elim
  | _=>exact nomatch h2.flat r2
 | .lst ts,u,d,e,x,h1,h2,r1,r2=>by
  obtain⟨a,xs,ds,rfl,g1,g2,g3⟩:=h1.u_ p r1
  cases u with
  | yW=>obtain⟨_,_,q,g⟩:=h2.rR p r2;cases q;exact (a_ I g1 g).elim
  | err _ _ _=>obtain⟨_,_,_,_,_,q,g,_⟩:=h2.sI r2;cases q;exact (aZ I g1 g.2.1).elim
  | lst us=>
   obtain⟨a',E9,G3,q,k1,k2,k3⟩:=h2.u_ p r2
   cases q
   have:=I.gs g1 k1
   subst this
   rw[j7 I p ts us g3 k3 g2 k2]
  | tup us=>
   obtain⟨a',E9,G3,q,k1,k2,k3⟩:=h2.uO r2
   cases q
   exact (aV I k1 g1).elim
  | _=>exact nomatch h2.flat r2
 | .zm,u,d,e,x,h1,h2,r1,r2=>by
  have q:=h1.flat r1
  subst q
  cases u with
  | yW=>obtain⟨_,_,q,g⟩:=h2.rR p r2;cases q
  | err _ _ _=>obtain⟨_,_,_,_,_,q,_⟩:=h2.sI r2;cases q
  | zm=>rfl
  | tup us=>obtain⟨_,_,_,q,_⟩:=h2.uO r2;cases q
  | lst us=>obtain⟨_,_,_,q,_⟩:=h2.u_ p r2;cases q
  | _=>exact nomatch h2.flat r2
 | .bl b,u,d,e,x,h1,h2,r1,r2=>by
  have q:=h1.flat r1
  subst q
  cases u with
  | yW=>obtain⟨_,_,q,g⟩:=h2.rR p r2;cases q
  | err _ _ _=>obtain⟨_,_,_,_,_,q,_⟩:=h2.sI r2;cases q
  | bl _=>have q:=h2.flat r2;cases q;rfl
  | tup us=>obtain⟨_,_,_,q,_⟩:=h2.uO r2;cases q
  | lst us=>obtain⟨_,_,_,q,_⟩:=h2.u_ p r2;cases q
  | _=>exact nomatch h2.flat r2
 | .int b,u,d,e,x,h1,h2,r1,r2=>by
  have q:=h1.flat r1
  subst q
  cases u with
  | yW=>obtain⟨_,_,q,g⟩:=h2.rR p r2;cases q
  | err _ _ _=>obtain⟨_,_,_,_,_,q,_⟩:=h2.sI r2;cases q
  | int _=>have q:=h2.flat r2;cases q;rfl
  | tup us=>obtain⟨_,_,_,q,_⟩:=h2.uO r2;cases q
  | lst us=>obtain⟨_,_,_,q,_⟩:=h2.u_ p r2;cases q
  | _=>exact nomatch h2.flat r2
 | .str b,u,d,e,x,h1,h2,r1,r2=>by
  have q:=h1.flat r1
  subst q
  cases u with
  | yW=>obtain⟨_,_,q,g⟩:=h2.rR p r2;cases q
  | err _ _ _=>obtain⟨_,_,_,_,_,q,_⟩:=h2.sI r2;cases q
  | str _=>have q:=h2.flat r2;cases q;rfl
  | tup us=>obtain⟨_,_,_,q,_⟩:=h2.uO r2;cases q
  | lst us=>obtain⟨_,_,_,q,_⟩:=h2.u_ p r2;cases q
  | _=>exact nomatch h2.flat r2
 | .err c f t,u,d,e,x,h1,h2,r1,r2=>by
  obtain⟨a,C,dx,w,y,rfl,⟨g1,g2,g3⟩,g4,g5⟩:=h1.sI r1
  cases u with
  | err c' f' t'=>
   obtain⟨a',C',J4,w',y',q,⟨k1,k2,k3⟩,k4,k5⟩:=h2.sI r2
   cases q
   obtain⟨rfl,rfl⟩:=Q5 I g2 k2
   rw[g3] at k3;cases k3
   cases g1.inj k1
   rw[l7 I p t t' g4 k4 g5 k5]
  | yW=>obtain⟨_,_,q,g⟩:=h2.rR p r2;cases q;exact (Zb I g g2).elim
  | tup us=>obtain⟨_,_,_,q,k1,_⟩:=h2.uO r2;cases q;exact (aW I k1 g2).elim
  | lst us=>obtain⟨_,_,_,q,k1,_⟩:=h2.u_ p r2;cases q;exact (aZ I k1 g2).elim
  | _=>exact nomatch h2.flat r2
 | .yW,u,d,e,x,h1,h2,r1,r2=>by
  obtain⟨a,vs,rfl,g⟩:=h1.rR p r1
  cases u with
  | yW=>rfl
  | err _ _ _=>obtain⟨_,_,_,_,_,q,g',_⟩:=h2.sI r2;cases q;exact (Zb I g g'.2.1).elim
  | tup us=>obtain⟨_,_,_,q,g1,_⟩:=h2.uO r2;cases q;exact (aX I g1 g).elim
  | lst us=>obtain⟨_,_,_,q,g1,_⟩:=h2.u_ p r2;cases q;exact (a_ I g1 g).elim
  | _=>exact nomatch h2.flat r2
theorem j7 (I:Inv X EF B H s) (p:zH X.K H S):∀ (ts us:List T) {ds es:List D}{xs:List V},zi S ts ds->zi S us es->zj X.K H ds xs->zj X.K H es xs->ts=us
 | [],us,ds,es,xs,h1,h2,r1,r2=>by
  have e:=h1.length.trans (r1.length.trans (r2.length.symm.trans h2.length.symm))
  cases us with
  | nil=>rfl
  | cons _ _=>simp at e
 | t::ts,[],ds,es,xs,h1,h2,r1,r2=>by
  have e:=h1.length.trans (r1.length.trans (r2.length.symm.trans h2.length.symm))
  simp at e
 | t::ts,u::us,ds,es,xs,h1,h2,r1,r2=>by
  simp only[zi] at h1 h2
  obtain⟨c,cs,rfl,a1,a2⟩:=h1
  obtain⟨c',cs',rfl,b1,b2⟩:=h2
  simp only[zj] at r1 r2
  obtain⟨y,ys,rfl,g1,g2⟩:=r1
  obtain⟨y',IJ,q,k1,k2⟩:=r2
  cases q
  rw[l7 I p t u a1 b1 g1 k1,j7 I p ts us a2 b2 g2 k2]
end
def zi.get {ts:List T}{ds:List D}(h:zi S ts ds):∀ {j:Nat},j<ts.length->∃ c,ds[j]?=some c/\Sn S (ts.getD j .zm) c:=by
 induction ts generalizing ds with
 | nil=>intro j hj;simp at hj
 | cons t ts ih=>
  intro j hj
  simp only[zi] at h
  obtain⟨c,cs,rfl,h1,h2⟩:=h
  cases j with
  | zero=>exact⟨c,rfl,h1⟩
  | succ j=>
   obtain⟨c',e,h3⟩:=ih h2 (j:=j) (by simpa using hj)
   exact⟨c',by simpa using e,by simpa using h3⟩
theorem kK:∀ {ts:List T}{j:Nat},j<ts.length->dep (ts.getD j .zm)<=xM ts
 | [],j,h=>by simp at h
 | t::ts,0,_=>by simp only[xM,List.getD_cons_zero];lia
 | t::ts,j+1,h=>by
  have:=kK (ts:=ts) (j:=j) (by simpa using h)
  simp only[xM,List.getD_cons_succ];lia
inductive qJ (K:Ac) (H:Hp) (S:SS) (s:Shared):T->Value->Prop
 | zm:qJ K H S s .zm .none
 | bl {b:Bool}:qJ K H S s (.bl b) (.bool b)
 | int {i:Int}{k:Tok}:qJ K H S s (.int i) (.int i k)
 | str {i:Str}{k:Tok}:qJ K H S s (.str i) (.str i k)
 | tup {ts:List T}{ds:List D}{xs:List V}{us:Ae}{l:Addr}(g:zi S ts ds) (r:zj K H ds xs) (v:Vals xs us) (h:s.heap.IsTuple l us.toArray):qJ K H S s (.tup ts) (.ref l)
 | lst {ts:List T}{ds:List D}{xs:List V}{us:Ae}{l:Addr}(g:zi S ts ds) (r:zj K H ds xs) (v:Vals xs us) (h:s.heap.IsList l us.toArray):qJ K H S s (.lst ts) (.ref l)
def cn (I:Inv X EF B H s) (p:zH X.K H S) {t:T}{d:D}{x:V}{a:Value}(h:Sn S t d) (r:zg X.K H d x) (v:RelV x a) (z:dep t<cLine):qJ X.K H S s t a:=by
 cases t with
 | zm=>have q:=h.flat r;subst q;cases v;exact .zm
 | bl _=>have q:=h.flat r;subst q;cases v;exact .bl
 | int _=>have q:=h.flat r;subst q;obtain⟨_,rfl⟩:=v;exact .int
 | str _=>have q:=h.flat r;subst q;obtain⟨_,rfl⟩:=v;exact .str
 | tup _=>obtain⟨l,xs,ds,rfl,g,r,q⟩:=h.uO r;cases v;obtain⟨_,w,i,_⟩:=I.tuple g;exact .tup q r w i
 | lst _=>obtain⟨l,xs,ds,rfl,g,r,q⟩:=h.u_ p r;cases v;obtain⟨_,w,i,_⟩:=I.list g;exact .lst q r w i.isList
 | _=>simp only[dep] at z;lia
abbrev J3 (A:Around) (s:Shared) (a b:Value) (k:Bool):Prop:=SeqAt.EqAt A s a b k/\SeqAt.RcAt A s a b k/\SeqAt.RcNeAt A s a b (!k)
def Nd (I:Inv X EF B H s) (p:zH X.K H S):∀ (n:Nat) (t u:T) {A:Around}{d e:D}{x y:V}{a b:Value},dep t<n->A.units+dep t<cLine->A.units+dep u<cLine->Sn S t d->Sn S u e->zg X.K H d x->zg X.K H e y->RelV x a->RelV y b->J3 A s a b (eqT t u):=by
 intro n
 induction n with
 | zero=>intros;lia
 | succ n ih=>
  intro t u A d e x y a b hn hu HN h1 h2 r1 r2 v1 v2
  have hq:a=b->t=u:=λ z=>by subst z;have:=v1.inj v2;subst this;exact l7 I p t u h1 h2 r1 r2
  have c1:=cn I p h1 r1 v1 (by lia)
  have c2:=cn I p h2 r2 v2 (by lia)
  clear h1 h2 r1 r2 v1 v2
  have hA:A.units<cLine:=by lia
  have el:∀ {ts us:List T}{ds G3:List D}{xs E9:List V}{is HM:Ae},1+xM ts<n+1->A.units+(1+xM ts)<cLine->A.units+(1+xM us)<cLine->zi S ts ds->zi S us G3->zj X.K H ds xs->zj X.K H G3 E9->Vals xs is->Vals E9 HM->is.toArray.size=ts.length/\HM.toArray.size=us.length/\
    ∀ (j:Nat) (h1:j<is.toArray.size) (h2:j<HM.toArray.size),SeqAt.EqAt A.in1 s is.toArray[j] HM.toArray[j] (eqT (ts.getD j .zm) (us.getD j .zm)):=by
   intro ts us ds G3 xs E9 is HM a1 a2 a3 g1 g2 r1 r2 v1 v2
   have e1:is.toArray.size=ts.length:=by rw[Ax,<- v1.length,<- r1.length,<- g1.length]
   have e2:HM.toArray.size=us.length:=by rw[Ax,<- v2.length,<- r2.length,<- g2.length]
   refine⟨e1,e2,λ j h1 h2=>?_⟩
   obtain⟨_,k1,s1⟩:=g1.get (e1▸h1)
   obtain⟨_,k2,s2⟩:=g2.get (e2▸h2)
   obtain⟨_,f1,q1⟩:=r1.get k1
   obtain⟨_,f2,q2⟩:=r2.get k2
   obtain⟨w1,o1,m1⟩:=v1.get f1
   obtain⟨w2,o2,m2⟩:=v2.get f2
   have y1:=kK (e1▸h1)
   have y2:=kK (e2▸h2)
   obtain⟨_,z1⟩:=AI.mp o1
   obtain⟨_,z2⟩:=AI.mp o2
   rw[List.getElem_toArray,List.getElem_toArray,z1,z2]
   exact (ih _ _ (A:=A.in1) (by lia) (by show A.units+1+_<_;lia) (by show A.units+1+_<_;lia) s1 s2 q1 q2 m1 m2).1
  have en:∀ {l l':Addr}{ts us:List T},(Value.ref l=.ref l'->ts=us)->SeqAt.RcAt A s (.ref l) (.ref l') (xu ts us)/\SeqAt.RcNeAt A s (.ref l) (.ref l') (!xu ts us)->J3 A s (.ref l) (.ref l') (xu ts us):=λ{l l' ts us} h q=>by
   refine⟨?_,q⟩
   by_cases z:l=l'
   ·subst z
    rw[h rfl,kF]
    exact .same _
   ·exact .of_refs z q.1
  cases c1 <;> cases c2 <;> simp only[eqT,CH,CI]
  ·exact⟨.same _,.none_none,.none_none⟩
  ·exact⟨.none_bool _,.none_bool _,.none_bool _⟩
  ·exact⟨.none_int _ _,.none_int _ _,.none_int _ _⟩
  ·exact⟨.none_str _ _,.none_str _ _,.none_str _ _⟩
  ·exact⟨.none_tuple ‹_› hA,.none_tuple ‹_› hA,.none_tuple ‹_› hA⟩
  ·exact⟨.none_list ‹_› hA,.none_list ‹_› hA,.none_list ‹_› hA⟩
  ·exact⟨.bool_none _,.bool_none _,.bool_none _⟩
  ·exact⟨.bool_bool _ _,.bool_bool _ _,.bool_bool _ _⟩
  ·exact⟨.bool_int _ _ _,.bool_int _ _ _,.bool_int _ _ _⟩
  ·exact⟨.bool_str _ _ _,.bool_str _ _ _,.bool_str _ _ _⟩
  ·exact⟨.bool_tuple _ ‹_› hA,.bool_tuple _ ‹_› hA,.bool_tuple _ ‹_› hA⟩
  ·exact⟨.bool_list _ ‹_› hA,.bool_list _ ‹_› hA,.bool_list _ ‹_› hA⟩
  ·exact⟨.int_none _ _,.int_none _ _,.int_none _ _⟩
  ·exact⟨.int_bool _ _ _,.int_bool _ _ _,.int_bool _ _ _⟩
  ·exact⟨.int_int _ _ _ _,.int_int _ _ _ _,.int_int _ _ _ _⟩
  ·exact⟨.int_str _ _ _ _,.int_str _ _ _ _,.int_str _ _ _ _⟩
  ·exact⟨.int_tuple _ _ ‹_› hA,.int_tuple _ _ ‹_› hA,.int_tuple _ _ ‹_› hA⟩
  ·exact⟨.int_list _ _ ‹_› hA,.int_list _ _ ‹_› hA,.int_list _ _ ‹_› hA⟩
  ·exact⟨.str_none _ _,.str_none _ _,.str_none _ _⟩
  ·exact⟨.str_bool _ _ _,.str_bool _ _ _,.str_bool _ _ _⟩
  ·exact⟨.str_int _ _ _ _,.str_int _ _ _ _,.str_int _ _ _ _⟩
  ·exact⟨.str_str _ _ _ _,.str_str _ _ _ _,.str_str _ _ _ _⟩
  ·exact⟨.str_tuple _ _ ‹_› hA,.str_tuple _ _ ‹_› hA,.str_tuple _ _ ‹_› hA⟩
  ·exact⟨.str_list _ _ ‹_› hA,.str_list _ _ ‹_› hA,.str_list _ _ ‹_› hA⟩
  ·exact⟨.tuple_none ‹_› hA,.tuple_none ‹_› hA,.tuple_none ‹_› hA⟩
  ·exact⟨.tuple_bool _ ‹_› hA,.tuple_bool _ ‹_› hA,.tuple_bool _ ‹_› hA⟩
  ·exact⟨.tuple_int _ _ ‹_› hA,.tuple_int _ _ ‹_› hA,.tuple_int _ _ ‹_› hA⟩
  ·exact⟨.tuple_str _ _ ‹_› hA,.tuple_str _ _ ‹_› hA,.tuple_str _ _ ‹_› hA⟩
  ·rename_i g1 r1 v1 k1 _ _ _ _ _ g2 r2 v2 k2
   simp only[dep] at hn hu HN
   obtain⟨e1,e2,q⟩:=el hn hu HN g1 g2 r1 r2 v1 v2
   refine en (λ z=>by cases hq z;rfl) ?_
   rw[fg,<- e1,<- e2]
   exact⟨.tuples k1 k2 hA q,.tuples k1 k2 hA q⟩
  ·exact⟨.tuple_list ‹_› ‹_› hA,.tuple_list ‹_› ‹_› hA,.tuple_list ‹_› ‹_› hA⟩
  ·exact⟨.list_none ‹_› hA,.list_none ‹_› hA,.list_none ‹_› hA⟩
  ·exact⟨.list_bool _ ‹_› hA,.list_bool _ ‹_› hA,.list_bool _ ‹_› hA⟩
  ·exact⟨.list_int _ _ ‹_› hA,.list_int _ _ ‹_› hA,.list_int _ _ ‹_› hA⟩
  ·exact⟨.list_str _ _ ‹_› hA,.list_str _ _ ‹_› hA,.list_str _ _ ‹_› hA⟩
  ·exact⟨.list_tuple ‹_› ‹_› hA,.list_tuple ‹_› ‹_› hA,.list_tuple ‹_› ‹_› hA⟩
  ·rename_i i1 _ g1 r1 v1 k1 _ _ _ i2 _ g2 r2 v2 k2
   simp only[dep] at hn hu HN
   obtain⟨e1,e2,q⟩:=el hn hu HN g1 g2 r1 r2 v1 v2
   refine en (λ z=>by cases hq z;rfl) ?_
   rw[fg,<- e1,<- e2]
   by_cases z:i1.toArray.size=i2.toArray.size
   ·rw[<- z,Nat.min_self,beq_self_eq_true,Bool.and_true]
    exact⟨.lists k1 k2 z hA q,.lists k1 k2 z hA q⟩
   ·rw[beq_eq_false_iff_ne.mpr z,CG]
    have z':=bne_iff_ne.mpr z
    exact⟨.lists_lengths k1 k2 z' hA,.lists_lengths k1 k2 z' hA⟩
def fP (I:Inv X EF B H s) (p:zH X.K H S) (t u:T) {A:Around}{d e:D}{x y:V}{a b:Value}(hu:A.units+dep t<cLine) (HN:A.units+dep u<cLine) (h1:Sn S t d) (h2:Sn S u e) (r1:zg X.K H d x) (r2:zg X.K H e y) (v1:RelV x a) (v2:RelV y b):J3 A s a b (eqT t u):=Nd I p _ t u (Cf _) hu HN h1 h2 r1 r2 v1 v2
end
def iD (K:Ac) (neg:Bool):R2:=λ x y H Q=>∃ S d e t u,zg K H d x/\zg K H e y/\zH K H S/\Sn S t d/\Sn S u e/\dep t<=60/\dep u<=60/\Q (.bl (cond neg (!eqT t u) (eqT t u))) H
def vm (neg:Bool):yJ:=λ x y S Q=>∃ t u,Sn S t x/\Sn S u y/\dep t<=60/\dep u<=60/\Q (.bl (cond neg (!eqT t u) (eqT t u))) S
def vm.mo {neg:Bool}:xv (vm neg):=λ _ _ _ _ _ hq ⟨t,u,a,b,c,d,h⟩=>⟨t,u,a,b,c,d,hq _ _ h⟩
def vm.fits {K:Ac}{neg:Bool}:xq K (vm neg) (iD K neg):=λ x y d e H S Q h1 h2 h3 ⟨t,u,a,b,c,c',h⟩=>⟨S,d,e,t,u,h1,h2,h3,a,b,c,c',h _ H (by simp only[zg]) (.refl H) h3⟩
section
variable {X:Cx}{a b:Expr}{ta tb:zr}{pos:Pos}
def bF (hu:X.A.units+64<cLine):ya X (compareOp .Eq) (iD X.K false):=by
 intro EF s B H x y v u Q I rx ry h
 obtain⟨S,d,e,t,u',a1,a2,a3,a4,a5,a6,a7,q⟩:=h
 exact (fP I a3 t u' (A:=X.A) (by lia) (by lia) a4 a5 a1 a2 rx ry).2.1 X.prog X.w X.xe _ ⟨.bl _,H,I,rfl,q⟩
def Tn (hu:X.A.units+64<cLine):ya X (compareOp .NotEq) (iD X.K true):=by
 intro EF s B H x y v u Q I rx ry h
 obtain⟨S,d,e,t,u',a1,a2,a3,a4,a5,a6,a7,q⟩:=h
 exact (fP I a3 t u' (A:=X.A) (by lia) (by lia) a4 a5 a1 a2 rx ry).2.2 X.prog X.w X.xe _ ⟨.bl _,H,I,rfl,q⟩
def b7 {k:Nat}(hr:yq k X.A) (ha:PD X a ta) (hb:PD X b tb):PD X (.Compare a [.Eq] [b] pos) (yn (vm false) ta tb):=iR (bF hr.units) vm.fits vm.mo ha hb (sy _)
def sd {k:Nat}(hr:yq k X.A) (ha:PD X a ta) (hb:PD X b tb):xC X (.Compare a [.Eq] [b] pos) (uk (yn (vm false) ta tb)):=ql (bF hr.units) vm.fits vm.mo ha hb (sy _)
def iJ {k:Nat}(hr:yq k X.A) (ha:PD X a ta) (hb:PD X b tb):xC X (.Compare a [.NotEq] [b] pos) (uk (yn (vm true) ta tb)):=ql (Tn hr.units) vm.fits vm.mo ha hb (sy _)
def cN (K:Ac) (neg:Bool):R2:=λ x y H Q=>∃ S d e u ts ds,zg K H d x/\zg K H e y/\zH K H S/\Sn S u d/\zM e S=some ds/\zi S ts ds/\dep u<=60/\xM ts<=60/\Q (.bl (cond neg (!(ts.any λ t=>eqT t u)) (ts.any λ t=>eqT t u))) H
def rN (neg:Bool):yJ:=λ x y S Q=>∃ u ts ds,Sn S u x/\zM y S=some ds/\zi S ts ds/\dep u<=60/\xM ts<=60/\Q (.bl (cond neg (!(ts.any λ t=>eqT t u)) (ts.any λ t=>eqT t u))) S
def rN.mo {neg:Bool}:xv (rN neg):=λ _ _ _ _ _ hq ⟨u,ts,ds,a,b,c,d,e,h⟩=>⟨u,ts,ds,a,b,c,d,e,hq _ _ h⟩
def rN.fits {K:Ac}{neg:Bool}:xq K (rN neg) (cN K neg):=λ x y d e H S Q h1 h2 h3 ⟨u,ts,ds,a,b,c,c',c2,h⟩=>⟨S,d,e,u,ts,ds,h1,h2,h3,a,b,c,c',c2,h _ H (by simp only[zg]) (.refl H) h3⟩
open Classical in
def tK (its:Ae) (ts:List T) (u:T) (v:Value):Bool:=if h:∃ j,its[j]?=some v then eqT (ts.getD (Classical.choose h) .zm) u else false
def fO {EF:Ag}{B:St}{H:Hp}{s:Shared}{S:SS}(I:Inv X EF B H s) (p:zH X.K H S) {ts:List T}{ds:List D}{xs:List V}{its:Ae}(h1:zi S ts ds) (h2:zj X.K H ds xs) (h3:Vals xs its) (u:T) {j:Nat}{v:Value}(hj:its[j]?=some v):
  tK its ts u v=eqT (ts.getD j .zm) u:=by
 have h:∃ j,its[j]?=some v:=⟨j,hj⟩
 unfold tK
 rw[dif_pos h]
 have hc:=Classical.choose_spec h
 have lt:∀ i,its[i]?=some v->i<ts.length:=λ i hi=>by
  rw[h1.length,h2.length,h3.length]
  exact (AI.mp hi).1
 obtain⟨c1,e1,s1⟩:=h1.get (lt _ hc)
 obtain⟨c2,e2,s2⟩:=h1.get (lt _ hj)
 obtain⟨x1,f1,r1⟩:=h2.get e1
 obtain⟨x2,f2,r2⟩:=h2.get e2
 obtain⟨v1,g1,q1⟩:=h3.get f1
 obtain⟨v2,g2,q2⟩:=h3.get f2
 rw[hc] at g1;cases g1
 rw[hj] at g2;cases g2
 have hx:=q1.inj q2
 subst hx
 rw[l7 I p _ _ s1 s2 r1 r2]
def Y4 {EF:Ag}{B:St}{H:Hp}{s:Shared}{S:SS}(I:Inv X EF B H s) (p:zH X.K H S) {ts:List T}{ds:List D}{xs:List V}{its:Ae}(h1:zi S ts ds) (h2:zj X.K H ds xs) (h3:Vals xs its) (u:T):its.any (tK its ts u)=ts.any λ t=>eqT t u:=by
 have hl:ts.length=its.length:=by rw[h1.length,h2.length,h3.length]
 rw[Bz,A_,A_]
 constructor
 ·rintro⟨v,hv,h⟩
  obtain⟨j,hj,rfl⟩:=BQ.mp hv
  rw[fO I p h1 h2 h3 u (j:=j) (by simp[hj])] at h
  have F_:j<ts.length:=by lia
  exact⟨ts[j],BL F_,by simpa [F_] using h⟩
 ·rintro⟨t,ht,h⟩
  obtain⟨j,hj,rfl⟩:=BQ.mp ht
  have F_:j<its.length:=by lia
  exact⟨its[j],BL F_,by rw[fO I p h1 h2 h3 u (j:=j) (by simp[F_])];simpa [hj] using h⟩
def Y5 {EF:Ag}{B:St}{H:Hp}{s:Shared}{S:SS}(I:Inv X EF B H s) (p:zH X.K H S) {ts:List T}{ds:List D}{xs:List V}{its:Ae}(h1:zi S ts ds) (h2:zj X.K H ds xs) (h3:Vals xs its) {u:T}{d:D}{x:V}{v:Value}(hu:Sn S u d) (hd:zg X.K H d x) (hx:RelV x v) {A:Around}(b1:A.units+xM ts<cLine) (b2:A.units+dep u<cLine) {y:Value}(hy:y∈its):
  SeqAt.EqAt A s y v (tK its ts u y):=by
 obtain⟨j,hj,rfl⟩:=BQ.mp hy
 have hjt:j<ts.length:=by rw[h1.length,h2.length,h3.length];exact hj
 rw[fO I p h1 h2 h3 u (j:=j) (by simp[hj])]
 obtain⟨c1,e1,s1⟩:=h1.get hjt
 obtain⟨x1,f1,r1⟩:=h2.get e1
 obtain⟨v1,g1,q1⟩:=h3.get f1
 have:its[j]=v1:=by
  have:=AI.mp g1
  exact this.2
 rw[this]
 have:=kK hjt
 exact (fP I p _ u (A:=A) (by lia) b2 s1 hu r1 hd q1 hx).1
def Tx (hu:X.A.units+64<cLine):ya X (compareOp .In) (cN X.K false):=by
 intro EF s B H x y v w Q I rx ry h
 obtain⟨S,d,e,u,ts,ds,a1,a2,a3,a4,a5,a6,a7,a8,q⟩:=h
 obtain⟨l,xs,rfl,g1,g2⟩:=zM.sq a2 a3 a5
 cases ry
 rcases g1 with g1 | g1
 ·obtain⟨its,w1,pl,_⟩:=I.list g1
  refine SeqAt.in_listAt (tK its ts u) pl.isList (λ y hy=>Y5 I a3 a6 g2 w1 a4 a1 rx (A:=X.A.in1) (by show X.A.units+1+_<_;lia) (by show X.A.units+1+_<_;lia) (by simpa using hy)) ⟨.bl _,H,I,rfl,?_⟩
  rw[show its.toArray.any (tK its ts u)=its.any (tK its ts u) by simp,Y4 I a3 a6 g2 w1]
  exact q
 ·obtain⟨its,w1,pt,_⟩:=I.tuple g1
  refine SeqAt.in_tupleAt (tK its ts u) pt (λ y hy=>Y5 I a3 a6 g2 w1 a4 a1 rx (A:=X.A.in1) (by show X.A.units+1+_<_;lia) (by show X.A.units+1+_<_;lia) (by simpa using hy)) ⟨.bl _,H,I,rfl,?_⟩
  rw[show its.toArray.any (tK its ts u)=its.any (tK its ts u) by simp,Y4 I a3 a6 g2 w1]
  exact q
def UA {k:Nat}(hr:yq k X.A) (ha:PD X a ta) (hb:PD X b tb) (hm:behindInMarks .In b=false:=by rfl):xC X (.Compare a [.In] [b] pos) (uk (yn (rN false) ta tb)):=ql (Tx hr.units) rN.fits rN.mo ha hb hm
end
end L3
namespace L2
open PySem PySem.Spec PyProof.Rows
section
variable {κ:Type}[DecidableEq κ]
noncomputable def x_ (Aa:List (κ × V)) (k:κ):Option V:=(Aa.find? λ kv=>decide (kv.1=k)).map (·.2)
noncomputable def putK (Aa:List (κ × V)) (k:κ) (v:V):List (κ × V):=
 if (Aa.any λ kv=>decide (kv.1=k))=true then Aa.map (λ kv=>if kv.1=k then (kv.1,v) else kv) else Aa++[(k,v)]
def j4 {p:κ × V}{r:List (κ × V)}{k:κ}(e:p.1=k):x_ (p::r) k=some p.2:=by simp[x_,Co,e]
def j5 {p:κ × V}{r:List (κ × V)}{k:κ}(e:¬ p.1=k):x_ (p::r) k=x_ r k:=by simp[x_,Co,e]
theorem dr (k:κ):∀ Aa:List (κ × V),(Aa.any λ kv=>decide (kv.1=k))=(x_ Aa k).isSome
 | []=>rfl
 | p::r=>by
  rw[Bu]
  by_cases e:p.1=k
  ·simp only[j4 e,Ki e,Bool.true_or,Option.isSome_some]
  ·rw[j5 e,Kd e,Bool.false_or];exact dr k r
def ay (Aa:List (κ × V)) (k:κ) (v:V):(putK Aa k v).length<=Aa.length+1:=by
 unfold putK
 split
 ·rw[Ay];lia
 ·rw[Cg,AW,CW];lia
def uo.Qz {o:Option V}{u:Option Value}(r:uo o u):o.isSome=u.isSome:=by
 cases o with
 | none=>cases u with
  | none=>rfl
  | some _=>exact (show False from r).elim
 | some _=>cases u with
  | none=>exact (show False from r).elim
  | some _=>rfl
theorem uo.getD {o:Option V}{u:Option Value}{d:V}{d':Value}(r:uo o u) (rd:RelV d d'):RelV (o.getD d) (u.getD d'):=by
 cases o with
 | none=>cases u with
  | none=>exact rd
  | some _=>exact (show False from r).elim
 | some _=>cases u with
  | none=>exact (show False from r).elim
  | some _=>exact r
def KV.val {Aa:List (κ × V)}{vs:List (κ × Value)}(r:KV Aa vs) (k:κ):uo (x_ Aa k) (valueAt vs k):=by
 unfold KV at r
 induction r with
 | nil=>exact True.intro
 | @cons p q ps qs h t ih=>
  obtain⟨h1,h2⟩:=h
  by_cases e:p.1=k
  ·have e':q.1=k:=h1.symm.trans e
   have b:valueAt (q::qs) k=some q.2:=by simp[valueAt,Co,e']
   rw[j4 e,b];exact h2
  ·have e':¬ q.1=k:=λ z=>e (h1.trans z)
   have b:valueAt (q::qs) k=valueAt qs k:=by simp[valueAt,Co,e']
   rw[j5 e,b];exact ih
theorem KV.any {Aa:List (κ × V)}{vs:List (κ × Value)}(r:KV Aa vs) (k:κ):(Aa.any λ kv=>decide (kv.1=k))=vs.any λ kv=>decide (kv.1=k):=by
 unfold KV at r
 induction r with
 | nil=>rfl
 | cons h t ih=>rw[Bu,Bu,ih,h.1]
def KV.uR {Aa:List (κ × V)}{vs:List (κ × Value)}(r:KV Aa vs) (k:κ) {y:V}{u:Value}(ry:RelV y u):
  KV (Aa.map λ kv=>if kv.1=k then (kv.1,y) else kv) (vs.map λ kv=>if kv.1=k then (kv.1,u) else kv):=by
 unfold KV at r ⊢
 induction r with
 | nil=>exact .nil
 | @cons p q ps qs h t ih=>
  rw[Ar,Ar]
  refine .cons ?_ ih
  obtain⟨h1,h2⟩:=h
  by_cases e:p.1=k
  ·rw[if_pos e,if_pos (h1.symm.trans e)];exact⟨h1,ry⟩
  ·rw[if_neg e,if_neg (λ z=>e (h1.trans z))];exact⟨h1,h2⟩
def KV.put {Aa:List (κ × V)}{vs:List (κ × Value)}(r:KV Aa vs) (k:κ) {y:V}{u:Value}(ry:RelV y u):KV (putK Aa k y) (stored vs k u):=by
 unfold putK stored
 rw[r.any k]
 by_cases e:(vs.any λ kv=>decide (kv.1=k))=true
 ·rw[if_pos e,if_pos e];exact r.uR k ry
 ·rw[if_neg e,if_neg e];exact Paired.snoc r ⟨rfl,ry⟩
theorem KV.length {Aa:List (κ × V)}{vs:List (κ × Value)}(r:KV Aa vs):Aa.length=vs.length:=Paired.length r
end
def kz {P:Program}{w:World}{k:Key}{u:Value}(r:RelV (kV k) u):(wI P w).is k u=true:=by
 cases k with
 | inl i=>obtain⟨t,e⟩:=(show ∃ t,u=Value.int i t from r);subst e;exact RF P w i t
 | inr x=>obtain⟨t,e⟩:=(show ∃ t,u=Value.str x t from r);subst e;exact RE P w x t
theorem aO {P:Program}{w:World}:∀ {ks:List Key}{us:Ae},Vals (ks.map kV) us->ItemsAre (wI P w) ks us
 | [],_,r=>by rw[A6] at r;cases r;exact .nil
 | k::ks,_,r=>by
  rw[Ar] at r
  cases r with
  | cons h t=>exact .cons (kz h) (aO t)
abbrev KT (H:Hp):List (List Key×V)->List (List Key×Addr×Value)->Prop:=Paired λ p q=>p.1=q.1/\H q.2.1=some (.tup (p.1.map kV))/\RelV p.2 q.2.2
def KT.val {H:Hp}{Aa:List (List Key×V)}{xs:List (List Key×Addr×Value)}(r:KT H Aa xs) (k:List Key):uo (x_ Aa k) ((atKey xs k).map (·.2)):=by
 induction r with
 | nil=>exact True.intro
 | @cons p q ps qs h t ih=>
  obtain⟨h1,_,h2⟩:=h
  by_cases e:p.1=k
  ·have e':q.1=k:=h1.symm.trans e
   have b:atKey (q::qs) k=some q.2:=by simp[atKey,Co,e']
   rw[j4 e,b];exact h2
  ·have e':¬ q.1=k:=λ z=>e (h1.trans z)
   have b:atKey (q::qs) k=atKey qs k:=by simp[atKey,Co,e']
   rw[j5 e,b];exact ih
def KT.uR {H:Hp}{Aa:List (List Key×V)}{xs:List (List Key×Addr×Value)}(r:KT H Aa xs) (k:List Key) {y:V}{u:Value}(ry:RelV y u):
  KT H (Aa.map λ kv=>if kv.1=k then (kv.1,y) else kv) (xs.map (putAt k u)):=by
 induction r with
 | nil=>exact .nil
 | @cons p q ps qs h t ih=>
  rw[Ar,Ar]
  refine .cons ?_ ih
  obtain⟨h1,h2,h3⟩:=h
  unfold putAt
  by_cases e:p.1=k
  ·rw[if_pos e,if_pos (h1.symm.trans e)];exact⟨h1,h2,ry⟩
  ·rw[if_neg e,if_neg (λ z=>e (h1.trans z))];exact⟨h1,h2,h3⟩
def KT.put {H:Hp}{Aa:List (List Key×V)}{xs:List (List Key×Addr×Value)}(r:KT H Aa xs) (k:List Key) {b:Addr}{y:V}{u:Value}(hb:H b=some (.tup (k.map kV))) (ry:RelV y u):
  KT H (putK Aa k y) (storedH xs k b u):=by
 have e:(Aa.any λ kv=>decide (kv.1=k))=(atKey xs k).isSome:=by
  rw[dr,(r.val k).Qz,Option.isSome_map]
 unfold putK storedH
 rw[e]
 by_cases q:(atKey xs k).isSome=true
 ·rw[if_pos q,if_pos q];exact r.uR k ry
 ·rw[if_neg q,if_neg q];exact Paired.snoc r ⟨rfl,hb,ry⟩
def KT.keeps {H H':Hp}{Aa:List (List Key×V)}{xs:List (List Key×Addr×Value)}(r:KT H Aa xs) (ht:∀ b ys,H b=some (.tup ys)->H' b=some (.tup ys)):KT H' Aa xs:=
 Paired.kr r λ _ _ z=>⟨z.1,ht _ _ z.2.1,z.2.2⟩
section
variable {P:Program}{w:World}{H:Hp}{h:Heap}{a:Addr}
def cB {u:HO}(ok:yK P w H h) (e:Rd H a u):yO P w H h a u:=e.ok ok
def pX {Aa:List (Key×V)}(ok:yK P w H h) (e:Rd H a (.dK Aa)):Aa.length<=sizeLine/\(a == sysModules)=false/\∃ vs,KV Aa vs/\h.DictOf (wI P w) a vs:=
 show yO P w H h a (.dK Aa) from cB ok e
def PX {Aa:List (Key×V)}(ok:yK P w H h) (e:H a=some (.dK Aa)):Aa.length<=sizeLine/\(a == sysModules)=false/\∃ vs,KV Aa vs/\h.DictOf (wI P w) a vs:=pX ok (.inl e)
def pJ {ks:List Key}(ok:yK P w H h) (e:H a=some (.tup (ks.map kV))):(tupleKind (wI P w)).is h ks a:=by
 obtain⟨_,its,r,o,h1,h2,n,h3⟩:=(show yO P w H h a (.tup (ks.map kV)) from ok a _ e)
 exact⟨o,its.toArray,n,h1,h2,h3,by simpa using aO r⟩
def ma {Aa:List (List Key×V)}(ok:yK P w H h) (e:Rd H a (.dT Aa)):Aa.length<=sizeLine/\(a == sysModules)=false/\
  ∃ xs,KT H Aa xs/\h.DictOfH (tupleKind (wI P w)) a xs:=by
 obtain⟨z,y,xs,r,o,es,ep,h1,h2,h3,h4,h5⟩:=(show yO P w H h a (.dT Aa) from cB ok e)
 refine⟨z,y,xs,r,o,es,ep,h1,h2,h3,h4,λ x hx=>?_,h5⟩
 have all:∀ {l:List (List Key×V)}{m:List (List Key×Addr×Value)},KT H l m->∀ x∈m,(tupleKind (wI P w)).is h x.1 x.2.1:=by
  intro l m q
  induction q with
  | nil=>intro x hx;exact nomatch hx
  | @cons p q ps qs hq t ih=>
   intro x hx
   rcases Ai.mp hx with e | hx
   ·subst e
    exact pJ ok (by rw[<- hq.1];exact hq.2.1)
   ·exact ih x hx
 exact all r x hx
def PN {Aa:List (List Key×V)}(ok:yK P w H h) (e:H a=some (.dT Aa)):Aa.length<=sizeLine/\(a == sysModules)=false/\
  ∃ xs,KT H Aa xs/\h.DictOfH (tupleKind (wI P w)) a xs:=ma ok (.inl e)
end
def ra (H:Hp) (a:Addr) (y:V) (r:Option V):Prop:=
 (∃ Aa k,Rd H a (.dK Aa)/\y=kV k/\r=x_ Aa k)\/∃ Aa k b,Rd H a (.dT Aa)/\y=.ref b/\H b=some (.tup (k.map kV))/\r=x_ Aa k
def l4 (H:Hp) (a:Addr) (y v:V) (H':Hp):Prop:=
 (∃ Aa k,H a=some (.dK Aa)/\y=kV k/\Aa.length<sizeLine/\H'=upd H a (.dK (putK Aa k v)))\/
 ∃ Aa k b,H a=some (.dT Aa)/\y=.ref b/\H b=some (.tup (k.map kV))/\Aa.length<sizeLine/\H'=upd H a (.dT (putK Aa k v))
theorem ra.k {H:Hp}{a:Addr}{Aa:List (Key×V)}{k:Key}(e:H a=some (.dK Aa)):ra H a (kV k) (x_ Aa k):=.inl ⟨Aa,k,.inl e,rfl,rfl⟩
theorem l4.k {H:Hp}{a:Addr}{Aa:List (Key×V)}{k:Key}{v:V}(e:H a=some (.dK Aa)) (hl:Aa.length<sizeLine):l4 H a (kV k) v (upd H a (.dK (putK Aa k v))):=.inl ⟨Aa,k,e,rfl,hl,rfl⟩
section
variable {X:Cx}{EF:Ag}{B:St}{H:Hp}{s:Shared}{a:Addr}{y v:V}{u r:Value}{o:Option V}{A:Around}{E:Ad}
def Inv.big (I:Inv X EF B H s):sysModules<s.heap.objs.size:=by
 have h:mainGlobals<s.heap.objs.size:=(I.mod.glob.keeps I.bk).lt
 exact CV (by decide) h
def Oe {Q:Ad}(hu:A.units+1<cLine) (I:Inv X EF B H s) (g:ra H a y (some v)) (ry:RelV y u) (h:∀ w' s',Inv X EF B H s'->RelV v w'->Q w' s'):
  wpAny (model X.prog X.w) A (getItem (.ref a) u) Q E s:=by
 rcases g with ⟨Aa,k,e,ey,l⟩ | ⟨Aa,k,b,e,ey,eb,l⟩
 ·subst ey
  obtain⟨z,hd,vs,rel,dd⟩:=pX I.zw e
  obtain⟨w',hw,GO⟩:=uo.some_of (v:=v) (o:=valueAt vs k) (by rw[l];exact rel.val k)
  exact wpAny_getItem_of (kz ry) dd.mapOf hw (h w' _ (I.tok _) GO)
 ·subst ey
  cases (show u=Value.ref b from ry)
  obtain⟨z,hd,xs,rel,dd⟩:=ma I.zw e
  obtain⟨w',hw,GO⟩:=uo.some_of (v:=v) (o:=(atKey xs k).map (·.2)) (by rw[l];exact rel.val k)
  obtain⟨p,hp,vk⟩:=AA.mp hw
  refine wpAny_getItem_heap (tupleKind_room_in1 hu) (pJ I.zw eb) dd hp ?_
  rw[vk]
  exact h w' _ (I.tok _) GO
def ZN {h':Heap}{t':Nat}{ob:HO}(I:Inv X EF B H s) (mu:mO (H a)) (hs:Heap.SameBut a s.heap h') (he:∃ q,h'.get? a=some q) (new:yO X.prog X.w (upd H a ob) h' a ob):
  Inv X EF B (upd H a ob) { s with heap:=h',toks:=t' }:=
 I.write (x:=a) (e:=a) mu (.inl rfl) (λ b q hb z=>(hs.2 b hb).trans z) he new
def PY {P:Program}{w:World}{H':Hp}{h':Heap}{Aa:List (Key×V)}{vs:List (Key×Value)}(z:Aa.length<=sizeLine) (hd:(a == sysModules)=false) (rel:KV Aa vs) (dd:h'.DictOf (wI P w) a vs):
  yO P w H' h' a (.dK Aa):=⟨z,hd,vs,rel,dd⟩
def Oc {H':Hp}{Q:Unit->Shared->Prop}(hu:A.units+1<cLine) (I:Inv X EF B H s) (g:l4 H a y v H') (ry:RelV y u) (rv:RelV v r) (h:∀ s',Inv X EF B H' s'->Q () s'):
  wpAny (model X.prog X.w) A (setItem (.ref a) u r) Q E s:=by
 rcases g with ⟨Aa,k,e,ey,l,eH⟩ | ⟨Aa,k,b,e,ey,eb,l,eH⟩
 ·subst ey eH
  obtain⟨z,hd,vs,rel,dd⟩:=PX I.zw e
  have hz:vs.length<=sizeLine:=by rw[<- rel.length];exact z
  have hl:(putK Aa k v).length<=sizeLine:=by have:=ay Aa k v;lia
  refine wpAny_setItem_pairs (hsz:=hz) (kz ry) dd λ h' Je hs=>h _ ?_
  have he:∃ q,h'.get? a=some q:=let ⟨q,_,_,hq,_⟩:=Je;⟨q,hq⟩
  exact ZN I (by rw[e];exact True.intro) hs he (PY hl hd (rel.put k rv) Je)
 ·subst ey eH
  cases (show u=Value.ref b from ry)
  obtain⟨z,hd,xs,rel,dd⟩:=PN I.zw e
  have hz:xs.length<=sizeLine:=by rw[<- Paired.length rel];exact z
  have hl:(putK Aa k v).length<=sizeLine:=by have:=ay Aa k v;lia
  refine wpAny_setItem_heap (hsz:=hz) (tupleKind_room_in1 hu) (pJ I.zw eb) dd λ h' Je hs=>h _ ?_
  obtain⟨q,es,ep,hq,h2,h3,h4,_,h5⟩:=Je
  refine ZN I (by rw[e];exact True.intro) hs ⟨q,hq⟩ ⟨hl,hd,_,(rel.put k eb rv).keeps λ c ys ec=>?_,q,es,ep,hq,h2,h3,h4,h5⟩
  rw[yj (sA ec e (λ z=>nomatch z))]
  exact ec
end
section
variable {X:Cx}{EF:Ag}{B:St}{H:Hp}{s:Shared}{a:Addr}{Aa:List (Key×V)}{A:Around}{E:Ad}
def Od {Q:Ad}(I:Inv X EF B H s) (e:Rd H a (.dK Aa)) (h:∀ t s',Inv X EF B H s'->Q (.int Aa.length t) s'):wpAny (model X.prog X.w) A (call (.builtin "len") [.ref a]) Q E s:=by
 obtain⟨z,hd,vs,rel,dd⟩:=pX I.zw e
 refine call_len_dict hd dd (by rw[<- rel.length];rw[sizeLine_eq] at z;lia) ?_
 rw[<- rel.length]
 exact h _ _ (I.tok _)
end
def fX (i:Expr):Prop:=∀ ov iv,subscripted i false ov iv=operate [ov,iv] (getItem ov iv)
def Wm {prog:Program}{w:World}{A:Around}{E:Ad}{s:Shared}{env:Env}{value slice:Expr}{pos:Pos}{T id:String}{Q:Ad}
  (hl:typeLookup (.type T) "__getitem__"=pure (some (.builtin id))) (hs:fX slice)
  (h:wpAny (model prog w) A (eval value env) (λ o s₁=>wpAny (model prog w) A (eval slice env) (λ i s₂=>s₂.TypeIs o T/\wpAny (model prog w) A (getItem o i) Q E s₂) E s₁) E s):
  wpAny (model prog w) A (eval (.Subscript value slice pos) env) Q E s:=by
 refine Subscript_ (Kc h (λ o s₁ h₁=>Kc h₁ (λ i s₂ h₂=>?_) λ _ _ x=>x) λ _ _ x=>x)
 obtain⟨hT,h₂⟩:=h₂
 unfold subscriptTail
 refine Jg ?_
 rw[getitemInPython_of_ne hT.not_modules]
 refine Jg (wpAny_specialOf hT hl ?_)
 have fin:wpAny (model prog w) A (subscripted slice false o i) (λ r s₃=>wpAny (model prog w) A (letTemporaryGo value o r >>= λ _=>pure r) Q E s₃) E s₂:=by
  rw[hs o i]
  exact wpAny_operating (Kc h₂ (λ r s₃ h₃=>Jg (wpAny_letTemporaryGo (Ab h₃))) λ _ _ x=>x)
 first
  | exact Ab (Jg fin)
  | exact Jg (Ab (Jg fin))
  | exact Jg fin
def P_ {X:Cx}{EF:Ag}{B:St}{H:Hp}{s:Shared}{a:Addr}{y:V}{o:Option V}(I:Inv X EF B H s) (g:ra H a y o):s.TypeIs (.ref a) "dict":=by
 rcases g with ⟨Aa,k,e,_,_⟩ | ⟨Aa,k,b,e,_,_,_⟩
 ·obtain⟨_,_,vs,_,dd⟩:=pX I.zw e
  exact dd.typeIs
 ·obtain⟨_,_,xs,_,dd⟩:=ma I.zw e
  exact dd.typeIs
def Wj (td ty:TE):TE:=fun B H Q=>td B H λ x H1=>ty B H1 λ y H2=>∃ a v,x=.ref a/\ra H2 a y (some v)/\Q v H2
def Ve (td ty tv:TE):TS:=λ D B H=>tv B H λ v H1=>td B H1 λ x H2=>ty B H2 λ y H3=>∃ a H4,x=.ref a/\l4 H3 a y v H4/\D.nx B H4
section
variable {X:Cx}{o i value:Expr}{pos pos':Pos}{td ty tv:TE}
def U0 (hu:X.A.units+1<cLine) (ho:PE X o td) (hi:PE X i ty) (hs:fX i):PE X (.Subscript o i pos) (Wj td ty):=by
 intro EF s B H Q I h
 refine Wm PySem.F.slot_dict_getitem.lookup hs (zC (ho EF s B H _ I h) λ u s1 ⟨x,H1,I1,rx,q1⟩=>zC (hi EF s1 B H1 _ I1 q1) λ iv s2 ⟨y,H2,I2,ry,a,v,ex,g,q2⟩=>?_)
 subst ex
 obtain rfl:u=Value.ref a:=rx
 exact⟨P_ I2 g,Oe hu I2 g ry λ w' s3 I3 GO=>⟨v,H2,I3,GO,q2⟩⟩
def VH (hu:X.A.units+1<cLine) (ho:PE X o td) (hi:PE X i ty) (hv:PE X value tv) (hs:swapsWith value (some (.Subscript o i pos')) pos.line X.env=pure false):
  PS X (.Assign [.Subscript o i pos'] value pos) (Ve td ty tv):=by
 intro EF s B H D I h
 refine wpAny_Assign_Subscript (zC (hv EF s B H _ I h) λ r s1 ⟨v,H1,I1,rv,q1⟩=>zC (ho EF s1 B H1 _ I1 q1) λ u s2 ⟨x,H2,I2,rx,q2⟩=>zC (hi EF s2 B H2 _ I2 q2) λ iv s3 ⟨y,H3,I3,ry,a,H4,ex,g,q3⟩=>?_) hs
 subst ex
 obtain rfl:u=Value.ref a:=rx
 exact Oc hu I3 g ry rv λ s4 I4=>⟨B,H4,I4,q3⟩
end
def PZ {P:Program}{w:World}{H:Hp}(h:Heap) (hb:sysModules<h.objs.size):yO P w H (h.push { cls:=.type "dict",data:=.dict #[] }) h.objs.size (.dK []):=
 ⟨AN _,beq_eq_false_iff_ne.mpr (Ne.symm (Au hb)),[],.nil,Heap.DictOf.new h⟩
def Wh:TE:=λ _ H Q=>∀ p,H p=none->Q (.ref p) (upd H p (.dK []))
section
variable {X:Cx}{pos:Pos}
def Uy:PE X (.Dict [] [] pos) Wh:=λ EF s B H Q I h=>
 wpAny_Dict_empty ⟨.ref s.heap.objs.size,_,I.laid (a:=s.heap.objs.size) (o:=.dK []) (t':=s.toks) (λ _ _ q=>J9 _ q) (Ah _) (PZ s.heap I.big),rfl,h _ (I.zw.fresh (Ah _))⟩
end
structure M2 (X:Cx) (o:Expr) (m:Str) (apos:Pos) (e f:Expr) (Al:Pos):Prop where
 base:attributeBase o m X.env (eval o X.env)=eval o X.env
 nV:((backTo Al (starEach [e,f] X.env)).all (λ x=>!x.1)&&(backToKw Al (keywordEach [] X.env)).all (λ x=>x.1.isSome)
  && decide (([e,f]:List Expr).length+([]:List Keyword).length+(if ([]:List Keyword).isEmpty then 0 else 1)<30))=true
 line:(apos.endLine == Al.line)=true
 trees:backTo Al (starEach [e,f] X.env)=[(false,eval e X.env),(false,eval f X.env)]
def YJ (H:Hp) (a:Addr):Prop:=(∃ Aa,Rd H a (.dK Aa))\/∃ Aa,Rd H a (.dT Aa)
def Q2 {X:Cx}{EF:Ag}{B:St}{H:Hp}{s:Shared}{a:Addr}(I:Inv X EF B H s) (d:YJ H a):
  s.TypeIs (.ref a) "dict"/\(∀ b,Value.ref a=.ref b->∃ ob,s.heap.get? b=some ob/\ob.dict=none)/\(a == sysModules)=false:=by
 rcases d with ⟨Aa,e⟩ | ⟨Aa,e⟩
 ·obtain⟨_,hd,vs,_,dd⟩:=pX I.zw e
  refine⟨dd.typeIs,λ b q=>?_,hd⟩
  cases q
  obtain⟨ob,_,_,h1,h2,_⟩:=dd
  exact⟨ob,h1,h2.2.1⟩
 ·obtain⟨_,hd,xs,_,dd⟩:=ma I.zw e
  refine⟨dd.typeIs,λ b q=>?_,hd⟩
  cases q
  obtain⟨ob,_,_,h1,h2,_⟩:=dd
  exact⟨ob,h1,h2.2.1⟩
section
variable {X:Cx}{EF:Ag}{B:St}{H:Hp}{s:Shared}{a:Addr}{y d:V}{u r:Value}{o:Option V}{A:Around}{E:Ad}
def Og {Q:Ad}(hu:A.units+1<cLine) (I:Inv X EF B H s) (g:ra H a y o) (ry:RelV y u) (rd:RelV d r) (h:∀ w' s',Inv X EF B H s'->RelV (o.getD d) w'->Q w' s'):
  wpAny (model X.prog X.w) A (call (.builtin "dict.get") [.ref a,u,r]) Q E s:=by
 rcases g with ⟨Aa,k,e,ey,l⟩ | ⟨Aa,k,b,e,ey,eb,l⟩
 ·subst ey
  obtain⟨z,hd,vs,rel,dd⟩:=pX I.zw e
  refine call_meetsIn PySem.F.slot_dict_get dd.typeIs PySem.F.entry_dict_get (PySem.F.args_dict_get_3 _ _ _) (meets_dict_get_default (wI X.prog X.w) a (kz ry) hd r) ⟨_,dd.mapOf,h _ _ (I.tok _) ?_⟩
  rw[l]
  exact (rel.val k).getD rd
 ·subst ey
  cases (show u=Value.ref b from ry)
  obtain⟨z,hd,xs,rel,dd⟩:=ma I.zw e
  refine call_meetsIn PySem.F.slot_dict_get dd.typeIs PySem.F.entry_dict_get (PySem.F.args_dict_get_3 _ _ _) (meetsH_dict_get_default (tupleKind (wI X.prog X.w)) a b hd r) ⟨tupleKind_room_in1 hu,k,xs,pJ I.zw eb,dd,h _ _ (I.tok _) ?_⟩
  rw[l]
  exact (rel.val k).getD rd
end
def Wi (td ty tx:TE):TE:=fun B H Q=>td B H λ x H1=>∃ a,x=.ref a/\YJ H1 a/\ty B H1 λ y H2=>tx B H2 λ z H3=>∃ o,ra H3 a y o/\Q (o.getD z) H3
section
variable {X:Cx}{o e f:Expr}{apos Al:Pos}{td ty tx:TE}
def Uz (hu:X.A.units+1<cLine) (ho:PE X o td) (he:PE X e ty) (hf:PE X f tx) (m:M2 X o "get" apos e f Al):PE X (.Call (.Attribute o "get" apos) [e,f] [] Al) (Wi td ty tx):=by
 intro EF s B H Q I h
 refine wpAny_Call_method m.base m.nV m.line PySem.F.plainAttrs_dict PySem.F.slot_dict_get PySem.F.type_dict_get (zC (ho EF s B H _ I h) λ u s1 ⟨x,H1,I1,rx,a,ex,d,q1⟩=>?_)
 subst ex
 obtain rfl:u=Value.ref a:=rx
 obtain⟨t1,t2,_⟩:=Q2 I1 d
 refine⟨t1,t2,?_⟩
 rw[m.trees]
 refine Calls.callWith_builtin rfl (Calls.evalArgs_plain (Calls.spliced_cons (zC (he EF s1 B H1 _ I1 q1) λ iv s2 ⟨y,H2,I2,ry,q2⟩=>
  Calls.spliced_cons (zC (hf EF s2 B H2 _ I2 q2) λ fv s3 ⟨z,H3,I3,rz,ov,g,q3⟩=>Calls.spliced_nil ?_))))
 exact Og hu I3 g ry rz λ w' s4 I4 GO=>⟨_,H3,I4,GO,q3⟩
end
end L2
namespace L3
open PySem PySem.Spec L2
open PyProof.Rows hiding St
noncomputable def vV (Aa:List (Key×D)) (k:Key):Option D:=(Aa.find? λ kv=>decide (kv.1=k)).map (·.2)
noncomputable def putD (Aa:List (Key×D)) (k:Key) (v:D):List (Key×D):=
 if (Aa.any λ kv=>decide (kv.1=k))=true then Aa.map (λ kv=>if kv.1=k then (kv.1,v) else kv) else Aa++[(k,v)]
section
variable {K:Ac}{H:Hp}
theorem yN.val:∀ {Aa:List (Key×D)}{vs:List (Key×V)},yN K H Aa vs->∀ k,(vV Aa k=none/\x_ vs k=none)\/∃ d v,vV Aa k=some d/\x_ vs k=some v/\zg K H d v
 | _,_,.nil,k=>.inl ⟨rfl,rfl⟩
 | (a,d)::Aa,(b,v)::vs,.cons ⟨e,r⟩ t,k=>by
  have e':a=b:=e
  subst e'
  by_cases h:a=k
  ·subst h
   exact .inr ⟨d,v,by simp[vV],by simp[x_],r⟩
  ·rcases yN.val t k with ⟨h1,h2⟩ | ⟨d',v',h1,h2,h3⟩
   ·exact .inl ⟨by simpa [vV,h] using h1,by simpa [x_,h] using h2⟩
   ·exact .inr ⟨d',v',by simpa [vV,h] using h1,by simpa [x_,h] using h2,h3⟩
theorem yN.any {Aa:List (Key×D)}{vs:List (Key×V)}(h:yN K H Aa vs) (k:Key):(Aa.any λ kv=>decide (kv.1=k))=vs.any λ kv=>decide (kv.1=k):=by
 induction h with
 | nil=>rfl
 | cons r _ ih=>rw[Bu,Bu,ih,r.1]
def yN.len {Aa:List (Key×D)}{vs:List (Key×V)}(h:yN K H Aa vs):Aa.length=vs.length:=Paired.length h
theorem yN.uR {k:Key}{d:D}{v:V}(r:zg K H d v):∀ {Aa:List (Key×D)}{vs:List (Key×V)},yN K H Aa vs->yN K H (Aa.map λ kv=>if kv.1=k then (kv.1,d) else kv) (vs.map λ kv=>if kv.1=k then (kv.1,v) else kv)
 | _,_,.nil=>.nil
 | (a1,a2)::_,(b1,b2)::_,.cons ⟨e,q⟩ t=>by
  have e':a1=b1:=e
  subst e'
  refine .cons ?_ (yN.uR r t)
  by_cases hk:a1=k
  ·simp[hk,r]
  ·simpa [hk] using q
theorem yN.snoc {k:Key}{d:D}{v:V}(r:zg K H d v):∀ {Aa:List (Key×D)}{vs:List (Key×V)},yN K H Aa vs->yN K H (Aa++[(k,d)]) (vs++[(k,v)])
 | _,_,.nil=>.cons ⟨rfl,r⟩ .nil
 | _,_,.cons q t=>.cons q (yN.snoc r t)
def yN.put {Aa:List (Key×D)}{vs:List (Key×V)}(h:yN K H Aa vs) (k:Key) {d:D}{v:V}(r:zg K H d v):yN K H (putD Aa k d) (putK vs k v):=by
 unfold putD putK
 rw[h.any k]
 split
 ·exact yN.uR r h
 ·exact yN.snoc r h
end
section
variable {X:Cx}{o i e f v:Expr}{td ty tx tv:zr}{pos pos' apos Al:Pos}
def ZX:zr:=λ _ S Q=>∀ p,S p=none->Q (.ref p) (ups S p (.z_ []))
def UX:PD X (.Dict [] [] pos) ZX:=by
 refine⟨λ _ _ _ _ hq z p hp=>hq _ _ (z p hp),PE.imp Uy fun B H Q hu p hp=>?_⟩
 obtain⟨Y,S,r1,r2,z⟩:=hu
 exact z p (r2.none hp) _ _ (by simp only[zg]) (.new hp _) (r2.ups (.new hp _) ⟨[],y6,.nil⟩)
def Z_ (td ty:zr):zr:=fun Y S Q=>td Y S λ x S1=>ty Y S1 λ y S2=>∃ p Aa k d,x=.ref p/\y=.int k/\S2 p=some (.z_ Aa)/\vV Aa (.inl k)=some d/\Q d S2
def b8 {k:Nat}(hr:yq k X.A) (ho:PD X o td) (hi:PD X i ty) (hs:fX i:=by exact λ _ _=>rfl):PD X (.Subscript o i pos) (Z_ td ty):=by
 refine⟨fun Y S Q Q' hq z=>ho.mo Y S _ _ (λ x S1 z=>hi.mo Y S1 _ _ (λ y S2 ⟨p,Aa,k,d,a,b,c,e,h⟩=>⟨p,Aa,k,d,a,b,c,e,hq _ _ h⟩) z) z,PE.imp (U0 (gE hr) ho.pe hi.pe hs) fun B H Q hu=>?_⟩
 obtain⟨Y,S,r1,r2,z⟩:=hu
 refine zK.go ho.mo r1 r2 z λ x S1 w H1 h1 q1 e1 p1=>?_
 refine zK.go hi.mo (r1.ext e1) p1 h1 λ y S2 w2 H2 h2 q2 e2 p2=>?_
 obtain⟨p,Aa,k,d,rfl,rfl,c1,c2,h⟩:=h2
 simp only[zg] at q1 q2
 subst q1 q2
 obtain⟨vs,g1,g2⟩:=p2 _ _ c1
 rcases yN.val g2 (.inl k) with ⟨n1,_⟩ | ⟨d',v',n1,n2,n3⟩
 ·rw[c2] at n1;cases n1
 ·rw[c2] at n1;cases n1
  exact⟨p,v',rfl,n2▸ra.k (k:=Sum.inl k) g1,h v' H2 n3 (e1.trans e2) p2⟩
def ZZ (td ty tx:zr):zr:=fun Y S Q=>td Y S λ x S1=>∃ p,x=.ref p/\(∃ Aa,S1 p=some (.z_ Aa))/\ty Y S1 λ y S2=>tx Y S2 λ z S3=>∃ k Aa,y=.int k/\S3 p=some (.z_ Aa)/\Q ((vV Aa (.inl k)).getD z) S3
def UY {k:Nat}(hr:yq k X.A) (ho:PD X o td) (he:PD X e ty) (hf:PD X f tx) (m:M2 X o "get" apos e f Al:=by exact⟨rfl,rfl,rfl,rfl⟩):PD X (.Call (.Attribute o "get" apos) [e,f] [] Al) (ZZ td ty tx):=by
 refine⟨fun Y S Q Q' hq z=>ho.mo Y S _ _ (λ x S1 ⟨p,a,b,z⟩=>⟨p,a,b,he.mo Y S1 _ _ (λ y S2 z=>hf.mo Y S2 _ _ (λ w S3 ⟨k,Aa,a,b,h⟩=>⟨k,Aa,a,b,hq _ _ h⟩) z) z⟩) z,PE.imp (Uz (gE hr) ho.pe he.pe hf.pe m) fun B H Q hu=>?_⟩
 obtain⟨Y,S,r1,r2,z⟩:=hu
 refine zK.go ho.mo r1 r2 z λ x S1 w H1 h1 q1 e1 p1=>?_
 obtain⟨p,rfl,⟨kvs0,c0⟩,h1⟩:=h1
 simp only[zg] at q1
 subst q1
 obtain⟨vs0,g0,_⟩:=p1 _ _ c0
 refine⟨p,rfl,.inl ⟨vs0,.inl g0⟩,?_⟩
 refine zK.go he.mo (r1.ext e1) p1 h1 λ y S2 w2 H2 h2 q2 e2 p2=>?_
 refine zK.go hf.mo ((r1.ext e1).ext e2) p2 h2 λ y3 S3 w3 H3 h3 q3 e3 p3=>?_
 obtain⟨k,Aa,rfl,c1,h⟩:=h3
 simp only[zg] at q2
 subst q2
 obtain⟨vs,g1,g2⟩:=p3 _ _ c1
 refine⟨x_ vs (.inl k),ra.k (k:=Sum.inl k) g1,?_⟩
 rcases yN.val g2 (.inl k) with ⟨n1,n2⟩ | ⟨d',v',n1,n2,n3⟩
 ·rw[n1] at h;rw[n2]
  exact h _ H3 q3 ((e1.trans e2).trans e3) p3
 ·rw[n1] at h;rw[n2]
  exact h _ H3 n3 ((e1.trans e2).trans e3) p3
def ZY (td ty tv:zr):yD:=λ E Y S=>tv Y S λ v S1=>td Y S1 λ x S2=>ty Y S2 λ y S3=>∃ p Aa k,x=.ref p/\y=.int k/\S3 p=some (.z_ Aa)/\Aa.length<sizeLine/\E.nx Y (ups S3 p (.z_ (putD Aa (.inl k) v)))
theorem Ext.dK {H:Hp}{p:Addr}{Aa:List (Key×V)}(h:H p=some (.dK Aa)) (o:HO):Ext H (upd H p o):=
 ⟨λ b ys q=>by rw[yj (sA q h (by intro z;cases z))];exact q,λ b ob u q=>by rw[yj (sA q h (by intro z;cases z))];exact q,λ b u q=>by rw[yj (sA q h (by intro z;cases z))];exact q,λ b u q=>by rw[yj (sA q h (by intro z;cases z))];exact q⟩
def UD {k:Nat}(hr:yq k X.A) (ho:PD X o td) (hi:PD X i ty) (hv:PD X v tv) (hs:swapsWith v (some (.Subscript o i pos')) pos.line X.env=pure false:=by rfl):vq X (.Assign [.Subscript o i pos'] v pos) (ZY td ty tv):=by
 refine⟨λ E E' Y S hE z=>hv.mo Y S _ _ (λ w S1 z=>ho.mo Y S1 _ _ (λ x S2 z=>hi.mo Y S2 _ _ (λ y S3 ⟨p,Aa,k,a,b,c,d,h⟩=>⟨p,Aa,k,a,b,c,d,hE.nx _ _ h⟩) z) z) z,PS.imp (VH (gE hr) ho.pe hi.pe hv.pe hs) λ D B H hu=>?_⟩
 obtain⟨Y,S,r1,r2,z⟩:=hu
 refine zK.go hv.mo r1 r2 z λ w S1 w1 H1 h1 q1 e1 p1=>?_
 refine zK.go ho.mo (r1.ext e1) p1 h1 λ x S2 w2 H2 h2 q2 e2 p2=>?_
 refine zK.go hi.mo ((r1.ext e1).ext e2) p2 h2 λ y S3 w3 H3 h3 q3 e3 p3=>?_
 obtain⟨p,Aa,k,rfl,rfl,c1,c2,h⟩:=h3
 simp only[zg] at q2 q3
 subst q2 q3
 obtain⟨vs,g1,g2⟩:=p3 _ _ c1
 have e4:Ext H3 (upd H3 p (.dK (putK vs (.inl k) w1))):=.dK g1 _
 refine⟨p,_,rfl,l4.k (k:=Sum.inl k) g1 (by rw[<- g2.len];exact c2),?_⟩
 exact h B _ ((((r1.ext e1).ext e2).ext e3).ext e4) (((e1.trans e2).trans e3).trans e4) (p3.ups e4 ⟨_,y6,(yN.put g2 _ (zg.ext (e2.trans e3) w q1)).ext e4⟩)
def OI:y8 X (.builtin "len") (λ xs H Q=>∃ p Aa,xs=[.ref p]/\H p=some (.dK Aa)/\Q (.int Aa.length) H):=by
 intro EF s B H xs us Q I r h
 obtain⟨p,Aa,rfl,e,q⟩:=h
 obtain⟨u,rfl,ru⟩:=vals1 r
 cases ru
 exact Od I (.inl e) λ t s' I'=>⟨.int _,H,I',⟨_,rfl⟩,q⟩
def Z6:xn:=λ ds S Q=>∃ p Aa,ds=[.ref p]/\S p=some (.z_ Aa)/\Q (.int Aa.length) S
def UW {es:List Expr}{tA:yh}{p:Pos}(hm:X.mg "len"=none) (ha:yY X (e::es) tA) (hg:Gl X "len":=by rfl) (he:starEach (e::es) X.env=(false,eval e X.env)::starEach es X.env:=by rfl) (An:(backTo pos (starEach es X.env)).any (·.1)=false:=by rfl):PD X (.Call (.Name "len" p) (e::es) [] pos) (xm Z6 tA):=
 u6 (uS OI hg hm PySem.boot_len ha.pa (by decide) (by decide) he An) (λ _ _ _ _ hq ⟨p,Aa,a,b,h⟩=>⟨p,Aa,a,b,hq _ _ h⟩) (λ xs ds H S Q h0 h2 ⟨p,Aa,a,b,h⟩=>by
  subst a
  obtain⟨x,rfl,h1⟩:=h0.one
  simp only[zg] at h1
  subst h1
  obtain⟨vs,g1,g2⟩:=h2 _ _ b
  refine⟨p,vs,rfl,g1,?_⟩
  rw[<- g2.len]
  exact h _ H (by simp only[zg]) (.refl H) h2) ha.mo
end
end L3
namespace L3
open PySem L2
section
variable {S S':SS}
mutual
theorem Sn.sx (h:Sx S S'):∀ (t:T) {d:D},Sn S t d->Sn S' t d
 | .zm,d,q=>by simpa only [Sn] using q
 | .bl b,d,q=>by simpa only [Sn] using q
 | .int i,d,q=>by simpa only [Sn] using q
 | .str x,d,q=>by simpa only [Sn] using q
 | .tup ts,d,q=>by
  simp only[Sn] at q ⊢
  obtain⟨ds,q1,q2⟩:=q
  exact⟨ds,q1,zi.sx h ts q2⟩
 | .lst ts,d,q=>by
  simp only[Sn] at q ⊢
  obtain⟨ds,q1,q2⟩:=q
  refine⟨ds,?_,zi.sx h ts q2⟩
  rcases q1 with q1 | ⟨a,q1,q3⟩
  ·exact .inl q1
  ·exact .inr ⟨a,q1,h _ _ q3⟩
 | .err _ _ t,d,q=>by
  simp only[Sn] at q ⊢
  obtain⟨x,q1,q2⟩:=q
  exact⟨x,q1,Sn.sx h t q2⟩
 | .yW,d,q=>by
  simp only[Sn] at q ⊢
  obtain⟨a,Aa,q1,q2⟩:=q
  exact⟨a,Aa,q1,h _ _ q2⟩
theorem zi.sx (h:Sx S S'):∀ (ts:List T) {ds:List D},zi S ts ds->zi S' ts ds
 | [],ds,q=>by simpa only [zi] using q
 | t::ts,ds,q=>by
  simp only[zi] at q ⊢
  obtain⟨c,cs,q1,q2,q3⟩:=q
  exact⟨c,cs,q1,Sn.sx h t q2,zi.sx h ts q3⟩
end
def zi.nil:zi S [] []:=by simp only[zi]
def zi.cons {t:T}{ts:List T}{d:D}{ds:List D}(h:Sn S t d) (h':zi S ts ds):zi S (t::ts) (d::ds):=by
 simp only[zi];exact⟨d,ds,rfl,h,h'⟩
theorem zi.append:∀ {ts us:List T}{ds es:List D},zi S ts ds->zi S us es->zi S (ts++us) (ds++es)
 | [],us,ds,es,h,h'=>by simp only[zi] at h;subst h;simpa using h'
 | t::ts,us,ds,es,h,h'=>by
  simp only[zi] at h
  obtain⟨c,cs,rfl,h1,h2⟩:=h
  exact zi.cons h1 (zi.append h2 h')
theorem zi.gO:∀ {ts:List T}{ds:List D}{i:Nat}{t:T},zi S ts ds->ts[i]?=some t->∃ d,ds[i]?=some d/\Sn S t d
 | [],_,i,t,_,e=>by simp at e
 | u::ts,ds,i,t,h,e=>by
  simp only[zi] at h
  obtain⟨c,cs,rfl,h1,h2⟩:=h
  cases i with
  | zero=>simp at e;subst e;exact⟨c,rfl,h1⟩
  | succ i=>
   obtain⟨y,e1,e2⟩:=zi.gO (i:=i) h2 (by simpa using e)
   exact⟨y,by simpa using e1,e2⟩
theorem zi.gQ:∀ {ts:List T}{ds:List D}{i:Nat}{d:D},zi S ts ds->ds[i]?=some d->∃ t,ts[i]?=some t/\Sn S t d
 | [],ds,i,t,h,e=>by simp only[zi] at h;subst h;simp at e
 | u::ts,ds,i,t,h,e=>by
  simp only[zi] at h
  obtain⟨c,cs,rfl,h1,h2⟩:=h
  cases i with
  | zero=>simp at e;subst e;exact⟨u,rfl,h1⟩
  | succ i=>
   obtain⟨y,e1,e2⟩:=zi.gQ (i:=i) h2 (by simpa using e)
   exact⟨y,by simpa using e1,e2⟩
def zi.len {ts:List T}{ds:List D}(h:zi S ts ds):ds.length=ts.length:=(L3.zi.length h).symm
theorem zi.at {ts:List T}{ds:List D}{i:Int}{t:T}(h:zi S ts ds) (e:L2.zI ts i=some t):∃ d,L2.zI ds i=some d/\Sn S t d:=by
 unfold L2.zI at e ⊢
 rw[h.len]
 cases q:L2.wW ts.length i with
 | none=>rw[q] at e;cases e
 | some j=>
  rw[q] at e
  exact h.gO e
theorem zi.cq:∀ {ts:List T}{ds:List D}{t:T}{d:D}(i:Nat),zi S ts ds->Sn S t d->zi S (ts.set i t) (ds.set i d)
 | [],ds,t,d,i,h,_=>by simp only[zi] at h;subst h;simpa using zi.nil
 | u::ts,ds,t,d,0,h,hd=>by
  simp only[zi] at h
  obtain⟨c,cs,rfl,h1,h2⟩:=h
  exact zi.cons hd h2
 | u::ts,ds,t,d,i+1,h,hd=>by
  simp only[zi] at h
  obtain⟨c,cs,rfl,h1,h2⟩:=h
  exact zi.cons h1 (zi.cq i h2 hd)
theorem zi.take':∀ {ts:List T}{ds:List D}(n:Nat),zi S ts ds->zi S (ts.take n) (ds.take n)
 | ts,ds,0,h=>by simpa using zi.nil
 | [],ds,n+1,h=>by simp only[zi] at h;subst h;simpa using zi.nil
 | t::ts,ds,n+1,h=>by
  simp only[zi] at h
  obtain⟨c,cs,rfl,h1,h2⟩:=h
  exact zi.cons h1 (zi.take' n h2)
theorem zi.drop':∀ {ts:List T}{ds:List D}(n:Nat),zi S ts ds->zi S (ts.drop n) (ds.drop n)
 | ts,ds,0,h=>h
 | [],ds,n+1,h=>by simp only[zi] at h;subst h;simpa using zi.nil
 | t::ts,ds,n+1,h=>by
  simp only[zi] at h
  obtain⟨c,cs,rfl,h1,h2⟩:=h
  exact zi.drop' n h2
def zi.empty {ts:List T}{ds:List D}(h:zi S ts ds):ds.isEmpty=ts.isEmpty:=by
 have:=h.len
 cases ds <;> cases ts <;> simp_all
theorem zi.Yr:∀ {bs:List Bool}{ds:List D},zi S (bs.map T.bl) ds->ds=bs.map D.bl
 | [],ds,h=>by simpa only [A6,zi] using h
 | b::bs,ds,h=>by
  rw[Ar] at h
  simp only[zi,Sn] at h
  obtain⟨c,cs,rfl,rfl,h3⟩:=h
  rw[zi.Yr h3];rfl
end
end L3
namespace L5
open PySem L2 L3
noncomputable def zN (S:SS) (Z:Addr->Prop):SS:=open Classical in λ a=>if Z a then none else S a
section
variable {S S':SS}{Z Z':Addr->Prop}{a p:Addr}
def ue (h:¬ Z a):zN S Z a=S a:=if_neg h
def gF (h:Z a):zN S Z a=none:=if_pos h
def uB {o:O}(h:zN S Z a=some o):¬ Z a/\S a=some o:=by
 by_cases z:Z a
 ·rw[gF z] at h;cases h
 ·rw[ue z] at h;exact⟨z,h⟩
def k9 (S:SS) (Z:Addr->Prop):Sx (zN S Z) S:=λ _ _ h=>(uB h).2
def wK (h:Sx S S'):Sx (zN S Z) (zN S' Z):=λ b o q=>by
 obtain⟨q1,q2⟩:=uB q
 rw[ue q1];exact h _ _ q2
def tp (h:∀ a,Z' a->Z a):Sx (zN S Z) (zN S Z'):=λ b o q=>by
 obtain⟨q1,q2⟩:=uB q
 rw[ue (λ z=>q1 (h _ z))];exact q2
def pS (h:Sx S S') (hp:S p=none):Sx (zN S Z) (zN S' λ a=>Z a\/a=p):=λ b o q=>by
 obtain⟨q1,q2⟩:=uB q
 rw[ue]
 ·exact h _ _ q2
 ·rintro (z | z)
  ·exact q1 z
  ·subst z;rw[hp] at q2;cases q2
def QG {o:O}(h:Z p):zN (ups S p o) Z=zN S Z:=by
 funext b
 by_cases z:Z b
 ·rw[gF z,gF z]
 ·rw[ue z,ue z,tR (λ e=>z (by rw[e];exact h))]
end
inductive C where
 | lst (ts:List T) | z_ (Aa:List (Key×T))
noncomputable def yy (S:SS):List (Key×T)->List (Key×D)->Prop
 | [],l=>l=[]
 | (k,t)::r,l=>∃ d m,l=(k,d)::m/\Sn S t d/\yy S r m
theorem yy.sx {S S':SS}(h:Sx S S'):∀ {a:List (Key×T)}{b:List (Key×D)},yy S a b->yy S' a b
 | [],_,q=>q
 | (k,t)::r,_,q=>by
  obtain⟨d,m,q1,q2,q3⟩:=q
  exact⟨d,m,q1,Sn.sx h t q2,yy.sx h q3⟩
noncomputable def tL (S:SS):C->O->Prop
 | .lst ts,.lst ds=>zi S ts ds
 | .z_ a,.z_ b=>yy S a b
 | _,_=>False
theorem tL.sx {S S':SS}(h:Sx S S'):∀ {c:C}{o:O},tL S c o->tL S' c o
 | .lst ts,.lst ds,q=>zi.sx h ts q
 | .z_ a,.z_ b,q=>yy.sx h q
inductive W where
 | im (t:T) | own (c:C)
abbrev Ev:=List (Option W)
structure ER (S:SS) (Z:Addr->Prop) (Y:ye) (J:Ev):Prop where
 zd:∀ a,Z a->S a≠none
 im:∀ (i:Nat) t,J[i]?=some (some (.im t))->∃ d,Y[i]?=some (some d)/\Sn (zN S Z) t d
 ow:∀ (i:Nat) c,J[i]?=some (some (.own c))->∃ p o,Y[i]?=some (some (.ref p))/\S p=some o/\tL (zN S Z) c o/\Z p
def Vw (S:SS) (Z:Addr->Prop) (y:T) (d:D):Prop:=Sn (zN S Z) y d\/∃ ts p ds,y=.lst ts/\d=.ref p/\S p=some (.lst ds)/\zi (zN S Z) ts ds/\Z p
abbrev Rk:=SS->SS->(Addr->Prop)->T->D->Prop
def Y8:Rk:=λ _ S' Z y d=>Vw S' Z y d
def xB:Rk:=λ _ S' Z y d=>Sn (zN S' Z) y d
def zF:Rk:=λ S S' Z y d=>Sn (zN S' Z) y d/\∀ ts,y=.lst ts->∃ p ds,d=.ref p/\S p=none/\S' p=some (.lst ds)/\zi (zN S' λ a=>Z a\/a=p) ts ds
class Cl (R:Rk):Prop where
 cl:∀ {S S1 S':SS}{Z:Addr->Prop}{y:T}{d:D},Sx S S1->R S1 S' Z y d->R S S' Z y d
 of:∀ {S S':SS}{Z:Addr->Prop}{y:T}{d:D},(∀ ts,y≠.lst ts)->Sn (zN S' Z) y d->R S S' Z y d
instance:Cl Y8:=⟨λ _ h=>h,λ _ h=>.inl h⟩
instance:Cl xB:=⟨λ _ h=>h,λ _ h=>h⟩
instance:Cl zF:=⟨λ s h=>⟨h.1,λ ts e=>by
 obtain⟨p,ds,h1,h2,h3⟩:=h.2 ts e
 exact⟨p,ds,h1,s.none h2,h3⟩⟩,λ n h=>⟨h,λ ts e=>absurd e (n ts)⟩⟩
section
variable {S S':SS}{Z:Addr->Prop}{Y:ye}{J:Ev}{y:T}{d:D}
def ER.grow (h:ER S Z Y J) (s:Sx S S'):ER S' Z Y J:=
 ⟨λ a z q=>h.zd a z (s.none q),λ i t e=>by
  obtain⟨d,h1,h2⟩:=h.im i t e
  exact⟨d,h1,Sn.sx (wK s) t h2⟩,λ i ts e=>by
  obtain⟨p,ds,h1,h2,h3,h4⟩:=h.ow i ts e
  exact⟨p,ds,h1,s _ _ h2,tL.sx (wK s) h3,h4⟩⟩
def Vw.grow (h:Vw S Z y d) (s:Sx S S'):Vw S' Z y d:=by
 rcases h with h | ⟨ts,p,ds,h1,h2,h3,h4,h5⟩
 ·exact .inl (Sn.sx (wK s) y h)
 ·exact .inr ⟨ts,p,ds,h1,h2,s _ _ h3,zi.sx (wK s) ts h4,h5⟩
def Vw.sn (h:Vw S Z y d):Sn S y d:=by
 rcases h with h | ⟨ts,p,ds,rfl,rfl,h3,h4,_⟩
 ·exact Sn.sx (k9 S Z) y h
 ·simp only[Sn]
  exact⟨ds,.inr ⟨p,rfl,h3⟩,zi.sx (k9 S Z) ts h4⟩
theorem Vw.zm (h:Vw S Z .zm d):d=.zm:=by
 rcases h with h | ⟨_,_,_,h,_⟩
 ·simpa only [Sn] using h
 ·cases h
theorem Vw.bl {b:Bool}(h:Vw S Z (.bl b) d):d=.bl b:=by
 rcases h with h | ⟨_,_,_,h,_⟩
 ·simpa only [Sn] using h
 ·cases h
theorem Vw.int {b:Int}(h:Vw S Z (.int b) d):d=.int b:=by
 rcases h with h | ⟨_,_,_,h,_⟩
 ·simpa only [Sn] using h
 ·cases h
theorem Vw.str {b:Str}(h:Vw S Z (.str b) d):d=.str b:=by
 rcases h with h | ⟨_,_,_,h,_⟩
 ·simpa only [Sn] using h
 ·cases h
theorem Vw.tup {ts:List T}(h:Vw S Z (.tup ts) d):∃ ds,d=.tup ds/\zi (zN S Z) ts ds:=by
 rcases h with h | ⟨_,_,_,h,_⟩
 ·simpa only [Sn] using h
 ·cases h
theorem Vw.lst {ts:List T}(h:Vw S Z (.lst ts) d):∃ ds,(d=.xr ds\/∃ a,d=.ref a/\S a=some (.lst ds))/\zi (zN S Z) ts ds:=by
 rcases h with h | ⟨us,p,ds,h1,h2,h3,h4,_⟩
 ·simp only[Sn] at h
  obtain⟨ds,h1,h2⟩:=h
  refine⟨ds,?_,h2⟩
  rcases h1 with h1 | ⟨a,h1,h3⟩
  ·exact .inl h1.1
  ·exact .inr ⟨a,h1,(uB h3).2⟩
 ·cases h1
  exact⟨ds,.inr ⟨p,h2,h3⟩,h4⟩
noncomputable def xR:T->Option (List T)
 | .tup ts=>some ts
 | .lst ts=>some ts
 | _=>none
@[simp] theorem zab (ts:List T):xR (.tup ts)=some ts:=rfl
@[simp] theorem zac (ts:List T):xR (.lst ts)=some ts:=rfl
def Vw.seq {ts:List T}(h:Vw S Z y d) (e:xR y=some ts):∃ ds,zM d S=some ds/\zi (zN S Z) ts ds:=by
 cases y with
 | tup us=>cases e;obtain⟨ds,rfl,h2⟩:=h.tup;exact⟨ds,rfl,h2⟩
 | lst us=>
  cases e
  obtain⟨ds,h1 | ⟨a,rfl,h1⟩,h2⟩:=h.lst
  ·subst h1;exact⟨ds,rfl,h2⟩
  ·exact⟨ds,by unfold zM;dsimp only;rw[h1],h2⟩
 | _=>cases e
theorem Vw.yW (h:Vw S Z .yW d):∃ a Aa,(d=.ref a/\Aa=[])/\S a=some (.z_ Aa):=by
 rcases h with h | ⟨_,_,_,h,_⟩
 ·simp only[Sn] at h
  obtain⟨a,Aa,h1,h2⟩:=h
  exact⟨a,Aa,h1,(uB h2).2⟩
 ·cases h
def jK:Sn S .zm .zm:=by simp only[Sn]
def ve {b:Bool}:Sn S (.bl b) (.bl b):=by simp only[Sn]
def wc {i:Int}:Sn S (.int i) (.int i):=by simp only[Sn]
def dZ {x:Str}:Sn S (.str x) (.str x):=by simp only[Sn]
def qf {ts:List T}{ds:List D}(h:zi S ts ds):Sn S (.tup ts) (.tup ds):=by simp only[Sn];exact⟨ds,rfl,h⟩
def tZ {ts:List T}{ds:List D}{p:Addr}(hz:∀ a,Z a->S a≠none) (hp:S p=none) (h:zi (zN S Z) ts ds):zF S (ups S p (.lst ds)) Z (.lst ts) (.ref p):=by
 have nz:¬ Z p:=λ z=>hz p z hp
 have s:Sx S (ups S p (.lst ds)):=.new hp _
 refine⟨?_,λ us e=>?_⟩
 ·simp only[Sn]
  exact⟨ds,.inr ⟨p,rfl,by rw[ue nz,rf]⟩,zi.sx (wK s) ts h⟩
 ·cases e
  exact⟨p,ds,rfl,hp,rf,zi.sx (pS s hp) ts h⟩
end
def xo (R:Rk) (f:Ev->Option T) (t:zr):Prop:=∀ S Z Y J y Q,ER S Z Y J->f J=some y->(∀ d S',Sx S S'->R S S' Z y d->Q d S')->t Y S Q
abbrev vt:=xo xB
abbrev yv:=xo Y8
abbrev xp:=xo zF
def xo.imp {R R':Rk}{f:Ev->Option T}{t:zr}(h:xo R f t) (i:∀ S S' Z y d,R S S' Z y d->R' S S' Z y d):xo R' f t:=λ S Z Y J y Q hE e hq=>h S Z Y J y Q hE e λ d S' s r=>hq d S' s (i _ _ _ _ _ r)
def xo.er {f:Ev->Option T}{t:zr}(h:vt f t):yv f t:=h.imp λ _ _ _ _ _ r=>.inl r
def xo.fe {f:Ev->Option T}{t:zr}(h:xp f t):vt f t:=h.imp λ _ _ _ _ _ r=>r.1
def xo.fr {f:Ev->Option T}{t:zr}(h:xp f t):yv f t:=h.fe.er
@[simp] noncomputable def zq (i:Nat):Ev->Option T:=fun J=>match J[i]? with
 | some (some (.im t))=>some t
 | _=>none
@[simp] noncomputable def zf (i:Nat):Ev->Option T:=fun J=>match J[i]? with
 | some (some (.im t))=>some t
 | some (some (.own (.lst ts)))=>some (.lst ts)
 | _=>none
@[simp] noncomputable def cS (t:T):Ev->Option T:=λ _=>some t
@[simp] abbrev cI (i:Int):Ev->Option T:=cS (.int i)
def xx (i:Nat):vt (zq i) (y4 i):=λ S Z Y J y Q hE e hq=>by
 unfold zq at e
 split at e
 ·rename_i t h
  cases e
  obtain⟨d,h1,h2⟩:=hE.im i _ h
  unfold y4;rw[h1]
  exact hq d S (.refl S) h2
 ·cases e
def yb (i:Nat):yv (zf i) (y4 i):=λ S Z Y J y Q hE e hq=>by
 unfold zf at e
 split at e
 ·rename_i t h
  cases e
  obtain⟨d,h1,h2⟩:=hE.im i _ h
  unfold y4;rw[h1]
  exact hq d S (.refl S) (.inl h2)
 ·rename_i ts h
  cases e
  obtain⟨p,o,h1,h2,h3,h4⟩:=hE.ow i _ h
  unfold y4;rw[h1]
  cases o with
  | z_ _=>exact h3.elim
  | lst ds=>exact hq _ S (.refl S) (.inr ⟨ts,p,ds,rfl,rfl,h2,h3,h4⟩)
 ·cases e
def yc (i:Int):xp (cS (.int i)) (dC (.int i)):=λ S Z Y J y Q hE e hq=>by cases e;exact hq _ S (.refl S) (Cl.of (λ _=>nofun) wc)
def ki (i:Bool):xp (cS (.bl i)) (dC (.bl i)):=λ S Z Y J y Q hE e hq=>by cases e;exact hq _ S (.refl S) (Cl.of (λ _=>nofun) ve)
def Sj (i:Str):xp (cS (.str i)) (dC (.str i)):=λ S Z Y J y Q hE e hq=>by cases e;exact hq _ S (.refl S) (Cl.of (λ _=>nofun) dZ)
def su:xp (cS .zm) (dC .zm):=λ S Z Y J y Q hE e hq=>by cases e;exact hq _ S (.refl S) (Cl.of (λ _=>nofun) jK)
@[simp] noncomputable def zb (f:T->T->Option T) (fa fb:Ev->Option T):Ev->Option T:=fun J=>(fa J).bind λ x=>(fb J).bind λ y=>f x y
def Good2 (R:Rk) (f:T->T->Option T) (g:yJ):Prop:=∀ S Z x y z d e Q,(∀ a,Z a->S a≠none)->Vw S Z x d->Vw S Z y e->f x y=some z->(∀ c S',Sx S S'->R S S' Z z c->Q c S')->g d e S Q
def zX {R:Rk} [Cl R] {f:T->T->Option T}{g:yJ}{fa fb:Ev->Option T}{ta tb:zr}(hg:Good2 R f g) (ha:yv fa ta) (hb:yv fb tb):xo R (zb f fa fb) (yn g ta tb):=λ S Z Y J y Q hE e hq=>by
 unfold zb at e
 obtain⟨x,e1,e⟩:=Aj.mp e
 obtain⟨z,e2,e⟩:=Aj.mp e
 refine ha S Z Y J x _ hE e1 λ d S1 s1 r1=>?_
 refine hb S1 Z Y J z _ (hE.grow s1) e2 λ d2 S2 s2 r2=>?_
 exact hg S2 Z x z y d d2 Q ((hE.grow (s1.trans s2)).zd) (Vw.grow r1 s2) r2 e λ c S' s r=>hq c S' ((s1.trans s2).trans s) (Cl.cl (s1.trans s2) r)
@[simp] noncomputable def i2 (g:Int->Int->T):T->T->Option T
 | .int i,.int j=>some (g i j)
 | _,_=>none
instance {i j:Int}:Decidable (vU i j):=by unfold vU;infer_instance
instance {i j:Int}:Decidable (xQ i j):=by unfold xQ;infer_instance
instance {i j:Int}:Decidable (rb i j):=by unfold rb;infer_instance
@[simp] noncomputable def qA (C:Int->Int->Prop) [∀ i j,Decidable (C i j)] (g:Int->Int->T):T->T->Option T
 | .int i,.int j=>if C i j then some (g i j) else none
 | _,_=>none
def gL {g:Int->Int->T}{g':Int->Int->D}(h:∀ i j S,Sn S (g i j) (g' i j)) (n:∀ i j ts,g i j≠.lst ts):Good2 zF (i2 g) (xK g'):=λ S Z x y z d e Q hz hx hy ef hq=>by
 unfold i2 at ef
 split at ef
 ·cases ef
  cases hx.int;cases hy.int
  exact hq _ S (.refl S) (Cl.of (n _ _) (h _ _ _))
 ·cases ef
def nR {C:Int->Int->Prop} [∀ i j,Decidable (C i j)] {g:Int->Int->T}{g':Int->Int->D}(h:∀ i j S,Sn S (g i j) (g' i j)) (n:∀ i j ts,g i j≠.lst ts):Good2 zF (qA C g) (fI C g'):=λ S Z x y z d e Q hz hx hy ef hq=>by
 unfold qA at ef
 split at ef
 ·split at ef
  ·rename_i hh
   cases ef
   cases hx.int;cases hy.int
   exact⟨hh,hq _ S (.refl S) (Cl.of (n _ _) (h _ _ _))⟩
  ·cases ef
 ·cases ef
@[simp] def rm:T->T->Option T:=i2 λ i j=>.int (i-j)
@[simp] def yg:T->T->Option T:=qA (λ _ j=>0<j) λ i j=>.int (i%j)
@[simp] def wq:T->T->Option T:=qA xQ λ i j=>.int (i/j)
@[simp] def xk:T->T->Option T:=qA rb λ i j=>.int (i ^ j.toNat)
@[simp] def pE:T->T->Option T:=i2 λ i j=>.bl (decide (i<=j))
@[simp] def kC:T->T->Option T:=i2 λ i j=>.bl (decide (j<=i))
section
variable {fa fb:Ev->Option T}{ta tb:zr}
def Si (ha:yv fa ta) (hb:yv fb tb):xp (zb rm fa fb) (yn (xK λ i j=>.int (i-j)) ta tb):=zX (gL (λ _ _ _=>wc) λ _ _ _=>nofun) ha hb
def qv (ha:yv fa ta) (hb:yv fb tb):xp (zb yg fa fb) (yn (fI (λ _ j=>0<j) λ i j=>.int (i%j)) ta tb):=zX (nR (λ _ _ _=>wc) λ _ _ _=>nofun) ha hb
def S_ (ha:yv fa ta) (hb:yv fb tb):xp (zb wq fa fb) (yn (fI xQ λ i j=>.int (i/j)) ta tb):=zX (nR (λ _ _ _=>wc) λ _ _ _=>nofun) ha hb
def rB (ha:yv fa ta) (hb:yv fb tb):xp (zb xk fa fb) (yn (fI rb λ i j=>.int (i ^ j.toNat)) ta tb):=zX (nR (λ _ _ _=>wc) λ _ _ _=>nofun) ha hb
end
def yt (neg:Bool):T->T->Option T:=λ x y=>if dep x<=60/\dep y<=60 then some (.bl (cond neg (!eqT x y) (eqT x y))) else none
def pP (neg:Bool):T->T->Option T:=λ x y=>match xR y with
 | some ts=>if dep x<=60/\xM ts<=60 then some (.bl (cond neg (!(ts.any λ t=>eqT t x)) (ts.any λ t=>eqT t x))) else none
 | none=>none
def Zm {neg:Bool}:Good2 zF (yt neg) (vm neg):=λ S Z x y z d e Q hz hx hy ef hq=>by
 unfold yt at ef
 split at ef
 ·rename_i h
  cases ef
  exact⟨x,y,hx.sn,hy.sn,h.1,h.2,hq _ S (.refl S) (Cl.of (λ _=>nofun) ve)⟩
 ·cases ef
def QY {neg:Bool}:Good2 zF (pP neg) (rN neg):=λ S Z x y z d e Q hz hx hy ef hq=>by
 unfold pP at ef
 split at ef
 ·rename_i ts ht
  split at ef
  ·rename_i h
   cases ef
   obtain⟨ds,h1,h2⟩:=hy.seq ht
   exact⟨x,ts,ds,hx.sn,h1,zi.sx (k9 S Z) ts h2,h.1,h.2,hq _ S (.refl S) (Cl.of (λ _=>nofun) ve)⟩
  ·cases ef
 ·cases ef
@[simp] def zp:T->T->Option T:=λ x y=>match xR x,y with
 | some ts,.int i=>L2.zI ts i
 | _,_=>none
def xV:Good2 xB zp wu:=λ S Z x y z d e Q hz hx hy ef hq=>by
 unfold zp at ef
 split at ef
 ·rename_i ts i ht
  cases hy.int
  obtain⟨ds,h1,h2⟩:=hx.seq ht
  obtain⟨c,h3,h4⟩:=h2.at ef
  unfold zM at h1
  split at h1
  ·cases h1;exact Pu h3 (hq c S (.refl S) h4)
  ·cases h1;exact Pw h3 (hq c S (.refl S) h4)
  ·split at h1
   ·rename_i q
    cases h1
    exact Px q h3 (hq c S (.refl S) h4)
   ·cases h1
  ·cases h1
 ·cases ef
@[simp] noncomputable def yi:T->T->Option T
 | .int i,.int j=>some (.int (i+j))
 | .str i,.str j=>if i.length+j.length<=sizeLine then some (.str (i++j)) else none
 | .lst ts,.lst us=>if ts.length+us.length<=sizeLine then some (.lst (ts++us)) else none
 | .tup ts,.tup us=>if ts.length+us.length<=sizeLine then some (.tup (ts++us)) else none
 | _,_=>none
def ui:yJ:=λ x y S Q=>match x,y with
 | .int i,.int j=>Q (.int (i+j)) S
 | .str i,.str j=>i.length+j.length<=sizeLine/\Q (.str (i++j)) S
 | .tup ds,.tup es=>ds.length+es.length<=sizeLine/\Q (.tup (ds++es)) S
 | .zm,_=>False
 | .bl _,_=>False
 | .int _,_=>False
 | .str _,_=>False
 | .tup _,_=>False
 | x,y=>match zM x S,zM y S with
  | some ds,some es=>(∀ ts,y≠.tup ts)/\ds.length+es.length<=sizeLine/\∀ r,S r=none->Q (.ref r) (ups S r (.lst (ds++es)))
  | _,_=>False
def good_add:Good2 zF yi ui:=λ S Z x y z d e Q hz hx hy ef hq=>by
 unfold yi at ef
 split at ef
 ·cases ef;cases hx.int;cases hy.int
  exact hq _ S (.refl S) (Cl.of (λ _=>nofun) wc)
 ·split at ef
  ·rename_i h
   cases ef;cases hx.str;cases hy.str
   exact⟨h,hq _ S (.refl S) (Cl.of (λ _=>nofun) dZ)⟩
  ·cases ef
 ·split at ef
  ·rename_i h
   cases ef
   obtain⟨ds,h1,h2⟩:=hx.seq rfl
   obtain⟨es,h3,h4⟩:=hy.seq rfl
   have nt:∀ ts,e≠.tup ts:=by
    obtain⟨_,q | ⟨_,q,_⟩,_⟩:=hy.lst <;> subst q <;> exact λ _=>nofun
   have key:(∀ ts,e≠.tup ts)/\ds.length+es.length<=sizeLine/\∀ r,S r=none->Q (.ref r) (ups S r (.lst (ds++es))):=
    ⟨nt,by rw[h2.len,h4.len];exact h,λ r hr=>hq _ _ (.new hr _) (tZ hz hr (h2.append h4))⟩
   obtain⟨_,q | ⟨a,q,_⟩,_⟩:=hx.lst
   ·subst q;unfold ui;dsimp only;rw[h1,h3];exact key
   ·subst q;unfold ui;dsimp only;rw[h1,h3];exact key
  ·cases ef
 ·split at ef
  ·rename_i h
   cases ef
   obtain⟨ds,rfl,h2⟩:=hx.tup
   obtain⟨es,rfl,h4⟩:=hy.tup
   exact⟨by rw[h2.len,h4.len];exact h,hq _ S (.refl S) (Cl.of (λ _=>nofun) (qf (h2.append h4)))⟩
  ·cases ef
 ·cases ef
def vd (f:Ev->Option Bool) (t:y7):Prop:=∀ S Z Y J y Q,ER S Z Y J->f J=some y->(∀ S',Sx S S'->Q y S')->t Y S Q
@[simp] noncomputable def yB (f:Ev->Option T):Ev->Option Bool:=fun J=>(f J).bind λ x=>match x with
 | .bl b=>some b
 | _=>none
@[simp] noncomputable def rh:T->Option Bool
 | .zm=>some false
 | .bl b=>some b
 | .int i=>some (i != 0)
 | .str x=>if x.length<=sizeLine then some ((x.length:Int) != 0) else none
 | .tup ts=>some (!ts.isEmpty)
 | .lst ts=>some (!ts.isEmpty)
 | .yW=>none
 | .err _ _ _=>none
@[simp] def y_ (f:Ev->Option T):Ev->Option Bool:=fun J=>(f J).bind rh
@[simp] noncomputable def fj (f g:Ev->Option Bool):Ev->Option Bool:=fun J=>(f J).bind λ b=>if b=true then g J else some false
@[simp] noncomputable def qB (f g:Ev->Option Bool):Ev->Option Bool:=fun J=>(f J).bind λ b=>if b=true then some true else g J
@[simp] noncomputable def tB (f:Ev->Option Bool):Ev->Option Bool:=fun J=>(f J).map (!·)
section
variable {f g:Ev->Option T}{t u:zr}{fb gb:Ev->Option Bool}{tb ub:y7}{R:Rk}
def sr (h:yv f t):vd (yB f) (uk t):=λ S Z Y J y Q hE e hq=>by
 obtain⟨x,e1,e2⟩:=Aj.mp e
 refine h S Z Y J x _ hE e1 λ d S1 s1 r1=>?_
 split at e2
 ·cases e2
  cases Vw.bl r1
  exact hq S1 s1
 ·cases e2
def hG (h:yv f t):vd (y_ f) (ZH t):=λ S Z Y J y Q hE e hq=>by
 obtain⟨x,e1,e2⟩:=Aj.mp e
 refine h S Z Y J x _ hE e1 λ d S1 s1 r1=>?_
 cases x with
 | zm=>cases Vw.zm r1;cases e2;exact hq S1 s1
 | bl b=>cases Vw.bl r1;cases e2;exact hq S1 s1
 | int b=>cases Vw.int r1;cases e2;exact hq S1 s1
 | str b=>
  cases Vw.str r1
  simp only[rh] at e2
  split at e2
  ·rename_i hh
   cases e2;exact⟨hh,hq S1 s1⟩
  ·cases e2
 | tup ts=>
  obtain⟨ds,rfl,h2⟩:=Vw.tup r1
  cases e2
  show Q (!ds.isEmpty) S1
  rw[h2.empty];exact hq S1 s1
 | lst ts=>
  obtain⟨ds,rfl | ⟨a,rfl,h1⟩,h2⟩:=Vw.lst r1
  ·cases e2
   show Q (!ds.isEmpty) S1
   rw[h2.empty];exact hq S1 s1
  ·cases e2
   refine XJ h1 ?_
   rw[h2.empty];exact hq S1 s1
 | _=>cases e2
def bN (h:vd fb tb) (h':vd gb ub):vd (fj fb gb) (n_ tb ub):=λ S Z Y J y Q hE e hq=>by
 obtain⟨b,e1,e2⟩:=Aj.mp e
 refine h S Z Y J b _ hE e1 λ S1 s1=>?_
 split at e2
 ·rename_i hb;rw[if_pos hb]
  exact h' S1 Z Y J y _ (hE.grow s1) e2 λ S2 s2=>hq S2 (s1.trans s2)
 ·rename_i hb;rw[if_neg hb];cases e2;exact hq S1 s1
def kh (h:vd fb tb) (h':vd gb ub):vd (qB fb gb) (nY tb ub):=λ S Z Y J y Q hE e hq=>by
 obtain⟨b,e1,e2⟩:=Aj.mp e
 refine h S Z Y J b _ hE e1 λ S1 s1=>?_
 split at e2
 ·rename_i hb;rw[if_pos hb];cases e2;exact hq S1 s1
 ·rename_i hb;rw[if_neg hb]
  exact h' S1 Z Y J y _ (hE.grow s1) e2 λ S2 s2=>hq S2 (s1.trans s2)
def bM (h:vd fb tb):vd (tB fb) (nZ tb):=λ S Z Y J y Q hE e hq=>by
 unfold tB at e
 obtain⟨b,e1,rfl⟩:=AA.mp e
 exact h S Z Y J b _ hE e1 λ S1 s1=>hq S1 s1
@[simp] noncomputable def sO (f g:Ev->Option T):Ev->Option T:=fun J=>(f J).bind λ x=>match x with
 | .bl k=>if k=true then g J else some (.bl false)
 | _=>none
@[simp] noncomputable def hZ (f:Ev->Option T):Ev->Option T:=fun J=>(f J).bind λ x=>match x with
 | .bl k=>some (.bl (!k))
 | _=>none
@[simp] noncomputable def Zi (c:Ev->Option Bool) (f g:Ev->Option T):Ev->Option T:=fun J=>(c J).bind λ b=>if b=true then f J else g J
def bR [Cl R] (h:yv f t) (h':xo R g u):xo R (sO f g) (ml t u):=λ S Z Y J y Q hE e hq=>by
 obtain⟨x,e1,e2⟩:=Aj.mp e
 refine h S Z Y J x _ hE e1 λ d S1 s1 r1=>?_
 split at e2
 ·cases Vw.bl r1
  split at e2
  ·rename_i hb
   dsimp only;rw[if_pos hb]
   exact h' S1 Z Y J y _ (hE.grow s1) e2 λ d S2 s2 r2=>hq d S2 (s1.trans s2) (Cl.cl s1 r2)
  ·rename_i hb
   dsimp only;rw[if_neg hb]
   cases e2
   exact hq _ S1 s1 (Cl.of (λ _=>nofun) ve)
 ·cases e2
def Sv [Cl R] (h:yv f t):xo R (hZ f) (mh t):=λ S Z Y J y Q hE e hq=>by
 obtain⟨x,e1,e2⟩:=Aj.mp e
 refine h S Z Y J x _ hE e1 λ d S1 s1 r1=>?_
 split at e2
 ·cases Vw.bl r1
  cases e2
  exact hq _ S1 s1 (Cl.of (λ _=>nofun) ve)
 ·cases e2
def SX [Cl R] (hc:vd fb tb) (h:xo R f t) (h':xo R g u):xo R (Zi fb f g) (mi tb t u):=λ S Z Y J y Q hE e hq=>by
 obtain⟨b,e1,e2⟩:=Aj.mp e
 refine hc S Z Y J b _ hE e1 λ S1 s1=>?_
 split at e2
 ·rename_i hb;rw[if_pos hb]
  exact h S1 Z Y J y _ (hE.grow s1) e2 λ d S2 s2 r2=>hq d S2 (s1.trans s2) (Cl.cl s1 r2)
 ·rename_i hb;rw[if_neg hb]
  exact h' S1 Z Y J y _ (hE.grow s1) e2 λ d S2 s2 r2=>hq d S2 (s1.trans s2) (Cl.cl s1 r2)
end
noncomputable def oq (S:SS) (Z:Addr->Prop):List T->List D->Prop
 | [],ds=>ds=[]
 | t::ts,ds=>∃ c cs,ds=c::cs/\Vw S Z t c/\oq S Z ts cs
def rZ (f:Ev->Option (List T)) (t:yh):Prop:=∀ S Z Y J ys Q,ER S Z Y J->f J=some ys->(∀ ds S',Sx S S'->oq S' Z ys ds->Q ds S')->t Y S Q
def ou (f:Ev->Option (List T)) (t:yh):Prop:=∀ S Z Y J ys Q,ER S Z Y J->f J=some ys->(∀ ds S',Sx S S'->zi (zN S' Z) ys ds->Q ds S')->t Y S Q
@[simp] noncomputable def zk:Ev->Option (List T):=λ _=>some []
@[simp] noncomputable def zc (f:Ev->Option T) (g:Ev->Option (List T)):Ev->Option (List T):=fun J=>(f J).bind λ x=>(g J).bind λ xs=>some (x::xs)
section
variable {f:Ev->Option T}{g:Ev->Option (List T)}{t:zr}{u:yh}
def ke:rZ zk kL:=λ S Z Y J y Q hE e hq=>by cases e;exact hq [] S (.refl S) rfl
def uV:ou zk kL:=λ S Z Y J y Q hE e hq=>by cases e;exact hq [] S (.refl S) .nil
def kf (h:yv f t) (h':rZ g u):rZ (zc f g) (qC t u):=λ S Z Y J y Q hE e hq=>by
 obtain⟨x,e1,e0⟩:=Aj.mp e
 obtain⟨xs,e2,e3⟩:=Aj.mp e0
 cases e3
 refine h S Z Y J x _ hE e1 λ d S1 s1 r1=>?_
 refine h' S1 Z Y J xs _ (hE.grow s1) e2 λ ds S2 s2 r2=>?_
 exact hq _ S2 (s1.trans s2) ⟨d,ds,rfl,Vw.grow r1 s2,r2⟩
def xt (h:vt f t) (h':ou g u):ou (zc f g) (qC t u):=λ S Z Y J y Q hE e hq=>by
 obtain⟨x,e1,e0⟩:=Aj.mp e
 obtain⟨xs,e2,e3⟩:=Aj.mp e0
 cases e3
 refine h S Z Y J x _ hE e1 λ d S1 s1 r1=>?_
 refine h' S1 Z Y J xs _ (hE.grow s1) e2 λ ds S2 s2 r2=>?_
 exact hq _ S2 (s1.trans s2) (.cons (Sn.sx (wK s2) x r1) r2)
@[simp] noncomputable def tupS (g:Ev->Option (List T)):Ev->Option T:=fun J=>(g J).bind λ xs=>if xs.length<=sizeLine then some (.tup xs) else none
@[simp] noncomputable def wU (g:Ev->Option (List T)):Ev->Option T:=fun J=>(g J).bind λ xs=>if xs.length<=sizeLine then some (.lst xs) else none
def kg (h:ou g u):xp (tupS g) (ZO u):=λ S Z Y J y Q hE e hq=>by
 obtain⟨xs,e1,e2⟩:=Aj.mp e
 split at e2
 ·rename_i hl
  cases e2
  refine h S Z Y J xs _ hE e1 λ ds S1 s1 r1=>⟨by rw[r1.len];exact hl,hq _ S1 s1 (Cl.of (λ _=>nofun) (qf r1))⟩
 ·cases e2
def bL (h:ou g u):xp (wU g) (ZU u):=λ S Z Y J y Q hE e hq=>by
 obtain⟨xs,e1,e2⟩:=Aj.mp e
 split at e2
 ·rename_i hl
  cases e2
  refine h S Z Y J xs _ hE e1 λ ds S1 s1 r1=>⟨by rw[r1.len];exact hl,λ p hp=>hq _ _ (s1.trans (.new hp _)) (Cl.cl s1 (tZ (hE.grow s1).zd hp r1))⟩
 ·cases e2
end
@[simp] noncomputable def zu (F:List T->Option T) (g:Ev->Option (List T)):Ev->Option T:=fun J=>(g J).bind F
def vx (R:Rk) (F:List T->Option T) (f:xn):Prop:=∀ S Z ys z ds Q,(∀ a,Z a->S a≠none)->oq S Z ys ds->F ys=some z->(∀ c S',Sx S S'->R S S' Z z c->Q c S')->f ds S Q
def bQ {R:Rk} [Cl R] {F:List T->Option T}{f:xn}{g:Ev->Option (List T)}{u:yh}(hf:vx R F f) (h:rZ g u):xo R (zu F g) (xm f u):=λ S Z Y J y Q hE e hq=>by
 obtain⟨xs,e1,e2⟩:=Aj.mp e
 refine h S Z Y J xs _ hE e1 λ ds S1 s1 r1=>?_
 exact hf S1 Z xs y ds Q (hE.grow s1).zd r1 e2 λ c S' s r=>hq c S' (s1.trans s) (Cl.cl s1 r)
@[simp] noncomputable def xH:List T->Option T
 | [.str z]=>if z.length<=sizeLine then some (.int z.length) else none
 | [y]=>(xR y).map λ ts=>.int ts.length
 | _=>none
def vz {S:SS}{Z:Addr->Prop}{y:T}{ds:List D}(h:oq S Z [y] ds):∃ d,ds=[d]/\Vw S Z y d:=by
 obtain⟨c,cs,rfl,h1,h2⟩:=h
 cases h2
 exact⟨c,rfl,h1⟩
def dm {S:SS}{Z:Addr->Prop}{y z:T}{ds:List D}(h:oq S Z [y,z] ds):∃ d e,ds=[d,e]/\Vw S Z y d/\Vw S Z z e:=by
 obtain⟨c,cs,rfl,h1,c2,cs2,rfl,h2,h3⟩:=h
 cases h3
 exact⟨c,c2,rfl,h1,h2⟩
def QX:vx zF xH uh:=λ S Z ys z ds Q hz hv e hq=>by
 unfold xH at e
 split at e
 ·obtain⟨d,rfl,h1⟩:=vz hv
  split at e
  ·rename_i hl
   cases e
   cases h1.str
   exact⟨hl,hq _ S (.refl S) (Cl.of (λ _=>nofun) wc)⟩
  ·cases e
 ·obtain⟨d,rfl,h1⟩:=vz hv
  obtain⟨ts,e1,rfl⟩:=AA.mp e
  obtain⟨es,h2,h3⟩:=h1.seq e1
  refine Pt h2 ?_
  rw[h3.len]
  exact hq _ S (.refl S) (Cl.of (λ _=>nofun) wc)
 ·cases e
@[simp] noncomputable def listS:List T->Option T
 | [y]=>(xR y).map .lst
 | _=>none
def QW:vx zF listS ug:=λ S Z ys z ds Q hz hv e hq=>by
 unfold listS at e
 split at e
 ·obtain⟨d,rfl,h1⟩:=vz hv
  obtain⟨ts,e1,rfl⟩:=AA.mp e
  obtain⟨es,h2,h3⟩:=h1.seq e1
  exact Pq h2 λ p hp=>hq _ _ (.new hp _) (tZ hz hp h3)
 ·cases e
@[simp] noncomputable def qV:List T->Option T
 | [y]=>(xR y).map .tup
 | _=>none
def QN:vx zF qV uf:=λ S Z ys z ds Q hz hv e hq=>by
 unfold qV at e
 split at e
 ·rename_i y
  obtain⟨d,rfl,h1⟩:=vz hv
  obtain⟨ts,e1,rfl⟩:=AA.mp e
  obtain⟨es,h2,h3⟩:=h1.seq e1
  have k:Q (.tup es) S:=hq _ S (.refl S) (Cl.of (λ _=>nofun) (qf h3))
  unfold zM at h2
  split at h2
  ·cases h2;exact k
  ·cases h2;exact k
  ·split at h2
   ·rename_i q
    cases h2;exact Pp q k
   ·cases h2
  ·cases h2
 ·cases e
@[simp] noncomputable def pQ (g:Int->Int->Int):List T->Option T
 | [.int i,.int j]=>some (.int (g i j))
 | _=>none
def Zl {g:Int->Int->Int}:vx zF (pQ g) (vL λ i j=>.int (g i j)):=λ S Z ys z ds Q hz hv e hq=>by
 unfold pQ at e
 split at e
 ·obtain⟨d,d',rfl,h1,h2⟩:=dm hv
  cases e;cases h1.int;cases h2.int
  exact hq _ S (.refl S) (Cl.of (λ _=>nofun) wc)
 ·cases e
@[simp] def pD:List T->Option T:=pQ λ i j=>if j>i then j else i
@[simp] def nE:List T->Option T:=pQ λ i j=>if j<i then j else i
noncomputable def sM:List T->Option (List Bool)
 | []=>some []
 | .bl b::ts=>(sM ts).map (b::·)
 | _::_=>none
theorem Yq:∀ {ts:List T}{bs:List Bool},sM ts=some bs->ts=bs.map T.bl
 | [],bs,h=>by cases h;rfl
 | .bl b::ts,bs,h=>by
  unfold sM at h
  obtain⟨cs,h1,rfl⟩:=AA.mp h
  rw[Ar,<- Yq h1]
 | .zm::ts,bs,h=>by cases h
 | .int _::ts,bs,h=>by cases h
 | .str _::ts,bs,h=>by cases h
 | .tup _::ts,bs,h=>by cases h
 | .lst _::ts,bs,h=>by cases h
def OW (bs:List Bool):sM (bs.map T.bl)=some bs:=by
 induction bs with
 | nil=>rfl
 | cons b bs ih=>rw[Ar];unfold sM;rw[ih];rfl
@[simp] noncomputable def mB (g:List Bool->Bool):List T->Option T
 | [.lst ts]=>(sM ts).map λ bs=>.bl (g bs)
 | _=>none
def vM (g:List Bool->Bool):xn:=λ ds S Q=>match ds with
 | [.tup _]=>False
 | [d]=>∃ bs:List Bool,zM d S=some (bs.map D.bl)/\Q (.bl (g bs)) S
 | _=>False
def QZ {g:List Bool->Bool}:vx zF (mB g) (vM g):=λ S Z ys z ds Q hz hv e hq=>by
 unfold mB at e
 split at e
 ·obtain⟨d,rfl,h1⟩:=vz hv
  obtain⟨bs,e1,rfl⟩:=AA.mp e
  cases Yq e1
  obtain⟨es,h2,h3⟩:=h1.seq rfl
  cases h3.Yr
  have key:∃ bs:List Bool,zM d S=some (bs.map D.bl)/\Q (.bl (g bs)) S:=⟨bs,h2,hq _ S (.refl S) (Cl.of (λ _=>nofun) ve)⟩
  obtain⟨_,q | ⟨a,q,_⟩,_⟩:=h1.lst
  ·subst q;exact key
  ·subst q;exact key
 ·cases e
structure FR (S0:SS) (Z0:Addr->Prop) (S:SS) (Z:Addr->Prop) (Y:ye) (J:Ev):Prop where
 er:ER S Z Y J
 len:Y.length=J.length
 sx:Sx S0 S
 z0:∀ a,Z0 a->S0 a≠none
 zz:∀ a,Z0 a->Z a
 zn:∀ a,Z a->Z0 a\/S0 a=none
 fr:∀ (i:Nat) ts p,J[i]?=some (some (.own ts))->Y[i]?=some (some (.ref p))->S0 p=none
 dj:∀ (i j:Nat) ts us p,i≠j->J[i]?=some (some (.own ts))->J[j]?=some (some (.own us))->Y[i]?=some (some (.ref p))->Y[j]?=some (some (.ref p))->False
def yH {α:Type}{l:List α}{i j:Nat}{a b:α}(h:(l.set i a)[j]?=some b):(i=j/\i<l.length/\b=a)\/(i≠j/\l[j]?=some b):=by
 rw[Dx] at h
 by_cases e:i=j
 ·subst e
  rw[if_pos rfl] at h
  by_cases hl:i<l.length
  ·rw[if_pos hl] at h;cases h;exact .inl ⟨rfl,hl,rfl⟩
  ·rw[if_neg hl] at h;cases h
 ·rw[if_neg e] at h;exact .inr ⟨e,h⟩
def wY {α:Type}{l:List α}{i j:Nat}{a:α}(h:i≠j):(l.set i a)[j]?=l[j]?:=by rw[Dx,if_neg h]
def pT {α:Type}{l:List α}{i:Nat}{a:α}(h:i<l.length):(l.set i a)[i]?=some a:=by rw[Dx,if_pos rfl,if_pos h]
section
variable {S0 S S':SS}{Z0 Z:Addr->Prop}{Y:ye}{J:Ev}{y:T}{d:D}
theorem FR.grow (h:FR S0 Z0 S Z Y J) (s:Sx S S'):FR S0 Z0 S' Z Y J:=⟨h.er.grow s,h.len,h.sx.trans s,h.z0,h.zz,h.zn,h.fr,h.dj⟩
def FR.oK (h:FR S0 Z0 S Z Y J) (i:Nat) (r:Sn (zN S Z) y d):FR S0 Z0 S Z (Y.set i (some d)) (J.set i (some (.im y))):=by
 refine⟨⟨h.er.zd,λ j t e=>?_,λ j ts e=>?_⟩,by simp[h.len],h.sx,h.z0,h.zz,h.zn,λ j ts p e e'=>?_,λ j k ts us p n e1 e2 e3 e4=>?_⟩
 ·rcases yH e with ⟨rfl,hl,e⟩ | ⟨n,e⟩
  ·cases e;exact⟨d,pT (by rw[h.len];exact hl),r⟩
  ·rw[wY n];exact h.er.im j t e
 ·rcases yH e with ⟨rfl,hl,e⟩ | ⟨n,e⟩
  ·cases e
  ·rw[wY n];exact h.er.ow j ts e
 ·rcases yH e with ⟨rfl,hl,e⟩ | ⟨n,e⟩
  ·cases e
  ·rw[wY n] at e';exact h.fr j ts p e e'
 ·rcases yH e1 with ⟨rfl,hl,e⟩ | ⟨n1,e1⟩
  ·cases e
  rcases yH e2 with ⟨rfl,hl,e⟩ | ⟨n2,e2⟩
  ·cases e
  rw[wY n1] at e3;rw[wY n2] at e4
  exact h.dj j k ts us p n e1 e2 e3 e4
def FR.cp {ts:C}{ds:O}{p:Addr}(h:FR S0 Z0 S Z Y J) (s:Sx S S') (i:Nat) (hp:S p=none) (hd:S' p=some ds) (r:tL (zN S' λ a=>Z a\/a=p) ts ds):
  FR S0 Z0 S' (λ a=>Z a\/a=p) (Y.set i (some (.ref p))) (J.set i (some (.own ts))):=by
 have np:∀ (j:Nat) us q,J[j]?=some (some (.own us))->Y[j]?=some (some (.ref q))->q≠p:=λ j us q e e' z=>by
  subst z
  obtain⟨p',G3,h1,h2,_⟩:=h.er.ow j us e
  rw[e'] at h1;cases h1;rw[hp] at h2;cases h2
 refine⟨⟨λ a z=>?_,λ j t e=>?_,λ j us e=>?_⟩,by simp[h.len],h.sx.trans s,h.z0,λ a z=>.inl (h.zz a z),λ a z=>z.elim (h.zn a) (λ q=>.inr (by subst q;exact h.sx.none hp)),λ j us q e e'=>?_,λ j k us vs q n e1 e2 e3 e4=>?_⟩
 ·rcases z with z | rfl
  ·exact λ q=>h.er.zd a z (s.none q)
  ·rw[hd];nofun
 ·rcases yH e with ⟨rfl,hl,e⟩ | ⟨n,e⟩
  ·cases e
  ·rw[wY n]
   obtain⟨d,h1,h2⟩:=h.er.im j t e
   exact⟨d,h1,Sn.sx (pS s hp) t h2⟩
 ·rcases yH e with ⟨rfl,hl,e⟩ | ⟨n,e⟩
  ·cases e;exact⟨p,ds,pT (by rw[h.len];exact hl),hd,r,.inr rfl⟩
  ·rw[wY n]
   obtain⟨q,es,h1,h2,h3,h4⟩:=h.er.ow j us e
   exact⟨q,es,h1,s _ _ h2,tL.sx (pS s hp) h3,.inl h4⟩
 ·rcases yH e with ⟨rfl,hl,e⟩ | ⟨n,e⟩
  ·rw[pT (by rw[h.len];exact hl)] at e';cases e';exact h.sx.none hp
  ·rw[wY n] at e';exact h.fr j us q e e'
 ·rcases yH e1 with ⟨rfl,hl,e⟩ | ⟨n1,e1⟩
  ·rcases yH e2 with ⟨rfl,_,_⟩ | ⟨n2,e2⟩
   ·exact n rfl
   ·rw[pT (by rw[h.len];exact hl)] at e3;cases e3
    rw[wY n2] at e4
    exact np k vs p e2 e4 rfl
  ·rcases yH e2 with ⟨rfl,hl,_⟩ | ⟨n2,e2⟩
   ·rw[pT (by rw[h.len];exact hl)] at e4;cases e4
    rw[wY n1] at e3
    exact np j us p e1 e3 rfl
   ·rw[wY n1] at e3;rw[wY n2] at e4
    exact h.dj j k us vs q n e1 e2 e3 e4
def FR.forget (h:FR S0 Z0 S Z Y J) (i:Nat):FR S0 Z0 S Z Y (J.set i none):=by
 refine⟨⟨h.er.zd,λ j t e=>?_,λ j ts e=>?_⟩,by simp[h.len],h.sx,h.z0,h.zz,h.zn,λ j ts p e e'=>?_,λ j k ts us p n e1 e2 e3 e4=>?_⟩
 ·rcases yH e with ⟨rfl,hl,e⟩ | ⟨n,e⟩
  ·cases e
  ·exact h.er.im j t e
 ·rcases yH e with ⟨rfl,hl,e⟩ | ⟨n,e⟩
  ·cases e
  ·exact h.er.ow j ts e
 ·rcases yH e with ⟨rfl,hl,e⟩ | ⟨n,e⟩
  ·cases e
  ·exact h.fr j ts p e e'
 ·rcases yH e1 with ⟨rfl,hl,e⟩ | ⟨n1,e1⟩
  ·cases e
  rcases yH e2 with ⟨rfl,hl,e⟩ | ⟨n2,e2⟩
  ·cases e
  exact h.dj j k ts us p n e1 e2 e3 e4
@[simp] noncomputable def yA (is:List Nat) (J:Ev):Ev:=is.foldl (fun J i=>J.set i none) J
theorem FR.yA:∀ (is:List Nat) {J:Ev},FR S0 Z0 S Z Y J->FR S0 Z0 S Z Y (yA is J)
 | [],_,h=>h
 | i::is,_,h=>FR.yA is (h.forget i)
def FR.freeze {ts:List T}{p:Addr}(h:FR S0 Z0 S Z Y J) (i:Nat) (e:J[i]?=some (some (.own (.lst ts)))) (ed:Y[i]?=some (some (.ref p))):
  FR S0 Z0 S (λ a=>Z a/\a≠p) Y (J.set i (some (.im (.lst ts))))/\Sn (zN S λ a=>Z a/\a≠p) (.lst ts) (.ref p):=by
 obtain⟨p',o,h1,h2,h3,h4⟩:=h.er.ow i _ e
 rw[ed] at h1;cases h1
 obtain⟨ds,rfl⟩:∃ ds,o=.lst ds:=by
  cases o with
  | lst ds=>exact⟨ds,rfl⟩
  | z_ _=>exact h3.elim
 replace h3:zi (zN S Z) ts ds:=h3
 have hS:Sn (zN S λ a=>Z a/\a≠p) (.lst ts) (.ref p):=by
  simp only[Sn]
  exact⟨ds,.inr ⟨p,rfl,by rw[ue (λ z=>z.2 rfl)];exact h2⟩,zi.sx (tp λ a z=>z.1) ts h3⟩
 refine⟨?_,hS⟩
 refine⟨⟨λ a z=>h.er.zd a z.1,λ j t e'=>?_,λ j us e'=>?_⟩,by simp[h.len],h.sx,h.z0,λ a z=>⟨h.zz a z,λ q=>?_⟩,λ a z=>h.zn a z.1,λ j us q e' IH=>?_,λ j k us vs q n e1 e2 e3 e4=>?_⟩
 ·rcases yH e' with ⟨rfl,hl,e'⟩ | ⟨n,e'⟩
  ·cases e';exact⟨_,ed,hS⟩
  ·obtain⟨d,g1,g2⟩:=h.er.im j t e'
   exact⟨d,g1,Sn.sx (tp λ a z=>z.1) t g2⟩
 ·rcases yH e' with ⟨rfl,hl,e'⟩ | ⟨n,e'⟩
  ·cases e'
  ·obtain⟨q,es,g1,g2,g3,g4⟩:=h.er.ow j us e'
   exact⟨q,es,g1,g2,tL.sx (tp λ a z=>z.1) g3,g4,λ z=>by subst z;exact h.dj i j _ us q n e e' ed g1⟩
 ·subst q;exact h.z0 a z (h.fr i _ a e ed)
 ·rcases yH e' with ⟨rfl,hl,e'⟩ | ⟨n,e'⟩
  ·cases e'
  ·exact h.fr j us q e' IH
 ·rcases yH e1 with ⟨rfl,hl,e⟩ | ⟨n1,e1⟩
  ·cases e
  rcases yH e2 with ⟨rfl,hl,e⟩ | ⟨n2,e2⟩
  ·cases e
  exact h.dj j k us vs q n e1 e2 e3 e4
def FR.mut {ts us:C}{es:O}{p:Addr}(h:FR S0 Z0 S Z Y J) (i:Nat) (e:J[i]?=some (some (.own ts))) (ed:Y[i]?=some (some (.ref p))) (r:tL (zN S Z) us es):
  FR S0 Z0 (ups S p es) Z Y (J.set i (some (.own us))):=by
 obtain⟨p',ds,h1,h2,h3,h4⟩:=h.er.ow i ts e
 rw[ed] at h1;cases h1
 have hh:zN (ups S p es) Z=zN S Z:=QG h4
 have CK:=h.fr i ts p e ed
 refine⟨⟨λ a z=>?_,λ j t e'=>?_,λ j vs e'=>?_⟩,by simp[h.len],λ b o q=>?_,h.z0,h.zz,h.zn,λ j vs q e' IH=>?_,λ j k vs ws q n e1 e2 e3 e4=>?_⟩
 ·by_cases hp:a=p
  ·subst hp;rw[rf];nofun
  ·rw[tR hp];exact h.er.zd a z
 ·rw[hh]
  rcases yH e' with ⟨rfl,hl,e'⟩ | ⟨n,e'⟩
  ·cases e'
  ·exact h.er.im j t e'
 ·rw[hh]
  rcases yH e' with ⟨rfl,hl,e'⟩ | ⟨n,e'⟩
  ·cases e';exact⟨p,es,ed,rf,r,h4⟩
  ·obtain⟨q,FC,g1,g2,g3,g4⟩:=h.er.ow j vs e'
   refine⟨q,FC,g1,?_,g3,g4⟩
   rw[tR (λ z=>by subst z;exact h.dj i j ts vs q n e e' ed g1)];exact g2
 ·rw[tR (λ z=>by subst z;rw[CK] at q;cases q)];exact h.sx b o q
 ·rcases yH e' with ⟨rfl,hl,_⟩ | ⟨n,e'⟩
  ·rw[ed] at IH;cases IH;exact CK
  ·exact h.fr j vs q e' IH
 ·rcases yH e1 with ⟨rfl,hl,_⟩ | ⟨n1,e1⟩
  ·rcases yH e2 with ⟨rfl,hl,_⟩ | ⟨n2,e2⟩
   ·exact n rfl
   ·exact h.dj _ k ts ws q n e e2 e3 e4
  ·rcases yH e2 with ⟨rfl,hl,_⟩ | ⟨n2,e2⟩
   ·exact h.dj j _ vs ts q n e1 e e3 e4
   ·exact h.dj j k vs ws q n e1 e2 e3 e4
noncomputable def i8 (S0 S:SS) (Z:Addr->Prop):SS:=open Classical in λ a=>if S0 a=none/\Z a then none else S a
def lQ {a:Addr}(h:¬ (S0 a=none/\Z a)):i8 S0 S Z a=S a:=if_neg h
def i7 {a:Addr}(h:S0 a=none/\Z a):i8 S0 S Z a=none:=if_pos h
def FR.rebase (h:FR S0 Z0 S Z Y J):∃ S1,Sx S0 S1/\FR S1 Z0 S Z Y J/\Sx (zN S Z) S1:=by
 refine⟨i8 S0 S Z,λ b o q=>?_,⟨h.er,h.len,λ b o q=>?_,λ a z=>?_,h.zz,λ a z=>?_,λ i ts p e ed=>?_,h.dj⟩,λ b o q=>?_⟩
 ·rw[lQ (λ z=>by rw[z.1] at q;cases q)];exact h.sx _ _ q
 ·by_cases w:S0 b=none/\Z b
  ·rw[i7 w] at q;cases q
  ·rw[lQ w] at q;exact q
 ·rw[lQ (λ q=>h.z0 a z q.1)]
  exact h.er.zd a (h.zz a z)
 ·rcases h.zn a z with w | w
  ·exact .inl w
  ·exact .inr (i7 ⟨w,z⟩)
 ·obtain⟨p',ds,h1,h2,h3,h4⟩:=h.er.ow i ts e
  rw[ed] at h1;cases h1
  exact i7 ⟨h.fr i ts p e ed,h4⟩
 ·obtain⟨q1,q2⟩:=uB q
  rw[lQ (λ z=>q1 z.2)];exact q2
def FR.back {S1:SS}(h:FR S1 Z0 S Z Y J) (s:Sx S0 S1) (z0:∀ a,Z0 a->S0 a≠none):FR S0 Z0 S Z Y J:=⟨h.er,h.len,s.trans h.sx,z0,h.zz,λ a z=>(h.zn a z).imp id s.none,λ i ts p e ed=>s.none (h.fr i ts p e ed),h.dj⟩
def FR.WE {S1:SS}{Z1:Addr->Prop}(h:FR S0 Z0 S Z Y J) (b:Sx (zN S1 Z1) S0) (zz:∀ a,Z0 a->Z1 a):Sx (zN S1 Z1) (zN S Z):=λ a o q=>by
 have q0:=b _ _ q
 obtain⟨q1,q2⟩:=uB q
 rw[ue]
 ·exact h.sx _ _ q0
 ·intro z
  rcases h.zn a z with w | w
  ·exact q1 (zz a w)
  ·rw[w] at q0;cases q0
end
inductive Out where
 | nx (J:Ev) | rt (t:T) | bk (J:Ev) | ct (J:Ev)
abbrev Sm:=Ev->Option Out
def Nm (R:Rk) (S0:SS) (Z0:Addr->Prop) (o:Out) (E:qb):Prop:=match o with
 | .nx J=>∀ S Z Y,FR S0 Z0 S Z Y J->E.nx Y S
 | .bk J=>∀ S Z Y,FR S0 Z0 S Z Y J->E.bk Y S
 | .ct J=>∀ S Z Y,FR S0 Z0 S Z Y J->E.ct Y S
 | .rt y=>∀ d S,Sx S0 S->R S0 S Z0 y d->E.rt d S
def yu (R:Rk) (g:Sm) (t:yD):Prop:=∀ S0 Z0 S Z Y J o E,FR S0 Z0 S Z Y J->g J=some o->Nm R S0 Z0 o E->t E Y S
class Lo (R:Rk):Prop extends Cl R where
 lo:∀ {S0 S S':SS}{Z0 Z:Addr->Prop}{y:T}{d:D},Sx S0 S->(∀ a,Z0 a->Z a)->R S S' Z y d->R S0 S' Z0 y d
instance:Lo xB:=⟨λ _ z h=>Sn.sx (tp z) _ h⟩
instance:Lo zF:=⟨λ s z h=>⟨Sn.sx (tp z) _ h.1,λ ts e=>by
 obtain⟨p,ds,h1,h2,h3,h4⟩:=h.2 ts e
 exact⟨p,ds,h1,s.none h2,h3,zi.sx (tp λ a q=>q.imp (z a) id) ts h4⟩⟩⟩
@[simp] noncomputable def zv (g h:Sm):Sm:=fun J=>(g J).bind λ o=>match o with
 | .nx J'=>h J'
 | o=>some o
@[simp] noncomputable def yU:Sm:=fun J=>some (.nx J)
@[simp] noncomputable def zW (i:Nat) (f:Ev->Option T):Sm:=fun J=>(f J).map λ y=>.nx (J.set i (some (.im y)))
@[simp] noncomputable def uJ (i:Nat) (f:Ev->Option T):Sm:=fun J=>(f J).bind λ y=>match y with
 | .lst ts=>some (.nx (J.set i (some (.own (.lst ts)))))
 | y=>some (.nx (J.set i (some (.im y))))
@[simp] noncomputable def pW (f:Ev->Option T):Sm:=fun J=>(f J).map λ _=>.nx J
@[simp] noncomputable def retS (f:Ev->Option T):Sm:=fun J=>(f J).map .rt
@[simp] noncomputable def qk (i:Nat):Sm:=fun J=>match J[i]? with
 | some (some (.own (.lst ts)))=>some (.rt (.lst ts))
 | _=>none
@[simp] noncomputable def yV (c:Ev->Option Bool) (g h:Sm):Sm:=fun J=>(c J).bind λ b=>if b=true then g J else h J
@[simp] noncomputable def gS (i:Nat) (J:Ev):Ev:=match J[i]? with
 | some (some (.own (.lst ts)))=>J.set i (some (.im (.lst ts)))
 | _=>J
@[simp] def gR (i:Nat) (g:Sm):Sm:=fun J=>g (gS i J)
section
variable {R:Rk}{g h:Sm}{t u:yD}{f:Ev->Option T}{te:zr}
def xF (hg:yu R g t) (hh:yu R h u):yu R (zv g h) (mf t u):=λ S0 Z0 S Z Y J o E F e P=>by
 obtain⟨o1,e1,e2⟩:=Aj.mp e
 refine hg S0 Z0 S Z Y J o1 { E with nx:=u E } F e1 ?_
 cases o1 with
 | nx J1=>exact λ S1 Z1 Y1 F1=>hh S0 Z0 S1 Z1 Y1 J1 o E F1 e2 P
 | rt y=>cases e2;exact P
 | bk y=>cases e2;exact P
 | ct y=>cases e2;exact P
def qq:yu R yU ZR:=λ S0 Z0 S Z Y J o E F e P=>by cases e;exact P S Z Y F
def ud (i:Nat) (hf:vt f te):yu R (zW i f) (vn te (hName i)):=λ S0 Z0 S Z Y J o E F e P=>by
 obtain⟨y,e1,rfl⟩:=AA.mp e
 exact hf S Z Y J y _ F.er e1 λ d S1 s1 r1=>P S1 Z _ ((F.grow s1).oK i r1)
def bI (i:Nat) (hf:xp f te):yu R (uJ i f) (vn te (hName i)):=λ S0 Z0 S Z Y J o E F e P=>by
 obtain⟨y,e1,e2⟩:=Aj.mp e
 refine hf S Z Y J y _ F.er e1 λ d S1 s1 r1=>?_
 cases y with
 | lst ts=>
  cases e2
  obtain⟨p,ds,rfl,h1,h2,h3⟩:=r1.2 ts rfl
  exact P S1 _ _ (F.cp (ts:=.lst ts) (ds:=.lst ds) s1 i h1 h2 h3)
 | _=>cases e2;exact P S1 Z _ ((F.grow s1).oK i r1.1)
def TN (hf:yv f te):yu R (pW f) (kM te):=λ S0 Z0 S Z Y J o E F e P=>by
 obtain⟨y,e1,rfl⟩:=AA.mp e
 exact hf S Z Y J y _ F.er e1 λ d S1 s1 r1=>P S1 Z _ (F.grow s1)
def qt [Lo R] (hf:xo R f te):yu R (retS f) (fu te):=λ S0 Z0 S Z Y J o E F e P=>by
 obtain⟨y,e1,rfl⟩:=AA.mp e
 exact hf S Z Y J y _ F.er e1 λ d S1 s1 r1=>P d S1 (F.sx.trans s1) (Lo.lo F.sx F.zz r1)
def kd (i:Nat):yu zF (qk i) (fu (y4 i)):=λ S0 Z0 S Z Y J o E F e P=>by
 unfold qk at e
 split at e
 ·rename_i ts h
  cases e
  obtain⟨p,ob,h1,h2,h3,h4⟩:=F.er.ow i _ h
  obtain⟨ds,rfl⟩:∃ ds,ob=.lst ds:=by
   cases ob with
   | lst ds=>exact⟨ds,rfl⟩
   | z_ _=>exact h3.elim
  replace h3:zi (zN S Z) ts ds:=h3
  have hn:=F.fr i _ p h h1
  have nz:¬ Z0 p:=λ z=>F.z0 p z hn
  show y4 i Y S E.rt
  unfold y4;rw[h1]
  refine P _ S F.sx ⟨?_,λ us e=>?_⟩
  ·simp only[Sn]
   exact⟨ds,.inr ⟨p,rfl,by rw[ue nz];exact h2⟩,zi.sx (tp F.zz) ts h3⟩
  ·cases e
   exact⟨p,ds,rfl,hn,h2,zi.sx (tp λ a q=>q.elim (F.zz a) λ q=>q▸h4) ts h3⟩
 ·cases e
def yu.fv (h:yu zF g t):yu xB g t:=λ S0 Z0 S Z Y J o E F e P=>by
 refine h S0 Z0 S Z Y J o E F e ?_
 cases o with
 | rt y=>exact λ d S s r=>P d S s r.1
 | _=>exact P
def qu {c:Ev->Option Bool}{tc:y7}(hc:vd c tc) (hg:yu R g t) (hh:yu R h u):yu R (yV c g h) (ZW tc t u):=λ S0 Z0 S Z Y J o E F e P=>by
 obtain⟨b,e1,e2⟩:=Aj.mp e
 refine hc S Z Y J b _ F.er e1 λ S1 s1=>?_
 split at e2
 ·rename_i hb;rw[if_pos hb];exact hg S0 Z0 S1 Z Y J o E (F.grow s1) e2 P
 ·rename_i hb;rw[if_neg hb];exact hh S0 Z0 S1 Z Y J o E (F.grow s1) e2 P
def FR.fz {S0 S:SS}{Z0 Z:Addr->Prop}{Y:ye}{J:Ev}(F:FR S0 Z0 S Z Y J) (i:Nat):∃ Z',FR S0 Z0 S Z' Y (gS i J):=by
 unfold gS
 split
 ·rename_i ts h
  obtain⟨p,ds,h1,_⟩:=F.er.ow i _ h
  exact⟨_,(F.freeze i h h1).1⟩
 ·exact⟨Z,F⟩
def TK (i:Nat) (hg:yu R g t):yu R (gR i g) t:=λ S0 Z0 S Z Y J o E F e P=>by
 obtain⟨Z',F'⟩:=F.fz i
 exact hg S0 Z0 S Z' Y _ o E F' e P
def mN (g:T->Ev->Option Ev) (t:yX):Prop:=∀ S0 Z0 S Z Y J J' y d Q,FR S0 Z0 S Z Y J->Sn (zN S Z) y d->g y J=some J'->(∀ Y',FR S0 Z0 S Z Y' J'->Q Y' S)->t d Y S Q
def kZ (g:List T->Ev->Option Ev) (t:wM):Prop:=∀ S0 Z0 S Z Y J J' ys ds Q,FR S0 Z0 S Z Y J->zi (zN S Z) ys ds->g ys J=some J'->(∀ Y',FR S0 Z0 S Z Y' J'->Q Y' S)->t ds Y S Q
@[simp] noncomputable def zD (i:Nat):T->Ev->Option Ev:=λ y J=>some (J.set i (some (.im y)))
@[simp] noncomputable def vB:List T->Ev->Option Ev
 | [],J=>some J
 | _::_,_=>none
@[simp] noncomputable def yR (g:T->Ev->Option Ev) (h:List T->Ev->Option Ev):List T->Ev->Option Ev
 | y::ys,J=>(g y J).bind fun J'=>h ys J'
 | [],_=>none
@[simp] noncomputable def wR (n:Nat) (g:List T->Ev->Option Ev):T->Ev->Option Ev
 | .tup ys,J=>if ys.length=n then g ys J else none
 | _,_=>none
def pB (i:Nat):mN (zD i) (hName i):=λ S0 Z0 S Z Y J J' y d Q F r e hq=>by cases e;exact hq _ (F.oK i r)
def bJ:kZ vB gG:=λ S0 Z0 S Z Y J J' ys ds Q F r e hq=>by
 cases ys with
 | nil=>simp only[zi] at r;subst r;cases e;exact⟨rfl,hq _ F⟩
 | cons _ _=>cases e
def i_ {g:T->Ev->Option Ev}{h:List T->Ev->Option Ev}{t:yX}{u:wM}(hg:mN g t) (hh:kZ h u):kZ (yR g h) (gH t u):=λ S0 Z0 S Z Y J J' ys ds Q F r e hq=>by
 cases ys with
 | nil=>cases e
 | cons y ys=>
  simp only[zi] at r
  obtain⟨c,cs,rfl,r1,r2⟩:=r
  obtain⟨J1,e1,e2⟩:=Aj.mp e
  exact hg S0 Z0 S Z Y J J1 y c _ F r1 e1 fun Y1 F1=>hh S0 Z0 S Z Y1 J1 J' ys cs Q F1 r2 e2 hq
def bK {n:Nat}{g:List T->Ev->Option Ev}{t:wM}(hg:kZ g t):mN (wR n g) (kA n t):=λ S0 Z0 S Z Y J J' y d Q F r e hq=>by
 cases y with
 | tup ys=>
  simp only[Sn] at r
  obtain⟨ds,rfl,r⟩:=r
  simp only[wR] at e
  split at e
  ·rename_i hl
   exact⟨by rw[r.len];exact hl,hg S0 Z0 S Z Y J J' ys ds Q F r e hq⟩
  ·cases e
 | _=>cases e
@[simp] noncomputable def dI (f:Ev->Option T) (g:T->Ev->Option Ev):Sm:=fun J=>(f J).bind λ y=>(g y J).map .nx
def TF {g:T->Ev->Option Ev}{tg:yX}(hf:vt f te) (hg:mN g tg):yu R (dI f g) (vn te tg):=λ S0 Z0 S Z Y J o E F e P=>by
 obtain⟨y,e1,e2⟩:=Aj.mp e
 obtain⟨J',e3,rfl⟩:=AA.mp e2
 exact hf S Z Y J y _ F.er e1 λ d S1 s1 r1=>hg S0 Z0 S1 Z Y J J' y d _ (F.grow s1) r1 e3 fun Y' F'=>P S1 Z Y' F'
def rY (free:Bool) (f:Ev->Option (List T)) (ti:wy):Prop:=∀ S Z Y J ts Q,ER S Z Y J->f J=some ts->(∀ I S',Sx S S'->zi (zN S' Z) ts I.items->(∀ HK,Sx (if free=true then zN S' Z else S') HK->I.keep HK)->Q I S')->ti Y S Q
@[simp] def xg (f:Ev->Option T):Ev->Option (List T):=fun J=>(f J).bind xR
def TV {f:Ev->Option T}{te:zr}(hf:yv f te):rY false (xg f) (gA te):=λ S Z Y J ts Q hE e hq=>by
 obtain⟨y,e1,e2⟩:=Aj.mp e
 refine hf S Z Y J y _ hE e1 λ d S1 s1 r1=>?_
 cases y with
 | tup us=>
  cases e2
  obtain⟨ds,rfl,h2⟩:=Vw.tup r1
  exact hq _ S1 s1 h2 λ _ _=>trivial
 | lst us=>
  cases e2
  obtain⟨ds,rfl | ⟨a,rfl,h1⟩,h2⟩:=Vw.lst r1
  ·exact hq _ S1 s1 h2 λ _ _=>trivial
  ·dsimp only;rw[h1]
   exact hq ⟨ds,_⟩ S1 s1 h2 λ HK s=>s _ _ h1
 | _=>cases e2
def iY {f:Ev->Option T}{te:zr}(hf:vt f te):rY true (xg f) (gA te):=λ S Z Y J ts Q hE e hq=>by
 obtain⟨y,e1,e2⟩:=Aj.mp e
 refine hf S Z Y J y _ hE e1 λ d S1 s1 r1=>?_
 cases y with
 | tup us=>
  cases e2
  obtain⟨ds,rfl,h2⟩:=Vw.tup (.inl r1)
  exact hq _ S1 s1 h2 λ _ _=>trivial
 | lst us=>
  cases e2
  have r2:=r1
  unfold xB at r2
  simp only[Sn] at r2
  obtain⟨ds,⟨rfl,_⟩ | ⟨a,rfl,h1⟩,h2⟩:=r2
  ·exact hq _ S1 s1 h2 λ _ _=>trivial
  ·dsimp only;rw[(uB h1).2]
   exact hq ⟨ds,_⟩ S1 s1 h2 λ HK s=>s _ _ h1
 | _=>cases e2
noncomputable def rangeT (lo:Int) (n:Nat):List T:=(List.range n).map λ(k:Nat)=>T.int (lo+(k:Int))
def dX {S:SS}(lo:Int) (n:Nat):zi S (rangeT lo n) (v8 lo n):=by
 unfold rangeT v8
 induction List.range n with
 | nil=>exact .nil
 | cons k l ih=>exact .cons wc ih
noncomputable def inR (j:Int):Bool:=decide (-100000000<=j)&&decide (j<=100000000)
def Zh {j:Int}:inR j=true↔-100000000<=j/\j<=100000000:=by simp[inR]
def QB {j:Int}(h:inR j=true):-(2 ^ 62)<=j/\j<2 ^ 62:=by have:=Zh.mp h;lia
noncomputable def tY:List T->Option (List T)
 | [.int j]=>if inR j=true then some (rangeT 0 j.toNat) else none
 | _=>none
@[simp] noncomputable def wJ (F:List T->Option (List T)) (g:Ev->Option (List T)):Ev->Option (List T):=fun J=>(g J).bind F
def iZ {b:Bool}{g:Ev->Option (List T)}{tA:yh}(h:rZ g tA):rY b (wJ tY g) (gB tA):=λ S Z Y J ts Q hE e hq=>by
 obtain⟨ys,e1,e2⟩:=Aj.mp e
 refine h S Z Y J ys _ hE e1 λ ds S1 s1 r1=>?_
 unfold tY at e2
 split at e2
 ·split at e2
  ·rename_i hc
   cases e2
   obtain⟨d,rfl,h1⟩:=vz r1
   cases h1.int
   exact⟨QB hc,hq _ S1 s1 (dX _ _) λ _ _=>trivial⟩
  ·cases e2
 ·cases e2
noncomputable def xy (is:List Nat) (g:T->Ev->Option Ev) (b:Sm):List T->Ev->Option Out
 | [],J=>some (.nx (yA is J))
 | y::ys,J=>(g y (yA is J)).bind fun J1=>(b J1).bind λ o=>match o with
  | .nx J2=>xy is g b ys J2
  | .ct J2=>xy is g b ys J2
  | .bk J2=>some (.nx (yA is J2))
  | .rt t=>some (.rt t)
@[simp] def wo (is:List Nat) (f:Ev->Option (List T)) (g:T->Ev->Option Ev) (b:Sm):Sm:=fun J=>(f J).bind λ ts=>xy is g b ts J
def nA {is:List Nat}{fi:Ev->Option (List T)}{ti:wy}{g:T->Ev->Option Ev}{tg:yX}{b:Sm}{tb:yD} [Lo R] (hi:rY true fi ti) (hg:mN g tg) (hb:yu R b tb):yu R (wo is fi g b) (mj ti tg tb):=λ S0 Z0 S Z Y J o E F e P=>by
 obtain⟨ts,e1,e2⟩:=Aj.mp e
 refine hi S Z Y J ts _ F.er e1 λ I S1 s1 r1 hk=>?_
 rw[if_pos rfl] at hk
 obtain⟨SB,b1,FB,b2⟩:=(F.grow s1).rebase
 have lo:∀ S' d y,R SB S' Z0 y d->R S0 S' Z0 y d:=λ S' d y r=>Lo.lo b1 (λ _ z=>z) r
 have zz:=F.zz
 refine⟨λ i Y' S'=>∃ Z' J',FR SB Z0 S' Z' Y' J'/\xy is g b (ts.drop i) J'=some o,⟨Z,J,FB,e2⟩,λ i Y' S' ⟨Z',J',F',_⟩=>hk S' (b2.trans F'.sx),λ i d Y' S' hd ⟨Z',J',F',e'⟩=>?_,fun Y' S' ⟨Z',J',F',e'⟩=>?_⟩
 ·obtain⟨y,hy,r2⟩:=r1.gQ hd
  have Ak:=(AI.mp hy).1
  have EA:ts.drop i=y::ts.drop (i+1):=by
   rw[List.drop_eq_getElem_cons Ak,(AI.mp hy).2]
  rw[EA] at e'
  unfold xy at e'
  obtain⟨J1,g1,e'⟩:=Aj.mp e'
  obtain⟨o1,g2,e'⟩:=Aj.mp e'
  refine hg SB Z0 S' Z' Y' _ J1 y d _ (F'.yA is) (Sn.sx (F'.WE b2 zz) y r2) g1 fun Y2 F2=>?_
  refine hb SB Z0 S' Z' Y2 J1 o1 _ F2 g2 ?_
  cases o1 with
  | nx J2=>exact λ S3 Z3 Y3 F3=>⟨Z3,J2,F3,e'⟩
  | ct J2=>exact λ S3 Z3 Y3 F3=>⟨Z3,J2,F3,e'⟩
  | bk J2=>cases e';exact λ S3 Z3 Y3 F3=>P S3 Z3 Y3 ((F3.yA is).back b1 F.z0)
  | rt y=>cases e';exact λ d S3 s3 r3=>P d S3 (b1.trans s3) (lo _ _ _ r3)
 ·rw[show I.items.length=ts.length from r1.len,List.drop_length] at e'
  unfold xy at e'
  cases e'
  exact P S' Z' Y' ((F'.yA is).back b1 F.z0)
end
@[simp] noncomputable def xY (i:Nat) (f:Ev->Option T):Sm:=fun J=>match J[i]? with
 | some (some (.own (.lst ts)))=>(f J).bind λ y=>if ts.length<sizeLine then some (.nx (J.set i (some (.own (.lst (ts++[y])))))) else none
 | _=>none
section
variable {R:Rk}{f:Ev->Option T}{te:zr}
def iX (i:Nat) (hf:vt f te):yu R (xY i f) (kM (rV (y4 i) te)):=λ S0 Z0 S Z Y J o E F e P=>by
 unfold xY at e
 split at e
 ·rename_i ts h
  obtain⟨y,e1,e2⟩:=Aj.mp e
  split at e2
  ·rename_i hl
   cases e2
   obtain⟨p,ob,h1,h2,h3,h4⟩:=F.er.ow i _ h
   obtain⟨ds,rfl⟩:∃ ds,ob=.lst ds:=by
    cases ob with
    | lst ds=>exact⟨ds,rfl⟩
    | z_ _=>exact h3.elim
   replace h3:zi (zN S Z) ts ds:=h3
   show rV (y4 i) te Y S _
   unfold rV y4
   rw[h1]
   refine⟨⟨ds,h2⟩,hf S Z Y J y _ F.er e1 λ d S1 s1 r1=>?_⟩
   dsimp only
   rw[s1 _ _ h2]
   have F1:=F.grow s1
   refine⟨by rw[h3.len];exact hl,P _ Z Y (F1.mut (us:=.lst (ts++[y])) (es:=.lst (ds++[d])) i h h1 ((zi.sx (wK s1) ts h3).append (.cons r1 .nil)))⟩
  ·cases e2
 ·cases e
end
def sL (pick:List (Option Nat)) (ti:wy) (g:yX) (tc:y7) (te:zr):zr:=fun Y S Q=>ti Y S λ I S1=>I.items.length<=sizeLine/\(∀ S,Sx S1 S->I.keep S)/\∀ p,S1 p=none->∃ W:Nat->SS->List D->Prop,W 0 S1 []/\
 (∀ i S S' acc,(∀ b o,b≠p->S b=some o->S' b=some o)->W i S acc->W i S' acc)/\
 (∀ i d S acc,I.items[i]?=some d->Sx S1 S->S p=some (.lst acc)->W i S acc->g d (uc pick Y) S fun Y2 S2=>qI (uc pick Y) Y2/\tc Y2 S2 λ b S3=>if b=true then te Y2 S3 λ y S4=>Sx S S4/\W (i+1) S4 (acc++[y]) else Sx S S3/\W (i+1) S3 acc)/\
 ∀ S2 acc,Sx S1 S2->S2 p=some (.lst acc)->W I.items.length S2 acc->Q (.ref p) S2
@[simp] noncomputable def ni (pick:List (Option Nat)) (J:Ev):Ev:=pick.map λ o=>o.bind λ i=>(J[i]?).join
noncomputable def qD (h:T->Option (Option T)):List T->Option (List T)
 | []=>some []
 | y::ys=>(h y).bind λ o=>(qD h ys).map λ zs=>match o with
  | some z=>z::zs
  | none=>zs
@[simp] def pG (pick:List (Option Nat)) (g:T->Ev->Option Ev) (c:Ev->Option Bool) (f:Ev->Option T) (J:Ev) (y:T):Option (Option T):=
 (g y (ni pick J)).bind fun J2=>(c J2).bind λ b=>if b=true then (f J2).map some else some none
def xU (pick:List (Option Nat)) (it:Ev->Option (List T)) (g:T->Ev->Option Ev) (c:Ev->Option Bool) (f:Ev->Option T):Ev->Option T:=fun J=>(it J).bind λ ts=>if ts.length<=sizeLine then (qD (pG pick g c f J) ts).map .lst else none
@[simp] noncomputable def tH:Ev->Option Bool:=λ _=>some true
def Sh:vd tH ZG:=λ S Z Y J y Q hE e hq=>by cases e;exact hq S (.refl S)
def ja (pick:List (Option Nat)) (g:T->Ev->Option Ev) (t:yX):Prop:=∀ B S Z Y J J' y d Q,(∀ i:Nat,pick[i]?=some none->B[i]?=some none)->qI B Y->Y.length=J.length->ER S Z Y J->Sn (zN S Z) y d->g y J=some J'->
 (∀ Y',ER S Z Y' J'->qI B Y'->Y'.length=J'.length->Q Y' S)->t d Y S Q
def k_ (pick:List (Option Nat)) (g:List T->Ev->Option Ev) (t:wM):Prop:=∀ B S Z Y J J' y d Q,(∀ i:Nat,pick[i]?=some none->B[i]?=some none)->qI B Y->Y.length=J.length->ER S Z Y J->zi (zN S Z) y d->g y J=some J'->
 (∀ Y',ER S Z Y' J'->qI B Y'->Y'.length=J'.length->Q Y' S)->t d Y S Q
def ER.oK {S:SS}{Z:Addr->Prop}{Y:ye}{J:Ev}{y:T}{d:D}(h:ER S Z Y J) (hl:Y.length=J.length) (i:Nat) (r:Sn (zN S Z) y d):ER S Z (Y.set i (some d)) (J.set i (some (.im y))):=by
 refine⟨h.zd,λ j t e=>?_,λ j ts e=>?_⟩
 ·rcases yH e with ⟨rfl,Gp,e⟩ | ⟨n,e⟩
  ·cases e;exact⟨d,pT (by rw[hl];exact Gp),r⟩
  ·rw[wY n];exact h.im j t e
 ·rcases yH e with ⟨rfl,Gp,e⟩ | ⟨n,e⟩
  ·cases e
  ·rw[wY n];exact h.ow j ts e
variable {pick:List (Option Nat)}
def Sd (i:Nat) (hi:pick[i]?=some none:=by rfl):ja pick (zD i) (hName i):=λ B S Z Y J J' y d Q hB hs hl hE r e hq=>by
 cases e
 refine hq _ (hE.oK hl i r) ⟨by rw[Dz];exact hs.1,λ j c q=>?_⟩ (by simp[hl])
 by_cases hj:i=j
 ·subst hj;rw[hB i hi] at q;cases q
 ·rw[wY hj];exact hs.2 j c q
def TZ:k_ pick vB gG:=λ B S Z Y J J' y d Q hB hs hl hE r e hq=>by
 cases y with
 | nil=>simp only[zi] at r;subst r;cases e;exact⟨rfl,hq _ hE hs hl⟩
 | cons _ _=>cases e
def T_ {g:T->Ev->Option Ev}{h:List T->Ev->Option Ev}{t:yX}{u:wM}(hg:ja pick g t) (hh:k_ pick h u):k_ pick (yR g h) (gH t u):=λ B S Z Y J J' y d Q hB hs hl hE r e hq=>by
 cases y with
 | nil=>cases e
 | cons y ys=>
  simp only[zi] at r
  obtain⟨c,cs,rfl,r1,r2⟩:=r
  obtain⟨J1,e1,e2⟩:=Aj.mp e
  exact hg B S Z Y J J1 y c _ hB hs hl hE r1 e1 fun Y1 E1 s1 l1=>hh B S Z Y1 J1 J' ys cs Q hB s1 l1 E1 r2 e2 hq
def Sb {n:Nat}{g:List T->Ev->Option Ev}{t:wM}(hg:k_ pick g t):ja pick (wR n g) (kA n t):=λ B S Z Y J J' y d Q hB hs hl hE r e hq=>by
 cases y with
 | tup ys=>
  simp only[Sn] at r
  obtain⟨ds,rfl,r⟩:=r
  simp only[wR] at e
  split at e
  ·rename_i hn
   exact⟨by rw[r.len];exact hn,hg B S Z Y J J' ys ds Q hB hs hl hE r e hq⟩
  ·cases e
 | _=>cases e
def cZ {J:Ev}{i:Nat}{w:W}(h:(ni pick J)[i]?=some (some w)):∃ j:Nat,pick[i]?=some (some j)/\J[j]?=some (some w):=by
 unfold ni at h
 rw[Az] at h
 cases q:pick[i]? with
 | none=>rw[q] at h;cases h
 | some o=>
  rw[q] at h
  cases o with
  | none=>simp at h
  | some j=>
   simp only[Option.map_some,BD,Option.some.injEq] at h
   refine⟨j,rfl,?_⟩
   cases q2:J[j]? with
   | none=>rw[q2] at h;cases h
   | some o2=>rw[q2] at h;simp only[Option.join_some] at h;rw[h]
def c_ {Y:ye}{i j:Nat}{d:D}(h:pick[i]?=some (some j)) (h':Y[j]?=some (some d)):(uc pick Y)[i]?=some (some d):=by
 unfold uc
 rw[Az,h]
 simp[h']
def ER.VS {S:SS}{Z:Addr->Prop}{Y:ye}{J:Ev}(h:ER S Z Y J):ER S Z (uc pick Y) (ni pick J):=by
 refine⟨h.zd,λ i t e=>?_,λ i ts e=>?_⟩
 ·obtain⟨j,h1,h2⟩:=cZ e
  obtain⟨d,h3,h4⟩:=h.im j t h2
  exact⟨d,c_ h1 h3,h4⟩
 ·obtain⟨j,h1,h2⟩:=cZ e
  obtain⟨p,ds,h3,h4⟩:=h.ow j ts h2
  exact⟨p,ds,c_ h1 h3,h4⟩
def ER.hide {S S':SS}{Z:Addr->Prop}{Y:ye}{J:Ev}{p:Addr}(h:ER S Z Y J) (s:Sx S S') (hp:S p=none) (Gi:S' p≠none):ER S' (λ a=>Z a\/a=p) Y J:=by
 refine⟨λ a z q=>?_,λ i t e=>?_,λ i ts e=>?_⟩
 ·rcases z with z | rfl
  ·exact h.zd a z (s.none q)
  ·exact Gi q
 ·obtain⟨d,h1,h2⟩:=h.im i t e
  exact⟨d,h1,Sn.sx (pS s hp) t h2⟩
 ·obtain⟨q,ds,h1,h2,h3,h4⟩:=h.ow i ts e
  exact⟨q,ds,h1,s _ _ h2,tL.sx (pS s hp) h3,.inl h4⟩
def S9 {it:Ev->Option (List T)}{ti:wy}{g:T->Ev->Option Ev}{tg:yX}{c:Ev->Option Bool}{tc:y7}{f:Ev->Option T}{te:zr}{b:Bool}(hi:rY b it ti) (hg:ja pick g tg) (hc:vd c tc) (hf:vt f te):
  xp (xU pick it g c f) (sL pick ti tg tc te):=λ S Z Y J y Q hE e hq=>by
 obtain⟨ts,e1,e2⟩:=Aj.mp e
 split at e2
 case isFalse=>cases e2
 rename_i hlen
 obtain⟨zs,e3,rfl⟩:=AA.mp e2
 refine hi S Z Y J ts _ hE e1 λ I S1 s1 r1 hk=>⟨by rw[r1.len];exact hlen,λ S' s'=>hk S' ?_,λ p hp=>?_⟩
 ·cases b
  ·exact s'
  ·exact (k9 _ _).trans s'
 have E1:=hE.grow s1
 have nz:¬ Z p:=λ z=>E1.zd p z hp
 refine⟨λ i S' acc=>∃ us ws,zi (zN S' λ a=>Z a\/a=p) us acc/\qD (pG pick g c f J) (ts.drop i)=some ws/\zs=us++ws,⟨[],zs,.nil,e3,rfl⟩,λ i S' HK acc hh ⟨us,ws,h1,h2⟩=>⟨us,ws,zi.sx (λ a o q=>?_) us h1,h2⟩,λ i d S2 acc hd s2 AO ⟨us,ws,h1,h2,h3⟩=>?_,λ S2 acc s2 AO ⟨us,ws,h1,h2,h3⟩=>?_⟩
 ·obtain⟨q1,q2⟩:=uB q
  rw[ue q1]
  exact hh a o (λ z=>q1 (.inr z)) q2
 ·obtain⟨x,hx,rx⟩:=r1.gQ hd
  have Ak:=(AI.mp hx).1
  have EA:ts.drop i=x::ts.drop (i+1):=by rw[List.drop_eq_getElem_cons Ak,(AI.mp hx).2]
  rw[EA] at h2
  unfold qD at h2
  obtain⟨o,o1,h2⟩:=Aj.mp h2
  obtain⟨ws',o2,rfl⟩:=AA.mp h2
  have E2:=(E1.hide s2 hp (by rw[AO];nofun)).VS (pick:=pick)
  unfold pG at o1
  obtain⟨J2,g1,o1⟩:=Aj.mp o1
  obtain⟨bb,g2,o1⟩:=Aj.mp o1
  refine hg (uc pick Y) S2 _ _ _ J2 x d _ (λ j hj=>?_) ⟨rfl,λ _ _ q=>q⟩ (by unfold uc ni;simp) E2 (Sn.sx (pS s2 hp) x rx) g1 fun Y2 E3 l3 _=>⟨l3,?_⟩
  ·unfold uc;rw[Az,hj];rfl
  refine hc S2 _ Y2 J2 bb _ E3 g2 λ S3 s3=>?_
  split at o1
  ·rename_i hb
   rw[if_pos hb]
   obtain⟨z,g3,rfl⟩:=AA.mp o1
   refine hf S3 _ Y2 J2 z _ (E3.grow s3) g3 λ dz S4 s4 r4=>⟨s3.trans s4,us++[z],ws',?_,o2,by rw[h3];simp⟩
   exact (zi.sx (wK (s3.trans s4)) us h1).append (.cons r4 .nil)
  ·rename_i hb
   rw[if_neg hb]
   cases o1
   exact⟨s3,us,ws',zi.sx (wK s3) us h1,o2,h3⟩
 ·rw[show I.items.length=ts.length from r1.len,List.drop_length] at h2
  cases h2
  rw[CZ] at h3
  subst h3
  refine hq _ S2 (s1.trans s2) ⟨?_,λ vs e=>?_⟩
  ·simp only[Sn]
   exact⟨acc,.inr ⟨p,rfl,by rw[ue nz];exact AO⟩,zi.sx (tp λ a z=>.inl z) zs h1⟩
  ·cases e
   exact⟨p,acc,rfl,s1.none hp,AO,h1⟩
class Sr (R:Rk):Prop extends Lo R where
 sn:∀ {S S':SS}{Z:Addr->Prop}{y:T}{d:D},R S S' Z y d->Sn (zN S' Z) y d
instance:Sr xB:=⟨λ h=>h⟩
instance:Sr zF:=⟨λ h=>h.1⟩
def zQ (R:Rk) (F:List T->Option T):sR:=λ ds S Q=>∃ Z ys y,(∀ a,Z a->S a≠none)/\zi (zN S Z) ys ds/\F ys=some y/\∀ d S',Sx S S'->R S S' Z y d->Q d S'
def zQ.mo {R:Rk}{F:List T->Option T}:fY (zQ R F):=λ _ _ _ _ hq ⟨Z,ys,y,h1,h2,h3,h4⟩=>⟨Z,ys,y,h1,h2,h3,λ d S' s r=>hq _ _ (h4 d S' s r)⟩
def rC {R:Rk} [Lo R] {F:List T->Option T}{g:Ev->Option (List T)}{u:yh}(h:ou g u):xo R (zu F g) (kN (zQ R F) u):=λ S Z Y J y Q hE e hq=>by
 obtain⟨xs,e1,e2⟩:=Aj.mp e
 refine h S Z Y J xs _ hE e1 λ ds S1 s1 r1=>?_
 exact⟨Z,xs,y,(hE.grow s1).zd,r1,e2,λ d S' s r=>hq d S' (s1.trans s) (Cl.cl s1 r)⟩
@[simp] noncomputable def qW (N:List Str) (ys:List T):Ev:=ys.map (λ y=>some (.im y))++List.replicate (N.length-ys.length) none
@[simp] noncomputable def bC:Option Out->Option T
 | some (.rt y)=>some y
 | some (.nx _)=>some .zm
 | _=>none
@[simp] def zZ (N:List Str) (n:Nat) (g:Sm):List T->Option T:=λ ys=>if ys.length=n then bC (g (qW N ys)) else none
theorem zQ.len {R:Rk}{N:List Str}{n:Nat}{g:Sm}{ds:List D}{S:SS}{Q:DK}(hs:zQ R (zZ N n g) ds S Q):ds.length=n:=by
 obtain⟨Z,ys,y,hz,r,e,hq⟩:=hs
 unfold zZ at e
 split at e
 ·rename_i h;rw[r.len];exact h
 ·cases e
def Ws {N:List Str}{ds:List D}{i:Nat}{d:D}(h:ds[i]?=some d):(tU N ds)[i]?=some (some d):=by
 have hi:=(AI.mp h).1
 unfold tU
 rw[Cp (by simpa using hi),Az,h];rfl
def lC {N:List Str}{ys:List T}{i:Nat}{w:W}(h:(qW N ys)[i]?=some (some w)):∃ y,ys[i]?=some y/\w=.im y:=by
 unfold qW at h
 have hi:i<ys.length:=by
  rcases Bj i ys.length with q | q
  ·exact q
  ·rw[Cq (by simpa using q),DA] at h
   split at h <;> cases h
 rw[Cp (by simpa using hi),Az] at h
 cases q:ys[i]? with
 | none=>rw[q] at h;cases h
 | some y=>rw[q] at h;cases h;exact⟨y,rfl,rfl⟩
def OV {R:Rk} [Lo R] {N:List Str}{n:Nat}{g:Sm}{t:yD}(h:yu R g t) {ds:List D}{S:SS}{Q:DK}(hs:zQ R (zZ N n g) ds S Q):t { nx:=λ _ S'=>Q .zm S',rt:=Q } (tU N ds) S:=by
 obtain⟨Z,ys,y,hz,r,e,hq⟩:=hs
 unfold zZ at e
 split at e
 case isFalse=>cases e
 obtain⟨o,e1,e2⟩:∃ o,g (qW N ys)=some o/\bC (some o)=some y:=by
  cases q:g (qW N ys) with
  | none=>rw[q] at e;cases e
  | some o=>exact⟨o,rfl,by rw[<- q];exact e⟩
 refine h S Z S Z _ _ o _ ⟨⟨hz,λ i t e=>?_,λ i ts e=>?_⟩,?_,.refl S,hz,λ _ z=>z,λ _ z=>.inl z,λ i ts p e _=>?_,λ i j ts us p _ e _ _ _=>?_⟩ e1 ?_
 ·obtain⟨y',h1,h2⟩:=lC e
  cases h2
  obtain⟨d,h3,h4⟩:=r.gO h1
  exact⟨d,Ws h3,h4⟩
 ·obtain⟨y',h1,h2⟩:=lC e
  cases h2
 ·unfold tU qW
  have:=r.len
  simp[this]
 ·obtain⟨y',h1,h2⟩:=lC e
  cases h2
 ·obtain⟨y',h1,h2⟩:=lC e
  cases h2
 ·cases o with
  | rt y'=>cases e2;exact λ d S' s r=>hq d S' s r
  | nx J'=>
   cases e2
   exact λ S' Z' Y' F=>hq .zm S' F.sx (Cl.of (λ _=>nofun) jK)
  | _=>cases e2
noncomputable def yZ (Aa:List (Key×T)) (k:Key):Option T:=(Aa.find? λ kv=>decide (kv.1=k)).map (·.2)
noncomputable def vY (Aa:List (Key×T)) (k:Key) (v:T):List (Key×T):=
 if (Aa.any λ kv=>decide (kv.1=k))=true then Aa.map (λ kv=>if kv.1=k then (kv.1,v) else kv) else Aa++[(k,v)]
section
variable {S:SS}
theorem yy.len:∀ {a:List (Key×T)}{b:List (Key×D)},yy S a b->b.length=a.length
 | [],_,h=>by cases h;rfl
 | (k,t)::r,_,h=>by
  obtain⟨d,m,rfl,_,h2⟩:=h
  simp[yy.len h2]
theorem yy.val:∀ {a:List (Key×T)}{b:List (Key×D)}(k:Key),yy S a b->(yZ a k=none/\vV b k=none)\/∃ t d,yZ a k=some t/\vV b k=some d/\Sn S t d
 | [],_,k,h=>by cases h;exact .inl ⟨rfl,rfl⟩
 | (j,t)::r,_,k,h=>by
  obtain⟨d,m,rfl,h1,h2⟩:=h
  by_cases e:j=k
  ·subst e;exact .inr ⟨t,d,by simp[yZ],by simp[vV],h1⟩
  ·rcases yy.val k h2 with ⟨g1,g2⟩ | ⟨t',d',g1,g2,g3⟩
   ·exact .inl ⟨by simpa [yZ,e] using g1,by simpa [vV,e] using g2⟩
   ·exact .inr ⟨t',d',by simpa [yZ,e] using g1,by simpa [vV,e] using g2,g3⟩
theorem yy.any:∀ {a:List (Key×T)}{b:List (Key×D)}(k:Key),yy S a b->(b.any λ kv=>decide (kv.1=k))=a.any λ kv=>decide (kv.1=k)
 | [],_,k,h=>by cases h;rfl
 | (j,t)::r,_,k,h=>by
  obtain⟨d,m,rfl,h1,h2⟩:=h
  rw[Bu,Bu,yy.any k h2]
theorem yy.uR {k:Key}{t:T}{d:D}(r:Sn S t d):∀ {a:List (Key×T)}{b:List (Key×D)},yy S a b->yy S (a.map λ kv=>if kv.1=k then (kv.1,t) else kv) (b.map λ kv=>if kv.1=k then (kv.1,d) else kv)
 | [],_,h=>by cases h;rfl
 | (j,u)::a,_,h=>by
  obtain⟨e,m,rfl,h1,h2⟩:=h
  rw[Ar,Ar]
  by_cases q:j=k
  ·rw[if_pos q,if_pos q];exact⟨d,_,rfl,r,yy.uR r h2⟩
  ·rw[if_neg q,if_neg q];exact⟨e,_,rfl,h1,yy.uR r h2⟩
theorem yy.snoc {k:Key}{t:T}{d:D}(r:Sn S t d):∀ {a:List (Key×T)}{b:List (Key×D)},yy S a b->yy S (a++[(k,t)]) (b++[(k,d)])
 | [],_,h=>by cases h;exact⟨d,[],rfl,r,rfl⟩
 | (j,u)::a,_,h=>by
  obtain⟨e,m,rfl,h1,h2⟩:=h
  exact⟨e,_,rfl,h1,yy.snoc r h2⟩
def yy.put {a:List (Key×T)}{b:List (Key×D)}(h:yy S a b) (k:Key) {t:T}{d:D}(r:Sn S t d):yy S (vY a k t) (putD b k d):=by
 unfold vY putD
 rw[h.any k]
 split
 ·exact yy.uR r h
 ·exact yy.snoc r h
end
@[simp] noncomputable def ZJ (i:Nat):Sm:=fun J=>some (.nx (J.set i (some (.own (.z_ [])))))
@[simp] def fm (i:Nat) (f:Ev->Option T):Ev->Option T:=fun J=>(f J).bind λ y=>match J[i]?,y with
 | some (some (.own (.z_ Aa))),.int k=>yZ Aa (.inl k)
 | _,_=>none
@[simp] def ZK (i:Nat) (f g:Ev->Option T):Ev->Option T:=fun J=>(f J).bind λ y=>(g J).bind λ z=>match J[i]?,y with
 | some (some (.own (.z_ Aa))),.int k=>some ((yZ Aa (.inl k)).getD z)
 | _,_=>none
@[simp] def ZI (i:Nat) (f v:Ev->Option T):Sm:=fun J=>(v J).bind λ z=>(f J).bind λ y=>match J[i]?,y with
 | some (some (.own (.z_ Aa))),.int k=>if Aa.length<sizeLine then some (.nx (J.set i (some (.own (.z_ (vY Aa (.inl k) z)))))) else none
 | _,_=>none
@[simp] noncomputable def fk (i:Nat):Ev->Option T:=fun J=>match J[i]? with
 | some (some (.own (.z_ Aa)))=>some (.int Aa.length)
 | _=>none
def kc {S:SS}{Z:Addr->Prop}{Y:ye}{J:Ev}(hE:ER S Z Y J) {i:Nat}{Aa:List (Key×T)}(h:J[i]?=some (some (.own (.z_ Aa)))):∃ p b,Y[i]?=some (some (.ref p))/\S p=some (.z_ b)/\yy (zN S Z) Aa b:=by
 obtain⟨p,o,h1,h2,h3,_⟩:=hE.ow i _ h
 cases o with
 | z_ b=>exact⟨p,b,h1,h2,h3⟩
 | lst _=>exact h3.elim
section
variable {R:Rk}{f g v:Ev->Option T}{ty tx tv:zr}
def TR (i:Nat):yu R (ZJ i) (vn ZX (hName i)):=λ S0 Z0 S Z Y J o E F e P=>by
 cases e
 intro p hp
 exact P _ _ _ (F.cp (ts:=.z_ []) (ds:=.z_ []) (.new hp _) i hp rf rfl)
def bO (i:Nat) (hf:yv f ty):vt (fm i f) (Z_ (y4 i) ty):=λ S Z Y J y Q hE e hq=>by
 obtain⟨x,e1,e2⟩:=Aj.mp e
 split at e2
 ·rename_i Aa k h
  obtain⟨p,b,h1,h2,h3⟩:=kc hE h
  show y4 i Y S _
  unfold y4;rw[h1]
  refine hf S Z Y J _ _ hE e1 λ d S1 s1 r1=>?_
  cases Vw.int r1
  rcases (yy.sx (wK s1) h3).val (.inl k) with ⟨g1,_⟩ | ⟨t,d,g1,g2,g3⟩
  ·rw[g1] at e2;cases e2
  ·rw[g1] at e2;cases e2
   exact⟨p,b,k,d,rfl,rfl,s1 _ _ h2,g2,hq d S1 s1 g3⟩
 ·cases e2
def bP (i:Nat) (hf:yv f ty) (hg:vt g tx):vt (ZK i f g) (ZZ (y4 i) ty tx):=λ S Z Y J y Q hE e hq=>by
 obtain⟨x,e1,e⟩:=Aj.mp e
 obtain⟨z,e2,e3⟩:=Aj.mp e
 split at e3
 ·rename_i Aa k h
  cases e3
  obtain⟨p,b,h1,h2,h3⟩:=kc hE h
  show y4 i Y S _
  unfold y4;rw[h1]
  refine⟨p,rfl,⟨b,h2⟩,hf S Z Y J _ _ hE e1 λ d S1 s1 r1=>?_⟩
  cases Vw.int r1
  refine hg S1 Z Y J z _ (hE.grow s1) e2 λ dz S2 s2 r2=>⟨k,b,rfl,(s1.trans s2) _ _ h2,?_⟩
  rcases (yy.sx (wK (s1.trans s2)) h3).val (.inl k) with ⟨g1,g2⟩ | ⟨t,d,g1,g2,g3⟩
  ·rw[g2];rw[g1] at hq;exact hq _ S2 (s1.trans s2) r2
  ·rw[g2];rw[g1] at hq;exact hq _ S2 (s1.trans s2) g3
 ·cases e3
def TQ (i:Nat) (hf:yv f ty) (hv:vt v tv):yu R (ZI i f v) (ZY (y4 i) ty tv):=λ S0 Z0 S Z Y J o E F e P=>by
 obtain⟨z,e1,e⟩:=Aj.mp e
 obtain⟨x,e2,e3⟩:=Aj.mp e
 split at e3
 ·rename_i Aa k h
  split at e3
  ·rename_i hl
   cases e3
   refine hv S Z Y J z _ F.er e1 λ dz S1 s1 r1=>?_
   have F1:=F.grow s1
   obtain⟨p,b,h1,h2,h3⟩:=kc F1.er h
   show y4 i Y S1 _
   unfold y4;rw[h1]
   refine hf S1 Z Y J _ _ F1.er e2 λ d S2 s2 r2=>?_
   cases Vw.int r2
   have h4:=yy.sx (wK s2) h3
   exact⟨p,b,k,rfl,rfl,s2 _ _ h2,by rw[h4.len];exact hl,P _ Z Y ((F1.grow s2).mut (us:=.z_ (vY Aa (.inl k) z)) (es:=.z_ (putD b (.inl k) dz)) i h h1 (h4.put _ (Sn.sx (wK s2) z r1)))⟩
  ·cases e3
 ·cases e3
def Rc (i:Nat):xp (fk i) (xm Z6 (qC (y4 i) kL)):=λ S Z Y J y Q hE e hq=>by
 unfold fk at e
 split at e
 ·rename_i Aa h
  cases e
  obtain⟨p,b,h1,h2,h3⟩:=kc hE h
  show y4 i Y S _
  unfold y4;rw[h1]
  refine⟨p,b,rfl,h2,?_⟩
  rw[h3.len]
  exact hq _ S (.refl S) (Cl.of (λ _=>nofun) wc)
 ·cases e
end
@[simp] noncomputable def kl (f:Ev->Option T):Ev->Option T:=fun J=>(f J).bind λ x=>match x with
 | .int i=>some (.int (-i))
 | _=>none
def ZT (ta:zr):zr:=fun Y S Q=>ta Y S λ x S1=>match x with
 | .int i=>Q (.int (-i)) S1
 | _=>False
def S7 {f:Ev->Option T}{te:zr}(h:yv f te):xp (kl f) (ZT te):=λ S Z Y J y Q hE e hq=>by
 obtain⟨x,e1,e2⟩:=Aj.mp e
 refine h S Z Y J x _ hE e1 λ d S1 s1 r1=>?_
 split at e2
 ·cases Vw.int r1
  cases e2
  exact hq _ S1 s1 (Cl.of (λ _=>nofun) wc)
 ·cases e2
def QU:vx zF pD Z5:=Zl
def QT:vx zF nE Z4:=Zl
noncomputable def vH:List T->Option (List Int)
 | []=>some []
 | .int i::ts=>(vH ts).map (i::·)
 | _::_=>none
noncomputable def vX:List T->Option (List (List Int))
 | []=>some []
 | .tup r::ts=>(vH r).bind λ x=>(vX ts).map (x::·)
 | _::_=>none
noncomputable def zR (r:List Int):T:=.tup (r.map T.int)
theorem pO:∀ {ts:List T}{is:List Int},vH ts=some is->ts=is.map T.int
 | [],is,h=>by cases h;rfl
 | .int b::ts,is,h=>by
  unfold vH at h
  obtain⟨cs,h1,rfl⟩:=AA.mp h
  rw[Ar,<- pO h1]
 | .zm::ts,bs,h=>by cases h
 | .bl _::ts,bs,h=>by cases h
 | .str _::ts,bs,h=>by cases h
 | .tup _::ts,bs,h=>by cases h
 | .lst _::ts,bs,h=>by cases h
theorem i4:∀ {ts:List T}{rs:List (List Int)},vX ts=some rs->ts=rs.map zR
 | [],is,h=>by cases h;rfl
 | .tup r::ts,is,h=>by
  unfold vX at h
  obtain⟨x,h1,h⟩:=Aj.mp h
  obtain⟨cs,h2,rfl⟩:=AA.mp h
  rw[Ar,<- i4 h2,pO h1];rfl
 | .zm::ts,bs,h=>by cases h
 | .bl _::ts,bs,h=>by cases h
 | .str _::ts,bs,h=>by cases h
 | .int _::ts,bs,h=>by cases h
 | .lst _::ts,bs,h=>by cases h
def gD (is:List Int):vH (is.map T.int)=some is:=by
 induction is with
 | nil=>rfl
 | cons b bs ih=>rw[Ar];unfold vH;rw[ih];rfl
def i5 (rs:List (List Int)):vX (rs.map zR)=some rs:=by
 induction rs with
 | nil=>rfl
 | cons b bs ih=>
  show vX (.tup (b.map T.int)::bs.map zR)=_
  unfold vX;rw[gD,ih];rfl
theorem u5 {S:SS}:∀ {is:List Int}{ds:List D},zi S (is.map T.int) ds↔ds=is.map D.int
 | [],ds=>by simp only[A6,zi]
 | i::is,ds=>by
  rw[Ar]
  simp only[zi,Sn]
  constructor
  ·rintro⟨c,cs,rfl,rfl,h⟩
   rw[u5.mp h];rfl
  ·rintro rfl
   exact⟨.int i,_,rfl,rfl,u5.mpr rfl⟩
theorem qY {S:SS}:∀ {rs:List (List Int)}{ds:List D},zi S (rs.map zR) ds↔ds=rs.map xS
 | [],ds=>by simp only[A6,zi]
 | r::rs,ds=>by
  rw[Ar]
  simp only[zi,zR,Sn]
  constructor
  ·rintro⟨c,cs,rfl,⟨es,rfl,h1⟩,h⟩
   rw[qY.mp h,u5.mp h1];rfl
  ·rintro rfl
   exact⟨xS r,_,rfl,⟨_,rfl,u5.mpr rfl⟩,qY.mpr rfl⟩
@[simp] noncomputable def X9:T->Option String
 | .zm=>some "NoneType"
 | .bl _=>some "bool"
 | .int _=>some "int"
 | .str _=>some "str"
 | .tup _=>some "tuple"
 | .lst _=>some "list"
 | .yW=>some "dict"
 | .err _ _ _=>none
@[simp] def Fu (ty:String) (f:Ev->Option T):Ev->Option T:=fun J=>(f J).bind λ x=>(X9 x).map λ t=>.bl (wg t ty)
theorem Vw.err {S:SS}{Z:Addr->Prop}{c f:Str}{t:T}{d:D}(h:Vw S Z (.err c f t) d):∃ x,d=.err c f x/\Sn (zN S Z) t x:=by
 rcases h with h | ⟨_,_,_,h,_⟩
 ·simpa only [Sn] using h
 ·cases h
def SW {ty:String}{f:Ev->Option T}{te:zr}(hf:yv f te):xp (Fu ty f) (pY ty te):=λ S Z Y J y Q hE e hq=>by
 obtain⟨x,e1,e2⟩:=Aj.mp e
 obtain⟨n,e3,rfl⟩:=AA.mp e2
 refine hf S Z Y J x _ hE e1 λ d S1 s1 r1=>?_
 have key:rg d S1=some n:=by
  rw[<- e3]
  cases x with
  | zm=>cases Vw.zm r1;rfl
  | bl _=>cases Vw.bl r1;rfl
  | int _=>cases Vw.int r1;rfl
  | str _=>cases Vw.str r1;rfl
  | tup _=>obtain⟨ds,rfl,_⟩:=Vw.tup r1;rfl
  | lst _=>
   obtain⟨ds,rfl | ⟨a,rfl,h1⟩,h2⟩:=Vw.lst r1
   ·rfl
   ·unfold rg;dsimp only;rw[h1];rfl
  | yW=>
   obtain⟨a,Aa,⟨rfl,_⟩,h1⟩:=Vw.yW r1
   unfold rg;dsimp only;rw[h1];rfl
  | err _ _ _=>cases e3
 rw[key]
 exact hq _ S1 s1 (Cl.of (λ _=>nofun) ve)
@[simp] noncomputable def isNone:T->Bool
 | .zm=>true
 | _=>false
noncomputable def pN:D->Bool
 | .zm=>true
 | _=>false
noncomputable def zo (p:Int×Int):T:=.tup [.int p.1,.int p.2]
noncomputable def wA (ns:List Int):T:=.lst (ns.map .int)
@[simp] theorem zaa:sizeLine=16777216:=rfl
def RU {n:Nat}(h:n<=10000):n<=sizeLine:=Bk h (by decide)
def vP {α:Type}{xs:List α}{k:Nat}{x:α}(h:xs[k]?=some x):L2.zI xs (k:Int)=some x:=by
 unfold L2.zI L2.wW
 have hk:=(AI.mp h).1
 rw[if_pos (by lia),if_pos (by lia)]
 simpa using h
@[simp] theorem fH {α:Type}{xs:List α}{x:α}:L2.zI (xs++[x]) (-1)=some x:=by
 unfold L2.zI L2.wW
 rw[if_neg (by lia),if_pos (by simp;lia)]
 have:(-1+((xs++[x]).length:Int)).toNat=xs.length:=by simp;lia
 rw[BD,this]
 simp
@[simp] theorem zaj {α:Type}{x:α}{xs:List α}:L2.zI (x::xs) 0=some x:=vP (k:=0) rfl
@[simp] theorem zai {α:Type}{x y:α}{xs:List α}:L2.zI (x::y::xs) 1=some y:=vP (k:=1) rfl
@[simp] theorem zah {α:Type}{x y z:α}{xs:List α}:L2.zI (x::y::z::xs) 2=some z:=vP (k:=2) rfl
@[simp] theorem zag {α:Type}{x y z w:α}{xs:List α}:L2.zI (x::y::z::w::xs) 3=some w:=vP (k:=3) rfl
theorem f7 {α:Type}(enc:α->T) (g:α->Option T) (h:T->Option (Option T)):∀ (xs:List α),(∀ x∈xs,h (enc x)=some (g x))->qD h (xs.map enc)=some (xs.filterMap g)
 | [],_=>rfl
 | x::xs,hh=>by
  rw[Ar]
  unfold qD
  rw[hh x Ao,f7 enc g h xs λ y hy=>hh y (Aw _ hy)]
  cases q:g x <;> simp[q]
def Oq {α:Type}(enc:α->T) (g:α->T) (h:T->Option (Option T)) (xs:List α) (hh:∀ x∈xs,h (enc x)=some (some (g x))):qD h (xs.map enc)=some (xs.map g):=by
 rw[f7 enc (λ x=>some (g x)) h xs hh]
 simp
def sC {α:Type}(enc:α->T) (h:α->T) {pick:List (Option Nat)}{it:Ev->Option (List T)}{g:T->Ev->Option Ev}{c:Ev->Option Bool}{f:Ev->Option T}{J:Ev}(xs:List α) (hi:it J=some (xs.map enc)) (hl:xs.length<=16777216)
  (hh:∀ x∈xs,pG pick g c f J (enc x)=some (some (h x))):xU pick it g c f J=some (.lst (xs.map h)):=by
 unfold xU
 rw[hi,BD,if_pos (by rw[Ay];exact hl),Oq enc h _ xs hh];rfl
def ky {α:Type}(enc:α->T) (h:α->Option T) {pick:List (Option Nat)}{it:Ev->Option (List T)}{g:T->Ev->Option Ev}{c:Ev->Option Bool}{f:Ev->Option T}{J:Ev}(xs:List α) (hi:it J=some (xs.map enc)) (hl:xs.length<=16777216)
  (hh:∀ x∈xs,pG pick g c f J (enc x)=some (h x)):xU pick it g c f J=some (.lst (xs.filterMap h)):=by
 unfold xU
 rw[hi,BD,if_pos (by rw[Ay];exact hl),f7 enc h _ xs hh];rfl
section
variable {α:Type}{is:List Nat}{g:T->Ev->Option Ev}{b:Sm}
noncomputable def turn (g:T->Ev->Option Ev) (b:Sm) (y:T) (J:Ev):Option Out:=(g y J).bind b
theorem gq (y:T) (ys:List T) (J:Ev):xy is g b (y::ys) J=(turn g b y (yA is J)).bind λ o=>match o with
  | .nx J2=>xy is g b ys J2
  | .ct J2=>xy is g b ys J2
  | .bk J2=>some (.nx (yA is J2))
  | .rt t=>some (.rt t):=by
 unfold turn
 rw[xy]
 cases g y (yA is J) <;> rfl
theorem ku (enc:α->T) (test:α->Bool) (v:T) (J0:Ev):∀ (xs:List α) (J:Ev),yA is J=J0->(∀ x∈xs,∃ J',yA is J'=J0/\turn g b (enc x) J0=some (if test x=true then .rt v else .nx J'))->xy is g b (xs.map enc) J=some (if xs.any test=true then .rt v else .nx J0)
 | [],J,h,_=>by rw[A6,xy,h];rfl
 | x::xs,J,h,hs=>by
  obtain⟨J',h1,h2⟩:=hs x Ao
  rw[Ar,gq,h,h2,Bu]
  cases q:test x with
  | true=>simp
  | false=>
   have ih:=ku enc test v J0 xs J' h1 λ y hy=>hs y (Aw _ hy)
   simpa using ih
theorem ao (enc:α->T) (I:List α->Ev->Prop):∀ (xs:List α) (pre:List α) (J:Ev),I pre (yA is J)->
  (∀ p x q,pre++xs=p++x::q->∀ J,I p J->∃ J',turn g b (enc x) J=some (.nx J')/\I (p++[x]) (yA is J'))->∃ J',xy is g b (xs.map enc) J=some (.nx J')/\I (pre++xs) J'
 | [],pre,J,h,_=>⟨yA is J,by rw[A6,xy],by simpa using h⟩
 | x::xs,pre,J,h,hs=>by
  obtain⟨J',h1,h2⟩:=hs pre x xs rfl _ h
  rw[Ar,gq,h1]
  have ih:=ao enc I xs (pre++[x]) J' h2 λ p y q e=>hs p y q (by rw[<- e];simp)
  simpa using ih
def uA (enc:α->T) (I:List α->Ev->Prop) (xs:List α) (J:Ev) (h:I [] (yA is J))
  (hs:∀ p x q,xs=p++x::q->∀ J,I p J->∃ J',turn g b (enc x) J=some (.nx J')/\I (p++[x]) (yA is J')):∃ J',xy is g b (xs.map enc) J=some (.nx J')/\I xs J':=ao enc I xs [] J h hs
end
def oY (n:Nat) (h:n<=100000):tY [.int (n:Int)]=some ((List.range n).map λ(k:Nat)=>T.int (0+(k:Int))):=by
 show (if inR (n:Int)=true then some (rangeT 0 (n:Int).toNat) else none)=_
 rw[if_pos (Zh.mpr ⟨by lia,by lia⟩)]
 rfl
def qd (a:Key) (b:T) (Aa:List (Key×T)) (j:Key):yZ ((a,b)::Aa) j=if a=j then some b else yZ Aa j:=by
 by_cases h:a=j <;> simp[yZ,h]
theorem dw (k j:Key) (d:T):∀ Aa:List (Key×T),yZ (Aa.map λ kv=>if kv.1=k then (kv.1,d) else kv) j=(yZ Aa j).map λ x=>if j=k then d else x
 | []=>rfl
 | (a,b)::Aa=>by
  have ih:=dw k j d Aa
  rw[Ar]
  by_cases hk:a=k
  ·rw[if_pos hk,qd,qd,ih]
   by_cases hj:a=j
   ·subst hj;subst hk;simp
   ·rw[if_neg hj,if_neg hj]
  ·rw[if_neg hk,qd,qd,ih]
   by_cases hj:a=j
   ·subst hj;simp[hk]
   ·rw[if_neg hj,if_neg hj]
theorem du (k j:Key) (d:T):∀ Aa:List (Key×T),(∀ kv∈Aa,¬ kv.1=k)->yZ (Aa++[(k,d)]) j=if j=k then some d else yZ Aa j
 | [],_=>by
  show yZ [(k,d)] j=_
  rw[qd]
  by_cases h:j=k
  ·subst h;simp
  ·rw[if_neg h,if_neg (λ z=>h z.symm)]
 | (a,b)::Aa,hn=>by
  have ih:=du k j d Aa λ kv Er=>hn kv (Aw _ Er)
  have ha:¬ a=k:=hn (a,b) Ao
  show yZ ((a,b)::(Aa++[(k,d)])) j=_
  rw[qd,qd,ih]
  by_cases hj:a=j
  ·subst hj;simp[ha]
  ·rw[if_neg hj,if_neg hj]
def Y3 (Aa:List (Key×T)) (k:Key):(Aa.any λ kv=>decide (kv.1=k))=(yZ Aa k).isSome:=by
 unfold yZ
 rw[Option.isSome_map,Bz,A_,List.find?_isSome]
def l5 (Aa:List (Key×T)) (k j:Key) (d:T):yZ (vY Aa k d) j=if j=k then some d else yZ Aa j:=by
 unfold vY
 split
 ·rename_i h
  rw[Y3] at h
  rw[dw]
  by_cases hj:j=k
  ·subst hj
   obtain⟨x,hx⟩:=DB.mp h
   simp[hx]
  ·simp[hj]
 ·rename_i h
  exact du k j d Aa λ kv Er z=>h (A_.mpr ⟨kv,Er,Ki z⟩)
def az (Aa:List (Key×T)) (k:Key) (d:T):(vY Aa k d).length=if (yZ Aa k).isSome=true then Aa.length else Aa.length+1:=by
 have e:=Y3 Aa k
 unfold vY
 rw[e]
 split <;> simp
noncomputable def v7 (p:Int×Int):List Int:=[p.1,p.2]
def tX (ps:List (Int×Int)):List (Int×Int):=(L4.xw (ps.map v7)).map λ r=>(r.getD 0 0,r.getD 1 0)
def dU (ps:List (Int×Int)):(tX ps).map v7=L4.xw (ps.map v7):=by
 unfold tX
 rw[AU]
 conv=>rhs;rw[<- List.map_id (L4.xw (ps.map v7))]
 refine CD λ r hr=>?_
 obtain⟨p,_,rfl⟩:=Av.mp ((L4.tW _).mem_iff.mp hr)
 rfl
def jI (ps:List (Int×Int)):(tX ps).Perm ps:=by
 have h:=L4.tW (ps.map v7)
 have:(tX ps).Perm ((ps.map v7).map λ r=>(r.getD 0 0,r.getD 1 0)):=h.map _
 rwa [AU,show ((λ r:List Int=>(r.getD 0 0,r.getD 1 0)) ∘ v7)=id from rfl,List.map_id] at this
def pF (p q:Int×Int):Prop:=p.1<q.1\/(p.1=q.1/\p.2<=q.2)
def dS (ps:List (Int×Int)):(tX ps).Pairwise pF:=by
 have h:=L4.jH (ps.map v7)
 rw[<- dU,Cd] at h
 refine h.imp λ{p q} Cy=>?_
 unfold v7 at Cy
 rw[HT.tf,HT.tf] at Cy
 unfold pF
 by_cases e:q.1=p.1
 ·rw[if_pos e] at Cy
  by_cases e2:q.2=p.2
  ·lia
  ·rw[if_neg e2] at Cy
   have:=of_decide_eq_false Cy
   lia
 ·rw[if_neg e] at Cy
  have:=of_decide_eq_false Cy
  lia
def Vh (ps:List (Int×Int)):vX (ps.map zo)=some (ps.map v7):=by
 have:=i5 (ps.map v7)
 rwa [AU,show zR ∘ v7=zo from rfl] at this
noncomputable def wL (q p:Int×Int):Bool:=decide (p.1<=q.1)&&decide (p.2<=q.2)
def zV (ps:List (Int×Int)) (q:Int×Int):Bool:=ps.any (wL q)
def yT {ps:List (Int×Int)}{q:Int×Int}:zV ps q=true↔∃ p∈ps,p.1<=q.1/\p.2<=q.2:=by
 unfold zV wL
 simp[A_]
def Oj {ps qs:List (Int×Int)}(h:ps.Perm qs) (q:Int×Int):zV ps q=zV qs q:=by
 rw[Bz,yT,yT]
 exact⟨λ⟨p,h1,h2⟩=>⟨p,h.mem_iff.mp h1,h2⟩,λ⟨p,h1,h2⟩=>⟨p,h.mem_iff.mpr h1,h2⟩⟩
def Ol (ps qs:List (Int×Int)) (q:Int×Int):zV (ps++qs) q=(zV ps q||zV qs q):=by
 unfold zV;rw[List.any_append]
def wz (ps:List (Int×Int)):Prop:=ps.Pairwise λ p q=>p.1<q.1/\q.2<p.2
theorem wz.eq:∀ {ps qs:List (Int×Int)},wz ps->wz qs->(∀ q,zV ps q=zV qs q)->ps=qs
 | [],[],_,_,_=>rfl
 | [],q::qs,_,_,h=>by
  have:=h q
  rw[show zV [] q=false from rfl] at this
  have h2:zV (q::qs) q=true:=yT.mpr ⟨q,Ao,AG _,AG _⟩
  rw[h2] at this;cases this
 | p::ps,[],_,_,h=>by
  have:=h p
  rw[show zV [] p=false from rfl] at this
  have h2:zV (p::ps) p=true:=yT.mpr ⟨p,Ao,AG _,AG _⟩
  rw[h2] at this;cases this
 | p::ps,q::qs,hp,hq,h=>by
  have GK:=Bn.mp hp
  have I_:=Bn.mp hq
  have a1:∃ r∈q::qs,r.1<=p.1/\r.2<=p.2:=yT.mp (by rw[<- h];exact yT.mpr ⟨p,Ao,AG _,AG _⟩)
  have a2:∃ r∈p::ps,r.1<=q.1/\r.2<=q.2:=yT.mp (by rw[h];exact yT.mpr ⟨q,Ao,AG _,AG _⟩)
  obtain⟨r,hr,r1,r2⟩:=a1
  obtain⟨u,hu,u1,u2⟩:=a2
  have qr:q.1<=r.1:=by
   rcases Ai.mp hr with e | e
   ·subst e;exact AG _
   ·exact Int.le_of_lt (I_.1 r e).1
  have pu:p.1<=u.1:=by
   rcases Ai.mp hu with e | e
   ·subst e;exact AG _
   ·exact Int.le_of_lt (GK.1 u e).1
  have e1:p.1=q.1:=by lia
  have er:r=q:=by
   rcases Ai.mp hr with e | e
   ·exact e
   ·have:=(I_.1 r e).1;lia
  have eu:u=p:=by
   rcases Ai.mp hu with e | e
   ·exact e
   ·have:=(GK.1 u e).1;lia
  subst er eu
  have e2:u.2=r.2:=by lia
  have epq:u=r:=Prod.ext e1 e2
  subst epq
  rw[wz.eq GK.2 I_.2 λ x=>?_]
  have hx:=h x
  unfold zV at hx ⊢
  rw[Bu,Bu] at hx
  cases g:wL x u with
  | false=>rw[g] at hx;simpa using hx
  | true=>
   have gx:u.1<=x.1/\u.2<=x.2:=by simpa [wL] using g
   have key:∀ {l:List (Int×Int)},(∀ v∈l,u.1<v.1/\v.2<u.2)->l.any (wL x)=l.any (wL (x.1,u.2-1)):=by
    intro l hl
    rw[Bz,A_,A_]
    constructor
    ·rintro⟨v,hv,hg⟩
     have:=hl v hv
     have hg':v.1<=x.1/\v.2<=x.2:=by simpa [wL] using hg
     exact⟨v,hv,by simp[wL];lia⟩
    ·rintro⟨v,hv,hg⟩
     have:=hl v hv
     have hg':v.1<=x.1/\v.2<=u.2-1:=by simpa [wL] using hg
     exact⟨v,hv,by simp[wL];lia⟩
   rw[key GK.1,key I_.1]
   have hy:=h (x.1,u.2-1)
   unfold zV at hy
   rw[Bu,Bu] at hy
   have gn:wL (x.1,u.2-1) u=false:=by
    unfold wL
    rw[show decide (u.2<=(x.1,u.2-1).2)=false from Kd (by show ¬ u.2<=u.2-1;lia),CG]
   rw[gn] at hy
   simpa using hy
noncomputable def tI (l:Option Int) (x:Int):Bool:=match l with
 | none=>true
 | some m=>decide (x<m)
noncomputable def yC:List (Int×Int)->Option Int->List (Int×Int)
 | [],_=>[]
 | p::ps,l=>if tI l p.2=true then p::yC ps (some p.2) else yC ps l
def wV (ps:List (Int×Int)):List (Int×Int):=yC (tX ps) none
theorem nP:∀ (ps:List (Int×Int)) (l:Option Int) (q:Int×Int),q∈yC ps l->q∈ps/\∀ m,l=some m->q.2<m
 | [],l,q,h=>by simp[yC] at h
 | p::ps,l,q,h=>by
  unfold yC at h
  split at h
  ·rename_i c
   have hm:∀ m,l=some m->p.2<m:=λ m e=>by subst e;simpa [tI] using c
   rcases Ai.mp h with e | e
   ·subst e;exact⟨Ao,hm⟩
   ·obtain⟨h1,h2⟩:=nP ps _ q e
    exact⟨Aw _ h1,λ m e=>by have:=h2 _ rfl;have:=hm m e;lia⟩
  ·obtain⟨h1,h2⟩:=nP ps _ q h
   exact⟨Aw _ h1,h2⟩
theorem gI:∀ (ps:List (Int×Int)) (l:Option Int),ps.Pairwise pF->wz (yC ps l)
 | [],l,_=>by simp[yC,wz]
 | p::ps,l,h=>by
  have h1:=Bn.mp h
  unfold yC
  split
  ·refine Bn.mpr ⟨λ q hq=>?_,gI ps _ h1.2⟩
   obtain⟨g1,g2⟩:=nP ps _ q hq
   have:=h1.1 q g1
   have:=g2 _ rfl
   unfold pF at *
   lia
  ·exact gI ps _ h1.2
theorem gJ:∀ (ps:List (Int×Int)) (l:Option Int),ps.Pairwise pF->∀ p∈ps,(∃ q∈yC ps l,q.1<=p.1/\q.2<=p.2)\/∃ m,l=some m/\m<=p.2
 | [],l,_,p,hp=>by cases hp
 | r::ps,l,h,p,hp=>by
  have h1:=Bn.mp h
  unfold yC
  split
  ·rename_i c
   rcases Ai.mp hp with e | e
   ·subst e;exact .inl ⟨p,Ao,AG _,AG _⟩
   ·rcases gJ ps (some r.2) h1.2 p e with ⟨q,q1,q2⟩ | ⟨m,e1,e2⟩
    ·exact .inl ⟨q,Aw _ q1,q2⟩
    ·cases e1
     have:=h1.1 p e
     unfold pF at this
     exact .inl ⟨r,Ao,by lia,e2⟩
  ·rename_i c
   rcases Ai.mp hp with e | e
   ·subst e
    cases l with
    | none=>simp[tI] at c
    | some m=>exact .inr ⟨m,rfl,by simpa [tI] using c⟩
   ·exact gJ ps l h1.2 p e
def gy (ps:List (Int×Int)):wz (wV ps):=gI _ _ (dS ps)
def RZ {ps:List (Int×Int)}{q:Int×Int}(h:q∈wV ps):q∈ps:=(jI ps).mem_iff.mp (nP _ _ q h).1
def kx (ps:List (Int×Int)) (q:Int×Int):zV (wV ps) q=zV ps q:=by
 rw[<- Oj (jI ps) q,Bz,yT,yT]
 constructor
 ·rintro⟨p,h1,h2⟩
  exact⟨p,(nP _ _ p h1).1,h2⟩
 ·rintro⟨p,h1,h2⟩
  rcases gJ (tX ps) none (dS ps) p h1 with ⟨r,r1,r2⟩ | ⟨m,e,_⟩
  ·exact⟨r,r1,by lia,by lia⟩
  ·cases e
end L5
namespace L2
open PySem PySem.Spec PyProof.Rows
section
variable {X:Cx}
def cR (K:Ac):R2:=λ x y H Q=>∃ l b xs zs,x=.ref l/\y=.ref b/\zJ K H l xs/\zJ K H b zs/\xs.length+zs.length<=sizeLine/\∀ p,H p=none->Q (.ref p) (upd H p (.lst (xs++zs)))
def T6:ya X (binaryOp .Add) (cR X.K):=by
 intro EF s B H x y v u Q I rx ry h
 obtain⟨l,b,xs,zs,rfl,rfl,hH,hB,hz,q⟩:=h
 cases rx
 cases ry
 obtain⟨its,r,p1,_⟩:=I.list hH
 obtain⟨Fc,r2,p2,_⟩:=I.list hB
 obtain⟨⟨cls,dd,data,sl⟩,ho,hc,n,hd⟩:=p1.isList
 obtain⟨⟨G9,Gz,data2,Gu⟩,Gj,FV,n2,hd2⟩:=p2.isList
 simp only at hc hd FV hd2
 subst hc hd FV hd2
 have e:its.toArray++Fc.toArray=(its++Fc).toArray:=by simp
 refine concat_meets ⟨_,ho,rfl⟩ ⟨_,Gj,rfl⟩ noFill_list_add seq_list_add PySem.F.slot_list_add PySem.F.entry_list_add (PySem.F.args_list_add_2 _ _) (list_addW l b its.toArray Fc.toArray n n2 dd Gz sl Gu (by rw[Ax,Ax,<- r.length,<- r2.length];exact hz)) ⟨ho,Gj,?_⟩
 rw[e]
 exact⟨.ref _,_,I.RS (t':=s.toks) (r.append r2) (by rw[Cg];lia),rfl,q _ I.fresh⟩
def cP (K:Ac):R2:=λ x y H Q=>∃ a b ys,x=.ref a/\y=.ref b/\zL K H a []/\zL K H b ys/\Q (.ref b) H
def T4:ya X (binaryOp .Add) (cP X.K):=by
 intro EF s B H x y v u Q I rx ry h
 obtain⟨l,b,ys,rfl,rfl,hH,hB,q⟩:=h
 cases rx
 cases ry
 obtain⟨its,r,p1,_⟩:=I.tuple hH
 obtain⟨Fc,r2,p2,_⟩:=I.tuple hB
 obtain⟨⟨cls,dd,data,sl⟩,ho,hc,n,hd⟩:=id p1
 obtain⟨⟨G9,Gz,data2,Gu⟩,Gj,FV,n2,hd2⟩:=id p2
 simp only at hc hd FV hd2
 subst hc hd FV hd2
 exact concat_meets ⟨_,ho,rfl⟩ ⟨_,Gj,rfl⟩ noFill_tuple_add seq_tuple_add PySem.F.slot_tuple_add PySem.F.entry_tuple_add (PySem.F.args_tuple_add_2 _ _)
   (tuple_addW0 l b its.toArray Fc.toArray n n2 dd Gz sl Gu (by cases r;rfl)) ⟨ho,Gj,⟨.ref b,H,I,rfl,q⟩⟩
end
end L2
namespace L5
open PySem PySem.Spec L2 L3
open PyProof.Rows hiding St
section
variable {X:Cx}{K:Ac}{a b c e:Expr}{es:List Expr}{ta tb tc te:zr}{tA:yh}{pos p:Pos}
def ui.mo:xv ui:=λ x y S Q Q' hq h=>by
 cases x with
 | int i=>cases y <;> first | exact hq _ _ h | exact h
 | str i=>cases y <;> first | exact⟨h.1,hq _ _ h.2⟩ | exact h
 | tup i=>cases y <;> first | exact⟨h.1,hq _ _ h.2⟩ | exact h
 | xr ds=>
  unfold ui at h ⊢
  dsimp only at h ⊢
  split at h
  ·exact⟨h.1,h.2.1,λ r hr=>hq _ _ (h.2.2 r hr)⟩
  ·exact h.elim
 | ref q=>
  unfold ui at h ⊢
  dsimp only at h ⊢
  split at h
  ·exact⟨h.1,h.2.1,λ r hr=>hq _ _ (h.2.2 r hr)⟩
  ·exact h.elim
 | _=>exact h
def rn {H:Hp}{S:SS}{d:D}{v:V}{ds:List D}(r:zg K H d v) (p:zH K H S) (e:zM d S=some ds) (n:∀ ts,d≠.tup ts):∃ a xs,v=.ref a/\zJ K H a xs/\zj K H ds xs:=by
 unfold zM at e
 split at e
 ·exact absurd rfl (n _)
 ·cases e
  simp only[zg] at r
  obtain⟨a,xs,h1,h2,h3⟩:=r
  exact⟨a,xs,h1,h2.sq,h3⟩
 ·split at e
  ·rename_i q
   cases e
   simp only[zg] at r
   subst r
   obtain⟨xs,h1,h2⟩:=p _ _ q
   exact⟨_,xs,rfl,zJ.of h1,h2⟩
  ·cases e
 ·cases e
abbrev cU (K:Ac):R2:=λ x y H Q=>v9 (λ i j=>.int (i+j)) x y H Q\/((∃ i j,x=.str i/\y=.str j/\i.length+j.length<=sizeLine/\Q (.str (i++j)) H)\/(cR K x y H Q\/(cP K x y H Q\/cQ K x y H Q)))
def ui.fits:xq K ui (cU K):=λ x y d e H S Q h1 h2 h3 h=>by
 have lst:(∀ ts,d≠.tup ts)->(match zM d S,zM e S with
  | some ds,some es=>(∀ ts,e≠.tup ts)/\ds.length+es.length<=sizeLine/\∀ r,S r=none->wx K H Q (.ref r) (ups S r (.lst (ds++es)))
  | _,_=>False)->cU K x y H Q:=λ n h=>by
  split at h
  ·rename_i ds es q1 q2
   obtain⟨a,xs,rfl,g1,g2⟩:=rn h1 h3 q1 n
   obtain⟨b,ys,rfl,g3,g4⟩:=rn h2 h3 q2 h.1
   refine .inr (.inr (.inl ⟨a,b,xs,ys,rfl,rfl,g1,g3,by rw[<- g2.length,<- g4.length];exact h.2.1,λ p hp=>?_⟩))
   exact h.2.2 p (h3.none hp) _ _ (by simp only[zg]) (.new hp _) (h3.ups (.new hp _) ⟨_,y6,zj.ext (.new hp _) _ (g2.append g4)⟩)
  ·exact h.elim
 cases d with
 | int i=>
  cases e with
  | int j=>
   simp only[zg] at h1 h2
   exact .inl ⟨_,_,h1,h2,h _ H (by simp only[zg]) (.refl H) h3⟩
  | _=>exact h.elim
 | str i=>
  cases e with
  | str j=>
   simp only[zg] at h1 h2
   exact .inr (.inl ⟨_,_,h1,h2,h.1,h.2 _ H (by simp only[zg]) (.refl H) h3⟩)
  | _=>exact h.elim
 | tup ds=>
  cases e with
  | tup es=>
   have IE:=h1
   have JR:=h2
   simp only[zg] at h1 h2
   obtain⟨a,xs,rfl,g1,g2⟩:=h1
   obtain⟨b,ys,rfl,g3,g4⟩:=h2
   have hl:=g2.length
   have Gp:=g4.length
   by_cases hx:xs=[]
   ·subst hx
    have:ds=[]:=by cases ds <;> simp_all
    subst this
    exact .inr (.inr (.inr (.inl ⟨a,b,ys,rfl,rfl,g1,g3,h.2 _ H JR (.refl H) h3⟩)))
   ·refine .inr (.inr (.inr (.inr ⟨a,b,xs,ys,rfl,rfl,g1,g3,hx,by rw[<- hl,<- Gp];exact h.1,λ hy=>?_,λ hy p hp=>?_⟩)))
    ·subst hy
     have:es=[]:=by cases es <;> simp_all
     subst this
     refine h.2 _ H ?_ (.refl H) h3
     rw[CZ];exact IE
    ·refine h.2 _ _ ?_ (.new hp _) (h3.new hp)
     simp only[zg]
     exact⟨p,_,rfl,zL.of y6,zj.ext (.new hp _) _ (g2.append g4)⟩
  | _=>exact h.elim
 | xr ds=>exact lst (λ _=>nofun) h
 | ref q=>exact lst (λ _=>nofun) h
 | _=>exact h.elim
def yS (ha:PD X a ta) (hb:PD X b tb):PD X (.BinOp a .Add b pos) (yn ui ta tb):=r9 (T9.or (T7.or (T6.or (T4.or T5)))) ui.fits ui.mo ha hb
def vM.mo {g:List Bool->Bool}:vw (vM g):=λ ds S Q Q' hq h=>by
 unfold vM at h ⊢
 split at h
 ·exact h.elim
 ·obtain⟨bs,h1,h2⟩:=h
  exact⟨bs,h1,hq _ _ h2⟩
 ·exact h.elim
def vM.fits {g:List Bool->Bool}:uv K (vM g) (λ xs H Q=>∃ p,∃ bs:List Bool,xs=[.ref p]/\zJ K H p (bs.map V.bl)/\Q (.bl (g bs)) H):=λ xs ds H S Q h0 h2 h=>by
 unfold vM at h
 split at h
 ·exact h.elim
 ·rename_i d hn
  obtain⟨x,hx,h1⟩:=h0.one;subst hx
  obtain⟨bs,e,h⟩:=h
  obtain⟨a,ys,rfl,g1,g2⟩:=rn h1 h2 e (λ ts z=>hn ts z)
  rw[g2.bools] at g1
  exact⟨a,bs,rfl,g1,h _ H (by simp only[zg]) (.refl H) h2⟩
 ·exact h.elim
def bA (hm:X.mg "all"=none) (ha:yY X (e::es) tA) (hc:X.calm=true:=by rfl) (hg:Gl X "all":=by rfl) (he:starEach (e::es) X.env=(false,eval e X.env)::starEach es X.env:=by rfl) (An:(backTo pos (starEach es X.env)).any (·.1)=false:=by rfl):PD X (.Call (.Name "all" p) (e::es) [] pos) (xm (vM λ bs=>bs.all id) tA):=
 u6 (uS (OM hc) hg hm boot_all ha.pa (by decide) (by decide) he An) vM.mo vM.fits ha.mo
def Tb (hm:X.mg "any"=none) (ha:yY X (e::es) tA) (hc:X.calm=true:=by rfl) (hg:Gl X "any":=by rfl) (he:starEach (e::es) X.env=(false,eval e X.env)::starEach es X.env:=by rfl) (An:(backTo pos (starEach es X.env)).any (·.1)=false:=by rfl):PD X (.Call (.Name "any" p) (e::es) [] pos) (xm (vM λ bs=>bs.any id) tA):=
 u6 (uS (OK hc) hg hm boot_any ha.pa (by decide) (by decide) he An) vM.mo vM.fits ha.mo
def aP {H:Hp}{d:D}{v:V}(r:zg K H d v):decide (v=.zm)=pN d:=by
 cases d with
 | tup _=>simp only[zg] at r;obtain⟨a,xs,rfl,_⟩:=r;rfl
 | xr _=>simp only[zg] at r;obtain⟨a,xs,rfl,_⟩:=r;rfl
 | err _ _ _=>simp only[zg] at r;obtain⟨a,_,_,_,rfl,_⟩:=r;rfl
 | _=>simp only[zg] at r;subst r;rfl
def iM (ha:PD X a ta):PD X (.UnaryOp .USub a pos) (ZT ta):=by
 refine⟨fun Y S Q Q' hq h=>ha.mo Y S _ _ (λ x S1 z=>by
  cases x <;> first
   | exact hq _ _ z
   | exact z) h,PE.imp (Uh X6 ha.pe) fun B H Q hu=>?_⟩
 obtain⟨Y,S,r1,r2,h⟩:=hu
 refine zK.go ha.mo r1 r2 h λ x S1 v H1 h1 q1 e1 p1=>?_
 cases x with
 | int i=>simp only[zg] at q1;exact⟨i,q1,h1 _ H1 (by simp only[zg]) e1 p1⟩
 | _=>exact h1.elim
section
variable {N':List Str}{pick:List (Option Nat)}{scope:Scope}{tg elt iter:Expr}{ifs:List Expr}{ti:wy}{g:yX}{G1:y7}
def sL.mo (hi:jc ti):yf (sL pick ti g G1 te):=fun Y S Q Q' hq z=>hi Y S _ _ (λ I S1 ⟨h1,h2,h3⟩=>⟨h1,h2,λ p hp=>by
 obtain⟨W,w0,w1,w2,w3⟩:=h3 p hp
 exact⟨W,w0,w1,w2,λ S2 acc a b c=>hq _ _ (w3 S2 acc a b c)⟩⟩) z
def d5 (hi:jc ti) (hg:mP g) (hc:wQ G1) (he:yf te) {B:St}{H:Hp}{Q:VK}(hu:zK K (sL pick ti g G1 te) B H Q):jC pick (w9 K ti) (oE K g) (wa K G1) (zK K te) B H Q:=by
 obtain⟨Y,S,r1,r2,z⟩:=hu
 refine⟨Y,S,r1,r2,hi Y S _ _ (λ I S1 hF J H1 e1 p1 rep D hD=>?_) z⟩
 obtain⟨hlen,hk,hF⟩:=hF
 have JK:S1 D=none:=p1.none hD
 obtain⟨W,w0,wm,HS,Jf⟩:=hF D JK
 refine⟨λ i m B H2=>m=I.items.length-i/\i<=I.items.length/\Ext H1 H2/\yF K H2 (uc pick Y) B/\∃ S2 acc,zH K H2 S2/\Sx S1 S2/\S2 D=some (.lst acc)/\acc.length<=i/\W i S2 acc,⟨_,rfl,AN _,.new hD _,((r1.ext e1).pick pick).ext (.new hD _),ups S1 D (.lst []),[],?_,.new JK _,rf,Ah _,?_⟩,?_⟩
 ·exact p1.ups (.new hD _) ⟨[],y6,.nil⟩
 ·exact wm 0 S1 _ [] (λ b o hb q=>by rw[tR hb];exact q) w0
 rintro i m B2 H2 ⟨rfl,Gk,x2,q1,S2,acc,q2,sx,Jc,AO,hW⟩
 obtain⟨g1,g2⟩:=rep i H2 S2 x2 q2 (hk S2 sx)
 by_cases hl:i<I.items.length
 ·have hd:I.items[i]?=some I.items[i]:=by simp[hl]
  obtain⟨go,yl⟩:=g1 _ hd
  refine .inr ⟨go,λ x H3 hy=>?_⟩
  obtain⟨x3,p3,d3⟩:=yl x H3 hy
  refine⟨_,_,S2,d3,q1.ext x3,p3,hg _ _ S2 _ _ (fun Y4 S4 z4 B4 H4 a1 a2 a3=>?_) (HS i _ S2 acc hd sx Jc hW)⟩
  obtain⟨hle,z4⟩:=z4
  refine wa.go hc a1 a3 z4 λ b S5 H5 z5 x5 p5=>wX (λ z5=>?_) (λ z5=>?_) z5
  ·refine zK.go he (a1.ext x5) p5 z5 λ y S6 v H6 z6 q6 x6 p6=>?_
   obtain⟨s6,hW6⟩:=z6
   obtain⟨ys,h6,r6⟩:=p6 _ _ (s6 _ _ Jc)
   have e6:Ext H6 (upd H6 D (.lst (ys++[v]))):=.lst h6 _
   have Hh:ys.length<=i:=by rw[<- r6.length];exact AO
   refine⟨ys,I.items.length-(i+1),h6,by lia,by lia,rfl,hl,((((x2.trans x3).trans a2).trans x5).trans x6).trans e6,hle.rep ((a1.ext (x5.trans x6)).ext e6),ups S6 D (.lst (acc++[y])),acc++[y],?_,λ b o hb=>?_,rf,by simp;lia,?_⟩
   ·exact p6.ups e6 ⟨_,y6,zj.ext e6 _ (r6.snoc q6)⟩
   ·rw[tR (by intro q;subst q;rw[JK] at hb;cases hb)]
    exact s6 _ _ (sx _ _ hb)
   ·exact wm _ S6 _ _ (λ b o hb q=>by rw[tR hb];exact q) hW6
  ·obtain⟨s5,hW5⟩:=z5
   exact⟨I.items.length-(i+1),by lia,rfl,hl,((x2.trans x3).trans a2).trans x5,hle.rep (a1.ext x5),S5,acc,p5,sx.trans s5,s5 _ _ Jc,by lia,hW5⟩
 ·have e:i=I.items.length:=by lia
  subst e
  exact .inl ⟨g2 (Ah _),Jf S2 acc sx Jc hW _ H2 (by simp only[zg]) (e1.trans x2) q2⟩
def sj (Sc:qS X N' pick scope) (hc:X.calm=true) (hi:sT X tg iter ti) (hg:∀ cl C s H fp,sU (yI X N' scope cl C s H fp) tg g) (hf:∀ cl C s H fp,kX (yI X N' scope cl C s H fp) ifs G1) (he:∀ cl C s H fp,PD (yI X N' scope cl C s H fp) elt te)
  (hs:∀ x,foldedSetIterable iter X.env x=pure x:=by intro _;rfl):
  PD X (.ListComp elt [⟨tg,iter,ifs,0⟩] scope pos) (sL pick ti g G1 te):=
 ⟨sL.mo hi.mo,λ EF s B H Q I hu=>Ut (g:=oE X.K g) (tc:=wa X.K G1) (te:=zK X.K te) Sc hc hi.pi (λ cl C s H fp=>(hg cl C s H fp).pg) (λ cl C s H fp=>(hf cl C s H fp).pf) (λ cl C s H fp=>(he cl C s H fp).pe) hs EF s B H Q I (d5 hi.mo (hg [] 0 s H []).mo (hf [] 0 s H []).mo (he [] 0 s H []).mo hu)⟩
def lW {i:Nat}{y:Str}{py BE:Pos}(Sc:qS X N' pick scope) (hc:X.calm=true) (hi:sT X tg iter ti) (hg:∀ cl C s H fp,sU (yI X N' scope cl C s H fp) tg g) (hf:∀ cl C s H fp,kX (yI X N' scope cl C s H fp) ifs G1) (he:∀ cl C s H fp,PD (yI X N' scope cl C s H fp) elt te)
  (hN:X.N.Nodup) (hy:X.N[i]?=some y) (hx:Loc X.env.scope y)
  (Ct:swapsWith (.ListComp elt [⟨tg,iter,ifs,0⟩] scope pos) (some (.Name y py)) BE.line X.env=pure true:=by rfl)
  (CB:X.fn y=true\/X.env.scope.names.lookup y=some .local:=by first | exact .inl rfl | exact .inr rfl | assumption)
  (hs:∀ x,foldedSetIterable iter X.env x=pure x:=by intro _;rfl):
  vq X (.Assign [.Name y py] (.ListComp elt [⟨tg,iter,ifs,0⟩] scope pos) BE) (vn (sL pick ti g G1 te) (hName i)):=by
 refine⟨vn.mo (sL.mo hi.mo) λ _ _ _ _ _ hq z=>hq _ _ z,λ EF s B H D I hu=>VB (g:=oE X.K g) (tc:=wa X.K G1) (te:=zK X.K te) Sc hc hi.pi (λ cl C s H fp=>(hg cl C s H fp).pg) (λ cl C s H fp=>(hf cl C s H fp).pf) (λ cl C s H fp=>(he cl C s H fp).pe) hN hy hx Ct CB hs EF s B H D I ?_⟩
 obtain⟨Y,S,r1,r2,z⟩:=hu
 refine d5 hi.mo (hg [] 0 s H []).mo (hf [] 0 s H []).mo (he [] 0 s H []).mo ⟨Y,S,r1,r2,sL.mo hi.mo Y S _ _ (λ x S1 z v H1 q1 e1 p1=>?_) z⟩
 exact z _ H1 ((r1.ext e1).set i q1) e1 p1
end
end
section
variable {P:Program}{w:World}{K:Ac}{mg:AF}{base:Heap}{f:Addr}{fd:FuncData}
def Zx {R:Rk} [Lo R] {x:Str}{st:Stmt}{N ps:List Str}{k n:Nat}{g:Sm}(F:uL K x x st f fd) (Sc:zY N ps (zB st)) (hn:n=ps.length)
  (Fm:∀ (Af:Value) (A:Around) (outer:List Env) (s:Shared) (H:Hp) (E:XK),yq k (A.deeper (envOfC x (zB st) s.heap.objs.size f Af))->
   ∃ t,ur (tF vy P w K mg base N x (zB st) f Af A outer s H E).rD (w_ st) t/\yu R g t):uu P w K mg base vy (k+1) f fd ps (tS K (zQ R (zZ N n g))):=
 Pd F Sc (λ ds S Q h=>by rw[h.len,hn]) λ Af A outer s H E hr=>by
  obtain⟨t,h1,h2⟩:=Fm Af A outer s H E hr
  exact⟨t,h1,λ ds S Q h=>OV h2 h⟩
def Pn {R:Rk} [Lo R] {x:Str}{st:Stmt}{N ps:List Str}{k n:Nat}{g:Sm}(F:uL K x x st f fd) (hm:mg x=some (.ref f)) (Sc:zY N ps (zB st)) (hn:n=ps.length)
  (hb:∀ (kV doc pm:Value) (an:Option Addr) (Af ct:Value) (us:Ae),us.length=ps.length->bindArgs (PySem.W.fnOf x x (tE st) (w_ st) (zB st) .none kV doc pm an Af ct) ⟨us,[]⟩=pure (ps.zip us))
  (Fm:∀ (Af:Value) (A:Around) (outer:List Env) (s:Shared) (H:Hp) (E:XK),yq k (A.deeper (envOfC x (zB st) s.heap.objs.size f Af))->
   ∃ t,ur (tF vy P w K mg base N x (zB st) f Af A outer s H E).rD (w_ st) t/\yu R g t):FD P w K mg base x (k+1) ps (zQ R (zZ N n g)):=
 ⟨⟨f,fd,Zx F Sc hn Fm,hm,F.kp,F.binds hb⟩,zQ.mo⟩
def Qh {R:Rk} [Sr R] {F:List T->Option T}(hF:∀ ns:List Int,ns.length<=63->F [.lst (ns.map T.int)]=some (.bl true)) {H:Hp}{a:Addr}{ns:List Int}{E:XK}(hO:kY H) (hS:zJ K H a (ns.map V.int)) (hl:ns.length<=63):tS K (zQ R F) [.ref a] H (λ v _=>v=.bl true) E:=by
 have hFz:ot K H a (ns.map V.int):=by
  rcases hS with (h | h) | h
  ·rcases hO a with z | ⟨o,xs,z⟩
   ·rw[h] at z;cases z
   ·rw[h] at z;cases z
  ·exact .inl h
  ·exact .inr h
 refine⟨[.xr (ns.map D.int)],λ _=>none,.cons ?_ .nil,(λ a o z=>nomatch z),λ _=>False,[.lst (ns.map T.int)],.bl true,nofun,.cons ?_ .nil,hF ns hl,λ d S' s r v H' rv _ _=>?_⟩
 ·simp only[zg]
  exact⟨a,_,rfl,hFz,zj.hJ ns⟩
 ·simp only[Sn]
  exact⟨_,.inl ⟨rfl,TB ns⟩,u5.mpr rfl⟩
 ·have:=Sr.sn r
  simp only[Sn] at this
  subst this
  simpa only [zg] using rv
end
end L5
namespace ST
open PySem PySem.SetTable
def uK (xs:List Nat):Prop:=xs.Pairwise (· < ·)
def gP {xs:Array Nat}{m d:Nat}(h:m<xs.size):xs.getD m d=xs[m]:=by simp[Array.getD,h]
theorem fG (xs:Array Nat) (j:Nat) (hr:uK xs.toList):∀ (f lo hi:Nat),hi-lo<=f->lo<=hi->hi<=xs.size->(∀ i (h:i<xs.size),i<lo->xs[i]<j)->(∀ i (h:i<xs.size),hi<=i->j<=xs[i])->
  below.go xs j f lo hi<=xs.size/\(∀ i (h:i<xs.size),i<below.go xs j f lo hi->xs[i]<j)/\∀ i (h:i<xs.size),below.go xs j f lo hi<=i->j<=xs[i]
 | 0,lo,hi,h1,h2,h3,h4,h5=>by
  unfold below.go
  have:lo=hi:=by lia
  subst this
  exact⟨h3,h4,h5⟩
 | f+1,lo,hi,h1,h2,h3,h4,h5=>by
  unfold below.go
  have wB:∀ i k (hi:i<xs.size) (hk:k<xs.size),i<=k->xs[i]<=xs[k]:=λ i k hi hk DH=>by
   rcases Bj i k with q | q
   ·have r:=Cc.mp hr i k (by simpa using hi) (by simpa using hk) q
    rw[Cb,Cb] at r
    exact BC r
   ·have:i=k:=by lia
    subst this;exact Ah _
  by_cases hl:lo<hi
  ·rw[if_pos hl]
   dsimp only
   have hm:(lo+hi)/2<xs.size:=by lia
   rw[gP hm]
   by_cases c:xs[(lo+hi)/2]<j
   ·rw[if_pos c]
    refine fG xs j hr f _ hi (by lia) (by lia) h3 (λ i Gk Ak=>?_) h5
    have:=wB i ((lo+hi)/2) Gk hm (by lia)
    lia
   ·rw[if_neg c]
    refine fG xs j hr f lo _ (by lia) (by lia) (by lia) h4 (λ i Gk hge=>?_)
    have:=wB ((lo+hi)/2) i hm Gk hge
    lia
  ·rw[if_neg hl]
   have:lo=hi:=by lia
   subst this
   exact⟨h3,h4,h5⟩
def kQ {xs:Array Nat}{j:Nat}(hr:uK xs.toList):below xs j<=xs.size/\(∀ i (h:i<xs.size),i<below xs j->xs[i]<j)/\∀ i (h:i<xs.size),below xs j<=i->j<=xs[i]:=
 fG xs j hr xs.size 0 xs.size (by lia) (by lia) (Ah _) (λ i h q=>by lia) (λ i h q=>by lia)
def below_at {xs:Array Nat}{j i:Nat}(hr:uK xs.toList) (h:xs[i]?=some j):below xs j=i:=by
 obtain⟨h1,h2,h3⟩:=kQ (j:=j) hr
 obtain⟨hi,e⟩:=Array.getElem?_eq_some_iff.mp h
 have a:¬ i<below xs j:=λ q=>by have:=h2 i hi q;lia
 have b:¬ below xs j<i:=λ q=>by
  have:=h3 (below xs j) (by lia) (Ah _)
  have r:=Cc.mp hr (below xs j) i (by simp;lia) (by simpa using hi) q
  simp at r
  lia
 lia
def O_ {xs:Array Nat}{j:Nat}(hr:uK xs.toList):(xs[below xs j]?=some j)↔j∈xs.toList:=by
 constructor
 ·intro h
  obtain⟨hi,e⟩:=Array.getElem?_eq_some_iff.mp h
  rw[<- e];simp
 ·intro h
  obtain⟨i,hi,e⟩:=BQ.mp h
  have hx:xs[i]?=some j:=by
   simp at hi
   simp[hi] at e ⊢;exact e
  rw[below_at hr hx];exact hx
noncomputable def um (M:Nat) (p:Probe):Probe:=
 if p.more>0 then { p with j:=p.j+1,more:=p.more-1 } else
 let (i,perturb):=leap M p.i p.perturb
 { p with j:=i,more:=runEnd M i-i,i,perturb }
def fR (t:SetTable) (p:Probe):t.advance p=um t.mask p:=rfl
noncomputable def pb (M i perturb:Nat):Probe:={ j:=i,more:=runEnd M i-i,i:=i,perturb:=perturb,dummy:=none }
noncomputable def way (M:Nat) (h:Int):Nat->Probe
 | 0=>pb M (bits h%(M+1)) (bits h)
 | k+1=>um M (way M h k)
def Ng (M:Nat) (p:Probe) (h:p.dummy=none):(um M p).dummy=none:=by
 unfold um
 split
 ·exact h
 ·exact h
theorem j0 (M:Nat) (h:Int):∀ k,(way M h k).dummy=none
 | 0=>rfl
 | k+1=>Ng M _ (j0 M h k)
noncomputable def zS (M:Nat) (h:Int):Nat->Nat×Nat
 | 0=>(bits h%(M+1),bits h)
 | n+1=>leap M (zS M h n).1 (zS M h n).2
theorem i3 (M i pt:Nat) (h:Int) (k:Nat) (hk:way M h k=pb M i pt):∀ m,m<=runEnd M i-i->way M h (k+m)={ j:=i+m,more:=runEnd M i-i-m,i:=i,perturb:=pt,dummy:=none }
 | 0,_=>by rw[Nat.add_zero,hk];rfl
 | m+1,hm=>by
  have ih:=i3 M i pt h k hk m (by lia)
  show um M (way M h (k+m))=_
  rw[ih]
  unfold um
  rw[if_pos (by show runEnd M i-i-m>0;lia)]
  simp only[Probe.mk.injEq]
  exact⟨by lia,by lia,trivial,trivial,trivial⟩
def Vg (M i:Nat):runEnd M i-i<=9:=by unfold runEnd;split <;> lia
def cz (M:Nat) (h:Int) (n k:Nat) (hk:way M h k=pb M (zS M h n).1 (zS M h n).2):way M h (k+(runEnd M (zS M h n).1-(zS M h n).1)+1)=pb M (zS M h (n+1)).1 (zS M h (n+1)).2:=by
 have:=i3 M _ _ h k hk _ (Ah _)
 show um M (way M h (k+_))=_
 rw[this]
 unfold um
 rw[if_neg (by show ¬ _-_-(_-_)>0;lia)]
 rfl
theorem c6 (M:Nat) (h:Int):∀ n,∃ k,k<=10*n/\way M h k=pb M (zS M h n).1 (zS M h n).2
 | 0=>⟨0,by lia,rfl⟩
 | n+1=>by
  obtain⟨k,h1,h2⟩:=c6 M h n
  have:=Vg M (zS M h n).1
  exact⟨_,by lia,cz M h n k h2⟩
def OX (h:Int):bits h<2 ^ 64:=by
 unfold bits
 have h1:=A8 h (show (2 ^ 64:Int)≠0 by decide)
 have h2:=A7 h (show (0:Int)<2 ^ 64 by decide)
 lia
theorem ba (M:Nat) (h:Int):∀ n,(zS M h n).2*32 ^ n<=bits h
 | 0=>by simp[zS]
 | n+1=>by
  have ih:=ba M h n
  show ((zS M h n).2/32)*32 ^ (n+1)<=_
  have:(zS M h n).2/32*32<=(zS M h n).2:=Nat.div_mul_le_self _ _
  calc (zS M h n).2/32*32 ^ (n+1)=((zS M h n).2/32*32)*32 ^ n:=by rw[Nat.pow_succ,Dt (32 ^ n) 32,Nat.mul_assoc]
   _<=(zS M h n).2*32 ^ n:=Nat.mul_le_mul_right _ this
   _<=_:=ih
def Ue (M:Nat) (h:Int) (n:Nat) (hn:13<=n):(zS M h n).2=0:=by
 rcases DZ (zS M h n).2 with q | q
 ·exact q
 ·have h1:=ba M h n
  have h2:=OX h
  have h3:32 ^ 13<=32 ^ n:=Nat.pow_le_pow_right (by decide) hn
  have h4:1*32 ^ n<=(zS M h n).2*32 ^ n:=Nat.mul_le_mul_right _ q
  have h5:(2:Nat) ^ 64<32 ^ 13:=by decide
  lia
noncomputable def sk (M:Nat) (i:Nat):Nat->Nat
 | 0=>i
 | n+1=>(sk M i n*5+1)%(M+1)
theorem aA (M:Nat) (h:Int):∀ n,(zS M h (13+n)).1=sk M (zS M h 13).1 n
 | 0=>rfl
 | n+1=>by
  have ih:=aA M h n
  have hz:=Ue M h (13+n) (by lia)
  show ((zS M h (13+n)).1*5+1+(zS M h (13+n)).2/32)%(M+1)=_
  rw[hz,ih]
  rfl
theorem ny (M i:Nat):∀ a b,sk M i (a+b)=sk M (sk M i a) b
 | a,0=>rfl
 | a,b+1=>by
  show (sk M i (a+b)*5+1)%(M+1)=_
  rw[ny M i a b];rfl
noncomputable def nv (M:Nat):Nat->Nat->List Nat
 | 0,_=>[]
 | n+1,i=>i::nv M n ((i*5+1)%(M+1))
theorem iT (M:Nat):∀ n i x,x∈nv M n i->∃ k,k<n/\sk M i k=x
 | 0,i,x,h=>by cases h
 | n+1,i,x,h=>by
  rcases Ai.mp h with e | e
  ·exact⟨0,by lia,e.symm⟩
  ·obtain⟨k,h1,h2⟩:=iT M n _ x e
   exact⟨k+1,by lia,by rw[Nat.add_comm,ny];exact h2⟩
def vv (M:Nat):Prop:=M=7\/M=31\/M=127
def Tf (M:Nat) (hM:vv M):(∀ e,e<=M->e∈nv M (M+1) 0)/\sk M 0 (M+1)=0:=by
 have key:∀ M,((List.range (M+1)).all λ e=>(nv M (M+1) 0).contains e)=true->∀ e,e<=M->e∈nv M (M+1) 0:=λ M h e he=>by
  have:=BS.mp h e (AK.mpr (by lia))
  simpa using this
 rcases hM with rfl | rfl | rfl
 ·exact⟨key 7 (AB),AB⟩
 ·exact⟨key 31 (AB),AB⟩
 ·exact⟨key 127 (AB),AB⟩
def Te (M:Nat) (hM:vv M) (i e:Nat) (hi:i<=M) (he:e<=M):∃ n,n<=M/\sk M i n=e:=by
 obtain⟨h1,h2⟩:=Tf M hM
 obtain⟨a,a1,a2⟩:=iT M _ _ _ (h1 i hi)
 obtain⟨b,b1,b2⟩:=iT M _ _ _ (h1 e he)
 rcases Bj b a with q | q
 ·refine⟨M+1+b-a,by lia,?_⟩
  rw[<- a2,<- ny,show a+(M+1+b-a)=(M+1)+b by lia,ny,h2,b2]
 ·refine⟨b-a,by lia,?_⟩
  rw[<- a2,<- ny,show a+(b-a)=b by lia,b2]
theorem R_ (M:Nat) (h:Int):∀ n,(zS M h n).1<=M
 | 0=>by have:=CS (bits h) (show 0<M+1 by lia);show bits h%(M+1)<=M;lia
 | n+1=>by
  have:=CS ((zS M h n).1*5+1+(zS M h n).2/32) (show 0<M+1 by lia)
  show (_%(M+1):Nat)<=M
  lia
def aB (M:Nat) (hM:vv M) (h:Int) (e:Nat) (he:e<=M):∃ n,n<M+14/\(zS M h n).1=e:=by
 obtain⟨n,h1,h2⟩:=Te M hM (zS M h 13).1 e (R_ M h 13) he
 exact⟨13+n,by lia,by rw[aA,h2]⟩
def Xw (M:Nat) (hM:vv M) (h:Int) (e:Nat) (he:e<=M):∃ k,k<10*(M+15)/\(way M h k).j=e:=by
 obtain⟨n,h1,h2⟩:=aB M hM h e he
 obtain⟨k,k1,k2⟩:=c6 M h n
 exact⟨k,by lia,by rw[k2];exact h2⟩
theorem dk (M:Nat) (h:Int):∀ k,(way M h k).j+(way M h k).more<=M/\(way M h k).i<=M
 | 0=>by
  have h1:bits h%(M+1)<=M:=by have:=CS (bits h) (show 0<M+1 by lia);lia
  refine⟨?_,h1⟩
  show bits h%(M+1)+(runEnd M (bits h%(M+1))-bits h%(M+1))<=M
  unfold runEnd;split <;> lia
 | k+1=>by
  obtain⟨h1,h2⟩:=dk M h k
  show (um M (way M h k)).j+(um M (way M h k)).more<=M/\(um M (way M h k)).i<=M
  unfold um
  split
  ·rename_i c
   exact⟨by show (way M h k).j+1+((way M h k).more-1)<=M;lia,h2⟩
  ·have h3:((way M h k).i*5+1+(way M h k).perturb/32)%(M+1)<=M:=by have:=CS ((way M h k).i*5+1+(way M h k).perturb/32) (show 0<M+1 by lia);lia
   refine⟨?_,h3⟩
   show _%(M+1)+(runEnd M (_%(M+1))-_%(M+1))<=M
   unfold runEnd;split <;> lia
def jz (M:Nat) (h:Int) (k:Nat):(way M h k).j<=M:=by have:=(dk M h k).1;lia
structure Tab (t:SetTable) (hs:List Int):Prop where
 mask:vv t.mask
 rQ:t.dummies=#[]
 len:t.place.size=hs.length
 wB:uK t.place.toList
 top:∀ j∈t.place.toList,j<=t.mask
 nc:∀ (i:Nat) h j,hs[i]?=some h->t.place[i]?=some j->∃ k,(way t.mask h k).j=j/\∀ k'<k,(way t.mask h k').j∈t.place.toList
theorem Tab.live {t:SetTable}{hs:List Int}(T:Tab t hs) {i j:Nat}(h:t.place[i]?=some j):t.slot j=.live i:=by
 unfold SetTable.slot
 dsimp only
 rw[below_at T.wB h,if_pos (by rw[h];simp)]
theorem Tab.empty {t:SetTable}{hs:List Int}(T:Tab t hs) {j:Nat}(h:j∉t.place.toList):t.slot j=.empty:=by
 unfold SetTable.slot
 dsimp only
 have n1:¬ (t.place[below t.place j]? == some j)=true:=λ q=>h ((O_ T.wB).mp (by simpa using q))
 rw[if_neg n1,if_neg (by rw[T.rQ];simp[has])]
theorem Tab.at {t:SetTable}{hs:List Int}(T:Tab t hs) {j:Nat}(h:j∈t.place.toList):∃ (i:Nat) (g:Int),t.place[i]?=some j/\hs[i]?=some g:=by
 obtain⟨i,hi,e⟩:=BQ.mp h
 have Gk:i<t.place.size:=by simpa using hi
 refine⟨i,hs[i]'(by rw[<- T.len];exact Gk),?_,by simp⟩
 rw[Be Gk]
 rw[Cb] at e
 rw[e]
theorem Zo {t:SetTable}{hs:List Int}(T:Tab t hs) {hashAt:Nat->Int}(hA:∀ (i:Nat) g,hs[i]?=some g->hashAt i=g) (h:Int):∀ (f k:Nat),(∃ e,k<=e/\e<k+f/\(way t.mask h e).j∉t.place.toList)->
  ∃ k1,k<=k1/\(∀ m,k<=m->m<k1->∃ (i:Nat) (g:Int),t.place[i]?=some (way t.mask h m).j/\hs[i]?=some g/\g≠h)/\
   ((way t.mask h k1).j∉t.place.toList/\probe.go t hashAt h f (way t.mask h k)=some (.empty (way t.mask h k1).j none)\/
    ∃ i,t.place[i]?=some (way t.mask h k1).j/\hs[i]?=some h/\probe.go t hashAt h f (way t.mask h k)=some (.candidate (way t.mask h k1).j i (way t.mask h (k1+1))))
 | 0,k,⟨e,h1,h2,_⟩=>by lia
 | f+1,k,⟨e,h1,h2,h3⟩=>by
  by_cases hm:(way t.mask h k).j∈t.place.toList
  ·obtain⟨i,g,p1,p2⟩:=T.at hm
   by_cases hg:g=h
   ·refine⟨k,Ah _,λ m a b=>by lia,.inr ⟨i,p1,by rw[<- hg];exact p2,?_⟩⟩
    unfold probe.go
    rw[T.live p1]
    dsimp only
    rw[hA i g p2,if_pos (by simp[hg]),fR]
    rfl
   ·have Aq:e≠k:=λ q=>by subst q;exact h3 hm
    obtain⟨k1,q1,q2,q3⟩:=Zo T hA h f (k+1) ⟨e,by lia,by lia,h3⟩
    have eq:probe.go t hashAt h (f+1) (way t.mask h k)=probe.go t hashAt h f (way t.mask h (k+1)):=by
     conv=>lhs;unfold probe.go
     rw[T.live p1]
     dsimp only
     rw[hA i g p2,if_neg (by simp[hg]),fR]
     rfl
    rw[eq]
    refine⟨k1,by lia,λ m a b=>?_,q3⟩
    rcases Nat.eq_or_lt_of_le a with w | w
    ·subst w;exact⟨i,g,p1,p2,hg⟩
    ·exact q2 m w b
  ·refine⟨k,Ah _,λ m a b=>by lia,.inl ⟨hm,?_⟩⟩
   unfold probe.go
   rw[T.empty hm,j0]
def bU {xs ys:List Nat}(hx:xs.Nodup) (h:∀ x∈xs,x∈ys):xs.length<=ys.length:=by
 induction xs generalizing ys with
 | nil=>simp
 | cons x xs ih=>
  have h1:=Bc.mp hx
  have hxy:=h x Ao
  have:=ih h1.2 (ys:=ys.erase x) λ z hz=>by
   have Aq:z≠x:=λ e=>h1.1 (e▸hz)
   exact (DY Aq).mpr (h z (Aw _ hz))
  rw[DX hxy] at this
  have hp:=DW hxy
  simp only[AW]
  lia
def least {P:Nat->Prop}(k:Nat) (h:P k):∃ m,m<=k/\P m/\∀ m'<m,¬ P m':=by
 induction k using Nat.strongRecOn with
 | ind k ih=>
  rcases Classical.em (∃ m',m'<k/\P m') with ⟨m',h1,h2⟩ | q
  ·obtain⟨m,g1,g2⟩:=ih m' h1 h2
   exact⟨m,by lia,g2⟩
  ·exact⟨k,Ah _,h,λ m' hm hp=>q ⟨m',hm,hp⟩⟩
def Pf {xs:List Nat}{M:Nat}(h:xs.length<=M):∃ e,e<=M/\e∉xs:=by
 rcases Classical.em (∃ e,e<=M/\e∉xs) with q | q
 ·exact q
 ·have:=bU (xs:=List.range (M+1)) (ys:=xs) DV λ e he=>by
   have:=AK.mp he
   rcases Classical.em (e∈xs) with w | w
   ·exact w
   ·exact absurd ⟨e,by lia,w⟩ q
  simp at this
  lia
def fZ (t:SetTable) (h:Int) (j:Nat):Prop:=j∉t.place.toList/\∃ k,(way t.mask h k).j=j/\∀ k'<k,(way t.mask h k').j∈t.place.toList
def Tab.first {t:SetTable}{hs:List Int}(T:Tab t hs) (hl:hs.length<=t.mask) (h:Int):∃ K,K<10*(t.mask+15)/\(way t.mask h K).j∉t.place.toList/\∀ k'<K,(way t.mask h k').j∈t.place.toList:=by
 obtain⟨e,e1,e2⟩:=Pf (xs:=t.place.toList) (M:=t.mask) (by rw[Bl,T.len];exact hl)
 obtain⟨k,k1,k2⟩:=Xw t.mask T.mask h e e1
 obtain⟨K,q1,q2,q3⟩:=least (P:=λ n=>(way t.mask h n).j∉t.place.toList) k (by rw[k2];exact e2)
 exact⟨K,by lia,q2,λ k' hk=>Classical.not_not.mp (q3 k' hk)⟩
def Vj {xs:List Nat}{j p:Nat}(h:uK xs) (h1:∀ x∈xs.take p,x<j) (h2:∀ x∈xs.drop p,j<x):uK (xs.take p++j::xs.drop p):=by
 refine List.pairwise_append.mpr ⟨h.sublist (List.take_sublist _ _),Bn.mpr ⟨h2,h.sublist (List.drop_sublist _ _)⟩,λ a ha b hb=>?_⟩
 rcases Ai.mp hb with e | e
 ·subst e;exact h1 a ha
 ·have:=h1 a ha;have:=h2 b e;lia
def Zf {α:Type}{xs:List α}{p i:Nat}{x y:α}(hp:p<=xs.length) (h:(xs.take p++x::xs.drop p)[i]?=some y):(i=p/\y=x)\/(i<p/\xs[i]?=some y)\/(p<i/\xs[i-1]?=some y):=by
 have hl:(xs.take p).length=p:=by rw[CY];lia
 rcases Ds i p with q | q | q
 ·rw[Cp (by lia),List.getElem?_take,if_pos q] at h
  exact .inr (.inl ⟨q,h⟩)
 ·subst q
  rw[Cq (by lia),hl] at h
  simp at h
  exact .inl ⟨rfl,h.symm⟩
 ·rw[Cq (by lia),hl] at h
  obtain⟨d,hd⟩:∃ d,i-p=d+1:=⟨i-p-1,by lia⟩
  rw[hd] at h
  simp only[DU,List.getElem?_drop] at h
  refine .inr (.inr ⟨q,?_⟩)
  rw[show i-1=p+d by lia];exact h
theorem Tab.put {t:SetTable}{hs:List Int}(T:Tab t hs) {h:Int}{j:Nat}(F:fZ t h j):
  (t.put j).2<=hs.length/\(t.put j).1={ t with place:=insertAt t.place (t.put j).2 j }/\Tab (t.put j).1 (hs.take (t.put j).2++h::hs.drop (t.put j).2):=by
 obtain⟨b1,b2,b3⟩:=kQ (xs:=t.place) (j:=j) T.wB
 obtain⟨fn,K,k1,k2⟩:=F
 have e2:(t.put j).2=below t.place j:=rfl
 have e1:(t.put j).1={ t with place:=insertAt t.place (t.put j).2 j }:=by
  show ({ t with place:=insertAt t.place (below t.place j) j,dummies:=_ }:SetTable)=_
  rw[if_neg (by rw[T.rQ];simp[has]),e2]
 have pl:(insertAt t.place (below t.place j) j).toList=t.place.toList.take (below t.place j)++j::t.place.toList.drop (below t.place j):=toList_insertAt _ _ _
 have old:∀ x∈t.place.toList,x∈(insertAt t.place (below t.place j) j).toList:=λ x hx=>by
  rw[pl]
  have:=DT (below t.place j) t.place.toList
  rw[<- this] at hx
  rcases AY.mp hx with q | q
  ·exact Cr _ q
  ·exact AX _ (Aw _ q)
 rw[e2] at e1 ⊢
 refine⟨by rw[<- T.len];exact b1,e1,?_⟩
 rw[e1]
 refine⟨T.mask,T.rQ,?_,?_,?_,?_⟩
 ·show (insertAt t.place (below t.place j) j).size=_
  rw[<- Bl,pl]
  simp[T.len]
 ·show uK (insertAt t.place (below t.place j) j).toList
  rw[pl]
  refine Vj T.wB (λ x hx=>?_) (λ x hx=>?_)
  ·obtain⟨i,hi,e⟩:=BQ.mp hx
   rw[CY] at hi
   rw[List.getElem_take,Cb] at e
   rw[<- e];exact b2 i (by simp at hi;lia) (by lia)
  ·obtain⟨i,hi,e⟩:=BQ.mp hx
   rw[D0] at hi
   rw[List.getElem_drop,Cb] at e
   have h3:=b3 (below t.place j+i) (by simp at hi;lia) (by lia)
   have hm:x∈t.place.toList:=List.mem_of_mem_drop hx
   have Aq:x≠j:=λ q=>fn (q▸hm)
   lia
 ·intro x hx
  show x<=t.mask
  have hx:x∈(insertAt t.place (below t.place j) j).toList:=hx
  rw[pl] at hx
  rcases AY.mp hx with q | q
  ·exact T.top x (List.mem_of_mem_take q)
  ·rcases Ai.mp q with e | e
   ·subst e;rw[<- k1];exact jz _ _ _
   ·exact T.top x (List.mem_of_mem_drop e)
 ·intro i g x hg hx
  show ∃ k,(way t.mask g k).j=x/\∀ k'<k,(way t.mask g k').j∈(insertAt t.place (below t.place j) j).toList
  have hx:(insertAt t.place (below t.place j) j)[i]?=some x:=hx
  rw[<- Bx,pl] at hx
  have An:below t.place j<=t.place.toList.length:=by simpa using b1
  have Ed:below t.place j<=hs.length:=by rw[<- T.len];exact b1
  rcases Zf An hx with ⟨c1,c2⟩ | ⟨c1,c2⟩ | ⟨c1,c2⟩ <;> rcases Zf Ed hg with ⟨d1,d2⟩ | ⟨d1,d2⟩ | ⟨d1,d2⟩ <;> first
   | lia
   | (subst c2 d2;exact⟨K,k1,λ k' hk=>old _ (k2 k' hk)⟩)
   | (obtain⟨k,g1,g2⟩:=T.nc _ g x d2 (by rw[<- Bx];exact c2)
      exact⟨k,g1,λ k' hk=>old _ (g2 k' hk)⟩)
def r_ (owner:Array (Option Nat)) (j:Nat):Prop:=∃ k,owner[j]?=some (some k)
def Pm {P:Nat->Bool}{n k:Nat}(h:(List.range n).find? P=some k):k<n/\P k=true/\∀ k'<k,P k'=false:=by
 obtain⟨h1,as,bs,h2,h3⟩:=List.find?_eq_some_iff_append.mp h
 have hlen:as.length=k:=by
  have e:(List.range n)[as.length]?=some k:=by rw[h2];simp
  have:=(AI.mp e)
  obtain⟨q1,q2⟩:=this
  rw[Dw] at q2
  exact q2
 have hk:k<n:=by
  have:k∈List.range n:=by rw[h2];simp
  exact AK.mp this
 refine⟨hk,h1,λ k' FF=>?_⟩
 have:k'∈as:=by
  have e:(List.range n)[k']?=some k':=List.getElem?_range (by lia)
  rw[h2,Cp (by lia)] at e
  exact Bf e
 have:=h3 k' this
 simpa using this
def getD_none {owner:Array (Option Nat)}{j:Nat}(h:((owner.getD j (some 0)).isNone)=true):owner[j]?=some none:=by
 unfold Array.getD at h
 split at h
 ·rename_i hj
  have e:owner[j]=none:=by simpa using h
  rw[Be hj,e]
 ·simp at h
def Zq {owner:Array (Option Nat)}{j:Nat}(hj:j<owner.size) (h:((owner.getD j (some 0)).isNone)=false):r_ owner j:=by
 unfold Array.getD at h
 rw[dif_pos hj] at h
 cases q:owner[j] with
 | none=>simp[q] at h
 | some k=>exact⟨k,by rw[Be hj,q]⟩
theorem Zu (M:Nat) (owner:Array (Option Nat)) (hsz:owner.size=M+1) (h:Int):∀ (fuel n kn:Nat),way M h kn=pb M (zS M h n).1 (zS M h n).2->(∀ q<kn,r_ owner (way M h q).j)->
  (∃ n',n<=n'/\n'<n+fuel/\owner[(zS M h n').1]?=some none)->
  ∃ j q,layClean.free M owner fuel (zS M h n).1 (zS M h n).2=some j/\(way M h q).j=j/\owner[j]?=some none/\∀ q'<q,r_ owner (way M h q').j
 | 0,n,kn,_,_,⟨n',h1,h2,_⟩=>by lia
 | fuel+1,n,kn,hk,ho,⟨n',h1,h2,h3⟩=>by
  have hre:runEnd M (zS M h n).1+1-(zS M h n).1=runEnd M (zS M h n).1-(zS M h n).1+1:=by unfold runEnd;split <;> lia
  have Gx:∀ m,m<=runEnd M (zS M h n).1-(zS M h n).1->(way M h (kn+m)).j=(zS M h n).1+m:=λ m hm=>by rw[i3 M _ _ h kn hk m hm]
  unfold layClean.free
  cases hf:(List.range (runEnd M (zS M h n).1+1-(zS M h n).1)).find? (λ k=>(owner.getD ((zS M h n).1+k) (some 0)).isNone) with
  | some k=>
   obtain⟨f1,f2,f3⟩:=Pm hf
   refine⟨_,kn+k,rfl,Gx k (by lia),getD_none f2,λ q' hq=>?_⟩
   rcases Bj q' kn with w | w
   ·exact ho q' w
   ·have e:(way M h q').j=(zS M h n).1+(q'-kn):=by
     have:=Gx (q'-kn) (by lia)
     rwa [show kn+(q'-kn)=q' by lia] at this
    have hle:=jz M h q'
    rw[e] at hle ⊢
    exact Zq (by lia) (f3 (q'-kn) (by lia))
  | none=>
   have f3:=List.find?_eq_none.mp hf
   have occ:∀ m,m<=runEnd M (zS M h n).1-(zS M h n).1->r_ owner ((zS M h n).1+m):=λ m hm=>by
    have hle:=jz M h (kn+m)
    rw[Gx m hm] at hle
    exact Zq (by lia) (Bool.eq_false_iff.mpr (f3 m (AK.mpr (by lia))))
   have Aq:n'≠n:=λ e=>by
    subst e
    obtain⟨k,FF⟩:=occ 0 (AN _)
    rw[Nat.add_zero] at FF
    rw[FF] at h3;cases h3
   dsimp only
   obtain⟨j,q,r1,r2⟩:=Zu M owner hsz h fuel (n+1) _ (cz M h n kn hk) (λ q hq=>by
    rcases Bj q kn with w | w
    ·exact ho q w
    ·have e:=Gx (q-kn) (by lia)
     rw[show kn+(q-kn)=q by lia] at e
     rw[e];exact occ _ (by lia)) ⟨n',by lia,by lia,h3⟩
   exact⟨j,q,r1,r2⟩
structure Lay (M:Nat) (hs:List Int) (owner:Array (Option Nat)) (m:Nat):Prop where
 size:owner.size=M+1
 below:∀ (j k:Nat),owner[j]?=some (some k)->k<m
 each:∀ (k:Nat),k<m->∃ (j:Nat),owner[j]?=some (some k)
 once:∀ (i j k:Nat),owner[i]?=some (some k)->owner[j]?=some (some k)->i=j
 nc:∀ (j k:Nat) h,owner[j]?=some (some k)->hs[k]?=some h->∃ q,(way M h q).j=j/\∀ q'<q,r_ owner (way M h q').j
theorem Lay.none {M:Nat}(hM:vv M) {hs:List Int}{owner:Array (Option Nat)}{m:Nat}(L:Lay M hs owner m) (hm:m<=M):∃ (e:Nat),e<=M/\owner[e]?=some Option.none:=by
 rcases Classical.em (∃ (e:Nat),e<=M/\owner[e]?=some Option.none) with q | q
 ·exact q
 ·exfalso
  have AE:∀ (e:Nat),e<=M->∃ (k:Nat),owner[e]?=some (some k):=λ e he=>by
   have Ak:e<owner.size:=by rw[L.size];lia
   cases w:owner[e] with
   | none=>exact absurd ⟨e,he,by rw[Be Ak,w]⟩ q
   | some k=>exact⟨k,by rw[Be Ak,w]⟩
  have:=bU (xs:=(List.range (M+1)).map λ e=>((owner[e]?).getD Option.none).getD 0) (ys:=List.range m) (by
   refine Cd.mpr (List.Pairwise.imp_of_mem ?_ DV)
   intro a b ha hb Aq e
   refine Aq ?_
   obtain⟨k,hk⟩:=AE a (by have:=AK.mp ha;lia)
   obtain⟨k',FF⟩:=AE b (by have:=AK.mp hb;lia)
   rw[hk,FF] at e
   simp at e
   subst e
   exact L.once a b k hk FF) (λ x hx=>by
   obtain⟨e,he,rfl⟩:=Av.mp hx
   obtain⟨k,hk⟩:=AE e (by have:=AK.mp he;lia)
   rw[hk]
   exact AK.mpr (L.below e k hk))
  simp at this
  lia
def lG {α:Type}{xs:Array α}{j i:Nat}{a b:α}(h:(xs.setIfInBounds j a)[i]?=some b):(i=j/\b=a)\/(i≠j/\xs[i]?=some b):=by
 rw[Dr] at h
 by_cases e:j=i
 ·subst e
  rw[if_pos rfl] at h
  split at h
  ·cases h;exact .inl ⟨rfl,rfl⟩
  ·cases h
 ·rw[if_neg e] at h;exact .inr ⟨λ q=>e q.symm,h⟩
def Lay.step {M:Nat}(hM:vv M) {hs:List Int}{owner:Array (Option Nat)}{m:Nat}{h:Int}(L:Lay M hs owner m) (hm:m<=M) (hh:hs[m]?=some h):
  ∃ j,layClean.free M owner (turns M) (bits h%(M+1)) (bits h)=some j/\Lay M hs (owner.setIfInBounds j (some m)) (m+1):=by
 obtain⟨e,e1,e2⟩:=L.none hM hm
 obtain⟨n',n1,n2⟩:=aB M hM h e e1
 obtain⟨j,q,r1,r2,r3,r4⟩:=Zu M owner L.size h (turns M) 0 0 rfl (λ q hq=>by lia) ⟨n',by lia,by unfold turns;lia,by rw[n2];exact e2⟩
 have hj:j<owner.size:=(Array.getElem?_eq_some_iff.mp r3).1
 have keep:∀ x,r_ owner x->r_ (owner.setIfInBounds j (some m)) x:=λ x ⟨k,hk⟩=>by
  have Aq:j≠x:=λ w=>by subst w;rw[r3] at hk;cases hk
  exact⟨k,by rw[Dr,if_neg Aq];exact hk⟩
 have self:(owner.setIfInBounds j (some m))[j]?=some (some m):=by rw[Dr,if_pos rfl,if_pos hj]
 refine⟨j,r1,⟨by simp[L.size],λ x k hx=>?_,λ k hk=>?_,λ x y k hx hy=>?_,λ x k g hx hg=>?_⟩⟩
 ·rcases lG hx with ⟨_,w⟩ | ⟨_,w⟩
  ·cases w;lia
  ·have:=L.below x k w;lia
 ·rcases Bj k m with w | w
  ·obtain⟨x,hx⟩:=L.each k w
   have Aq:j≠x:=λ w=>by subst w;rw[r3] at hx;cases hx
   exact⟨x,by rw[Dr,if_neg Aq];exact hx⟩
  ·have:k=m:=by lia
   subst this;exact⟨j,self⟩
 ·rcases lG hx with ⟨w1,w⟩ | ⟨w1,w⟩ <;> rcases lG hy with ⟨v1,v⟩ | ⟨v1,v⟩
  ·lia
  ·cases w;have:=L.below y _ v;lia
  ·cases v;have:=L.below x _ w;lia
  ·exact L.once x y k w v
 ·rcases lG hx with ⟨w1,w⟩ | ⟨w1,w⟩
  ·cases w
   rw[hh] at hg;cases hg
   subst w1
   exact⟨q,r2,λ q' hq=>keep _ (r4 q' hq)⟩
  ·obtain⟨q,g1,g2⟩:=L.nc x k g w hg
   exact⟨q,g1,λ q' hq=>keep _ (g2 q' hq)⟩
theorem aE {M:Nat}(hM:vv M) {hs:List Int}(hl:hs.length<=M+1):∀ (EK:List Int) (owner:Array (Option Nat)) (m:Nat),m<=hs.length->hs.drop m=EK->Lay M hs owner m->
  ∃ GQ,EK.foldl (λ acc h=>do
   let (owner,k) <- acc
   let j <- layClean.free M owner (turns M) (bits h%(M+1)) (bits h)
   pure (owner.setIfInBounds j (some k),k+1)) (some (owner,m))=some (GQ,hs.length)/\Lay M hs GQ hs.length
 | [],owner,m,G2,hd,L=>by
  have hm:hs.length<=m:=List.drop_eq_nil_iff.mp hd
  have e:m=hs.length:=by lia
  subst e;exact⟨owner,rfl,L⟩
 | h::EK,owner,m,G2,hd,L=>by
  have hm:hs[m]?=some h:=by
   have:=congrArg (λ l=>l[0]?) hd
   simpa using this
  have Ak:m<hs.length:=(AI.mp hm).1
  obtain⟨j,j1,j2⟩:=L.step hM (by lia) hm
  have GX:hs.drop (m+1)=EK:=by
   have:=congrArg List.tail hd
   simpa using this
  obtain⟨o',h1,h2⟩:=aE hM hl EK _ (m+1) (by lia) GX j2
  refine⟨o',?_,h2⟩
  rw[Dq,<- h1]
  show _=_
  congr 1
  show ((layClean.free M owner (turns M) (bits h%(M+1)) (bits h)).bind λ j=>some (owner.setIfInBounds j (some m),m+1))=_
  rw[j1];rfl
def Qc (M:Nat) (hs:List Int):Lay M hs (Array.replicate (M+1) Option.none) 0:=by
 have no:∀ (j k:Nat),(Array.replicate (M+1) (Option.none:Option Nat))[j]?≠some (some k):=λ j k h=>by
  rw[Array.getElem?_replicate] at h
  split at h <;> cases h
 exact⟨by simp,λ j k h=>absurd h (no j k),λ k hk=>by lia,λ i j k h=>absurd h (no i k),λ j k h e=>absurd e (no j k)⟩
def Qd {M:Nat}(hM:vv M) (hashes:Array Int) (hl:hashes.size<=M+1):∃ owner,layClean M hashes=some owner/\Lay M hashes.toList owner hashes.size:=by
 obtain⟨o,h1,h2⟩:=aE hM (hs:=hashes.toList) (by simpa using hl) hashes.toList _ 0 (AN _) (by simp) (Qc M _)
 refine⟨o,?_,by simpa using h2⟩
 unfold layClean
 rw[<- Array.foldl_toList,h1]
 rfl
noncomputable def lives (M:Nat) (owner:Array (Option Nat)):List (Nat×Nat):=(List.range (M+1)).filterMap λ j=>(owner.getD j Option.none).map (j,·)
def getD_some {owner:Array (Option Nat)}{j k:Nat}:owner.getD j Option.none=some k↔owner[j]?=some (some k):=by
 unfold Array.getD
 split
 ·rename_i h
  rw[Be h]
  simp
 ·rename_i h
  rw[CC (by lia)]
  simp
def qy {M:Nat}{owner:Array (Option Nat)}(hs:owner.size=M+1) {j k:Nat}:(j,k)∈lives M owner↔owner[j]?=some (some k):=by
 unfold lives
 rw[D2]
 constructor
 ·rintro⟨x,hx,e⟩
  obtain⟨y,e1,e2⟩:=AA.mp e
  cases e2
  exact getD_some.mp e1
 ·intro h
  have hj:=(Array.getElem?_eq_some_iff.mp h).1
  exact⟨j,AK.mpr (by lia),by rw[getD_some.mpr h];rfl⟩
def av (M:Nat) (owner:Array (Option Nat)):(lives M owner).Pairwise λ a b=>a.1<b.1:=by
 unfold lives
 rw[List.pairwise_filterMap]
 refine List.Pairwise.imp ?_ List.pairwise_lt_range
 intro a b CO x hx y hy
 obtain⟨_,_,e1⟩:=AA.mp hx
 obtain⟨_,_,e2⟩:=AA.mp hy
 subst e1 e2
 exact CO
def aF {M:Nat}(hM:vv M) (finger moves:Nat) (led plain:Bool) (hashes:Array Int) (hl:hashes.size<=M+1):
  ∃ t order,laid M finger moves led plain hashes=some (t,order)/\t.mask=M/\t.finger=finger/\t.led=led/\t.plain=plain/\order.toList.Perm (List.range hashes.size)/\Tab t (order.toList.map λ k=>hashes.toList.getD k 0):=by
 obtain⟨owner,h1,L⟩:=Qd hM hashes hl
 refine⟨_,_,by unfold laid;rw[h1];rfl,rfl,rfl,rfl,rfl,?_,?_⟩
 ·show ((lives M owner).map (·.2)).toArray.toList.Perm _
  rw[CQ]
  refine (DS ?_ DV).mpr λ k=>?_
  ·refine Cd.mpr (List.Pairwise.imp_of_mem ?_ (av M owner))
   intro a b ha hb CO e
   have h2:=(qy L.size (j:=a.1) (k:=a.2)).mp ha
   have h3:=(qy L.size (j:=b.1) (k:=b.2)).mp hb
   have e:a.2=b.2:=e
   rw[e] at h2
   have:=L.once _ _ _ h2 h3
   lia
  ·rw[AK]
   constructor
   ·intro h
    obtain⟨⟨j,k'⟩,h2,rfl⟩:=Av.mp h
    exact L.below j _ ((qy L.size).mp h2)
   ·intro h
    obtain⟨j,hj⟩:=L.each k h
    exact Av.mpr ⟨(j,k),(qy L.size).mpr hj,rfl⟩
 ·have pl:∀ x,x∈(lives M owner).map (·.1)↔r_ owner x:=λ x=>by
   constructor
   ·intro h
    obtain⟨⟨j,k⟩,h2,rfl⟩:=Av.mp h
    exact⟨k,(qy L.size).mp h2⟩
   ·rintro⟨k,hk⟩
    exact Av.mpr ⟨(x,k),(qy L.size).mpr hk,rfl⟩
  refine⟨hM,rfl,?_,?_,?_,?_⟩
  ·show ((lives M owner).map (·.1)).toArray.size=(((lives M owner).map (·.2)).toArray.toList.map _).length
   simp
  ·show uK ((lives M owner).map (·.1)).toArray.toList
   rw[CQ]
   exact Cd.mpr (av M owner)
  ·intro x hx
   show x<=M
   have hx:x∈((lives M owner).map (·.1)).toArray.toList:=hx
   rw[CQ] at hx
   obtain⟨k,hk⟩:=(pl x).mp hx
   have:=(Array.getElem?_eq_some_iff.mp hk).1
   rw[L.size] at this
   lia
  ·intro i g x hg hx
   have hx:((lives M owner).map (·.1)).toArray[i]?=some x:=hx
   have hg:(((lives M owner).map (·.2)).toArray.toList.map λ k=>hashes.toList.getD k 0)[i]?=some g:=hg
   rw[DR,Az] at hx
   rw[CQ,Az,Az] at hg
   obtain⟨p,p1,p2⟩:=AA.mp hx
   rw[p1] at hg
   simp only[Option.map_some,Option.some.injEq] at hg
   obtain⟨j,k⟩:=p
   cases p2
   have hm:=(qy L.size).mp (Bf p1)
   have hk:=L.below _ _ hm
   obtain⟨q,q1,q2⟩:=L.nc _ k g hm (by rw[<- hg];simp[hk])
   refine⟨q,q1,λ q' hq=>?_⟩
   show _∈((lives M owner).map (·.1)).toArray.toList
   rw[CQ]
   exact (pl _).mpr (q2 q' hq)
section
variable {prog:Program}{w:World}{A:Around}{E:Ad}{s:Shared}
abbrev rk (prog:Program) (w:World):HeapKind prog w (List Int):=tupleKind (intKind prog w)
def items_int {ks:List Int}{vs:Ae}(h:ItemsAre (intKind prog w) ks vs):∀ v∈vs,∃ n t,v=.int n t:=by
 induction h with
 | nil=>intro v hv;cases hv
 | cons h1 _ ih=>
  intro v hv
  rcases Ai.mp hv with rfl | hv
  ·obtain⟨t,e⟩:=Value.isInt_shape h1
   exact⟨_,t,e⟩
  ·exact ih v hv
def bZ {ks:List Int}{a:Addr}{Q:Bool->Shared->Prop}(hk:IsTupleKey (intKind prog w) s.heap ks a) (h:Q false s):wpAny (model prog w) A (ofAClassStatement 8 (.ref a)) Q E s:=by
 have hT:=hk.typeIs
 obtain⟨o,items,n,ho,_,hd,hi⟩:=hk
 unfold ofAClassStatement
 refine Jg (Kr hT ?_)
 show wpAny _ _ (pure true >>= _) _ _ s
 refine Jg (Ab ?_)
 simp only[CH,A5,if_false]
 refine Jg (Kh ho hd ?_)
 dsimp only
 refine Jg ?_
 show wpAny _ _ (forIn items _ _) _ _ s
 rw[<- Array.forIn_toList]
 refine Kw _ (λ EK r s'=>r.1=none/\s'=s/\∀ v∈EK,∃ n t,v=.int n t) _ ?_ ?_ _ _ ⟨rfl,rfl,items_int hi⟩
 ·rintro v EK r s' ⟨hr,rfl,AE⟩
  obtain⟨m,t,rfl⟩:=AE v Ao
  show wpAny _ _ (pure false >>= _) _ _ _
  refine Jg (Ab ?_)
  simp only[A5,if_false]
  exact Ab ⟨rfl,rfl,λ u hu=>AE u (Aw _ hu)⟩
 ·rintro⟨r1,r2⟩ s' ⟨hr,rfl,_⟩
  simp only at hr
  subst hr
  exact Ab h
def QJ {ks:List Int}{a:Addr}{Q:Bool->Shared->Prop}(hk:IsTupleKey (intKind prog w) s.heap ks a) (h:Q true s):wpAny (model prog w) A (hashByValue 8 (.ref a)) Q E s:=by
 have hT:=hk.typeIs
 obtain⟨o,items,n,ho,_,hd,hi⟩:=hk
 unfold hashByValue
 refine Jg (wpAny_specialOf hT F.slot_tuple_hash.lookup ?_)
 dsimp only
 refine Jg (Kh ho hd ?_)
 refine Jg ?_
 show wpAny _ _ (forIn items _ _) _ _ s
 rw[<- Array.forIn_toList]
 refine Kw _ (λ EK r s'=>r.1=none/\s'=s/\∀ v∈EK,∃ n t,v=.int n t) _ ?_ ?_ _ _ ⟨rfl,rfl,items_int hi⟩
 ·rintro v EK r s' ⟨hr,rfl,AE⟩
  obtain⟨m,t,rfl⟩:=AE v Ao
  show wpAny _ _ (pure true >>= _) _ _ _
  refine Jg (Ab ?_)
  simp only[CH,A5,if_false]
  exact Ab ⟨rfl,rfl,λ u hu=>AE u (Aw _ hu)⟩
 ·rintro⟨r1,r2⟩ s' ⟨hr,rfl,_⟩
  simp only at hr
  subst hr
  exact Ab h
def X5 {ks:List Int}{b:Addr}{Q:Bool->Shared->Prop}(hk:IsTupleKey (intKind prog w) s.heap ks b) (l:Ae) (hl:∀ v∈l,∃ k c,v=.ref c/\IsTupleKey (intKind prog w) s.heap k c) (h:Q false s):
  wpAny (model prog w) A (searchCouldBeSeen (.ref b) l) Q E s:=by
 unfold searchCouldBeSeen
 refine Jg ?_
 refine Kw _ (λ EK r s'=>r.1=none/\s'=s/\∀ v∈EK,∃ k c,v=.ref c/\IsTupleKey (intKind prog w) s.heap k c) _ ?_ ?_ _ _ ⟨rfl,rfl,hl⟩
 ·rintro v EK r s' ⟨hr,rfl,AE⟩
  obtain⟨k,c,rfl,hc⟩:=AE v Ao
  have Hb:∀ u∈EK,∃ k c,u=Value.ref c/\IsTupleKey (intKind prog w) s'.heap k c:=λ u hu=>AE u (Aw _ hu)
  dsimp only
  by_cases e:(b == c||(carriedByValue (.ref b)&&carriedByValue (.ref c)))=true
  ·rw[if_pos e]
   exact Ab ⟨rfl,rfl,Hb⟩
  ·rw[if_neg e]
   refine Jg ((rk prog w).quiet hk ?_)
   simp only[CH,A5,if_false]
   refine Jg ((rk prog w).quiet hc ?_)
   simp only[CH,A5,if_false]
   refine Jg (bZ hk ?_)
   simp only[A5,if_false]
   refine Jg (bZ hc ?_)
   simp only[A5,if_false]
   exact Ab ⟨rfl,rfl,Hb⟩
 ·rintro⟨r1,r2⟩ s' ⟨hr,rfl,_⟩
  simp only at hr
  subst hr
  exact Ab h
structure qc (h:Heap) (es:Array (Int×Value)) (t:SetTable) (xs:List (List Int×Addr)):Prop where
 es:es.toList=xs.map λ e=>((rk prog w).hash e.1,Value.ref e.2)
 is:∀ e∈xs,IsTupleKey (intKind prog w) h e.1 e.2
 tab:Tab t (xs.map λ e=>(rk prog w).hash e.1)
 nV:xs.length<=t.mask
theorem qc.fits {h:Heap}{es:Array (Int×Value)}{t:SetTable}{xs:List (List Int×Addr)}(X:qc (prog:=prog) (w:=w) h es t xs):t.fits es.size=true:=by
 have hl:es.size=xs.length:=by have:=congrArg List.length X.es;simpa using this
 have h1:=X.tab.len
 rw[Ay] at h1
 have h2:=X.nV
 unfold SetTable.fits SetTable.fill
 rw[X.tab.rQ,hl,h1]
 simp
 lia
def qc.at {h:Heap}{es:Array (Int×Value)}{t:SetTable}{xs:List (List Int×Addr)}(X:qc (prog:=prog) (w:=w) h es t xs) {i:Nat}{e:List Int×Addr}(he:xs[i]?=some e):es[i]?=some ((rk prog w).hash e.1,Value.ref e.2):=by
 rw[<- Bx,X.es,Az,he];rfl
theorem cu {a:Addr}{o:Obj}{es:Array (Int×Value)}{ep:Nat}{t:SetTable}{xs:List (List Int×Addr)}{key:List Int}{b:Addr}{Q:SetFound->Shared->Prop}
  (hu:A.units<cLine) (ho:s.heap.get? a=some o) (hd:o.data=.set es ep t) (X:qc (prog:=prog) (w:=w) s.heap es t xs) (hb:IsTupleKey (intKind prog w) s.heap key b)
  (h1:key∈xs.map (·.1)->Q (.there none) s) (h2:key∉xs.map (·.1)->∀ j,fZ t ((rk prog w).hash key) j->Q (.free j false) s):
  ∀ (fuel k:Nat) (Gs:Option Probe),Gs.getD (t.probeStart ((rk prog w).hash key))=way t.mask ((rk prog w).hash key) k->(∀ m<k,∃ (i:Nat) (e:List Int×Addr),t.place[i]?=some (way t.mask ((rk prog w).hash key) m).j/\xs[i]?=some e/\e.1≠key)->(∃ K,k<=K/\K<k+fuel/\K<10*(t.mask+15)/\(way t.mask ((rk prog w).hash key) K).j∉t.place.toList/\∀ m<K,(way t.mask ((rk prog w).hash key) m).j∈t.place.toList)->
   wpAny (model prog w) A (setSearchFrom a (.ref b) ((rk prog w).hash key) true fuel Gs) Q E s
 | 0,k,Gs,_,_,⟨K,q1,q2,_⟩=>by lia
 | fuel+1,k,Gs,AV,Ip,⟨K,q1,q2,q3,q4,q5⟩=>by
  have T:=X.tab
  have Ej:t.gaveWay=false:=by
   unfold SetTable.gaveWay
   rcases T.mask with e | e | e <;> rw[e] <;> rfl
  unfold setSearchFrom
  refine Jg (Kg ho hd X.fits ?_)
  dsimp only
  rw[Ej]
  simp only[A5,if_false]
  have hA:∀ (i:Nat) g,(xs.map λ e=>(rk prog w).hash e.1)[i]?=some g->((es[i]?).map (·.1)).getD 0=g:=λ i g hg=>by
   rw[Az] at hg
   obtain⟨e,e1,e2⟩:=AA.mp hg
   rw[X.at e1];exact e2
  obtain⟨k1,g1,g2,g3⟩:=Zo T (hashAt:=λ i=>((es[i]?).map (·.1)).getD 0) hA ((rk prog w).hash key) (10*turns t.mask) k ⟨K,q1,by unfold turns;lia,q4⟩
  rw[AV]
  have look:∀ (i:Nat) g,(xs.map λ e=>(rk prog w).hash e.1)[i]?=some g->∃ e,xs[i]?=some e/\(rk prog w).hash e.1=g:=λ i g hg=>by
   rw[Az] at hg
   obtain⟨e,e1,e2⟩:=AA.mp hg
   exact⟨e,e1,e2⟩
  have F8:∀ m<k1,∃ (i:Nat) (e:List Int×Addr),t.place[i]?=some (way t.mask ((rk prog w).hash key) m).j/\xs[i]?=some e/\e.1≠key:=λ m hm=>by
   rcases Bj m k with c | c
   ·exact Ip m c
   ·obtain⟨i,g,p1,p2,p3⟩:=g2 m c hm
    obtain⟨e,e1,e2⟩:=look i g p2
    exact⟨i,e,p1,e1,λ q=>p3 (by rw[<- e2,q])⟩
  rcases g3 with ⟨n1,n2⟩ | ⟨i,n1,n2,n3⟩
  ·have n2':t.probe _ ((rk prog w).hash key) (way t.mask ((rk prog w).hash key) k)=_:=n2
   simp only[SetTable.probe] at n2' ⊢
   erw [n2]
   dsimp only
   refine Ab (h2 (λ hm=>?_) _ ⟨n1,k1,rfl,λ m hm=>?_⟩)
   ·obtain⟨e,he,ek⟩:=Av.mp hm
    obtain⟨i,hi⟩:=Dp.mp he
    have hh:(xs.map λ e=>(rk prog w).hash e.1)[i]?=some ((rk prog w).hash key):=by rw[Az,hi,<- ek];rfl
    have CM:i<t.place.size:=by rw[T.len];exact (AI.mp hh).1
    obtain⟨kk,w1,w2⟩:=T.nc i _ _ hh (Be CM)
    rcases Ds kk k1 with c | c | c
    ·obtain⟨i',e',p1,p2,p3⟩:=F8 kk c
     rw[w1] at p1
     have:i=i':=by
      rw[<- below_at T.wB (Be CM),<- below_at T.wB p1]
     subst this
     rw[hi] at p2;cases p2
     exact p3 ek
    ·subst c;rw[w1] at n1;exact n1 (by simp)
    ·exact n1 (w2 k1 c)
   ·obtain⟨i',e',p1,_⟩:=F8 m hm
    exact Bf (by rw[Bx];exact p1)
  ·simp only[SetTable.probe]
   erw [n3]
   dsimp only
   obtain⟨e,e1,e2⟩:=look i _ n2
   have hes:=X.at e1
   have hey:=X.is e (Bf e1)
   have main:wpAny (model prog w) A (holding [Value.ref e.2] (eqBool (.ref e.2) (.ref b)) >>= λ equal=>setState a >>= λ x=>match x with
     | (FC,_,t')=>if (true&&equal)=true then pure (SetFound.there none) else
      match t'.sameMemory t.moves t.mask with
      | some same=>
       have jp:=λ FI=>match FI with
        | none=>do
         rule "set.search.anew"
         setSearchFrom a (.ref b) ((rk prog w).hash key) true fuel none
        | some i'=>if equal=true then pure (SetFound.there (some i')) else setSearchFrom a (.ref b) ((rk prog w).hash key) true fuel (some (way t.mask ((rk prog w).hash key) (k1+1)))
       match if same=true then t'.slot (way t.mask ((rk prog w).hash key) k1).j else Slot.empty with
       | .live i'=>match FC[i']? with
        | some (_,y')=>do
         let r <- isSame y' (.ref e.2)
         let FI <- pure (if r=true then some i' else none)
         jp FI
        | none=>do
         let FI <- pure none
         jp FI
       | _=>do
        let FI <- pure none
        jp FI
      | _=>unsupported "set.changed-during-lookup:is-the-new-block-at-the-old-address") Q E s:=by
    refine Jg (J_ ((rk prog w).eqBool hu hey hb ?_))
    refine Jg (Kg ho hd X.fits ?_)
    dsimp only
    by_cases hk:e.1=key
    ·rw[Ki hk]
     simp only[Du,if_true]
     exact Ab (h1 (Av.mpr ⟨e,Bf e1,hk⟩))
    ·rw[Kd hk]
     simp only[CG,A5,if_false]
     have sm:t.sameMemory t.moves t.mask=some true:=by unfold SetTable.sameMemory;simp
     rw[sm]
     dsimp only
     rw[if_pos rfl,T.live n1]
     dsimp only
     rw[hes]
     dsimp only
     refine Jg (wpAny_isSame_ref_self ?_)
     refine Jg (Ab ?_)
     rw[if_pos rfl]
     dsimp only
     have hKk:k1<K:=by
      rcases Ds K k1 with c | c | c
      ·obtain⟨i',e',p1,_⟩:=F8 K c
       exact absurd (Bf (by rw[Bx];exact p1)) q4
      ·subst c
       exact absurd (Bf (by rw[Bx];exact n1)) q4
      ·exact c
     refine cu hu ho hd X hb h1 h2 fuel (k1+1) _ rfl (λ m hm=>?_) ⟨K,by lia,by lia,q3,q4,q5⟩
     rcases Bj m k1 with c | c
     ·exact F8 m c
     ·have:m=k1:=by lia
      subst this
      exact⟨i,e,n1,e1,hk⟩
   rw[hes]
   by_cases hl:t.led=true
   ·rw[hl]
    simp only[CH,A5,if_false]
    exact main
   ·have Gp:t.led=false:=by simpa using hl
    rw[Gp]
    simp only[CI,if_true]
    refine Jg (X5 hb _ (λ v hv=>?_) ?_)
    ·obtain⟨p,hp,rfl⟩:=Av.mp hv
     rw[Array.toList_filter,Bm,X.es] at hp
     obtain⟨⟨e',JI,rfl⟩,_⟩:=(And.intro (Av.mp hp.1) hp.2)
     exact⟨e'.1,e'.2,rfl,X.is e' JI⟩
    ·simp only[A5,if_false]
     exact main
structure vQ (prog:Program) (w:World) (h:Heap) (a:Addr) (xs:List (List Int×Addr)) (led:Bool):Prop where
 ex:∃ es ep t,h.get? a=some { cls:=.type "set",dict:=none,data:=.set es ep t }/\qc (prog:=prog) (w:=w) h es t xs/\t.led=led/\t.plain=true/\xs.length*5<t.mask*3
 nd:(xs.map (·.1)).Nodup
def j9 {h h':Heap}{ks:List Int}{b a:Addr}{es:Array (Int×Value)}{ep:Nat}{t:SetTable}{c:Value}{d:Option Addr}{sl:Array (Option Value)}(x:IsTupleKey (intKind prog w) h ks b) (ho:h.get? a=some { cls:=c,dict:=d,data:=.set es ep t,slots:=sl }) (hs:Heap.SameBut a h h'):IsTupleKey (intKind prog w) h' ks b:=by
 obtain⟨o',items,n,FT,hc,GX,hi⟩:=x
 have Aq:b≠a:=by
  rintro rfl
  obtain rfl:o'=_:=A4 (FT.symm.trans ho)
  cases GX
 exact⟨o',items,n,(hs.2 b Aq).trans FT,hc,GX,hi⟩
def lU {h:Heap}{a:Addr}{es FC:Array (Int×Value)}{ep:Nat}{t t':SetTable}(ho:h.get? a=some { cls:=.type "set",dict:=none,data:=.set es ep t }):(h.update a (Obj.putSet FC t')).get? a=some { cls:=.type "set",dict:=none,data:=.set FC (ep+1) t' }:=by
 have e:Obj.putSet FC t' { cls:=.type "set",dict:=none,data:=.set es ep t }={ cls:=.type "set",dict:=none,data:=.set FC (ep+1) t' }:=putSet_of FC t' rfl
 have:=Km (Obj.putSet FC t') ho (by rw[e];rfl)
 rw[e] at this;exact this
theorem iH {α β:Type}(l:List α) (f:α->β) (d:β):∀ (order:List Nat),(∀ k∈order,k<l.length)->order.map (λ k=>(l.map f).getD k d)=(order.filterMap λ k=>l[k]?).map f
 | [],_=>rfl
 | k::order,h=>by
  have hk:=h k Ao
  have ih:=iH l f d order λ j hj=>h j (Aw _ hj)
  rw[Ar,Cs,AL hk]
  dsimp only
  rw[Ar,ih]
  congr 1
  simp[hk]
def Vm {a:Addr}{es:Array (Int×Value)}{ep:Nat}{t:SetTable}{xs:List (List Int×Addr)}{led:Bool}{wanted M:Nat}{Q:Unit->Shared->Prop}
  (ho:s.heap.get? a=some { cls:=.type "set",dict:=none,data:=.set es ep t }) (X:qc (prog:=prog) (w:=w) s.heap es t xs) (Br:t.led=led) (An:t.plain=true) (hM:vv M) (hw:sizeAbove wanted=M+1) (AJ:xs.length*5<M*3) (CL:(xs.map (·.1)).Nodup)
  (h:∀ h' E9,Heap.SameBut a s.heap h'->vQ prog w h' a E9 led->E9.Perm xs->Q () { s with heap:=h' }):wpAny (model prog w) A (setRelay a wanted) Q E s:=by
 have hlen:es.size=xs.length:=by have:=congrArg List.length X.es;simpa using this
 have Ew:(es.map (·.1)).toList=xs.map λ e=>(rk prog w).hash e.1:=by rw[Array.toList_map,X.es,AU];rfl
 have hsz:(es.map (·.1)).size=xs.length:=by rw[CU,hlen]
 obtain⟨t',order,h1,h2,h3,h4,h5,h6,h7⟩:=aF hM t.finger (t.movedTo M) t.led t.plain (es.map (·.1)) (by rw[hsz];lia)
 rw[hsz] at h6
 have Ak:∀ k∈order.toList,k<xs.length:=λ k hk=>by simpa using h6.mem_iff.mp hk
 unfold setRelay
 refine Jg (Kg ho rfl X.fits ?_)
 dsimp only
 rw[if_neg (by rw[hw];rcases hM with e | e | e <;> rw[e] <;> decide)]
 have hr:t.relaid (es.map (·.1)) wanted=some (t',order):=by
  unfold SetTable.relaid
  rw[hw,Nat.add_sub_cancel];exact h1
 rw[hr]
 have BH:(order.filterMap (es[·]?)).toList=(order.toList.filterMap λ k=>xs[k]?).map λ e=>((rk prog w).hash e.1,Value.ref e.2):=by
  rw[Array.toList_filterMap,List.map_filterMap]
  congr 1
  funext k
  rw[<- Bx,X.es,Az]
 have EZ:(order.toList.filterMap λ k=>xs[k]?).Perm xs:=(h6.filterMap _).trans (by rw[List.filterMap_getElem?_range_length])
 have BF:(order.filterMap (es[·]?)).size=es.size:=by
  rw[<- Bl,BH,Ay,EZ.length_eq,hlen]
 refine Jg (m:=_) ?_
 show wpAny _ _ (do
  let some (t,order):=some (t',order) | unsupported "internal:set-table-without-room"
  let FC:=order.filterMap (es[·]?)
  if FC.size != es.size then unsupported "internal:set-table-lost-an-element"
  pure (FC,t)) _ _ _
 dsimp only
 rw[if_neg (by rw[BF];simp)]
 refine Ab ?_
 have Bp:(order.filterMap (es[·]?)).size<=sizeLine:=by
  rw[BF,hlen]
  have:sizeLine=16777216:=rfl
  rcases hM with e | e | e <;> subst e <;> lia
 refine wpAny_storeSet_of ho rfl ?_ Bp
 have sb:=Heap.SameBut.update s.heap a (Obj.putSet (order.filterMap (es[·]?)) t')
 refine h _ _ sb ⟨⟨_,ep+1,t',lU ho,⟨BH,λ e he=>j9 (X.is e (EZ.mem_iff.mp he)) ho sb,?_,?_⟩,by rw[h4];exact Br,by rw[h5];exact An,?_⟩,(EZ.map _).nodup_iff.mpr CL⟩ EZ
 ·rw[<- iH xs (λ e=>(rk prog w).hash e.1) 0 order.toList Ak,<- Ew]
  exact h7
 ·rw[EZ.length_eq,h2];lia
 ·rw[EZ.length_eq,h2];exact AJ
def cm (n:Nat) (M:Nat) (hM:vv M) (h1:n*5<M*3) (h2:M*3<=(n+1)*5) (hn:n<70):∃ M',vv M'/\sizeAbove (grown (n+1))=M' + 1/\(n+1)*5<M'*3:=by
 rcases hM with e | e | e <;> subst e
 ·have:n=4:=by lia
  subst this;exact⟨31,.inr (.inl rfl),AB,by lia⟩
 ·have:n=18:=by lia
  subst this;exact⟨127,.inr (.inr rfl),AB,by lia⟩
 ·lia
def Ni {a:Addr}{xs:List (List Int×Addr)}{key:List Int}{b:Addr}{led:Bool}{Q:Bool->Shared->Prop}(hu:A.units<cLine) (S:vQ prog w s.heap a xs led) (hb:IsTupleKey (intKind prog w) s.heap key b) (hn:xs.length<70)
  (h:∀ h' E9 r,Heap.SameBut a s.heap h'->vQ prog w h' a E9 led->(key∈xs.map (·.1)/\E9=xs\/key∉xs.map (·.1)/\E9.Perm (xs++[(key,b)]))->Q r { s with heap:=h' }):
  wpAny (model prog w) A (setAddHashed a (.ref b) ((rk prog w).hash key)) Q E s:=by
 obtain⟨⟨es,ep,t,ho,X,Br,An,AJ⟩,CL⟩:=S
 have hlen:es.size=xs.length:=by have:=congrArg List.length X.es;simpa using this
 unfold setAddHashed setAddHashedIn
 refine J_ (Jg (Kg ho rfl X.fits ?_))
 dsimp only
 rw[if_neg (by simp[byScan,Value.scannable])]
 obtain⟨K,k1,k2,k3⟩:=X.tab.first (by rw[Ay];exact X.nV) ((rk prog w).hash key)
 have hmk:t.mask<=127:=by rcases X.tab.mask with e | e | e <;> lia
 refine Jg ?_
 unfold setSearch
 refine cu (key:=key) (b:=b) hu ho rfl X hb (λ hm=>?_) (λ hm j F=>?_) 100000 0 none rfl (λ m hm=>by lia) ⟨K,by lia,by lia,k1,k2,k3⟩
 ·dsimp only
  refine Ab ?_
  have:=h s.heap xs false ⟨rfl,λ _ _=>rfl⟩ ⟨⟨es,ep,t,ho,X,Br,An,AJ⟩,CL⟩ (.inl ⟨hm,rfl⟩)
  exact this
 ·dsimp only
  refine Jg (Kg ho rfl X.fits ?_)
  dsimp only
  obtain⟨p1,p2,p3⟩:=X.tab.put F
  rw[Ay] at p1
  have Cw:(t.put j).1.plain=true:=by rw[p2];exact An
  have B9:(t.put j).1.mask=t.mask:=by rw[p2]
  have Ak:(t.put j).1.led=led:=by rw[p2];exact Br
  generalize hT:(t.put j)=P at *
  obtain⟨t1,p⟩:=P
  dsimp only at *
  rw[Cw]
  simp only[if_true]
  refine Jg (QJ hb ?_)
  simp only[if_true]
  let FG:=xs.take p++(key,b)::xs.drop p
  have EZ:FG.Perm (xs++[(key,b)]):=by
   have e:xs.take p++xs.drop p=xs:=DT p xs
   have:FG.Perm ((key,b)::(xs.take p++xs.drop p)):=List.perm_middle
   rw[e] at this
   exact this.trans (List.perm_append_singleton _ _).symm
  have Gf:FG.length=xs.length+1:=by rw[EZ.length_eq];simp
  have GF:(insertAt es p ((rk prog w).hash key,Value.ref b)).toList=FG.map λ e=>((rk prog w).hash e.1,Value.ref e.2):=by
   rw[toList_insertAt,X.es]
   simp[FG,Dn,Dm]
  have GS:(insertAt es p ((rk prog w).hash key,Value.ref b)).size=xs.length+1:=by rw[<- Bl,GF,Ay,Gf]
  have Bp:(insertAt es p ((rk prog w).hash key,Value.ref b)).size<=sizeLine:=by
   rw[GS]
   have:sizeLine=16777216:=rfl
   lia
  refine Jg (wpAny_storeSet_of ho rfl ?_ Bp)
  have sb:=Heap.SameBut.update s.heap a (Obj.putSet (insertAt es p ((rk prog w).hash key,Value.ref b)) t1)
  have HP:=lU (FC:=insertAt es p ((rk prog w).hash key,Value.ref b)) (t':=t1) ho
  have hm7:7<=t.mask:=by rcases X.tab.mask with e | e | e <;> lia
  have X1:qc (prog:=prog) (w:=w) (s.heap.update a (Obj.putSet (insertAt es p ((rk prog w).hash key,Value.ref b)) t1)) (insertAt es p ((rk prog w).hash key,Value.ref b)) t1 FG:=by
   refine⟨GF,λ e he=>?_,?_,by rw[Gf,B9];lia⟩
   ·rcases AY.mp (EZ.mem_iff.mp he) with q | q
    ·exact j9 (X.is e q) ho sb
    ·cases AQ.mp q;exact j9 hb ho sb
   ·have:FG.map (λ e=>(rk prog w).hash e.1)=(xs.map λ e=>(rk prog w).hash e.1).take p++(rk prog w).hash key::(xs.map λ e=>(rk prog w).hash e.1).drop p:=by simp[FG,Dn,Dm]
    rw[this];exact p3
  have GW:(FG.map (·.1)).Nodup:=by
   refine (EZ.map _).nodup_iff.mpr ?_
   rw[BR,List.nodup_append]
   refine⟨CL,by simp,λ x hx y hy=>?_⟩
   simp at hy
   subst hy
   exact λ e=>hm (e▸hx)
  by_cases hf:t1.tooFull=true
  ·rw[hf]
   simp only[CI,Du,if_true]
   have F0:t1.fill=xs.length+1:=by
    unfold SetTable.fill
    rw[p3.rQ,p3.len]
    simp
    lia
   have FO:t.mask*3<=(xs.length+1)*5:=by
    have:=hf
    unfold SetTable.tooFull at this
    rw[F0,B9] at this
    simpa using this
   obtain⟨M',g1,g2,g3⟩:=cm xs.length t.mask X.tab.mask AJ FO hn
   rw[hlen]
   refine Jg (Vm (led:=led) HP X1 Ak Cw g1 g2 (by rw[Gf];exact g3) GW λ h' E9 sb' S' pm=>?_)
   refine Ab ?_
   exact h h' E9 true (sb.trans sb') S' (.inr ⟨hm,pm.trans EZ⟩)
  ·have GD:t1.tooFull=false:=by simpa using hf
   rw[GD]
   simp only[CI,CG,A5,if_false]
   refine Ab ?_
   have F0:t1.fill=xs.length+1:=by
    unfold SetTable.fill
    rw[p3.rQ,p3.len]
    simp
    lia
   have FO:(xs.length+1)*5<t.mask*3:=by
    have:=GD
    unfold SetTable.tooFull at this
    rw[F0,B9] at this
    simpa using this
   exact h _ FG true sb ⟨⟨_,ep+1,t1,HP,X1,Ak,Cw,by rw[Gf,B9];exact FO⟩,GW⟩ (.inr ⟨hm,EZ⟩)
end
noncomputable def vE (w:World):Bool:=!w.params.followText "set-order"
def yL (w:World):Obj:={ cls:=.type "set",dict:=none,data:=.set #[] 0 (.fresh 0 0 (vE w)) }
section
variable {prog:Program}{w:World}{A:Around}{E:Ad}{s:Shared}
set_option maxHeartbeats 3200000 in
def Yc (a:Value) {Q:Ad}(h:Q (.ref s.heap.objs.size) { s with heap:=s.heap.push (yL w) }):
  codeAny (model prog w) A (.call (.builtin "set.__new__") ⟨[.type "set",a],[]⟩) (wants Q E) s:=by
 refine codeAny_of_tree ?_
 show wpAny _ A.in1 (checkBuiltinCall "set.__new__" ⟨[.type "set",a],[]⟩ >>= λ _=>again (.builtin "set.__new__" ⟨[.type "set",a],[]⟩)) _ _ s
 refine Jg (wpAny_of_eq (F.newCall_set_1 a) (Ab ⟨plainId_quiet F.plain_set_new _,codeAny_builtin F.entry_set_new ?_⟩))
 rw[Around.under_plainId F.plain_set_new _]
 unfold Builtin.«set.__new__» Builtin.Frozenset.newClass newSet setsByText
 have sub:=sub_set_self
 obtain⟨hp,g,d,tk,os⟩:=s
 dsimp only
 wp_walk
 refine Kv (Ab ?_)
 dsimp only
 simp only[newObj]
 exact Jg (wpAny_alloc (Ab (Ab h)))
def WC {h:Heap}{a:Addr}(ho:h.get? a=some (yL w)):vQ prog w h a [] (vE w):=
 ⟨⟨#[],0,_,ho,⟨rfl,λ e he=>(by cases he),⟨.inl rfl,rfl,rfl,.nil,λ j hj=>(by cases hj),λ i g j hg=>(by cases hg)⟩,by simp⟩,rfl,rfl,by show 0*5<7*3;lia⟩,.nil⟩
end
end ST
namespace ST
open PySem PySem.SetTable PyProof.Rows
structure Up (its:Ap) (rows:List (List Int)) (i:Nat) (xs:List (List Int×Addr)):Prop where
 own:∀ e∈xs,∃ j,j<i/\its[j]?=some (.ref e.2)/\rows[j]?=some e.1
 all:∀ (j:Nat) r,j<i->rows[j]?=some r->r∈xs.map (·.1)
def Up.len {its:Ap}{rows:List (List Int)}{i:Nat}{xs:List (List Int×Addr)}(U:Up its rows i xs) (nd:(xs.map (·.1)).Nodup):xs.length<=i:=by
 have:∀ x∈xs.map (·.1),x∈(List.range i).map λ j=>rows.getD j []:=λ x hx=>by
  obtain⟨e,he,rfl⟩:=Av.mp hx
  obtain⟨j,h1,_,h3⟩:=U.own e he
  refine Av.mpr ⟨j,AK.mpr h1,?_⟩
  rw[AZ,h3];rfl
 have key:∀ (l m:List (List Int)),l.Nodup->(∀ x∈l,x∈m)->l.length<=m.length:=by
  intro l
  induction l with
  | nil=>intro m _ _;exact AN _
  | cons x l ih=>
   intro m hn hs
   have h1:=Bc.mp hn
   have hx:=hs x Ao
   have:=ih (m.erase x) h1.2 λ z hz=>(DY (λ e:z=x=>h1.1 (by rw[<- e];exact hz))).mpr (hs z (Aw _ hz))
   rw[DX hx] at this
   have:=DW hx
   simp only[AW];lia
 have:=key _ _ nd this
 simpa using this
def Up.step {its:Ap}{rows:List (List Int)}{i:Nat}{xs E9:List (List Int×Addr)}{key:List Int}{b:Addr}(U:Up its rows i xs) (hi:its[i]?=some (.ref b)) (hr:rows[i]?=some key)
  (h:key∈xs.map (·.1)/\E9=xs\/key∉xs.map (·.1)/\E9.Perm (xs++[(key,b)])):Up its rows (i+1) E9:=by
 rcases h with ⟨hm,rfl⟩ | ⟨_,hp⟩
 ·refine⟨λ e he=>?_,λ j r hj Bg=>?_⟩
  ·obtain⟨j,h1,h2⟩:=U.own e he
   exact⟨j,by lia,h2⟩
  ·rcases Bj j i with q | q
   ·exact U.all j r q Bg
   ·have:j=i:=by lia
    subst this
    rw[hr] at Bg;cases Bg;exact hm
 ·refine⟨λ e he=>?_,λ j r hj Bg=>?_⟩
  ·rcases AY.mp (hp.mem_iff.mp he) with q | q
   ·obtain⟨j,h1,h2⟩:=U.own e q
    exact⟨j,by lia,h2⟩
   ·cases AQ.mp q
    exact⟨i,by lia,hi,hr⟩
  ·have Gi:=hp.map (·.1)
   rw[Gi.mem_iff,BR]
   rcases Bj j i with q | q
   ·exact Cr _ (U.all j r q Bg)
   ·have:j=i:=by lia
    subst this
    rw[hr] at Bg;cases Bg
    exact AX _ Ao
section
variable {prog:Program}{w:World}{A:Around}{R:Result->Shared->Prop}{I:Addr}{fp wr:List Addr}{G:Array GenState->Array GenState->Prop}{n:Nat}{P:Nat->Value->Prop}{St:Nat->Shared->Prop}
def qH (prog:Program) (w:World) (h:Heap) (its:Ap) (rows:List (List Int)):Prop:=∀ (i:Nat) v,its[i]?=some v->∃ b r,v=.ref b/\rows[i]?=some r/\IsTupleKey (intKind prog w) h r b
def qH.at {h h':Heap}{its:Ap}{rows:List (List Int)}(T:qH prog w h its rows) (k:∀ (i:Nat) b,its[i]?=some (.ref b)->∀ o,h.get? b=some o->h'.get? b=some o):qH prog w h' its rows:=λ i v hv=>by
 obtain⟨b,r,rfl,h1,o,items,m,h2,h3⟩:=T i v hv
 exact⟨b,r,rfl,h1,o,items,m,k i b hv o h2,h3⟩
def RP (W:WalksS prog w A.in1 I fp wr G n (λ i v=>P i v) St) (Sa:Addr) (Hn:Sa∉fp) {its:Ap}{rows:List (List Int)}(hP:∀ i v,P i v->its[i]?=some v) (hn:n<70) (hu:A.units+1<cLine) (led:Bool)
  (B8:∀ (i:Nat) b,its[i]?=some (.ref b)->b∉Sa::wr):∀ (k i:Nat) (s:Shared) (xs:List (List Int×Addr)),n-i=k->i<=n->St i s->vQ prog w s.heap Sa xs led->qH prog w s.heap its rows->Up its rows i xs->
   (∀ s' E9,Moved (Sa::wr) G s s'->vQ prog w s'.heap Sa E9 led->Up its rows n E9->R (.ok (.ret .none)) s')->
   codeAny (model prog w) A (.builtin "set.update.loop" ⟨[.ref Sa,.ref I],[]⟩) R s:=by
 have Hm:Sa∉wr:=λ z=>Hn (W.sub _ z)
 have more:∀ b∈wr,b∈Sa::wr:=λ b hb=>Aw _ hb
 have He:∀ {s s':Shared}{xs:List (List Int×Addr)}{IK:List Addr},Sa∉IK->(∀ e∈xs,e.2∉IK)->Moved IK G s s'->vQ prog w s.heap Sa xs led->vQ prog w s'.heap Sa xs led:=λ{s s' xs IK} h1 h2 hm ⟨⟨es,ep,t,ho,X,r1,r2,r3⟩,nd⟩=>
  ⟨⟨es,ep,t,hm.heap Sa _ h1 ho,⟨X.es,λ e he=>by
   obtain⟨o,items,m,g1,g2⟩:=X.is e he
   exact⟨o,items,m,hm.heap _ _ (h2 e he) g1,g2⟩,X.tab,X.nV⟩,r1,r2,r3⟩,nd⟩
 intro k
 induction k with
 | zero=>
  intro i s xs hk hi AV hS hT hU hR
  have e:i=n:=by lia
  subst e
  refine codeAny_builtin F.entry_set_update_loop ?_
  rw[Around.under_plainId F.plain_set_update_loop _]
  show wpAny _ A.in1 (pyNext (.ref I) >>= _) _ _ s
  refine Jg (W.done s _ _ AV λ s' hm=>?_)
  refine Ab (hR s' xs (hm.mono more) (He Hm (λ e he=>?_) hm hS) hU)
  obtain⟨j,_,h2,_⟩:=hU.own e he
  exact λ z=>B8 j e.2 h2 (more _ z)
 | succ k ih=>
  intro i s xs hk hi AV hS hT hU hR
  have Ak:i<n:=by lia
  refine codeAny_builtin F.entry_set_update_loop ?_
  rw[Around.under_plainId F.plain_set_update_loop _]
  show wpAny _ A.in1 (pyNext (.ref I) >>= _) _ _ s
  refine Jg (W.item i s _ _ Ak AV λ v s1 JL HA hm=>?_)
  have hv:=hP i v JL
  have T1:qH prog w s1.heap its rows:=hT.at λ j b hj o e=>hm.heap b o (λ z=>B8 j b hj (more _ z)) e
  obtain⟨b,r,rfl,hr,hb⟩:=T1 i v hv
  have S1:vQ prog w s1.heap Sa xs led:=He Hm (λ e he=>by
   obtain⟨j,_,h2,_⟩:=hU.own e he
   exact λ z=>B8 j e.2 h2 (more _ z)) hm hS
  have hl:xs.length<70:=by have:=hU.len hS.nd;lia
  show wpAny _ A.in1 (holding [Value.ref b] (setAdd Sa (.ref b)) >>= _) _ _ s1
  refine Jg (J_ ?_)
  unfold setAdd
  refine J_ (Jg ((rk prog w).pyHash (k:=r) (a:=b) (A:=A.in1) hu hb ?_))
  refine Ni (s:={ s1 with toks:=s1.toks+(rk prog w).draws r }) (A:=A.in1) hu S1 hb hl λ h' E9 rr sb S' hx=>?_
  have fr:=W.frame (i+1) s1 h' (s1.toks+(rk prog w).draws r) HA (Ca _ _) λ c hc o e=>(sb.2 c (λ z:c=Sa=>Hn (z▸hc))).trans e
  refine Ab ⟨plainId_quiet F.plain_set_update_loop _,ih (i+1) _ E9 (by lia) Ak fr S' (T1.at λ j c hj o e=>?_) (hU.step hv hr hx) λ s2 G_ G7 S2 U2=>?_⟩
  ·exact (sb.2 c (λ z=>B8 j c hj (z▸Ao))).trans e
  ·refine hR s2 G_ (Moved.trans W.gtrans ((hm.mono more).then_heap (Ca _ _) λ c o hc e=>?_) G7) S2 U2
   exact (sb.2 c (λ z=>hc (z▸Ao))).trans e
end
section
variable {prog:Program}{w:World}{A:Around}{E:Ad}{s:Shared}
set_option maxHeartbeats 6400000 in
def O9 {l:Addr}{its:Ap}{rows:List (List Int)}{Q:Ad}(hh:A.handled=none) (hu:A.units+64<cLine) (hl:s.heap.IsList l its) (hT:qH prog w s.heap its rows) (hn:its.size<70)
  (h:∀ (h':Heap) (tk:Nat) xs,vQ prog w h' s.heap.objs.size xs (vE w)->Up its rows its.size xs->(∀ b o,b<s.heap.objs.size->s.heap.get? b=some o->h'.get? b=some o)->Q (.ref s.heap.objs.size) { s with heap:=h',toks:=tk }):
  wpAny (model prog w) A (call (.type "set") [.ref l]) Q E s:=by
 obtain⟨c,tl,Em⟩:=F.called_set.mro
 have made:=F.called_set.made
 have Jh:=F.called_set.sub
 refine wpAny_call (codeAny_of_tree ?_)
 show wpAny _ _ (callAny (.type "set") _) _ _ _
 refine Ab ⟨Code.quiet_builtin _ (AB),codeAny_builtin F.entry_type_call ?_⟩
 rw[Around.under_plain (weight_type_call_type "set" [.ref l] []) rfl]
 have nt:=F.called_set.notType
 have cc:=F.called_set.canCreate
 have tc:=F.typeCall_set_1 (.ref l)
 repeat (any_goals (first | assumption | wp_step))
 refine codeAny_mono (Yc (.ref l) (E:=E) (Q:=λ obj s₁=>obj=.ref s.heap.objs.size/\s₁={ s with heap:=s.heap.push (yL w) }) ⟨rfl,rfl⟩) λ r s₁ hr=>?_
 cases r with
 | error e=>exact hr
 | ok fl=>
  cases fl with
  | ret obj=>
   obtain⟨rfl,rfl⟩:=hr
   have hS:(s.heap.push (yL w)).get? s.heap.objs.size=some (yL w):=AD _ rfl
   have JJ:Shared.TypeIs { s with heap:=s.heap.push (yL w) } (.ref s.heap.objs.size) "set":=⟨_,hS,rfl⟩
   have li:=F.called_set.init.lookup
   have bi:=F.called_set.init.bind (.ref s.heap.objs.size)
   repeat (any_goals (first | assumption | wp_step))
   let s1:Shared:={ s with heap:=s.heap.push (yL w) }
   refine codeAny_mono (codeAny_call_builtin (R:=wants (λ r s₂=>r=.none/\∃ h' tk xs,s₂={ s with heap:=h',toks:=tk }/\vQ prog w h' s.heap.objs.size xs (vE w)/\Up its rows its.size xs/\
     ∀ b o,b<s.heap.objs.size->s.heap.get? b=some o->h'.get? b=some o) E) F.called_set.init.plain F.entry_set_init (check_set_init_1 JJ ?_)) λ r₂ s₂ HB=>?_
   ·obtain⟨⟨Jp,GR,Ia,Gn⟩,C6,AM,nl,Cj⟩:=id hl
    simp only at AM Cj
    subst AM Cj
    have HD:(s.heap.push (yL w)).get? l=some { cls:=.type "list",dict:=GR,data:=.seq its nl,slots:=Gn }:=J9 _ C6
    have sls:=F.sub_list_set
    have slf:=F.sub_list_frozenset
    have nd:(Value.type "list" == Value.type "dict")=false:=by decide
    have Gf:(s.heap.push (yL w)).IsList l its:=⟨_,HD,rfl,nl,rfl⟩
    unfold Builtin.«set.__init__» noKeywords Builtin.Frozenset.updateFrom
    generalize JM:pyIter=PI
    unfold yL at *
    wp_walk
    subst JM
    refine Kq Gf (Jg (wpAny_runValue ?_))
    have Iv:l<s.heap.objs.size:=Am C6
    have hsz:(s.heap.push (yL w)).objs.size=s.heap.objs.size+1:=Heap.size_push _ _
    have HF:l≠(s.heap.push (yL w)).objs.size:=by rw[hsz];exact Au (Bb Iv)
    have Hs:s.heap.objs.size≠(s.heap.push (yL w)).objs.size:=by rw[hsz];exact Au (Cf _)
    have low:∀ b:Addr,b<s.heap.objs.size->b≠(s.heap.push (yL w)).objs.size:=λ b hb=>by rw[hsz];exact Au (Bb hb)
    have tin:∀ (i:Nat) b,its[i]?=some (.ref b)->b<s.heap.objs.size:=λ i b hb=>by
     obtain⟨b',r,e,_,o,_,_,ho,_⟩:=hT i _ hb
     cases e;exact Am ho
    refine RP (A:=A.in1.in1) (P:=λ i v=>its[i]?=some v) ((Walks.list (A:=A.in1.in1.in1) (by simp[hh]) _ l HF its).toS) s.heap.objs.size ?_ (its:=its) (rows:=rows) (λ _ _ q=>q) hn (show A.units+1+1+1<cLine by lia) (vE w) ?_ its.size 0 _ [] (by lia) (AN _)
     ⟨⟨_,AD _ rfl,rfl,rfl⟩,Gf.push _⟩ (WC (w:=w) (J9 _ hS)) (hT.at λ i b _ o e=>J9 _ (J9 _ e)) ⟨λ e he=>(by cases he),λ j r hj=>(by lia)⟩ ?_
    ·intro hm
     rcases Ai.mp hm with q | q
     ·exact Hs q
     ·exact BA Iv (AQ.mp q)
    ·intro i b hb hm
     have Ak:=tin i b hb
     rcases Ai.mp hm with q | q
     ·exact Au Ak q
     ·exact low b Ak (AQ.mp q)
    ·intro s' E9 hm S' U'
     obtain⟨h',g',d',HX,Hv⟩:=s'
     obtain rfl:g'=s.gens:=hm.gens
     obtain rfl:d'=s.drawn:=hm.drawn
     obtain rfl:Hv=s.os:=hm.os
     refine Ab (Ab ⟨rfl,h',HX,E9,rfl,S',U',λ b o hb e=>?_⟩)
     refine hm.heap b o (λ q=>?_) (J9 _ (J9 _ e))
     rcases Ai.mp q with q | q
     ·exact Au hb q
     ·exact low b hb (AQ.mp q)
   ·cases r₂ with
    | error e=>exact HB
    | ok JX=>
     cases JX with
     | ret r=>
      obtain⟨rfl,h',tk,xs,rfl,g1,g2,g3⟩:=HB
      repeat (any_goals (first | assumption | wp_step))
      exact h h' tk xs g1 g2 g3
     | _=>exact HB.elim
  | _=>exact hr.elim
end
end ST
namespace ST
open PySem PySem.SetTable
section facts
def bB:Manifest.owners.lookup (String.ofList ['r','o','t','a','r','e','t','i','_','t','e','s'].reverse)=some Manifest.sig_set_iterator:=by kernel_rfl
def qZ:Slot "set_iterator" "__next__" "set_iterator.__next__":=
 .of (owner:="set_iterator") (n:="__next__") (by rw[typeLookup_type,builtinLookup_eq_fast];kernel_rfl) (AB) (AB) (AB) (by first | exact .inl (AB) | exact .inr (AB)) (by rw[isSubtype_type];kernel_rfl)
def Z9:entryFor table "set_iterator.__next__"=some Builtin.«set_iterator.__next__»:=entryFor_of_tree (by kernel_rfl)
def Y1 (a:Value):argsOk "set_iterator.__next__" ⟨[a],[]⟩:=by
 unfold argsOk
 rw[signature?_of (id:="set_iterator.__next__") (n:=['_','_','t','x','e','n','_','_']) (o:=['r','o','t','a','r','e','t','i','_','t','e','s']) (by kernel_rfl) bB]
 kernel_rfl
def PJ:entryFor table "set.__iter__"=some Builtin.«frozenset.__iter__»:=entryFor_alias (id':="frozenset.__iter__") (by kernel_rfl) rfl (AB) (by kernel_rfl)
def ck:Slot "set_iterator" "__iter__" "set_iterator.__iter__":=
 .of (owner:="set_iterator") (n:="__iter__") (by rw[typeLookup_type,builtinLookup_eq_fast];kernel_rfl) (AB) (AB) (AB) (by first | exact .inl (AB) | exact .inr (AB)) (by rw[isSubtype_type];kernel_rfl)
def PH:entryFor table "set_iterator.__iter__"=some Builtin.«dict_keyiterator.__iter__»:=entryFor_alias (id':="dict_keyiterator.__iter__") (by kernel_rfl) rfl (AB) (by kernel_rfl)
def Nc (a:Value):argsOk "set_iterator.__iter__" ⟨[a],[]⟩:=by
 unfold argsOk
 rw[signature?_of (id:="set_iterator.__iter__") (n:=['_','_','r','e','t','i','_','_']) (o:=['r','o','t','a','r','e','t','i','_','t','e','s']) (by kernel_rfl) bB]
 kernel_rfl
end facts
theorem Z7 {α:Type}:∀ (l:List α) (i:Nat) (x:α),l[i]?=some x->l.Perm (x::l.eraseIdx i)
 | [],i,x,h=>by simp at h
 | y::l,0,x,h=>by simp at h;subst h;simp
 | y::l,i+1,x,h=>by
  have ih:=Z7 l i x (by simpa using h)
  rw[List.eraseIdx_cons_succ]
  exact (ih.cons y).trans (.swap x y _)
theorem cX {α:Type}(next:Nat->Nat):∀ (f k:Nat) (left:List α) (out:Array α),left.length=f->(pickOrder.go next f k left out).toList.Perm (out.toList++left)
 | 0,k,left,out,h=>by
  cases left with
  | nil=>unfold pickOrder.go;simp
  | cons _ _=>simp at h
 | f+1,k,left,out,h=>by
  unfold pickOrder.go
  have Ak:next k%left.length<left.length:=CS _ (by lia)
  rw[AL Ak]
  dsimp only
  refine (cX next f (k+1) _ _ (by rw[List.length_eraseIdx_of_lt Ak];lia)).trans ?_
  rw[Array.toList_push,List.append_assoc]
  exact (Z7 left _ _ (AL Ak)).symm.append_left _
def VQ {α:Type}(next:Nat->Nat) (xs:Array α):(pickOrder next xs).toList.Perm xs.toList:=by
 unfold pickOrder
 simpa using cX next xs.size 0 xs.toList #[] (by simp)
noncomputable def comes (w:World) (a:Addr) (es:Array (Int×Value)) (ep:Nat):Array (Int×Value):=if w.params.followText "set-order"=true then pickOrder (w.params.setOrder a ep) es else es
def p_ (w:World) (a:Addr) (es:Array (Int×Value)) (ep:Nat):(comes w a es ep).toList.Perm es.toList:=by
 unfold comes
 split
 ·exact VQ _ _
 ·exact .refl _
noncomputable def rG (a:Addr) (slot i n ep:Nat):Obj:={ cls:=.type "set_iterator",data:=.fields #[rawInt slot,rawInt i,.ref a,rawInt n,rawInt ep] }
noncomputable def slotAt (t:SetTable):Nat->Nat
 | 0=>0
 | i+1=>t.place.getD i 0+1
theorem OZ {t:SetTable}(hr:uK t.place.toList):∀ i,i<=t.place.size->below t.place (slotAt t i)=i
 | 0,_=>by
  obtain⟨h1,h2,h3⟩:=kQ (xs:=t.place) (j:=0) hr
  rcases DZ (below t.place 0) with q | q
  ·exact q
  ·have:=h2 0 (by lia) q
   lia
 | i+1,hi=>by
  have hd:t.place.getD i 0=t.place[i]:=gP (by lia)
  show below t.place (t.place.getD i 0+1)=i+1
  rw[hd]
  obtain⟨h1,h2,h3⟩:=kQ (xs:=t.place) (j:=t.place[i] + 1) hr
  have wB:∀ a b (ha:a<t.place.size) (hb:b<t.place.size),a<b->t.place[a]<t.place[b]:=λ a b ha hb CO=>by
   have r:=Cc.mp hr a b (by simpa using ha) (by simpa using hb) CO
   rw[Cb,Cb] at r
   exact r
  rcases Ds (below t.place (t.place[i] + 1)) (i+1) with q | q | q
  ·have:=h3 i (by lia) (by lia)
   lia
  ·exact q
  ·have a:=h2 (i+1) (by lia) q
   have b:=wB i (i+1) (by lia) (by lia) (by lia)
   lia
structure wN (w:World) (h:Heap) (a:Addr) (es:Array (Int×Value)) (ep:Nat) (t:SetTable):Prop where
 get:h.get? a=some { cls:=.type "set",dict:=none,data:=.set es ep t }
 fits:t.fits es.size=true
 wB:uK t.place.toList
 led:t.led=vE w
 plain:t.plain=true
theorem wN.size {w:World}{h:Heap}{a:Addr}{es:Array (Int×Value)}{ep:Nat}{t:SetTable}(S:wN w h a es ep t):t.place.size=es.size:=by
 have:=S.fits
 simp only[SetTable.fits,Bw,beq_iff_eq] at this
 exact this.1
section
variable {prog:Program}{w:World}{A:Around}{E:Ad}{s:Shared}
def b_ {a:Addr}{es:Array (Int×Value)}{ep:Nat}{t:SetTable}{i:Nat}{Q:Option (Value×Nat)->Shared->Prop}(S:wN w s.heap a es ep t) (hi:i<=es.size) (slot:Nat) (hs:w.params.followText "set-order"=false->slot=slotAt t i)
  (h:∀ Fj,(w.params.followText "set-order"=false->Fj=slotAt t (i+1))->Q ((comes w a es ep)[i]?.map λ e=>(e.2,Fj)) s):wpAny (model prog w) A (setNext a slot i ep) Q E s:=by
 unfold setNext setsByText
 refine Jg (Kg S.get rfl S.fits ?_)
 dsimp only
 refine Jg (Jg (Kv (Ab ?_)))
 show wpAny _ A (if w.params.followText "set-order"=true then _ else _) Q E s
 cases hb:w.params.followText "set-order" with
 | true=>
  rw[if_pos rfl,if_neg (by simp)]
  unfold setWalk setsByText
  refine Jg (Jg (Kg S.get rfl S.fits ?_))
  dsimp only
  refine Jg (Jg (Kv (Ab ?_)))
  show wpAny _ A (if w.params.followText "set-order"=true then _ else _) _ E s
  rw[if_pos hb]
  refine Jg (Kv (Ab ?_))
  refine Ab ?_
  have:=h slot (λ q=>by rw[hb] at q;cases q)
  unfold comes at this
  rw[if_pos hb] at this
  exact this
 | false=>
  rw[if_neg (by simp)]
  split
  ·rename_i hd
   have GX:(!t.plain&&decide (es.size>1))=true:=hd
   rw[S.plain] at GX;simp at GX
  ·show wpAny _ A ((if (!t.led&&!es.isEmpty)=true then unsupported "set:maker-not-led" else pure ()) >>= _) Q E s
   have hl:t.led=true:=by rw[S.led];unfold vE;rw[hb];rfl
   rw[if_neg (by rw[hl];simp)]
   refine Jg (Ab (Ab ?_))
   have Bp:=hs hb
   have hz:=S.size
   rw[Bp,OZ S.wB i (by rw[hz];exact hi)]
   have:=h (slotAt t (i+1)) (λ _=>rfl)
   unfold comes at this
   rw[if_neg (by rw[hb];simp)] at this
   rcases Bj i es.size with q | q
   ·have hp:i<t.place.size:=by rw[hz];exact q
    rw[Be q] at this
    rw[Be q,Be hp]
    have e:slotAt t (i+1)=t.place[i] + 1:=by show t.place.getD i 0+1=_;rw[gP hp]
    rw[e] at this
    exact this
   ·rw[CC q] at this
    rw[CC q]
    exact this
def q8 {a I:Addr}{slot i n ep:Nat}(ho:s.heap.get? I=some (rG a slot i n ep)):s.TypeIs (.ref I) "set_iterator":=⟨_,ho,rfl⟩
def dH (k:Nat):((k:Int)).toNat=k:=Cm k
def WA {I a:Addr}{es:Array (Int×Value)}{ep:Nat}{t:SetTable}{i slot:Nat}{e:Int×Value}{Q:Option Value->Shared->Prop}(ho:s.heap.get? I=some (rG a slot i es.size ep)) (S:wN w s.heap a es ep t) (hs:w.params.followText "set-order"=false->slot=slotAt t i) (he:(comes w a es ep)[i]?=some e)
  (hi:i<es.size) (h:∀ h' Fj,(w.params.followText "set-order"=false->Fj=slotAt t (i+1))->h'.get? I=some (rG a Fj (i+1) es.size ep)->Heap.SameBut I s.heap h'->Q (some e.2) { s with heap:=h' }):wpAny (model prog w) A (pyNext (.ref I)) Q E s:=by
 unfold pyNext
 refine Jg (wpAny_attempt (Kj (name:=Str.ofString "__next__") (q8 ho) qZ (Ke qZ (q8 ho) Z9 ?_ (Y1 _))))
 refine Jg (Ab ?_)
 dsimp only
 refine Jg (wpAny_fieldsOf ho rfl ?_)
 dsimp only[rawInt]
 refine Jg (Jg (Kg S.get rfl S.fits (Ab ?_)))
 rw[if_neg (by simp)]
 refine Jg (b_ S (by lia) slot hs λ Fj GJ=>?_)
 rw[dH] at GJ ⊢
 rw[he]
 dsimp only[Option.map_some]
 refine Jg (Ku ho rfl (by simp) ?_)
 have o1:=Km (Obj.mapFields (·.set! 0 (Value.int (Fj:Int) 0))) ho rfl
 refine Jg (Ku o1 rfl (by simp) ?_)
 have o2:=Km (Obj.mapFields (·.set! 1 (Value.int ((i:Int)+1) 0))) o1 rfl
 refine Ab ⟨_,rfl,Ab (h _ Fj GJ o2 ((Heap.SameBut.update ..).trans (Heap.SameBut.update ..)))⟩
def WB {I a:Addr}{es:Array (Int×Value)}{ep:Nat}{t:SetTable}{slot:Nat}{Q:Option Value->Shared->Prop}(hh:A.handled=none) (ho:s.heap.get? I=some (rG a slot es.size es.size ep)) (S:wN w s.heap a es ep t) (hs:w.params.followText "set-order"=false->slot=slotAt t es.size)
  (h:∀ h',Heap.ExtBut I s.heap h'->Q none { s with heap:=h' }):wpAny (model prog w) A (pyNext (.ref I)) Q E s:=by
 have hn:(comes w a es ep)[es.size]?=none:=by
  have:=(p_ w a es ep).length_eq
  simp only[Bl] at this
  rw[CC (by lia)]
 unfold pyNext
 refine Jg (wpAny_attempt (Kj (name:=Str.ofString "__next__") (q8 ho) qZ (Ke qZ (q8 ho) Z9 ?_ (Y1 _))))
 refine Jg (Ab ?_)
 dsimp only
 refine Jg (wpAny_fieldsOf ho rfl ?_)
 dsimp only[rawInt]
 refine Jg (Jg (Kg S.get rfl S.fits (Ab ?_)))
 rw[if_neg (by simp)]
 refine Jg (b_ S (by simp) slot (by simpa using hs) λ Fj GJ=>?_)
 rw[dH,hn]
 dsimp only[Option.map_none]
 refine Jg (Ku ho rfl (by simp) ?_)
 refine Jg ?_
 simp only[newExc,newTuple]
 refine Jg (Kf ?_ (by size_fits))
 refine Jg (m:=firstArgMember _ _) (wpAny_of_eq (a:=Value.none) (by first | rfl | (simp only[firstArgMember];rfl)) (Kf ?_ (by size_fits)))
 unfold raiseNew
 refine Jg (wpAny_handled ?_)
 rw[show A.in1.handled=none from hh]
 refine Jg ((Ab (wpAny_throw ?_)))
 refine Jg ((wpAny_isInstance (T:="StopIteration") (b:=true) ⟨_,AD _ rfl,rfl⟩ isSubtype_stop ?_))
 exact Ab (h _ (((Heap.SameBut.update ..).extBut.push _).push _))
def W9 {I a:Addr}{slot i n ep:Nat}{Q:Ad}(ho:s.heap.get? I=some (rG a slot i n ep)) (h:Q (.ref I) s):wpAny (model prog w) A (pyIter (.ref I)) Q E s:=by
 refine wpAny_pyIter_slot (q8 ho) ck (Ke ck (q8 ho) PH ?_ (Nc _))
 exact Ab ⟨_,rfl,"set_iterator",_,q8 ho,qZ.lookup,h⟩
def wN.keep {h h':Heap}{a:Addr}{es:Array (Int×Value)}{ep:Nat}{t:SetTable}(S:wN w h a es ep t) (k:∀ o,h.get? a=some o->h'.get? a=some o):wN w h' a es ep t:=⟨k _ S.get,S.fits,S.wB,S.led,S.plain⟩
def Xx (hh:A.handled=none) (I a:Addr) (Aq:a≠I) (es:Array (Int×Value)) (ep:Nat) (t:SetTable):
  Walks prog w A I [I,a] [I] es.size (λ i v=>∃ e,(comes w a es ep)[i]?=some e/\v=e.2) (λ i h=>(∃ slot,(w.params.followText "set-order"=false->slot=slotAt t i)/\h.get? I=some (rG a slot i es.size ep))/\wN w h a es ep t) where
 sub:=λ b hb=>by simp at hb;simp[hb]
 frame:=λ _ _ _ st k=>by
  obtain⟨⟨slot,h1,h2⟩,S⟩:=st
  exact⟨⟨slot,h1,k I (by simp) _ h2⟩,S.keep λ o e=>k a (by simp) o e⟩
 item:=λ i s Q E hi st hQ=>by
  obtain⟨⟨slot,h1,h2⟩,S⟩:=st
  have hl:i<(comes w a es ep).size:=by
   have:=(p_ w a es ep).length_eq
   simp only[Bl] at this
   lia
  refine WA h2 S h1 (Be hl) hi λ h' Fj g1 g2 g3=>?_
  exact hQ _ h' s.toks ⟨_,Be hl,rfl⟩ ⟨⟨Fj,g1,g2⟩,S.keep λ o e=>(g3.2 a Aq).trans e⟩ λ b o hb e=>(g3.2 b (λ z=>hb (by simp[z]))).trans e
 done:=λ s Q E st hQ=>by
  obtain⟨⟨slot,h1,h2⟩,S⟩:=st
  exact WB hh h2 S h1 λ h' g=>hQ h' s.toks λ b o hb e=>g b o (λ z=>hb (by simp[z])) e
 self:=λ _ _ _ _ st hQ=>by
  obtain⟨⟨slot,h1,h2⟩,S⟩:=st
  exact W9 h2 hQ
def RT:typeLookup (.type "set") "__len__"=pure (some (.builtin "set.__len__")):=F.slot_set_len.lookup
def split_len:splitId "set.__len__"=some ("set","__len__"):=by decide +kernel
def Rx {a:Addr}{es:Array (Int×Value)}{ep:Nat}{t:SetTable}{Q:Bool->Shared->Prop}(S:wN w s.heap a es ep t) (h:Q false s):wpAny (model prog w) A (setDrawn a) Q E s:=by
 unfold setDrawn setsByText
 refine Jg (Kg S.get rfl S.fits ?_)
 dsimp only
 refine Jg (Jg (Kv (Ab (Ab ?_))))
 show Q (!w.params.followText "set-order"&&(!t.plain&&decide (es.size>1))) s
 rw[S.plain]
 simpa using h
set_option maxHeartbeats 4000000 in
def R3 {a:Addr}{es:Array (Int×Value)}{ep:Nat}{t:SetTable}{Q:Bool->Shared->Prop}(S:wN w s.heap a es ep t) (h:Q false s):wpAny (model prog w) A (Builtin.List.listLengthHint (.ref a)) Q E s:=by
 have Ty:s.TypeIs (.ref a) "set":=⟨_,S.get,rfl⟩
 unfold Builtin.List.listLengthHint
 refine Jg (wpAny_specialOf Ty RT ?_)
 dsimp only
 rw[split_len]
 dsimp only
 refine Jg (wpAny_isInstance (b:=true) Ty sub_set_self ?_)
 rw[if_neg (by decide)]
 rw[if_pos (AB)]
 refine Jg (Kr Ty ?_)
 exact Ab h
set_option maxHeartbeats 4000000 in
def Ot {a:Addr}{es:Array (Int×Value)}{ep:Nat}{t:SetTable}{Q:List Value->Shared->Prop}(hh:A.handled=none) (S:wN w s.heap a es ep t) (hn:es.size<=sizeLine)
  (h:∀ (h':Heap) (tk:Nat),(∀ b o,b<s.heap.objs.size->s.heap.get? b=some o->h'.get? b=some o)->s.heap.objs.size<=h'.objs.size->Q ((comes w a es ep).toList.map (·.2)) { s with heap:=h',toks:=tk }):wpAny (model prog w) A (collect (.ref a)) Q E s:=by
 have ha:a<s.heap.objs.size:=Am S.get
 unfold collect
 refine Jg (wpAny_runValue (codeAny_builtin F.entry_proto_collect ?_))
 rw[Around.under_plainId F.plain_proto_collect _]
 show wpAny _ A.in1 (newList [] >>= λ l=>again (.builtin "list.__iadd__" ⟨[l,.ref a],[]⟩)) _ _ s
 refine Jg (Kf (Ab ⟨plainId_quiet F.plain_list_iadd _,codeAny_builtin F.entry_list_iadd ?_⟩))
 rw[Around.under_plainId F.plain_list_iadd _]
 let L0:Obj:={ cls:=.type "list",data:=.seq ([]:Ae).toArray }
 have S1:wN w (s.heap.push L0) a es ep t:=S.keep λ o e=>J9 _ e
 have T1:Shared.TypeIs { s with heap:=s.heap.push L0 } (.ref a) "set":=⟨_,S1.get,rfl⟩
 show wpAny _ A.in1 (Builtin.List.listExtendWith (.ref s.heap.objs.size) (.ref a) (.ref s.heap.objs.size)) _ _ { s with heap:=s.heap.push L0 }
 unfold Builtin.List.listExtendWith
 refine Jg (Kr T1 ?_)
 have Aq:s.heap.objs.size≠a:=BA ha
 have c1:Builtin.List.listSameRef (.ref s.heap.objs.size) (.ref a)=false:=by simp[Builtin.List.listSameRef,Aq]
 rw[if_neg (by rw[c1];decide)]
 refine Jg (wpAny_pyIter_slot T1 F.slot_set_iter (Ke F.slot_set_iter T1 PJ ?_ (F.args_set_iter_1 _)))
 refine Jg (Jg (Ab (Ab ?_)))
 refine Jg (Jg (Jg (Kg S1.get rfl S1.fits (Ab (Ab ?_)))))
 refine Jg (Rx S1 ?_)
 rw[if_neg (by decide)]
 refine Jg (Ab ?_)
 refine Jg (wpAny_setEpoch_of S1.get rfl S1.fits ?_)
 refine Jg (Kf (Ab ⟨_,rfl,"set_iterator",_,⟨_,AD _ rfl,rfl⟩,qZ.lookup,?_⟩))
 let I:=(s.heap.push L0).objs.size
 let h2:=(s.heap.push L0).push (rG a 0 0 es.size ep)
 have S2:wN w h2 a es ep t:=S1.keep λ o e=>J9 _ e
 have hI:h2.get? I=some (rG a 0 0 es.size ep):=AD _ rfl
 have hL:h2.get? s.heap.objs.size=some L0:=J9 _ (AD _ rfl)
 have hsz:(s.heap.push L0).objs.size=s.heap.objs.size+1:=Heap.size_push _ _
 show wpAny _ A.in1 _ _ _ { s with heap:=h2 }
 refine Jg (J_ (R3 (s:={ s with heap:=h2 }) S2 ?_))
 rw[if_pos (AB)]
 refine Jg (Kk ?_)
 refine Jg ?_
 show wpAny _ A.in1 (updateSeq s.heap.objs.size (·.push .none) >>= λ _=>updateSeq s.heap.objs.size (·.pop)) _ _ { s with heap:=h2 }
 refine Jg (wpAny_updateSeq hL rfl ?_)
 have hL2:=Km (Obj.mapSeq (·.push Value.none)) hL rfl
 refine wpAny_updateSeq hL2 rfl ?_
 have hL3:=Km (Obj.mapSeq (·.pop)) hL2 rfl
 let h3:=(h2.update s.heap.objs.size (Obj.mapSeq (·.push Value.none))).update s.heap.objs.size (Obj.mapSeq (·.pop))
 have Jo:∀ b o,b≠s.heap.objs.size->h2.get? b=some o->h3.get? b=some o:=λ b o hb e=>(Kl _ _ (Ne.symm hb)).trans ((Kl _ _ (Ne.symm hb)).trans e)
 have haI:a≠I:=by show a≠(s.heap.push L0).objs.size;rw[hsz];exact Au (Bb ha)
 have hIn:I≠s.heap.objs.size:=by show (s.heap.push L0).objs.size≠_;rw[hsz];exact BA (Cf _)
 refine Ab ⟨plainId_quiet F.plain_extend_loop _,codeAny_extend_loopS ((Xx (A:=A.in1) hh I a haI es ep t).toS) hn s.heap.objs.size ?_ _ es.size 0 { s with heap:=h3 } #[] _ rfl (AN _) ⟨⟨0,λ _=>rfl,Jo I _ hIn hI⟩,S2.keep λ o e=>Jo a o (Ne.symm Aq) e⟩ hL3 (ItemsOf.nil _) λ s' acc c' hm Ho AO=>?_⟩
 ·intro hm
  rcases Ai.mp hm with q | q
  ·exact hIn q.symm
  ·exact Aq (AQ.mp q)
 ·refine Jg (wpAny_load Ho (Ab ?_))
  obtain⟨h',g',d',HX,Hv⟩:=s'
  obtain rfl:g'=s.gens:=hm.gens
  obtain rfl:d'=s.drawn:=hm.drawn
  obtain rfl:Hv=s.os:=hm.os
  have hcm:(comes w a es ep).size=es.size:=by
   have:=(p_ w a es ep).length_eq
   simpa using this
  have e:acc.toList=(comes w a es ep).toList.map (·.2):=by
   refine List.ext_getElem? λ j=>?_
   rw[Az]
   rcases Bj j es.size with q | q
   ·have C_:j<acc.size:=by rw[AO.1];exact q
    have hj:acc[j]?=some acc[j]:=Be C_
    obtain⟨e,e1,e2⟩:=AO.2 j _ hj
    rw[Bx,Bx,hj,e1,e2];rfl
   ·rw[Bx,Bx,CC (by rw[AO.1];exact q),CC (by rw[hcm];exact q)];rfl
  rw[e]
  refine h h' HX (λ b o hb e=>hm.heap b o (λ q=>?_) (Jo b o (Au hb) (J9 _ (J9 _ e)))) ?_
  ·rcases Ai.mp q with q | q
   ·exact Au hb q
   ·have q':b=(s.heap.push L0).objs.size:=AQ.mp q
    rw[hsz] at q'
    exact Au (Bb hb) q'
  ·exact BC (Am Ho)
end
end ST
namespace ST
open PySem PySem.SetTable PyProof.Rows L4
section
variable {prog:Program}{w:World}{A:Around}{E:Ad}{s:Shared}
def dQ {a:Addr}{es:Array (Int×Value)}{ep:Nat}{t:SetTable}{Q:Ad}{Out:Array Value->Prop}(hh:A.handled=none) (S:wN w s.heap a es ep t) (hz:es.size<=sizeLine)
  (core:∀ s6:Shared,2<=es.size->(∀ b o,s.heap.get? b=some o->s6.heap.get? b=some o)->Core prog w A.in1.in1 E ((comes w a es ep).toList.map (·.2)) Out s6) (short:es.size<2->Out ((comes w a es ep).toList.map (·.2)).toArray)
  (fin:∀ (out:Ap) (h':Heap) (tk l:Nat),Out out->out.size=es.size->s.heap.objs.size<=l->(∀ b o,s.heap.get? b=some o->h'.get? b=some o)->(∃ e,h'.get? l=some (seqObj "list" out e))->Q (.ref l) { s with heap:=h',toks:=tk }):
  wpAny (model prog w) A (call (.builtin "sorted") [.ref a]) Q E s:=by
 have AM:((comes w a es ep).toList.map (·.2)).length=es.size:=by
  have:=(p_ w a es ep).length_eq
  rw[Ay,this,Bl]
 refine Calls.call_function_entry kind_sorted plain_sorted entry_sorted (args_sorted1 _) ?_
 unfold Builtin.«sorted»
 refine Jg (m:=checkCount "sorted" 1 1 _) (Ab (Jg (Ot (A:=A.in1) hh S hz λ h1 tk k1 k2=>Jg (wpAny_newList ?_ (by rw[AM];exact hz)))))
 generalize hvs:(comes w a es ep).toList.map (·.2)=vs at *
 have Hf:(h1.push (seqObj "list" vs.toArray 0)).get? h1.objs.size=some (seqObj "list" vs.toArray 0):=AD _ rfl
 have k3:∀ b o,s.heap.get? b=some o->h1.get? b=some o:=λ b o q=>k1 b o (Am q) q
 show wpAny _ _ _ _ _ { s with heap:=h1.push (seqObj "list" vs.toArray 0),toks:=tk }
 refine Jg (J_ (Ke slot_list_sort ⟨_,Hf,rfl⟩ entry_list_sort (gr Hf (by rw[AM];exact hz) (λ h2 s6 k=>core s6 (by rw[<- AM];exact h2) λ b o q=>k b o ?_ (J9 _ (k3 b o q))) (λ h2=>short (by rw[<- AM];exact h2)) λ out g1 g2=>⟨_,rfl,?_⟩) (args_list_sort _)))
 ·exact Au (Ba (Am q) k2)
 ·refine Ab ⟨_,rfl,fin out _ tk h1.objs.size g1 (by rw[g2,AM]) k2 (λ b o q=>?_) (sortedHeap_at (n:=0) Hf)⟩
  have Ak:b<h1.objs.size:=Am (k3 b o q)
  rw[sortedHeap_old (Au Ak) (by rw[size_push'];exact Bb Ak),Heap.get?_push_ne _ _ _ (Au Ak)]
  exact k3 b o q
end
end ST
namespace ST
open PySem PySem.SetTable PySem.Spec PyProof.Rows L2
def yE (w:World) (a:Addr) (us:Ae):Heap->Prop:=λ h=>∃ es ep t,wN w h a es ep t/\es.toList.map (·.2)=us
def yE.tT {w:World}{a:Addr}{us:Ae}{h1 h2:Heap}(S:yE w a us h1) (k:∀ o,h1.get? a=some o->h2.get? a=some o):yE w a us h2:=by
 obtain⟨es,ep,t,S,e⟩:=S
 exact⟨es,ep,t,S.keep k,e⟩
def vQ.at {prog:Program}{w:World}{h:Heap}{a:Addr}{xs:List (List Int×Addr)}(S:vQ prog w h a xs (vE w)):yE w a (xs.map λ e=>Value.ref e.2) h:=by
 obtain⟨⟨es,ep,t,ho,X,h1,h2,h3⟩,_⟩:=S
 exact⟨es,ep,t,⟨ho,X.fits,X.tab.wB,h1,h2⟩,by rw[X.es,AU];rfl⟩
section
variable {X:Cx}
abbrev kT (K:Ac) (H:Hp) (ys:List V) (rows:List (List Int)):Prop:=Paired (λ v r=>r≠[]/\∃ b,v=V.ref b/\zL K H b (r.map V.int)) ys rows
theorem aN:∀ {ns:List Int}{us:Ae},Vals (ns.map V.int) us->∀ {prog:Program}{w:World},ItemsAre (intKind prog w) ns us
 | [],_,.nil,_,_=>.nil
 | n::ns,_,.cons r t,prog,w=>by
  obtain⟨tk,rfl⟩:=r
  exact .cons (intKind_is _ _ _ _) (aN t)
structure qL (ys:List V) (rows:List (List Int)) (vs:List V) (rs:List (List Int)):Prop where
 sub:∀ (i:Nat) v r,vs[i]?=some v->rs[i]?=some r->∃ (j:Nat),ys[j]?=some v/\rows[j]?=some r
 len:vs.length=rs.length
 nd:rs.Nodup
 all:∀ r∈rows,r∈rs
def O6 (hc:X.calm=true) (hu:X.A.units+64<cLine):y8 X (.type "set") (λ xs H Q=>∃ p ys,∃ rows:List (List Int),xs=[.ref p]/\zJ X.K H p ys/\kT X.K H ys rows/\rows.length<64/\
  ∀ (l:Addr) (us:Ae) (vs:List V) (rs:List (List Int)),H l=none->Vals vs us->qL ys rows vs rs->Q (.ref l) (upd H l (.ext (yE X.w l us)))):=by
 intro EF s B H xs us Q I r h
 obtain⟨p,ys,rows,rfl,hq,hr,F4,q⟩:=h
 obtain⟨u,rfl,ru⟩:=vals1 r
 cases ru
 obtain⟨its,rv,pl,hz⟩:=I.list hq
 have hl:=rv.length
 have BM:ys.length=rows.length:=Paired.length hr
 have uP:qH X.prog X.w s.heap its.toArray rows:=λ i v hv=>by
  have Gh:its[i]?=some v:=by simpa using hv
  have hi:i<its.length:=(AI.mp Gh).1
  obtain⟨Aq,b,hb,Cu⟩:=L4.Paired.at' hr (i:=i) (by lia) V.zm ([]:List Int)
  have hy:ys[i]?=some (V.ref b):=by
   rw[AL (by lia)]
   have:ys.getD i V.zm=ys[i]'(by lia):=by simp[show i<ys.length by lia]
   rw[this] at hb;rw[hb]
  obtain⟨v',e1,e2⟩:=rv.get hy
  rw[Gh] at e1;cases e1
  cases (show v=Value.ref b from e2)
  obtain⟨Fc,GG,⟨o,e,AM,n,hd⟩,_⟩:=I.tuple Cu
  refine⟨b,rows.getD i [],rfl,?_,o,Fc.toArray,n,e,AM,hd,by simpa using aN GG⟩
  simp[show i<rows.length by lia]
 have hh:X.A.handled=none:=I.ok.hd hc
 refine O9 (A:=X.A) hh hu pl.isList uP (by rw[Ax];lia) λ h' tk xs S U k=>?_
 have kk:∀ b o,s.heap.get? b=some o->h'.get? b=some o:=λ b o e=>k b o (Am e) e
 have BN:H s.heap.objs.size=none:=I.zw.fresh (Ah _)
 have HR:=S.at
 have vals:Vals (xs.map λ e=>V.ref e.2) (xs.map λ e=>Value.ref e.2):=by
  clear S U HR
  induction xs with
  | nil=>exact .nil
  | cons e xs ih=>exact .cons rfl ih
 refine⟨.ref s.heap.objs.size,_,I.laid (t':=tk) (o:=.ext (yE X.w s.heap.objs.size (xs.map λ e=>Value.ref e.2))) kk (Ah _) ?_,rfl,q _ _ (xs.map λ e=>V.ref e.2) (xs.map (·.1)) BN vals ⟨λ i v r hv GV=>?_,by simp,S.nd,λ r GV=>?_⟩⟩
 ·obtain⟨es,ep,t,St,e⟩:=id HR
  exact⟨HR,⟨_,St.get⟩,λ h1 h2 S1 k=>S1.tT k⟩
 ·rw[Az] at hv GV
  obtain⟨e,e1,rfl⟩:=AA.mp hv
  rw[e1] at GV
  cases GV
  obtain⟨j,j1,j2,j3⟩:=U.own e (Bf e1)
  refine⟨j,?_,j3⟩
  have F_:its[j]?=some (Value.ref e.2):=by simpa using j2
  have C_:j<ys.length:=by rw[hl];exact (AI.mp F_).1
  obtain⟨v',e2,e3⟩:=rv.get (AL C_)
  rw[F_] at e2;cases e2
  obtain⟨Aq,b,hb,_⟩:=L4.Paired.at' hr (i:=j) (by lia) V.zm ([]:List Int)
  have:ys.getD j V.zm=ys[j]:=by simp[C_]
  rw[this] at hb
  rw[hb] at e3
  cases (show Value.ref e.2=Value.ref b from e3)
  rw[AL C_,hb]
 ·obtain⟨j,hj⟩:=Dp.mp GV
  exact U.all j r (by have:=(AI.mp hj).1;rw[Ax];lia) hj
theorem Paired.mk {α β:Type}{F:α->β->Prop}:∀ {l:List α}{m:List β},l.length=m.length->(∀ (i:Nat) a b,l[i]?=some a->m[i]?=some b->F a b)->Paired F l m
 | [],[],_,_=>.nil
 | a::l,b::m,h,f=>.cons (f 0 a b rfl rfl) (Paired.mk (by simpa using h) λ i x y hx hy=>f (i+1) x y (by simpa using hx) (by simpa using hy))
 | [],_::_,h,_=>by simp at h
 | _::_,[],h,_=>by simp at h
def O4 (hc:X.calm=true):y8 X (.builtin "sorted") (λ xs H Q=>∃ l us vs,∃ rs:List (List Int),xs=[.ref l]/\H l=some (.ext (yE X.w l us))/\Vals vs us/\kT X.K H vs rs/\rs.length<64/\
  ∀ (p:Addr) (idx:List Nat),H p=none->idx.Perm (List.range vs.length)->(idx.map λ i=>rs.getD i []).Pairwise (λ a b=>HT.lexLt b a=false)->Q (.ref p) (upd H p (.lst (idx.map λ i=>vs.getD i .zm)))):=by
 intro EF s B H xs us0 Q I r h
 obtain⟨l,us,vs,rs,rfl,hl,hv,hr,F4,q⟩:=h
 obtain⟨u,rfl,ru⟩:=vals1 r
 cases ru
 obtain⟨⟨es,ep,t,S,eu⟩,-,-⟩:=(show yO X.prog X.w H s.heap l (.ext (yE X.w l us)) from I.zw l _ hl)
 have hlen:es.size=us.length:=by rw[<- eu];simp
 have hvl:=hv.length
 have hrl:vs.length=rs.length:=Paired.length hr
 have hh:X.A.handled=none:=I.ok.hd hc
 obtain⟨ix,IW,Jt⟩:∃ ix:List Nat,ix.Perm (List.range us.length)/\(comes X.w l es ep).toList.map (·.2)=ix.map λ i=>us.getD i Value.none:=by
  have hp:((comes X.w l es ep).toList.map (·.2)).Perm us:=by rw[<- eu];exact (p_ X.w l es ep).map _
  generalize (comes X.w l es ep).toList.map (·.2)=cs at hp
  clear eu hl hv hvl hlen
  induction hp with
  | nil=>exact⟨[],.refl _,rfl⟩
  | @cons x a b _ ih=>
   obtain⟨ix,i1,i2⟩:=ih
   refine⟨0::ix.map (· + 1),?_,?_⟩
   ·rw[AW,CF]
    exact (i1.map _).cons 0
   ·rw[Ar,AU,i2]
    rfl
  | @swap x y a=>
   refine⟨1::0::(List.range a.length).map (· + 2),?_,?_⟩
   ·rw[AW,AW,CF,CF,Ar,AU]
    exact .swap _ _ _
   ·rw[Ar,Ar,AU]
    refine congrArg _ (congrArg _ ?_)
    refine BP (by simp) λ i h1 h2=>?_
    simp[h1]
  | @trans a b c _ _ Jw Jv=>
   obtain⟨i1,p1,e1⟩:=Jw
   obtain⟨i2,p2,e2⟩:=Jv
   have hlb:b.length=c.length:=by rw[e2,Ay,p2.length_eq];simp
   refine⟨i1.map λ i=>i2.getD i 0,?_,?_⟩
   ·refine (p1.map _).trans ?_
    have e:(List.range b.length).map (λ i=>i2.getD i 0)=i2:=by
     have G2:i2.length=b.length:=by rw[p2.length_eq,hlb];simp
     rw[<- G2]
     refine BP (by simp) λ i h1 h2=>?_
     simp[h2]
    rw[e];exact p2
   ·rw[e1,AU]
    refine CD λ i hi=>?_
    have Gk:i<b.length:=by simpa using p1.mem_iff.mp hi
    have G2:i<i2.length:=by rw[p2.length_eq,<- hlb];simpa using Gk
    show b.getD i _=c.getD (i2.getD i 0) _
    rw[e2]
    simp[G2]
 have BG:∀ i∈ix,i<us.length:=λ i hi=>by simpa using IW.mem_iff.mp hi
 have Fw:∀ h6:Heap,(∀ b o,s.heap.get? b=some o->h6.get? b=some o)->L4.sS h6 ((comes X.w l es ep).toList.map (·.2)) (ix.map λ i=>rs.getD i []):=λ h6 k=>by
  rw[Jt]
  refine Paired.mk (by simp) λ j a b ha hb=>?_
  rw[Az] at ha hb
  obtain⟨i,hi,rfl⟩:=AA.mp ha
  rw[hi] at hb
  cases hb
  have CM:=BG i (Bf hi)
  obtain⟨Aq,b,hbv,Cu⟩:=L4.Paired.at' hr (i:=i) (by lia) V.zm ([]:List Int)
  obtain⟨u',e1,e2⟩:=hv.get (i:=i) (x:=vs.getD i V.zm) (by simp[show i<vs.length by lia])
  rw[hbv] at e2
  cases (show u'=Value.ref b from e2)
  obtain⟨Fc,GG,⟨o,e,AM,n,hd⟩,_⟩:=I.tuple Cu
  have eg:us.getD i Value.none=Value.ref b:=by simp[e1]
  refine⟨Aq,b,o,Fc.toArray,n,eg,k _ _ e,AM,hd,by simpa using intsAre_of GG⟩
 have AM:((comes X.w l es ep).toList.map (·.2)).length=us.length:=by rw[Jt,Ay,IW.length_eq];simp
 refine dQ (Out:=L4.mM ((comes X.w l es ep).toList.map (·.2)) (ix.map λ i=>rs.getD i [])) hh S (by rw[hlen];have:sizeLine=16777216:=rfl;lia) (λ s6 h2 k=>L4.fy (Fw _ k) (by rw[AM,<- hlen];exact h2) (by rw[AM];lia)) (λ h1=>?_) λ out h' tk p ho hs hp k EE=>?_
 ·refine⟨List.range ((comes X.w l es ep).toList.map (·.2)).length,.refl _,?_,?_⟩
  ·refine BP (by simp) λ i h1 h2=>?_
   simp at h2
   simp[h2]
  ·rw[Cd,Cc]
   intro i j hi hj A3
   rw[AM] at hi hj
   simp at hi hj
   lia
 ·obtain⟨idx,g1,g2,g3⟩:=ho
  obtain⟨e,he⟩:=EE
  rw[AM] at g1
  have BN:H p=none:=I.zw.fresh hp
  have De:∀ i∈idx,i<us.length:=λ i hi=>by simpa using g1.mem_iff.mp hi
  have hxl:ix.length=us.length:=by rw[IW.length_eq];simp
  let jx:=idx.map λ i=>ix.getD i 0
  have hjp:jx.Perm (List.range vs.length):=by
   rw[hvl]
   refine (g1.map _).trans ?_
   have e:(List.range us.length).map (λ i=>ix.getD i 0)=ix:=by
    rw[<- hxl]
    refine BP (by simp) λ i h1 h2=>?_
    simp[h2]
   rw[e];exact IW
  have hjr:(jx.map λ i=>rs.getD i [])=idx.map λ i=>(ix.map λ i=>rs.getD i []).getD i []:=by
   rw[AU]
   refine CD λ i hi=>?_
   have:=De i hi
   simp[show i<ix.length by lia]
  refine⟨.ref p,_,I.laid (t':=tk) (o:=.lst (jx.map λ i=>vs.getD i .zm)) k hp ?_,rfl,q p jx BN hjp (by rw[hjr];exact g3)⟩
  refine⟨by rw[Ay,hjp.length_eq,BV];have:sizeLine=16777216:=rfl;lia,out.toList,e,?_,by simpa using he⟩
  rw[g2,Jt]
  refine Paired.mk (by simp[jx]) λ j a b ha hb=>?_
  rw[Az] at ha hb
  obtain⟨i,hi,rfl⟩:=AA.mp hb
  simp only[jx,Az,hi,Option.map_some,Option.some.injEq] at ha
  have CM:=De i (Bf hi)
  have hx:ix.getD i 0<us.length:=by
   have:ix.getD i 0∈ix:=by simp[show i<ix.length by lia]
   exact BG _ this
  obtain⟨u',e1,e2⟩:=hv.get (i:=ix.getD i 0) (x:=vs.getD (ix.getD i 0) V.zm) (by
   have GH:ix.getD i 0<vs.length:=by lia
   generalize ix.getD i 0=q at GH
   rw[AZ,AL GH];rfl)
  subst ha
  have e3:(ix.map λ i=>us.getD i Value.none).getD i Value.none=u':=by
   simp[show i<ix.length by lia] at e1 ⊢
   simp[e1]
  rw[e3];exact e2
end
end ST
namespace L5
open PySem PySem.Spec L2 L3
open PyProof.Rows hiding St
noncomputable def wG:List (List Int)->List (List Int)
 | []=>[]
 | r::rs=>if r∈wG rs then wG rs else r::wG rs
theorem nG {r:List Int}:∀ {rs:List (List Int)},r∈wG rs↔r∈rs
 | []=>.rfl
 | x::rs=>by
  unfold wG
  split
  ·rename_i h
   rw[nG,Ai]
   exact⟨.inr,λ h'=>h'.elim (λ e=>e▸nG.mp h) id⟩
  ·rw[Ai,Ai,nG]
theorem hV:∀ rs:List (List Int),(wG rs).Nodup
 | []=>.nil
 | x::rs=>by
  unfold wG
  split
  ·exact hV rs
  ·rename_i h
   exact Bc.mpr ⟨h,hV rs⟩
theorem hX:∀ rs:List (List Int),(wG rs).length<=rs.length
 | []=>Ah _
 | x::rs=>by
  unfold wG
  have:=hX rs
  split <;> simp only[AW] <;> lia
def uE:xn:=λ ds S Q=>match ds with
 | [.tup _]=>False
 | [d]=>∃ rows:List (List Int),zM d S=some (rows.map xS)/\rows.length<64/\(∀ r∈rows,r≠[])/\∀ l,S l=none->Q (.ref l) (ups S l (.lst ((L4.xw (wG rows)).map xS)))
 | _=>False
noncomputable def lF:List T->Option T
 | [.lst ts]=>(vX ts).bind λ rs=>if rs.length<64/\∀ r∈rs,r≠[] then some (.lst ((L4.xw (wG rs)).map zR)) else none
 | _=>none
def QP:vx zF lF uE:=λ S Z ys z ds Q hz hv e hq=>by
 unfold lF at e
 split at e
 ·obtain⟨d,rfl,h1⟩:=vz hv
  obtain⟨rs,e1,e2⟩:=Aj.mp e
  split at e2
  ·rename_i hc
   cases e2
   cases i4 e1
   obtain⟨es,h2,h3⟩:=h1.seq rfl
   cases qY.mp h3
   have key:∃ rows:List (List Int),zM d S=some (rows.map xS)/\rows.length<64/\(∀ r∈rows,r≠[])/\∀ l,S l=none->Q (.ref l) (ups S l (.lst ((L4.xw (wG rows)).map xS))):=
    ⟨rs,h2,hc.1,hc.2,λ l hl=>hq _ _ (.new hl _) (tZ hz hl (qY.mpr rfl))⟩
   obtain⟨_,q | ⟨a,q,_⟩,_⟩:=h1.lst
   ·subst q;exact key
   ·subst q;exact key
  ·cases e2
 ·cases e
section
variable {K:Ac}{e:Expr}{p:Pos}
def uE.mo:vw uE:=λ ds S Q Q' hq h=>by
 unfold uE at h ⊢
 split at h
 ·exact h.elim
 ·obtain⟨rows,h1,h2,h3,h4⟩:=h
  exact⟨rows,h1,h2,h3,λ l hl=>hq _ _ (h4 l hl)⟩
 ·exact h.elim
def zj.pick {H:Hp}{ys vs:List V}{rows rs:List (List Int)}(h:zj K H (rows.map xS) ys) (P:ST.qL ys rows vs rs):zj K H (rs.map xS) vs:=by
 have key:∀ (vs:List V) (rs:List (List Int)),vs.length=rs.length->(∀ (i:Nat) v r,vs[i]?=some v->rs[i]?=some r->∃ (j:Nat),ys[j]?=some v/\rows[j]?=some r)->zj K H (rs.map xS) vs:=by
  intro vs
  induction vs with
  | nil=>intro rs hl _;cases rs with
   | nil=>exact .nil
   | cons _ _=>simp at hl
  | cons v vs ih=>intro rs hl hp;cases rs with
   | nil=>simp at hl
   | cons r rs=>
    refine .cons ?_ (ih rs (by simpa using hl) λ i v r hv hr=>hp (i+1) v r (by simpa using hv) (by simpa using hr))
    obtain⟨j,j1,j2⟩:=hp 0 v r rfl rfl
    obtain⟨x,e1,e2⟩:=h.get (i:=j) (d:=xS r) (by rw[Az,j2];rfl)
    rw[j1] at e1;cases e1
    exact e2
 exact key vs rs P.len P.sub
def qL.mem {ys vs:List V}{rows rs:List (List Int)}(P:ST.qL ys rows vs rs) {r:List Int}:r∈rs↔r∈rows:=by
 refine⟨λ h=>?_,P.all r⟩
 obtain⟨i,hi⟩:=Dp.mp h
 have hl:i<vs.length:=by rw[P.len];exact (AI.mp hi).1
 obtain⟨j,_,j2⟩:=P.sub i _ r (AL hl) hi
 exact Bf j2
def uE.fits {w:World}:uv K uE (λ xs H Q=>∃ p ys,∃ rows:List (List Int),xs=[.ref p]/\zJ K H p ys/\ST.kT K H ys rows/\rows.length<64/\
  ∀ (l:Addr) (us:Ae) (vs:List V) (rs:List (List Int)),H l=none->Vals vs us->ST.qL ys rows vs rs->
   ∃ l' Ha IL,∃ Jk:List (List Int),[V.ref l]=[.ref l']/\(upd H l (.ext (ST.yE w l us))) l'=some (.ext (ST.yE w l' Ha))/\Vals IL Ha/\ST.kT K (upd H l (.ext (ST.yE w l us))) IL Jk/\Jk.length<64/\
    ∀ (p:Addr) (idx:List Nat),(upd H l (.ext (ST.yE w l us))) p=none->idx.Perm (List.range IL.length)->(idx.map λ i=>Jk.getD i []).Pairwise (λ a b=>HT.lexLt b a=false)->Q (.ref p) (upd (upd H l (.ext (ST.yE w l us))) p (.lst (idx.map λ i=>IL.getD i .zm)))):=λ xs ds H S Q h0 h2 h=>by
 unfold uE at h
 split at h
 ·exact h.elim
 ·rename_i d hn
  obtain⟨x,hx,h1⟩:=h0.one;subst hx
  obtain⟨rows,e,F4,Aq,h⟩:=h
  obtain⟨a,ys,rfl,g1,g2⟩:=rn h1 h2 e (λ ts z=>hn ts z)
  refine⟨a,ys,rows,rfl,g1,oU g2 Aq,F4,λ l us vs rs hf hv P=>?_⟩
  have g3:=zj.pick g2 P
  have x1:Ext H (upd H l (.ext (ST.yE w l us))):=.new hf _
  have C5:rs.Perm (wG rows):=(DS P.nd (hV rows)).mpr λ r=>by rw[qL.mem P,nG]
  refine⟨l,us,vs,rs,rfl,y6,hv,oU (zj.ext x1 _ g3) λ r hr=>Aq r ((qL.mem P).mp hr),by rw[C5.length_eq];have:=hX rows;lia,λ p idx hp hi hs=>?_⟩
  rw[P.len] at hi
  have heq:=L4.dR ((ah hi).trans C5) hs
  have An:p≠l:=λ z=>by subst z;rw[y6] at hp;cases hp
  have JF:H p=none:=by rw[yj An] at hp;exact hp
  have x2:Ext (upd H l (.ext (ST.yE w l us))) (upd (upd H l (.ext (ST.yE w l us))) p (.lst (idx.map λ i=>vs.getD i .zm))):=.new hp _
  have r1:zH K (upd H l (.ext (ST.yE w l us))) S:=h2.new hf
  refine h p (h2.none JF) _ _ (by simp only[zg]) (x1.trans x2) (r1.ups x2 ⟨_,y6,?_⟩)
  rw[<- heq]
  exact zj.ext (x1.trans x2) _ (zj.perm g3 λ i h=>by simpa using hi.mem_iff.mp h)
 ·exact h.elim
end
end L5
namespace ST
open PySem PySem.SetTable PyProof.Rows
theorem Zp {t:SetTable}{hs:List Int}(T:Tab t hs) (h:Int):∀ (f k K:Nat),k<=K->K<k+f->(way t.mask h K).j∉t.place.toList->(∀ m<K,(way t.mask h m).j∈t.place.toList)->probe.go t (λ _=>h+1) h f (way t.mask h k)=some (.empty (way t.mask h K).j none)
 | 0,k,K,h1,h2,_,_=>by lia
 | f+1,k,K,h1,h2,h3,h4=>by
  by_cases e:k=K
  ·subst e
   unfold probe.go
   rw[T.empty h3,j0]
  ·obtain⟨i,g,p1,_⟩:=T.at (h4 k (by lia))
   have ih:=Zp T h f (k+1) K (by lia) (by lia) h3 h4
   conv=>lhs;unfold probe.go
   rw[T.live p1]
   dsimp only
   rw[if_neg (by intro q;have:=eq_of_beq q;lia),fR]
   exact ih
def Pg {t:SetTable}{hs:List Int}(T:Tab t hs) (hl:hs.length<=t.mask) (h:Int):∃ j,t.freeSlot h=some (j,false)/\fZ t h j:=by
 obtain⟨K,k1,k2,k3⟩:=T.first hl h
 refine⟨(way t.mask h K).j,?_,⟨k2,K,rfl,k3⟩⟩
 have g:=Zp T h (10*turns t.mask) 0 K (AN _) (by unfold turns;lia) k2 k3
 unfold SetTable.freeSlot
 have e:t.probe (λ _=>h+1) h (t.probeStart h)=some (.empty (way t.mask h K).j none):=g
 rw[e]
 rfl
structure vR (prog:Program) (w:World) (h:Heap) (a:Addr) (xs:List (Int×Tok)) (led:Bool):Prop where
 ex:∃ es ep t,h.get? a=some { cls:=.type "set",dict:=none,data:=.set es ep t }/\es.toList=xs.map (λ e=>((intKind prog w).hash e.1,Value.int e.1 e.2))/\Tab t (xs.map λ e=>(intKind prog w).hash e.1)/\t.led=led/\t.plain=true/\xs.length*5<t.mask*3
 nd:(xs.map (·.1)).Nodup
section
variable {prog:Program}{w:World}{A:Around}{E:Ad}{s:Shared}
def fits_of {es:Array (Int×Value)}{t:SetTable}{hs:List Int}{n:Nat}(h1:es.size=n) (T:Tab t hs) (h2:hs.length=n) (h3:n<=t.mask):t.fits es.size=true:=by
 have l:=T.len
 unfold SetTable.fits SetTable.fill
 rw[T.rQ,h1,l,h2]
 simp
 lia
def nM {n m:Int}{t:Tok}:(intKind prog w).is n (.int m t)=true↔n=m:=by
 constructor
 ·intro h
  obtain⟨t',e⟩:=Value.isInt_shape (show Value.isInt n (.int m t)=true from h)
  cases e;rfl
 ·rintro rfl;exact intKind_is _ _ _ _
def PK {es:Array (Int×Value)}{xs:List (Int×Tok)}(h:es.toList=xs.map (λ e=>((intKind prog w).hash e.1,Value.int e.1 e.2))):ElemsOf (intKind prog w) es.toList:=λ e he=>by
 rw[h] at he
 obtain⟨x,_,rfl⟩:=Av.mp he
 exact⟨⟨x.1,nM.mpr rfl,rfl⟩,rfl⟩
def Vn {es:Array (Int×Value)}{t:SetTable}{xs:List (Int×Tok)}{M wanted:Nat}(he:es.toList=xs.map (λ e=>((intKind prog w).hash e.1,Value.int e.1 e.2))) (hM:vv M) (hw:sizeAbove wanted=M+1) (AJ:xs.length*5<M*3):
  ∃ FC t',∃ E9:List (Int×Tok),relayAll t es wanted=(FC,t',false)/\FC.toList=E9.map (λ e=>((intKind prog w).hash e.1,Value.int e.1 e.2))/\E9.Perm xs/\Tab t' (E9.map λ e=>(intKind prog w).hash e.1)/\t'.mask=M/\t'.led=t.led/\t'.plain=t.plain/\FC.size=es.size:=by
 have hlen:es.size=xs.length:=by have:=congrArg List.length he;simpa using this
 have Ew:(es.map (·.1)).toList=xs.map λ e=>(intKind prog w).hash e.1:=by rw[Array.toList_map,he,AU];rfl
 have hsz:(es.map (·.1)).size=xs.length:=by rw[CU,hlen]
 obtain⟨t',order,h1,h2,h3,h4,h5,h6,h7⟩:=aF hM t.finger (t.movedTo M) t.led t.plain (es.map (·.1)) (by rw[hsz];lia)
 rw[hsz] at h6
 have Ak:∀ k∈order.toList,k<xs.length:=λ k hk=>by simpa using h6.mem_iff.mp hk
 have hr:t.relaid (es.map (·.1)) wanted=some (t',order):=by
  unfold SetTable.relaid
  rw[hw,Nat.add_sub_cancel];exact h1
 have BH:(order.filterMap (es[·]?)).toList=(order.toList.filterMap λ k=>xs[k]?).map λ e=>((intKind prog w).hash e.1,Value.int e.1 e.2):=by
  rw[Array.toList_filterMap,List.map_filterMap]
  congr 1
  funext k
  rw[<- Bx,he,Az]
 have EZ:(order.toList.filterMap λ k=>xs[k]?).Perm xs:=(h6.filterMap _).trans (by rw[List.filterMap_getElem?_range_length])
 have BF:(order.filterMap (es[·]?)).size=es.size:=by
  rw[<- Bl,BH,Ay,EZ.length_eq,hlen]
 have hT:Tab t' ((order.toList.filterMap λ k=>xs[k]?).map λ e=>(intKind prog w).hash e.1):=by
  rw[<- iH xs (λ e=>(intKind prog w).hash e.1) 0 order.toList Ak,<- Ew]
  exact h7
 refine⟨_,t',_,?_,BH,EZ,hT,h2,h4,h5,BF⟩
 have zV:coversAll order es.size=true:=by
  unfold coversAll
  rw[List.isPerm_iff,hlen]
  exact h6
 have fit:t'.fits (order.filterMap (es[·]?)).size=true:=fits_of (n:=xs.length) (by rw[BF,hlen]) hT (by rw[Ay,EZ.length_eq]) (by rw[h2];lia)
 unfold relayAll
 rw[hr]
 dsimp only
 rw[zV,fit]
 rfl
def add_int {a:Addr}{xs:List (Int×Tok)}{n:Int}{tk:Tok}{led:Bool}{Q:Bool->Shared->Prop}(S:vR prog w s.heap a xs led) (hn:xs.length<70)
  (h:∀ h' E9 r,Heap.SameBut a s.heap h'->vR prog w h' a E9 led->(n∈xs.map (·.1)/\E9=xs\/n∉xs.map (·.1)/\E9.Perm (xs++[(n,tk)]))->Q r { s with heap:=h' }):
  wpAny (model prog w) A (setAddHashed a (.int n tk) ((intKind prog w).hash n)) Q E s:=by
 have S0:=S
 obtain⟨⟨es,ep,t,ho,he,T,Br,An,AJ⟩,CL⟩:=S
 have hlen:es.size=xs.length:=by have:=congrArg List.length he;simpa using this
 have hm7:7<=t.mask/\t.mask<=127:=by rcases T.mask with e | e | e <;> lia
 have fit:t.fits es.size=true:=fits_of (n:=xs.length) hlen T (by simp) (by lia)
 have hel:=PK (prog:=prog) (w:=w) he
 unfold setAddHashed setAddHashedIn
 refine J_ (Jg (Kg ho rfl fit ?_))
 dsimp only
 have bs:byScan (.int n tk) es=true:=by
  have h1:decide (es.size<scanBound)=true:=Ki (by unfold scanBound;lia)
  have h2:es.all (·.2.scannable)=true:=by
   rw[Array.all_eq_true_iff_forall_mem]
   intro e hm
   exact (hel e (by simpa using hm)).2
  unfold byScan
  rw[h1,h2]
  rfl
 rw[if_pos bs]
 refine Jg ?_
 unfold setAddByScan
 refine Jg (Kk (Jg (wpAny_setScan_of (k:=n) (nM.mpr rfl) ho rfl fit hel ?_)))
 have Hj:(es.toList.findIdx? (λ e=>(intKind prog w).is n e.2)).isSome=true↔n∈xs.map (·.1):=by
  rw[he,List.findIdx?_isSome,A_]
  constructor
  ·rintro⟨e,hm,q⟩
   obtain⟨x,hx,rfl⟩:=Av.mp hm
   exact Av.mpr ⟨x,hx,(nM.mp q).symm⟩
  ·intro hm
   obtain⟨x,hx,rfl⟩:=Av.mp hm
   exact⟨_,Av.mpr ⟨x,hx,rfl⟩,nM.mpr rfl⟩
 cases hc:es.toList.findIdx? (λ e=>(intKind prog w).is n e.2) with
 | some j=>
  dsimp only
  have hm:=Hj.mp (by rw[hc];rfl)
  refine Ab ?_
  dsimp only
  exact Ab (h s.heap xs false ⟨rfl,λ _ _=>rfl⟩ S0 (.inl ⟨hm,rfl⟩))
 | none=>
  dsimp only
  have hm:n∉xs.map (·.1):=λ q=>by have:=Hj.mpr q;rw[hc] at this;cases this
  obtain⟨j,fs,F⟩:=Pg T (by rw[Ay];lia) ((intKind prog w).hash n)
  obtain⟨p1,p2,p3⟩:=T.put F
  rw[Ay] at p1
  have Cw:(t.put j).1.plain=true:=by rw[p2];exact An
  have B9:(t.put j).1.mask=t.mask:=by rw[p2]
  have Ak:(t.put j).1.led=led:=by rw[p2];exact Br
  generalize hT:(t.put j)=P at *
  obtain⟨t1,p⟩:=P
  dsimp only at *
  let FG:=xs.take p++(n,tk)::xs.drop p
  have EZ:FG.Perm (xs++[(n,tk)]):=by
   have e:xs.take p++xs.drop p=xs:=DT p xs
   have:FG.Perm ((n,tk)::(xs.take p++xs.drop p)):=List.perm_middle
   rw[e] at this
   exact this.trans (List.perm_append_singleton _ _).symm
  have Gf:FG.length=xs.length+1:=by rw[EZ.length_eq];simp
  have GF:(insertAt es p ((intKind prog w).hash n,Value.int n tk)).toList=FG.map λ e=>((intKind prog w).hash e.1,Value.int e.1 e.2):=by
   rw[toList_insertAt,he]
   simp[FG,Dn,Dm]
  have GS:(insertAt es p ((intKind prog w).hash n,Value.int n tk)).size=xs.length+1:=by rw[<- Bl,GF,Ay,Gf]
  have T1:Tab t1 (FG.map λ e=>(intKind prog w).hash e.1):=by
   have:FG.map (λ e=>(intKind prog w).hash e.1)=(xs.map λ e=>(intKind prog w).hash e.1).take p++(intKind prog w).hash n::(xs.map λ e=>(intKind prog w).hash e.1).drop p:=by simp[FG,Dn,Dm]
   rw[this];exact p3
  have JY:t1.fits (insertAt es p ((intKind prog w).hash n,Value.int n tk)).size=true:=fits_of (n:=xs.length+1) GS T1 (by rw[Ay,Gf]) (by rw[B9];lia)
  have C9:layNew t es ((intKind prog w).hash n) (.int n tk)=(insertAt es p ((intKind prog w).hash n,Value.int n tk),t1,false,false):=by
   unfold layNew
   rw[fs]
   dsimp only
   rw[hT]
   dsimp only
   unfold SetTable.orStandIn
   rw[JY]
   rfl
  have Bp:(insertAt es p ((intKind prog w).hash n,Value.int n tk)).size<=sizeLine:=by
   rw[GS]
   have:sizeLine=16777216:=rfl
   lia
  have GW:(FG.map (·.1)).Nodup:=by
   refine (EZ.map _).nodup_iff.mpr ?_
   rw[BR,List.nodup_append]
   refine⟨CL,by simp,λ x hx y hy=>?_⟩
   simp at hy
   subst hy
   exact λ e=>hm (e▸hx)
  have HP:=lU (FC:=insertAt es p ((intKind prog w).hash n,Value.int n tk)) (t':=t1) ho
  have sb:=Heap.SameBut.update s.heap a (Obj.putSet (insertAt es p ((intKind prog w).hash n,Value.int n tk)) t1)
  have F0:t1.fill=xs.length+1:=by
   have l:=T1.len
   rw[Ay,Gf] at l
   unfold SetTable.fill
   rw[T1.rQ,l]
   simp
  rw[C9]
  dsimp only
  refine Jg (m:=pure ()) (Ab ?_)
  rw[Cw]
  simp only[if_true]
  refine Jg (m:=pure true) (Ab ?_)
  simp only[if_true]
  refine Jg (wpAny_storeSet_of ho rfl ?_ Bp)
  by_cases hf:t1.tooFull=true
  ·rw[hf]
   simp only[CI,Du,if_true]
   have FO:t.mask*3<=(xs.length+1)*5:=by
    have:=hf
    unfold SetTable.tooFull at this
    rw[F0,B9] at this
    simpa using this
   obtain⟨M',g1,g2,g3⟩:=cm xs.length t.mask T.mask AJ FO hn
   obtain⟨es2,t2,G_,r1,r2,r3,r4,r5,r6,r7,r8⟩:=Vn (prog:=prog) (w:=w) (t:=t1) GF g1 (wanted:=grown (insertAt es p ((intKind prog w).hash n,Value.int n tk)).size) (by rw[GS];exact g2) (by rw[Gf];exact g3)
   rw[r1]
   dsimp only
   refine Jg (m:=pure ()) (Ab (Jg (wpAny_storeSet_of HP rfl ?_ (by rw[r8];exact Bp))))
   refine Ab ?_
   dsimp only
   refine Ab (h _ G_ true (sb.trans (Heap.SameBut.update _ a _)) ⟨⟨es2,ep+1+1,t2,lU HP,r2,r4,by rw[r6];exact Ak,by rw[r7];exact Cw,by rw[r3.length_eq,Gf,r5];exact g3⟩,(r3.map _).nodup_iff.mpr GW⟩ (.inr ⟨hm,r3.trans EZ⟩))
  ·have GD:t1.tooFull=false:=by simpa using hf
   rw[GD]
   simp only[CI,CG,A5,if_false]
   have FO:(xs.length+1)*5<t.mask*3:=by
    have:=GD
    unfold SetTable.tooFull at this
    rw[F0,B9] at this
    simpa using this
   refine Ab ?_
   dsimp only
   exact Ab (h _ FG true sb ⟨⟨_,ep+1,t1,HP,GF,T1,Ak,Cw,by rw[Gf,B9];exact FO⟩,GW⟩ (.inr ⟨hm,EZ⟩))
end
structure sP (its:Ap) (ns:List Int) (i:Nat) (xs:List (Int×Tok)):Prop where
 own:∀ e∈xs,∃ j,j<i/\ns[j]?=some e.1
 all:∀ (j:Nat) r,j<i->ns[j]?=some r->r∈xs.map (·.1)
theorem h_:∀ (l m:List Int),l.Nodup->(∀ x∈l,x∈m)->l.length<=m.length
 | [],m,_,_=>AN _
 | x::l,m,hn,hs=>by
  have h1:=Bc.mp hn
  have hx:=hs x Ao
  have:=h_ l (m.erase x) h1.2 λ z hz=>(DY (λ e:z=x=>h1.1 (by rw[<- e];exact hz))).mpr (hs z (Aw _ hz))
  rw[DX hx] at this
  have:=DW hx
  simp only[AW];lia
def sP.len {its:Ap}{ns:List Int}{i:Nat}{xs:List (Int×Tok)}(U:sP its ns i xs) (nd:(xs.map (·.1)).Nodup):xs.length<=i:=by
 have:=h_ (xs.map (·.1)) ((List.range i).map λ j=>ns.getD j 0) nd λ x hx=>by
  obtain⟨e,he,rfl⟩:=Av.mp hx
  obtain⟨j,h1,h3⟩:=U.own e he
  exact Av.mpr ⟨j,AK.mpr h1,by rw[AZ,h3];rfl⟩
 simpa using this
def sP.step {its:Ap}{ns:List Int}{i:Nat}{xs E9:List (Int×Tok)}{n:Int}{t:Tok}(U:sP its ns i xs) (hr:ns[i]?=some n)
  (h:n∈xs.map (·.1)/\E9=xs\/n∉xs.map (·.1)/\E9.Perm (xs++[(n,t)])):sP its ns (i+1) E9:=by
 have eqi:∀ j:Nat,j<i+1->¬ j<i->j=i:=λ j a b=>by lia
 rcases h with ⟨hm,rfl⟩ | ⟨_,hp⟩
 ·refine⟨λ e he=>?_,λ j r hj Bg=>?_⟩
  ·obtain⟨j,h1,h2⟩:=U.own e he
   exact⟨j,Bb h1,h2⟩
  ·by_cases q:j<i
   ·exact U.all j r q Bg
   ·rw[eqi j hj q,hr] at Bg;cases Bg;exact hm
 ·refine⟨λ e he=>?_,λ j r hj Bg=>?_⟩
  ·rcases AY.mp (hp.mem_iff.mp he) with q | q
   ·obtain⟨j,h1,h2⟩:=U.own e q
    exact⟨j,Bb h1,h2⟩
   ·cases AQ.mp q
    exact⟨i,Cf i,hr⟩
  ·rw[(hp.map (·.1)).mem_iff,BR]
   by_cases q:j<i
   ·exact Cr _ (U.all j r q Bg)
   ·rw[eqi j hj q,hr] at Bg;cases Bg
    exact AX _ Ao
def Nums (its:Ap) (ns:List Int):Prop:=∀ (i:Nat) v,its[i]?=some v->∃ n t,v=.int n t/\ns[i]?=some n
section
variable {prog:Program}{w:World}{A:Around}{R:Result->Shared->Prop}{I:Addr}{fp wr:List Addr}{G:Array GenState->Array GenState->Prop}{n:Nat}{P:Nat->Value->Prop}{St:Nat->Shared->Prop}
def vR.keep {h h':Heap}{a:Addr}{xs:List (Int×Tok)}{led:Bool}(S:vR prog w h a xs led) (k:∀ o,h.get? a=some o->h'.get? a=some o):vR prog w h' a xs led:=
 let ⟨⟨es,ep,t,ho,r⟩,nd⟩:=S;⟨⟨es,ep,t,k _ ho,r⟩,nd⟩
def RQ (W:WalksS prog w A.in1 I fp wr G n (λ i v=>P i v) St) (Sa:Addr) (Hn:Sa∉fp) {its:Ap}{ns:List Int}(hP:∀ i v,P i v->its[i]?=some v) (hn:n<70) (led:Bool) (hN:Nums its ns):
  ∀ (k i:Nat) (s:Shared) (xs:List (Int×Tok)),n-i=k->i<=n->St i s->vR prog w s.heap Sa xs led->sP its ns i xs->
   (∀ s' E9,Moved (Sa::wr) G s s'->vR prog w s'.heap Sa E9 led->sP its ns n E9->R (.ok (.ret .none)) s')->
   codeAny (model prog w) A (.builtin "set.update.loop" ⟨[.ref Sa,.ref I],[]⟩) R s:=by
 have Hm:Sa∉wr:=λ z=>Hn (W.sub _ z)
 have more:∀ b∈wr,b∈Sa::wr:=λ b hb=>Aw _ hb
 intro k
 induction k with
 | zero=>
  intro i s xs hk hi AV hS hU hR
  have e:i=n:=by lia
  subst e
  refine codeAny_builtin F.entry_set_update_loop ?_
  rw[Around.under_plainId F.plain_set_update_loop _]
  show wpAny _ A.in1 (pyNext (.ref I) >>= _) _ _ s
  exact Jg (W.done s _ _ AV λ s' hm=>Ab (hR s' xs (hm.mono more) (hS.keep λ o e=>hm.heap _ o Hm e) hU))
 | succ k ih=>
  intro i s xs hk hi AV hS hU hR
  have Ak:i<n:=by lia
  refine codeAny_builtin F.entry_set_update_loop ?_
  rw[Around.under_plainId F.plain_set_update_loop _]
  show wpAny _ A.in1 (pyNext (.ref I) >>= _) _ _ s
  refine Jg (W.item i s _ _ Ak AV λ v s1 JL HA hm=>?_)
  obtain⟨m,t,rfl,hr⟩:=hN i v (hP i v JL)
  have S1:vR prog w s1.heap Sa xs led:=hS.keep λ o e=>hm.heap _ o Hm e
  have hl:xs.length<70:=by have:=hU.len hS.nd;lia
  show wpAny _ A.in1 (holding [Value.int m t] (setAdd Sa (.int m t)) >>= _) _ _ s1
  refine Jg (J_ ?_)
  unfold setAdd
  refine J_ (Jg ((intKind prog w).pyHash (A:=A.in1) (k:=m) (nM.mpr rfl) ?_))
  refine add_int (s:={ s1 with toks:=s1.toks+1 }) (A:=A.in1) S1 hl λ h' E9 rr sb S' hx=>?_
  have fr:=W.frame (i+1) s1 h' (s1.toks+1) HA (Ca _ _) λ c hc o e=>(sb.2 c (λ z:c=Sa=>Hn (z▸hc))).trans e
  refine Ab ⟨plainId_quiet F.plain_set_update_loop _,ih (i+1) _ E9 (by lia) Ak fr S' (hU.step hr hx) λ s2 G_ G7 S2 U2=>?_⟩
  refine hR s2 G_ (Moved.trans W.gtrans ((hm.mono more).then_heap (Ca _ _) λ c o hc e=>?_) G7) S2 U2
  exact (sb.2 c (λ z=>hc (z▸Ao))).trans e
end
section
variable {prog:Program}{w:World}{A:Around}{E:Ad}{s:Shared}
def WD {h:Heap}{a:Addr}(ho:h.get? a=some (yL w)):vR prog w h a [] (vE w):=
 ⟨⟨#[],0,_,ho,rfl,⟨.inl rfl,rfl,rfl,.nil,λ j hj=>(by cases hj),λ i g j hg=>(by cases hg)⟩,rfl,rfl,by show 0*5<7*3;lia⟩,.nil⟩
set_option maxHeartbeats 6400000 in
def O8 {l:Addr}{its:Ap}{ns:List Int}{Q:Ad}(hh:A.handled=none) (hl:s.heap.IsList l its) (hT:Nums its ns) (hn:its.size<70)
  (h:∀ (h':Heap) (tk:Nat) xs,vR prog w h' s.heap.objs.size xs (vE w)->sP its ns its.size xs->(∀ b o,b<s.heap.objs.size->s.heap.get? b=some o->h'.get? b=some o)->Q (.ref s.heap.objs.size) { s with heap:=h',toks:=tk }):
  wpAny (model prog w) A (call (.type "set") [.ref l]) Q E s:=by
 obtain⟨c,tl,Em⟩:=F.called_set.mro
 have made:=F.called_set.made
 have Jh:=F.called_set.sub
 refine wpAny_call (codeAny_of_tree ?_)
 show wpAny _ _ (callAny (.type "set") _) _ _ _
 refine Ab ⟨Code.quiet_builtin _ (AB),codeAny_builtin F.entry_type_call ?_⟩
 rw[Around.under_plain (weight_type_call_type "set" [.ref l] []) rfl]
 have nt:=F.called_set.notType
 have cc:=F.called_set.canCreate
 have tc:=F.typeCall_set_1 (.ref l)
 repeat (any_goals (first | assumption | wp_step))
 refine codeAny_mono (Yc (.ref l) (E:=E) (Q:=λ obj s₁=>obj=.ref s.heap.objs.size/\s₁={ s with heap:=s.heap.push (yL w) }) ⟨rfl,rfl⟩) λ r s₁ hr=>?_
 cases r with
 | error e=>exact hr
 | ok fl=>
  cases fl with
  | ret obj=>
   obtain⟨rfl,rfl⟩:=hr
   have hS:(s.heap.push (yL w)).get? s.heap.objs.size=some (yL w):=AD _ rfl
   have JJ:Shared.TypeIs { s with heap:=s.heap.push (yL w) } (.ref s.heap.objs.size) "set":=⟨_,hS,rfl⟩
   have li:=F.called_set.init.lookup
   have bi:=F.called_set.init.bind (.ref s.heap.objs.size)
   repeat (any_goals (first | assumption | wp_step))
   let s1:Shared:={ s with heap:=s.heap.push (yL w) }
   refine codeAny_mono (codeAny_call_builtin (R:=wants (λ r s₂=>r=.none/\∃ h' tk xs,s₂={ s with heap:=h',toks:=tk }/\vR prog w h' s.heap.objs.size xs (vE w)/\sP its ns its.size xs/\
     ∀ b o,b<s.heap.objs.size->s.heap.get? b=some o->h'.get? b=some o) E) F.called_set.init.plain F.entry_set_init (check_set_init_1 JJ ?_)) λ r₂ s₂ HB=>?_
   ·obtain⟨⟨Jp,GR,Ia,Gn⟩,C6,AM,nl,Cj⟩:=id hl
    simp only at AM Cj
    subst AM Cj
    have HD:(s.heap.push (yL w)).get? l=some { cls:=.type "list",dict:=GR,data:=.seq its nl,slots:=Gn }:=J9 _ C6
    have sls:=F.sub_list_set
    have slf:=F.sub_list_frozenset
    have nd:(Value.type "list" == Value.type "dict")=false:=by decide
    have Gf:(s.heap.push (yL w)).IsList l its:=⟨_,HD,rfl,nl,rfl⟩
    unfold Builtin.«set.__init__» noKeywords Builtin.Frozenset.updateFrom
    generalize JM:pyIter=PI
    unfold yL at *
    wp_walk
    subst JM
    refine Kq Gf (Jg (wpAny_runValue ?_))
    have Iv:l<s.heap.objs.size:=Am C6
    have hsz:(s.heap.push (yL w)).objs.size=s.heap.objs.size+1:=Heap.size_push _ _
    have HF:l≠(s.heap.push (yL w)).objs.size:=by rw[hsz];exact Au (Bb Iv)
    have Hs:s.heap.objs.size≠(s.heap.push (yL w)).objs.size:=by rw[hsz];exact Au (Cf _)
    have low:∀ b:Addr,b<s.heap.objs.size->b≠(s.heap.push (yL w)).objs.size:=λ b hb=>by rw[hsz];exact Au (Bb hb)
    refine RQ (A:=A.in1.in1) (P:=λ i v=>its[i]?=some v) ((Walks.list (A:=A.in1.in1.in1) (by simp[hh]) _ l HF its).toS) s.heap.objs.size ?_ (its:=its) (ns:=ns) (λ _ _ q=>q) hn (vE w) hT its.size 0 _ [] (by lia) (AN _)
     ⟨⟨_,AD _ rfl,rfl,rfl⟩,Gf.push _⟩ (WD (w:=w) (J9 _ hS)) ⟨λ e he=>(by cases he),λ j r hj=>(by lia)⟩ ?_
    ·intro hm
     rcases Ai.mp hm with q | q
     ·exact Hs q
     ·exact BA Iv (AQ.mp q)
    ·intro s' E9 hm S' U'
     obtain⟨h',g',d',HX,Hv⟩:=s'
     obtain rfl:g'=s.gens:=hm.gens
     obtain rfl:d'=s.drawn:=hm.drawn
     obtain rfl:Hv=s.os:=hm.os
     refine Ab (Ab ⟨rfl,h',HX,E9,rfl,S',U',λ b o hb e=>?_⟩)
     refine hm.heap b o (λ q=>?_) (J9 _ (J9 _ e))
     rcases Ai.mp q with q | q
     ·exact Au hb q
     ·exact low b hb (AQ.mp q)
   ·cases r₂ with
    | error e=>exact HB
    | ok JX=>
     cases JX with
     | ret r=>
      obtain⟨rfl,h',tk,xs,rfl,g1,g2,g3⟩:=HB
      repeat (any_goals (first | assumption | wp_step))
      exact h h' tk xs g1 g2 g3
     | _=>exact HB.elim
  | _=>exact hr.elim
end
end ST
namespace L4
open PySem PyProof.Rows
def Oo {prog:Program}{w:World}{A:Around}{E:Ad}{s:Shared}{vs:Ae}{ns:List Int}(hI:IntsAre vs ns) (h2:2<=vs.length) (F4:vs.length<64):
  Core prog w A E vs (λ out=>∃ FX,IntsAre out.toList FX/\FX.Perm ns/\FX.Pairwise (·<=·)) s:=by
 obtain⟨v1,v2,EK,rfl⟩:∃ v1 v2 EK,vs=v1::v2::EK:=by
  match vs,h2 with
  | v1::v2::EK,_=>exact⟨v1,v2,EK,rfl⟩
 unfold Core
 rw[keyKind_ints hI]
 refine Ab ⟨rfl,?_⟩
 refine Kc (wpS_sortRuns (a₀:=pairsOf (v1::v2::EK)) (st:=SortSt.mk' oneType' ((v1::v2::EK).toArray.zip (v1::v2::EK).toArray) #[] 7 none)
   (Q:=λ _ Ga=>(arrOf Ga).Perm (pairsOf (v1::v2::EK))/\failedOf Ga=none/\SortedTo (arrOf Ga) (pairsOf (v1::v2::EK)).size)
   hI.intKeys ⟨Array.Perm.refl _,rfl,rfl,rfl⟩ (by rw[pairsOf_size];simp) (by rw[pairsOf_size];exact F4) λ Ga a1 a2 a3=>⟨a1,a2,a3⟩) ?_ λ _ _ e=>e
 rintro⟨⟨⟩,Ga⟩ s' ⟨rfl,hp,hf,hs⟩
 exact⟨rfl,hf,sorted_out hI hp hs,by rw[hp.size_eq,pairsOf_size]⟩
end L4
namespace L5
open PySem PySem.Spec L2 L3
open PyProof.Rows hiding St
structure Bq (mg:AF):Prop where
 set:mg "set"=none
 zip:mg "zip"=none
 enumerate:mg "enumerate"=none
section
variable {X:Cx}{K:Ac}{a b c e:Expr}{ta tb tc:zr}{pos:Pos}{fa fb fc:Ev->Option T}
def pZ (f g:yJ) (ta tb tc:zr):zr:=fun Y S Q=>ta Y S λ x S1=>tb Y S1 λ y S2=>f x y S2 λ z S3=>match z with
 | .bl k=>if k=true then tc Y S3 λ w S4=>g y w S4 Q else Q (.bl false) S3
 | _=>False
def pZ.mo {f g:yJ}(hf:xv f) (hg:xv g) (ha:yf ta) (hb:yf tb) (hc:yf tc):yf (pZ f g ta tb tc):=fun Y S Q Q' hq h=>
 ha Y S _ _ (λ x S1 h=>hb Y S1 _ _ (λ y S2 h=>hf x y S2 _ _ (λ z S3 h=>by
  cases z <;> first
   | exact wX (hc Y S3 _ _ λ w S4 h=>hg y w S4 _ _ hq h) (hq _ _) h
   | exact h) h) h) h
def X3 {f g:yJ}{r r':R2}(hr:xq K f r) (GV:xq K g r') (hf:xv f) (hg:xv g) (ha:yf ta) (hb:yf tb) (hc:yf tc) {B:St}{H:Hp}{Q:VK}(h:zK K (pZ f g ta tb tc) B H Q):dM r r' (zK K ta) (zK K tb) (zK K tc) B H Q:=by
 obtain⟨Y,S,r1,r2,h⟩:=h
 refine zK.go ha r1 r2 h λ x S1 v H1 h1 q1 e1 p1=>?_
 refine zK.go hb (r1.ext e1) p1 h1 λ y S2 w H2 h2 q2 e2 p2=>?_
 refine hr v w x y H2 S2 _ (zg.ext e2 x q1) q2 p2 (hf x y S2 _ _ (λ d S3 z v3 H3 q3 e3 p3=>?_) h2)
 cases d with
 | bl k=>
  simp only[zg] at q3
  refine⟨k,q3,wX (λ z=>?_) (λ z=>?_) z⟩
  ·refine zK.go hc (r1.ext ((e1.trans e2).trans e3)) p3 z λ w4 S4 v4 H4 h4 q4 e4 p4=>?_
   exact GV w v4 y w4 H4 S4 Q (zg.ext (e3.trans e4) y q2) q4 p4 (hg y w4 S4 _ _ (λ d S' z=>z.ext (((e1.trans e2).trans e3).trans e4)) h4)
  ·exact z _ H3 (by simp only[zg]) ((e1.trans e2).trans e3) p3
 | _=>exact z.elim
@[simp] noncomputable def Yj (f g:T->T->Option T) (fa fb fc:Ev->Option T):Ev->Option T:=fun J=>(fa J).bind λ x=>(fb J).bind λ y=>(f x y).bind λ b=>match b with
 | .bl k=>if k=true then (fc J).bind λ z=>g y z else some (.bl false)
 | _=>none
def Rj {f g:T->T->Option T}{F G:yJ}(hf:Good2 zF f F) (hg:Good2 zF g G) (ha:yv fa ta) (hb:yv fb tb) (hc:yv fc tc):xp (Yj f g fa fb fc) (pZ F G ta tb tc):=λ S Z Y J y Q hE e hq=>by
 obtain⟨x1,e1,e⟩:=Aj.mp e
 obtain⟨x2,e2,e⟩:=Aj.mp e
 obtain⟨b,e3,e⟩:=Aj.mp e
 refine ha S Z Y J x1 _ hE e1 λ d1 S1 s1 r1=>?_
 refine hb S1 Z Y J x2 _ (hE.grow s1) e2 λ d2 S2 s2 r2=>?_
 refine hf S2 Z x1 x2 b d1 d2 _ (hE.grow (s1.trans s2)).zd (Vw.grow r1 s2) r2 e3 λ c S3 s3 r3=>?_
 split at e
 ·have:=r3.1
  simp only[Sn] at this
  subst this
  split at e
  ·rename_i hk
   obtain⟨x4,e4,e5⟩:=Aj.mp e
   dsimp only;rw[if_pos hk]
   refine hc S3 Z Y J x4 _ (hE.grow ((s1.trans s2).trans s3)) e4 λ d4 S4 s4 r4=>?_
   exact hg S4 Z x2 x4 y d2 d4 Q (hE.grow (((s1.trans s2).trans s3).trans s4)).zd (Vw.grow r2 (s3.trans s4)) r4 e5 λ c' S5 s5 r5=>hq c' S5 ((((s1.trans s2).trans s3).trans s4).trans s5) (Cl.cl (((s1.trans s2).trans s3).trans s4) r5)
  ·rename_i hk
   dsimp only;rw[if_neg hk]
   cases e
   exact hq _ S3 ((s1.trans s2).trans s3) (Cl.of (λ _=>nofun) ve)
 ·cases e
def UZ {op Hw:CmpOp}{f g:yJ}{r r':R2}(ho:ya X (compareOp op) r) (FT:ya X (compareOp Hw) r') (hr:xq X.K f r) (GV:xq X.K g r') (hf:xv f) (hg:xv g) (ha:PD X a ta) (hb:PD X b tb) (hc:PD X c tc)
  (hm:lastMarks [op,Hw] [b,c]=false:=by with_unfolding_all rfl):PD X (.Compare a [op,Hw] [b,c] pos) (pZ f g ta tb tc):=
 ⟨pZ.mo hf hg ha.mo hb.mo hc.mo,PE.imp (U3 ho FT ha.pe hb.pe hc.pe hm) λ _ _ _ h=>X3 hr GV hf hg ha.mo hb.mo hc.mo h⟩
end
end L5
namespace L2
open PySem PySem.Spec PyProof.Rows
section
variable {X:Cx}
def bE:ya X (compareOp .Is) (λ x y H Q=>∃ c d,x=.bl c/\y=.bl d/\Q (.bl (c == d)) H):=by
 intro EF s B H x y v u Q I rx ry h
 obtain⟨c,d,rfl,rfl,q⟩:=h
 cases rx
 cases ry
 exact is_bool ⟨.bl _,H,I,rfl,q⟩
def Tj:ya X (compareOp .IsNot) (λ x y H Q=>∃ c d,x=.bl c/\y=.bl d/\Q (.bl (c != d)) H):=by
 intro EF s B H x y v u Q I rx ry h
 obtain⟨c,d,rfl,rfl,q⟩:=h
 cases rx
 cases ry
 exact isnot_bool ⟨.bl _,H,I,rfl,q⟩
end
end L2
namespace L5
open PySem PySem.Spec L2 L3
open PyProof.Rows hiding St
section
variable {X:Cx}{K:Ac}{a b c e o i v:Expr}{es:List Expr}{ta tb td ty tv:zr}{pos p pos':Pos}
def tw:yJ:=λ x y S Q=>match x,y with
 | .int i,.int j=>Q (.bl (decide (i<j))) S
 | .tup ds,.tup es=>∃ ns ms:List Int,ds=ns.map D.int/\es=ms.map D.int/\Q (.bl (HT.lexLt ns ms)) S
 | _,_=>False
noncomputable def vh:T->T->Option T
 | .int i,.int j=>some (.bl (decide (i<j)))
 | .tup ts,.tup us=>(vH ts).bind λ ns=>(vH us).map λ ms=>.bl (HT.lexLt ns ms)
 | _,_=>none
def tw.mo:xv tw:=λ x y S Q Q' hq h=>by
 unfold tw at h ⊢
 split at h
 ·exact hq _ _ h
 ·obtain⟨ns,ms,h1,h2,h3⟩:=h
  exact⟨ns,ms,h1,h2,hq _ _ h3⟩
 ·exact h.elim
def tw.fits:xq K tw (λ x y H Q=>v9 (λ i j=>.bl (decide (i<j))) x y H Q\/iC K x y H Q):=λ x y d e H S Q h1 h2 h3 h=>by
 unfold tw at h
 split at h
 ·simp only[zg] at h1 h2
  exact .inl ⟨_,_,h1,h2,h _ H (by simp only[zg]) (.refl H) h3⟩
 ·obtain⟨ns,ms,rfl,rfl,h⟩:=h
  simp only[zg] at h1 h2
  obtain⟨a,xs,rfl,g1,g2⟩:=h1
  obtain⟨b,ys,rfl,g3,g4⟩:=h2
  rw[g2.ints] at g1
  rw[g4.ints] at g3
  exact .inr ⟨a,b,ns,ms,rfl,rfl,g1,g3,h _ H (by simp only[zg]) (.refl H) h3⟩
 ·exact h.elim
def nQ:Good2 zF vh tw:=λ S Z x y z d e Q hz hx hy ef hq=>by
 unfold vh at ef
 split at ef
 ·cases ef
  cases hx.int;cases hy.int
  exact hq _ S (.refl S) (Cl.of (λ _=>nofun) ve)
 ·obtain⟨ns,e1,e2⟩:=Aj.mp ef
  obtain⟨ms,e3,rfl⟩:=AA.mp e2
  cases pO e1
  cases pO e3
  obtain⟨ds,rfl,h2⟩:=hx.tup
  obtain⟨es,rfl,h4⟩:=hy.tup
  exact⟨ns,ms,u5.mp h2,u5.mp h4,hq _ S (.refl S) (Cl.of (λ _=>nofun) ve)⟩
 ·cases ef
def Tu {k:Nat}(hr:yq k X.A):ya X (compareOp .Lt) (λ x y H Q=>v9 (λ i j=>.bl (decide (i<j))) x y H Q\/iC X.K x y H Q):=Tw.or (Tv (by have:=hr.units;lia))
def lV {k:Nat}(hr:yq k X.A) (ha:PD X a ta) (hb:PD X b tb):xC X (.Compare a [.Lt] [b] pos) (uk (yn tw ta tb)):=ql (Tu hr) tw.fits tw.mo ha hb (sy _)
def xA (neg:Bool):yJ:=λ x y S Q=>match x,y with
 | .bl c,.bl d=>Q (.bl (cond neg (c != d) (c == d))) S
 | x,.zm=>Q (.bl (cond neg (!pN x) (pN x))) S
 | _,_=>False
noncomputable def x9 (neg:Bool):T->T->Option T
 | .bl c,.bl d=>some (.bl (cond neg (c != d) (c == d)))
 | x,.zm=>some (.bl (cond neg (!isNone x) (isNone x)))
 | _,_=>none
def xA.mo {neg:Bool}:xv (xA neg):=λ x y S Q Q' hq h=>by
 unfold xA at h ⊢
 split at h
 ·exact hq _ _ h
 ·exact hq _ _ h
 ·exact h.elim
def xA.fits:xq K (xA false) (λ x y H Q=>(∃ c d,x=.bl c/\y=.bl d/\Q (.bl (c == d)) H)\/(y=.zm/\Q (.bl (decide (x=.zm))) H)):=λ x y d e H S Q h1 h2 h3 h=>by
 unfold xA at h
 split at h
 ·simp only[zg] at h1 h2
  exact .inl ⟨_,_,h1,h2,h _ H (by simp only[zg,cond]) (.refl H) h3⟩
 ·simp only[zg] at h2
  refine .inr ⟨h2,?_⟩
  rw[aP h1]
  exact h _ H (by simp only[zg,cond]) (.refl H) h3
 ·exact h.elim
def xA.Pk:xq K (xA true) (λ x y H Q=>(∃ c d,x=.bl c/\y=.bl d/\Q (.bl (c != d)) H)\/(y=.zm/\Q (.bl (!decide (x=.zm))) H)):=λ x y d e H S Q h1 h2 h3 h=>by
 unfold xA at h
 split at h
 ·simp only[zg] at h1 h2
  exact .inl ⟨_,_,h1,h2,h _ H (by simp only[zg,cond]) (.refl H) h3⟩
 ·simp only[zg] at h2
  refine .inr ⟨h2,?_⟩
  rw[aP h1]
  exact h _ H (by simp only[zg,cond]) (.refl H) h3
 ·exact h.elim
def Q0 {S:SS}{Z:Addr->Prop}{x:T}{d:D}(hx:Vw S Z x d):pN d=isNone x:=by
 cases x with
 | zm=>cases hx.zm;rfl
 | bl _=>cases hx.bl;rfl
 | int _=>cases hx.int;rfl
 | str _=>cases hx.str;rfl
 | tup _=>obtain⟨ds,rfl,_⟩:=hx.tup;rfl
 | lst _=>obtain⟨ds,rfl | ⟨a,rfl,h1⟩,h2⟩:=hx.lst <;> rfl
 | yW=>obtain⟨a,Aa,⟨rfl,_⟩,h1⟩:=hx.yW;rfl
 | err _ _ _=>obtain⟨x,rfl,_⟩:=hx.err;rfl
def rJ {neg:Bool}:Good2 zF (x9 neg) (xA neg):=λ S Z x y z d e Q hz hx hy ef hq=>by
 unfold x9 at ef
 split at ef
 ·cases ef
  cases hx.bl;cases hy.bl
  exact hq _ S (.refl S) (Cl.of (λ _=>nofun) ve)
 ·cases ef
  cases hy.zm
  have key:Q (.bl (cond neg (!pN d) (pN d))) S:=by
   rw[Q0 hx]
   exact hq _ S (.refl S) (Cl.of (λ _=>nofun) ve)
  unfold xA
  cases d <;> exact key
 ·cases ef
def b6 (ha:PD X a ta) (hb:PD X b tb):PD X (.Compare a [.Is] [b] pos) (yn (xA false) ta tb):=iR (bE.or bD) xA.fits xA.mo ha hb (sy _)
def nk (ha:PD X a ta) (hb:PD X b tb):xC X (.Compare a [.Is] [b] pos) (uk (yn (xA false) ta tb)):=ql (bE.or bD) xA.fits xA.mo ha hb (sy _)
def U9 (ha:PD X a ta) (hb:PD X b tb):xC X (.Compare a [.IsNot] [b] pos) (uk (yn (xA true) ta tb)):=ql (Tj.or Ti) xA.Pk xA.mo ha hb (sy _)
def ZV (td ty tv:zr):yD:=λ E Y S=>tv Y S λ v S1=>td Y S1 λ x S2=>ty Y S2 λ y S3=>∃ p ds k j,x=.ref p/\y=.int k/\S3 p=some (.lst ds)/\wW ds.length k=some j/\E.nx Y (ups S3 p (.lst (ds.set j v)))
theorem zj.set {H:Hp}{d:D}{x:V}(h:zg K H d x):∀ {ds:List D}{xs:List V}(j:Nat),zj K H ds xs->zj K H (ds.set j d) (xs.set j x)
 | [],xs,j,r=>by simp only[zj] at r;subst r;exact .nil
 | c::ds,xs,0,r=>by
  simp only[zj] at r
  obtain⟨y,ys,rfl,_,r2⟩:=r
  exact .cons h r2
 | c::ds,xs,j+1,r=>by
  simp only[zj] at r
  obtain⟨y,ys,rfl,r1,r2⟩:=r
  exact .cons r1 (zj.set h j r2)
def UC (ho:PD X o td) (hi:PD X i ty) (hv:PD X v tv) (hs:swapsWithSole [.Subscript o i pos'] v pos.line X.env=pure false:=by rfl) (hw:swappedStores [.Subscript o i pos'] v X.env=pure none:=by rfl)
  (h1:(assignEach [.Subscript o i pos'] X.env).map (·.2)=[assign (.Subscript o i pos') X.env]:=by rfl)
  (ha:∀ v,assign (.Subscript o i pos') X.env v=(do
   let ov <- holding [v] (eval o X.env)
   let iv <- holding [v,ov] (eval i X.env)
   standAt pos'
   holding [v,ov,iv] (setItem ov iv v)
   release [v,ov,iv] []):=by intro _;rfl):vq X (.Assign [.Subscript o i pos'] v pos) (ZV td ty tv):=by
 refine⟨λ E E' Y S hE z=>hv.mo Y S _ _ (λ w S1 z=>ho.mo Y S1 _ _ (λ x S2 z=>hi.mo Y S2 _ _ (λ y S3 ⟨p,ds,k,j,a,b,c,d,h⟩=>⟨p,ds,k,j,a,b,c,d,hE.nx _ _ h⟩) z) z) z,PS.imp (cV hv.pe (Ua ho.pe hi.pe set_list ha) hs hw h1) λ D B H hu=>?_⟩
 obtain⟨Y,S,r1,r2,z⟩:=hu
 refine zK.go hv.mo r1 r2 z λ w S1 w1 H1 h1 q1 e1 p1=>?_
 refine zK.go ho.mo (r1.ext e1) p1 h1 λ x S2 w2 H2 h2 q2 e2 p2=>?_
 refine zK.go hi.mo ((r1.ext e1).ext e2) p2 h2 λ y S3 w3 H3 h3 q3 e3 p3=>?_
 obtain⟨p,ds,k,j,rfl,rfl,c1,c2,h⟩:=h3
 simp only[zg] at q2 q3
 subst q2 q3
 obtain⟨xs,g1,g2⟩:=p3 _ _ c1
 have e4:Ext H3 (upd H3 p (.lst (xs.set j w1))):=.lst g1 _
 refine⟨p,xs,k,j,rfl,rfl,g1,by rw[<- g2.length];exact c2,?_⟩
 exact h B _ ((((r1.ext e1).ext e2).ext e3).ext e4) (((e1.trans e2).trans e3).trans e4) (p3.ups e4 ⟨_,y6,zj.ext e4 _ (zj.set (zg.ext (e2.trans e3) w q1) j g2)⟩)
@[simp] def ak (n:Nat) (f v:Ev->Option T):Sm:=fun J=>(v J).bind λ z=>(f J).bind λ y=>match J[n]?,y with
 | some (some (.own (.lst ts))),.int k=>(wW ts.length k).map λ j=>.nx (J.set n (some (.own (.lst (ts.set j z)))))
 | _,_=>none
def TJ {R:Rk}(n:Nat) {f v:Ev->Option T}(hf:yv f ty) (hv:vt v tv):yu R (ak n f v) (ZV (y4 n) ty tv):=λ S0 Z0 S Z Y J o E F e P=>by
 obtain⟨z,e1,e⟩:=Aj.mp e
 obtain⟨x,e2,e3⟩:=Aj.mp e
 split at e3
 ·rename_i ts k h
  obtain⟨j,hj,rfl⟩:=AA.mp e3
  refine hv S Z Y J z _ F.er e1 λ dz S1 s1 r1=>?_
  have F1:=F.grow s1
  obtain⟨p,ob,h1,h2,h3,h4⟩:=F1.er.ow n _ h
  cases ob with
  | z_ _=>exact h3.elim
  | lst ds=>
   show y4 n Y S1 _
   unfold y4;rw[h1]
   refine hf S1 Z Y J _ _ F1.er e2 λ d S2 s2 r2=>?_
   cases Vw.int r2
   have h5:zi (zN S2 Z) ts ds:=zi.sx (wK s2) ts h3
   exact⟨p,ds,k,j,rfl,rfl,s2 _ _ h2,by rw[h5.len];exact hj,P _ Z Y ((F1.grow s2).mut (us:=.lst (ts.set j z)) (es:=.lst (ds.set j dz)) n h h1 (h5.cq j (Sn.sx (wK s2) z r1)))⟩
 ·cases e3
def UT {x y:Str}{u:Value}(hm:X.mg x=some u) (r:RelV (.str y) u) (hg:Gl X x:=by rfl) (hd:(x == ("__debug__":Str))=false:=by decide):PD X (.Name x pos) (dC (.str y)):=nr (Ux hg hm r hd) λ _=>by simp only[zg]
end
end L5
namespace ZP
open PySem PyProof.Rows
noncomputable def gC (k:Bool):String:=cond k "tuple_iterator" "list_iterator"
def SI (h:Heap) (k:Bool) (it l:Addr) (i:Nat):Prop:=∃ o,h.get? it=some o/\o.cls=.type (gC k)/\o.data=.fields #[.ref l,.int i 0]
def SQ (h:Heap) (k:Bool) (l:Addr) (xs:Ap):Prop:=match k with
 | true=>h.IsTuple l xs
 | false=>h.IsList l xs
def SI.on {h h':Heap}{k:Bool}{it l:Addr}{i:Nat}(x:SI h k it l i) (f:∀ o,h.get? it=some o->h'.get? it=some o):SI h' k it l i:=
 let ⟨o,ho,r⟩:=x;⟨o,f o ho,r⟩
def SQ.on {h h':Heap}{k:Bool}{l:Addr}{xs:Ap}(x:SQ h k l xs) (f:∀ o,h.get? l=some o->h'.get? l=some o):SQ h' k l xs:=by
 cases k with
 | true=>obtain⟨o,ho,r⟩:=(show h.IsTuple l xs from x);exact⟨o,f o ho,r⟩
 | false=>obtain⟨o,ho,r⟩:=(show h.IsList l xs from x);exact⟨o,f o ho,r⟩
def SQ.lt {h:Heap}{k:Bool}{l:Addr}{xs:Ap}(x:SQ h k l xs):l<h.objs.size:=by
 cases k with
 | true=>obtain⟨o,ho,_⟩:=(show h.IsTuple l xs from x);exact Am ho
 | false=>obtain⟨o,ho,_⟩:=(show h.IsList l xs from x);exact Am ho
theorem SQ.cls {h:Heap}{k:Bool}{l:Addr}{xs:Ap}(x:SQ h k l xs):∃ o,h.get? l=some o/\o.cls=.type (cond k "tuple" "list"):=by
 cases k with
 | true=>obtain⟨o,ho,c,_⟩:=(show h.IsTuple l xs from x);exact⟨o,ho,c⟩
 | false=>obtain⟨o,ho,c,_⟩:=(show h.IsList l xs from x);exact⟨o,ho,c⟩
section
variable {prog:Program}{w:World}{A:Around}{E:Ad}{s:Shared}
def made {k:Bool}{l:Addr}{xs:Ap}{Q:Ad}(hl:SQ s.heap k l xs)
  (hQ:Q (.ref s.heap.objs.size) { s with heap:=s.heap.push { cls:=.type (gC k),data:=.fields #[.ref l,.int 0 0] } }):wpAny (model prog w) A (pyIter (.ref l)) Q E s:=by
 cases k with
 | true=>exact wpAny_pyIter_tuple hl hQ
 | false=>exact Kq hl hQ
def PR {it l:Addr}{i:Nat}{xs:Ap}{x:Value}{Q:Ad}(hit:s.heap.IsTupleIter it l i) (hl:s.heap.IsTuple l xs) (hx:xs[i]?=some x)
  (hQ:∀ h',h'.IsTupleIter it l (i+1)->Heap.SameBut it s.heap h'->Q x { s with heap:=h' }):wpAny (model prog w) A (Builtin.SmallTypes.nextOf (.ref it)) Q E s:=by
 have ht:=hit.typeIs
 obtain⟨oi,e1,e2,e3⟩:=id hit
 obtain⟨ol,g1,_,n,g2⟩:=hl
 refine Jg (Kj (name:=Str.ofString "__next__") ht F.slot_tuple_iterator_next (Ke F.slot_tuple_iterator_next ht F.entry_tuple_iterator_next ?_ (F.args_tuple_iterator_next_1 _)))
 refine Jg (m:=field (.ref it) 0) (Kb e1 e3 (x:=.ref l) rfl ?_)
 dsimp only
 rw[if_neg (show ¬ ((Value.ref l == Value.none)=true) from BB)]
 refine Jg (m:=field (.ref it) 1) (Kb e1 e3 (x:=.int i 0) rfl ?_)
 dsimp only
 refine Jg (m:=seqItems? (.ref l)) (Kh g1 g2 ?_)
 simp only[Cm,hx]
 have there:=Km (Obj.mapFields λ y=>y.setIfInBounds 1 (rawInt ((i:Int)+1))) e1 (Obj.isFreed_of_fields (Obj.data_mapFields e3 _))
 refine Jg (Ku e1 e3 (by simp) (Ab ⟨x,rfl,Ab (hQ _ ⟨_,there,(Obj.cls_mapFields ..).trans e2,?_⟩ (Heap.SameBut.update ..))⟩))
 rw[Obj.data_mapFields e3];simp[rawInt]
def PC {it l:Addr}{i:Nat}{xs:Ap}{Q:Ad}(hh:A.handled=none) (hit:s.heap.IsTupleIter it l i) (hl:s.heap.IsTuple l xs) (hx:xs[i]?=none)
  (hE:∀ h' e,Heap.ExtBut it s.heap h'->(∃ o,h'.get? e=some o/\o.cls=.type "StopIteration")->E (.ref e) { s with heap:=h' }):wpAny (model prog w) A (Builtin.SmallTypes.nextOf (.ref it)) Q E s:=by
 have ht:=hit.typeIs
 obtain⟨oi,e1,e2,e3⟩:=id hit
 obtain⟨ol,g1,_,n,g2⟩:=hl
 refine Jg (Kj (name:=Str.ofString "__next__") ht F.slot_tuple_iterator_next (Ke F.slot_tuple_iterator_next ht F.entry_tuple_iterator_next ?_ (F.args_tuple_iterator_next_1 _)))
 refine Jg (m:=field (.ref it) 0) (Kb e1 e3 (x:=.ref l) rfl ?_)
 dsimp only
 rw[if_neg (show ¬ ((Value.ref l == Value.none)=true) from BB)]
 refine Jg (m:=field (.ref it) 1) (Kb e1 e3 (x:=.int i 0) rfl ?_)
 dsimp only
 refine Jg (m:=seqItems? (.ref l)) (Kh g1 g2 ?_)
 simp only[Cm,hx]
 refine Jg (Kk (Jg (Ku e1 e3 (by simp) ?_)))
 refine Jg (m:=newExc (.type "StopIteration") []) ?_
 simp only[newExc,newTuple]
 refine Jg (Kf (Jg (m:=firstArgMember _ _) (wpAny_of_eq (a:=Value.none) (by first | rfl | (simp only[firstArgMember];rfl)) (Kf ?_ (by size_fits)))) (by size_fits))
 simp only[raiseNew]
 refine Jg (wpAny_handled ?_)
 rw[show A.in1.handled=none from hh]
 exact Jg (Ab (wpAny_throw (hE _ _ (((Heap.SameBut.update ..).extBut.push _).push _) ⟨_,AD _ rfl,rfl⟩)))
def draw {k:Bool}{it l:Addr}{i:Nat}{xs:Ap}{x:Value}{Q:Ad}(hit:SI s.heap k it l i) (hl:SQ s.heap k l xs) (hx:xs[i]?=some x)
  (hQ:∀ h',SI h' k it l (i+1)->Heap.SameBut it s.heap h'->Q x { s with heap:=h' }):wpAny (model prog w) A (Builtin.SmallTypes.nextOf (.ref it)) Q E s:=by
 cases k with
 | true=>exact PR hit hl hx hQ
 | false=>exact wpAny_nextOf_list_item hit hl hx hQ
def kH {k:Bool}{it l:Addr}{i:Nat}{xs:Ap}{Q:Ad}(hh:A.handled=none) (hit:SI s.heap k it l i) (hl:SQ s.heap k l xs) (hx:xs[i]?=none)
  (hE:∀ h' e,Heap.ExtBut it s.heap h'->(∃ o,h'.get? e=some o/\o.cls=.type "StopIteration")->E (.ref e) { s with heap:=h' }):wpAny (model prog w) A (Builtin.SmallTypes.nextOf (.ref it)) Q E s:=by
 cases k with
 | true=>exact PC hh hit hl hx hE
 | false=>exact wpAny_nextOf_list_end hh hit hl hx hE
structure jg (z TI TO i1 i2 l1 l2:Addr):Prop where
 nd:[z,TI,TO,i1,i2].Nodup
 f1:l1∉[z,TI,TO,i1,i2]
 f2:l2∉[z,TI,TO,i1,i2]
structure At (h:Heap) (k1 k2:Bool) (z TI TO i1 i2 l1 l2:Addr) (f0:Value) (n:Nat):Prop where
 z:IsZip h z TI TO f0
 ti:IsPair h TI (.ref i1) (.ref i2)
 to:∃ a b,IsPair h TO a b
 s1:SI h k1 i1 l1 n
 s2:SI h k2 i2 l2 n
def At.keep {h h':Heap}{k1 k2:Bool}{z TI TO i1 i2 l1 l2:Addr}{f0:Value}{n:Nat}(S:At h k1 k2 z TI TO i1 i2 l1 l2 f0 n) (f:∀ b∈[z,TI,TO,i1,i2],∀ o,h.get? b=some o->h'.get? b=some o):At h' k1 k2 z TI TO i1 i2 l1 l2 f0 n:=
 ⟨f z (by simp) _ S.z,f TI (by simp) _ S.ti,let ⟨a,b,e⟩:=S.to;⟨a,b,f TO (by simp) _ e⟩,S.s1.on (f i1 (by simp)),S.s2.on (f i2 (by simp))⟩
def item {k1 k2:Bool}{z TI TO i1 i2 l1 l2:Addr}{n:Nat}{xs ys:Ap}{x y:Value}{Q:Option Value->Shared->Prop}(D:jg z TI TO i1 i2 l1 l2) (S:At s.heap k1 k2 z TI TO i1 i2 l1 l2 .none n)
  (h1:SQ s.heap k1 l1 xs) (h2:SQ s.heap k2 l2 ys) (hx:xs[n]?=some x) (hy:ys[n]?=some y)
  (hQ:∀ h',At h' k1 k2 z TI TO i1 i2 l1 l2 (rawInt s.heap.objs.size) (n+1)->IsPair h' s.heap.objs.size x y->(∀ c o,c∉[z,TI,TO,i1,i2]->s.heap.get? c=some o->h'.get? c=some o)->Q (some (.ref s.heap.objs.size)) { s with heap:=h' }):
  wpAny (model prog w) A (pyNext (.ref z)) Q E s:=by
 obtain⟨nd,f1,f2⟩:=D
 simp only[Bc,Ai,AR,or_false,not_or,List.nodup_nil,and_true,not_false_eq_true] at nd f1 f2
 obtain⟨⟨n1,n2,n3,n4⟩,⟨n5,n6,n7⟩,⟨n8,n9⟩,IV⟩:=nd
 obtain⟨a1,a2,a3,a4,a5⟩:=f1
 obtain⟨b1,b2,b3,b4,b5⟩:=f2
 obtain⟨hz,DC,⟨a,b,D9⟩,s1,s2⟩:=S
 have hT:s.TypeIs (.ref z) "zip":=⟨_,hz,rfl⟩
 unfold pyNext
 refine Jg (wpAny_attempt (Kj (name:=Str.ofString "__next__") hT F.slot_zip_next (Ke F.slot_zip_next hT F.entry_zip_next ?_ (F.args_zip_next_1 _))))
 refine Jg (m:=field (.ref z) 2) (Kb hz rfl (x:=.bool false) rfl ?_)
 refine Jg (m:=field (.ref z) 3) (Kb hz rfl (x:=.ref TI) rfl ?_)
 refine Jg (m:=seqItems? (.ref TI)) (Kh DC rfl ?_)
 refine Jg (m:=Builtin.SmallTypes.ownedTupleIsFree (.ref z)) (Jg (m:=field (.ref z) 0) (Kb hz rfl (x:=.none) rfl (Ab ?_)))
 simp only[if_true]
 refine Jg (Kk (Jg (Kb hz rfl (x:=.ref TO) rfl (Jg (Kt hz (by simp) λ g1 GB e1=>?_)))))
 replace GB:IsZip g1 z TI TO .ellipsis:=GB
 refine Jg ?_
 simp only[Dl,List.zipIdx_nil,Dy,List.forIn_nil]
 refine Jg (Jg (wpAny_onRaise (Jg (m:=Builtin.SmallTypes.nextOf (.ref i1)) (draw (s1.on λ o q=>e1.extBut _ _ (Ne.symm n3) q) (h1.on λ o q=>e1.extBut _ _ a1 q) hx λ g2 s12 e2=>Ab ?_))))
 have to2:IsPair g2 TO a b:=e2.extBut _ _ n8 (e1.extBut _ _ (Ne.symm n2) D9)
 refine Jg (Kh to2 rfl (Jg (wpAny_updateSeq_pair to2 λ g3 to3 e3=>Jg (Kp (Ab ?_)))))
 replace to3:IsPair g3 TO x b:=to3
 have up:∀ c o,c≠z->c≠i1->c≠TO->s.heap.get? c=some o->g3.get? c=some o:=λ c o c1 c2 c3 q=>e3.extBut _ _ c3 (e2.extBut _ _ c2 (e1.extBut _ _ c1 q))
 refine Jg (Jg (wpAny_onRaise (Jg (m:=Builtin.SmallTypes.nextOf (.ref i2)) (draw (s2.on λ o q=>up _ o (Ne.symm n4) (Ne.symm IV) (Ne.symm n9) q) (h2.on λ o q=>up _ o b1 b4 b3 q) hy λ g4 s24 e4=>Ab ?_))))
 have to4:IsPair g4 TO x b:=e4.extBut _ _ n9 to3
 refine Jg (Kh to4 rfl (Jg (wpAny_updateSeq_pair to4 λ g5 IM e5=>Jg (Kp (Ab (Ab ?_))))))
 replace IM:IsPair g5 TO x y:=IM
 refine Jg (Kh IM rfl (Jg (wpAny_newTuple ?_)))
 have sz:g5.objs.size=s.heap.objs.size:=by rw[e5.1,e4.1,e3.1,e2.1,e1.1]
 have hz5:IsZip g5 z TI TO .ellipsis:=e5.extBut _ _ n2 (e4.extBut _ _ n4 (e3.extBut _ _ n2 (e2.extBut _ _ n3 GB)))
 have up5:∀ c o,c∉[z,TI,TO,i1,i2]->s.heap.get? c=some o->g5.get? c=some o:=λ c o hc q=>by
  simp only[Ai,AR,or_false,not_or] at hc
  exact e5.extBut _ _ hc.2.2.1 (e4.extBut _ _ hc.2.2.2.2 (up c o hc.1 hc.2.2.2.1 hc.2.2.1 q))
 have ti5:IsPair g5 TI (.ref i1) (.ref i2):=e5.extBut _ _ n5 (e4.extBut _ _ n7 (up _ _ (Ne.symm n1) n6 n5 DC))
 have s15:SI g5 k1 i1 l1 (n+1):=s12.on λ o q=>e5.extBut _ _ (Ne.symm n8) (e4.extBut _ _ IV (e3.extBut _ _ (Ne.symm n8) q))
 have s25:SI g5 k2 i2 l2 (n+1):=s24.on λ o q=>e5.extBut _ _ (Ne.symm n9) q
 have lz:z<g5.objs.size:=Am hz5
 refine Jg (m:=Builtin.SmallTypes.ownedTupleHandOut (.ref z) (.ref g5.objs.size)) ?_
 have hz6:IsZip (g5.push { cls:=.type "tuple",data:=.seq #[x,y] }) z TI TO .ellipsis:=J9 _ hz5
 refine Jg (Kt hz6 (by simp) λ g7 Jx e7=>?_)
 replace Jx:IsZip g7 z TI TO (rawInt g5.objs.size):=Jx
 refine Kt Jx (by simp) λ g8 IY e8=>?_
 replace IY:IsZip g8 z TI TO (rawInt g5.objs.size):=IY
 have up8:∀ c o,c≠z->(g5.push { cls:=.type "tuple",data:=.seq #[x,y] }).get? c=some o->g8.get? c=some o:=λ c o c1 q=>e8.extBut _ _ c1 (e7.extBut _ _ c1 q)
 have T8:IsPair g8 g5.objs.size x y:=up8 _ _ (BA lz) (AD _ rfl)
 have HW:∀ c o,c≠z->g5.get? c=some o->g8.get? c=some o:=λ c o c1 q=>up8 c o c1 (J9 _ q)
 rw[sz] at IY T8
 refine Ab ⟨.ref g5.objs.size,rfl,Ab ?_⟩
 show Q (some (.ref g5.objs.size)) _
 rw[sz]
 refine hQ g8 ⟨IY,HW _ _ (Ne.symm n1) ti5,⟨x,y,HW _ _ (Ne.symm n2) IM⟩,s15.on λ o q=>HW _ o (Ne.symm n3) q,s25.on λ o q=>HW _ o (Ne.symm n4) q⟩ T8 λ c o hc q=>HW c o (λ e=>hc (by simp[e])) (up5 c o hc q)
def stop {k1 k2:Bool}{z TI TO i1 i2 l1 l2:Addr}{n:Nat}{xs ys:Ap}{Q:Option Value->Shared->Prop}(hh:A.handled=none) (D:jg z TI TO i1 i2 l1 l2) (S:At s.heap k1 k2 z TI TO i1 i2 l1 l2 .none n)
  (h1:SQ s.heap k1 l1 xs) (h2:SQ s.heap k2 l2 ys) (Bi:xs[n]?=none\/ys[n]?=none)
  (hQ:∀ h',(∀ c o,c∉[z,TI,TO,i1,i2]->s.heap.get? c=some o->h'.get? c=some o)->Q none { s with heap:=h' }):
  wpAny (model prog w) A (pyNext (.ref z)) Q E s:=by
 obtain⟨nd,f1,f2⟩:=D
 simp only[Bc,Ai,AR,or_false,not_or,List.nodup_nil,and_true,not_false_eq_true] at nd f1 f2
 obtain⟨⟨n1,n2,n3,n4⟩,⟨n5,n6,n7⟩,⟨n8,n9⟩,IV⟩:=nd
 obtain⟨a1,a2,a3,a4,a5⟩:=f1
 obtain⟨b1,b2,b3,b4,b5⟩:=f2
 obtain⟨hz,DC,⟨a,b,D9⟩,s1,s2⟩:=S
 have hT:s.TypeIs (.ref z) "zip":=⟨_,hz,rfl⟩
 have fin:∀ (h':Heap) (e:Addr),(∀ c o,c∉[z,TI,TO,i1,i2]->s.heap.get? c=some o->h'.get? c=some o)->(∃ o,h'.get? e=some o/\o.cls=.type "StopIteration")->
   wpAny (model prog w) A (do if <- isInstance (.ref e) (.type "StopIteration") then pure none else throw (.ref e)) Q E { s with heap:=h' }:=λ h' e k1 k2=>by
  obtain⟨o,ho,hc⟩:=k2
  exact Jg (wpAny_isInstance (T:="StopIteration") (b:=true) ⟨o,ho,hc⟩ isSubtype_stop (Ab (hQ _ k1)))
 unfold pyNext
 refine Jg (wpAny_attempt (Kj (name:=Str.ofString "__next__") hT F.slot_zip_next (Ke F.slot_zip_next hT F.entry_zip_next ?_ (F.args_zip_next_1 _))))
 refine Jg (m:=field (.ref z) 2) (Kb hz rfl (x:=.bool false) rfl ?_)
 refine Jg (m:=field (.ref z) 3) (Kb hz rfl (x:=.ref TI) rfl ?_)
 refine Jg (m:=seqItems? (.ref TI)) (Kh DC rfl ?_)
 refine Jg (m:=Builtin.SmallTypes.ownedTupleIsFree (.ref z)) (Jg (m:=field (.ref z) 0) (Kb hz rfl (x:=.none) rfl (Ab ?_)))
 simp only[if_true]
 refine Jg (Kk (Jg (Kb hz rfl (x:=.ref TO) rfl (Jg (Kt hz (by simp) λ g1 GB e1=>?_)))))
 replace GB:IsZip g1 z TI TO .ellipsis:=GB
 refine Jg ?_
 simp only[Dl,List.zipIdx_nil,Dy,List.forIn_nil]
 cases hx:xs[n]? with
 | none=>
  refine Jg (Jg (wpAny_onRaise (Jg (m:=Builtin.SmallTypes.nextOf (.ref i1)) (kH hh (s1.on λ o q=>e1.extBut _ _ (Ne.symm n3) q) (h1.on λ o q=>e1.extBut _ _ a1 q) hx λ g2 ex e2 he=>?_))))
  have hz2:IsZip g2 z TI TO .ellipsis:=e2 _ _ n3 GB
  obtain⟨oe,q1,q2⟩:=he
  have ne:ex≠z:=λ q=>by subst q;rw[hz2] at q1;cases q1;simp at q2
  refine Kt hz2 (by simp) λ g3 _ e3=>fin g3 ex (λ c o hc q=>?_) ⟨oe,e3.extBut _ _ ne q1,q2⟩
  simp only[Ai,AR,or_false,not_or] at hc
  exact e3.extBut _ _ hc.1 (e2 _ _ hc.2.2.2.1 (e1.extBut _ _ hc.1 q))
 | some x=>
  have hy:ys[n]?=none:=Bi.resolve_left (by rw[hx];simp)
  refine Jg (Jg (wpAny_onRaise (Jg (m:=Builtin.SmallTypes.nextOf (.ref i1)) (draw (s1.on λ o q=>e1.extBut _ _ (Ne.symm n3) q) (h1.on λ o q=>e1.extBut _ _ a1 q) hx λ g2 s12 e2=>Ab ?_))))
  have to2:IsPair g2 TO a b:=e2.extBut _ _ n8 (e1.extBut _ _ (Ne.symm n2) D9)
  refine Jg (Kh to2 rfl (Jg (wpAny_updateSeq_pair to2 λ g3 to3 e3=>Jg (Kp (Ab ?_)))))
  have up:∀ c o,c≠z->c≠i1->c≠TO->s.heap.get? c=some o->g3.get? c=some o:=λ c o c1 c2 c3 q=>e3.extBut _ _ c3 (e2.extBut _ _ c2 (e1.extBut _ _ c1 q))
  refine Jg (Jg (wpAny_onRaise (Jg (m:=Builtin.SmallTypes.nextOf (.ref i2)) (kH hh (s2.on λ o q=>up _ o (Ne.symm n4) (Ne.symm IV) (Ne.symm n9) q) (h2.on λ o q=>up _ o b1 b4 b3 q) hy λ g4 ex e4 he=>?_))))
  have hz4:IsZip g4 z TI TO .ellipsis:=e4 _ _ n4 (e3.extBut _ _ n2 (e2.extBut _ _ n3 GB))
  obtain⟨oe,q1,q2⟩:=he
  have ne:ex≠z:=λ q=>by subst q;rw[hz4] at q1;cases q1;simp at q2
  refine Kt hz4 (by simp) λ g5 _ e5=>fin g5 ex (λ c o hc q=>?_) ⟨oe,e5.extBut _ _ ne q1,q2⟩
  simp only[Ai,AR,or_false,not_or] at hc
  exact e5.extBut _ _ hc.1 (e4 _ _ hc.2.2.2.2 (up c o hc.1 hc.2.2.2.1 hc.2.2.1 q))
end
abbrev vG (k:Bool) (l:Addr):Obj:={ cls:=.type (gC k),data:=.fields #[.ref l,.int 0 0] }
abbrev vk (k1 k2:Bool) (h:Heap) (l1 l2:Addr):Heap:=(h.push (vG k1 l1)).push (vG k2 l2)
abbrev k8 (k1 k2:Bool) (h:Heap) (l1 l2:Addr):Heap:=(vk k1 k2 h l1 l2).push { cls:=.type "tuple",data:=.seq #[.ref h.objs.size,.ref (h.push (vG k1 l1)).objs.size] }
abbrev k7 (k1 k2:Bool) (h:Heap) (l1 l2:Addr):Heap:=(k8 k1 k2 h l1 l2).push { cls:=.type "tuple",data:=.seq #[.none,.none] }
abbrev pR (k1 k2:Bool) (h:Heap) (l1 l2:Addr):Heap:=(k7 k1 k2 h l1 l2).push { cls:=.type "zip",data:=.fields #[.none,.bool false,.bool false,.ref (vk k1 k2 h l1 l2).objs.size,.ref (k8 k1 k2 h l1 l2).objs.size] }
def RJ (k1 k2:Bool) (l1 l2:Addr) (xs ys:Ap):Meets (Builtin.«zip.__new__» ⟨[.type "zip",.ref l1,.ref l2],[]⟩) (λ _ R s=>SQ s.heap k1 l1 xs/\SQ s.heap k2 l2 ys/\
   R (.ok (.ret (.ref (k7 k1 k2 s.heap l1 l2).objs.size))) { s with heap:=pR k1 k2 s.heap l1 l2 }):=
 .of_wp λ prog w A R s h=>by
  obtain⟨hp,g,d,tk,os⟩:=s
  obtain⟨q1,q2,h⟩:=h
  have D_:=sub_zip
  have m1:SQ (Shared.heap ⟨hp,g,d,tk,os⟩) k1 l1 xs:=q1
  have m2:SQ (Shared.heap ⟨hp.push (vG k1 l1),g,d,tk,os⟩) k2 l2 ys:=q2.on λ o e=>J9 _ e
  wp_walk using made m1,made m2
  exact⟨_,rfl,h⟩
section
variable {prog:Program}{w:World}{A:Around}{E:Ad}{s:Shared}
def new {k1 k2:Bool}{l1 l2:Addr}{xs ys:Ap}{Q:Ad}(h1:SQ s.heap k1 l1 xs) (h2:SQ s.heap k2 l2 ys)
  (h:∀ h' z TI TO i1 i2,(∀ b∈[z,TI,TO,i1,i2],s.heap.objs.size<=b)->jg z TI TO i1 i2 l1 l2->At h' k1 k2 z TI TO i1 i2 l1 l2 .none 0->(∀ c o,s.heap.get? c=some o->h'.get? c=some o)->Q (.ref z) { s with heap:=h' }):
  wpAny (model prog w) A (call (.type "zip") [.ref l1,.ref l2]) Q E s:=by
 refine callType_new F.called_zip (by decide) (F.typeCall_zip_2 _ _) (F.newCall_zip_2 _ _) (λ obj=>F.args_object_init_3 obj _ _) F.entry_zip_new (RJ k1 k2 l1 l2 xs ys) ⟨h1,h2,?_⟩
 have z1:(s.heap.push (vG k1 l1)).objs.size=s.heap.objs.size+1:=Heap.size_push ..
 have z2:(vk k1 k2 s.heap l1 l2).objs.size=s.heap.objs.size+2:=by rw[Heap.size_push,z1]
 have z3:(k8 k1 k2 s.heap l1 l2).objs.size=s.heap.objs.size+3:=by rw[Heap.size_push,z2]
 have z4:(k7 k1 k2 s.heap l1 l2).objs.size=s.heap.objs.size+4:=by rw[Heap.size_push,z3]
 have p1:∀ (h:Heap) (o:Obj),o.isFreed=false->(h.push o).get? h.objs.size=some o:=λ h o e=>AD _ e
 have u:∀ {h:Heap}{b:Addr}{o:Obj}(o':Obj),h.get? b=some o->(h.push o').get? b=some o:=λ o' e=>J9 _ e
 have g5:(pR k1 k2 s.heap l1 l2).get? (k7 k1 k2 s.heap l1 l2).objs.size=some _:=p1 _ _ rfl
 have g4:(pR k1 k2 s.heap l1 l2).get? (k8 k1 k2 s.heap l1 l2).objs.size=some _:=u _ (p1 _ _ rfl)
 have g3:(pR k1 k2 s.heap l1 l2).get? (vk k1 k2 s.heap l1 l2).objs.size=some _:=u _ (u _ (p1 _ _ rfl))
 have g2:(pR k1 k2 s.heap l1 l2).get? (s.heap.push (vG k1 l1)).objs.size=some (vG k2 l2):=u _ (u _ (u _ (p1 _ _ rfl)))
 have g1:(pR k1 k2 s.heap l1 l2).get? s.heap.objs.size=some (vG k1 l1):=u _ (u _ (u _ (u _ (p1 _ _ rfl))))
 have a1:=h1.lt
 have a2:=h2.lt
 rw[z2,z3,z4] at g5
 rw[z1,z2] at g3
 rw[z3] at g4
 rw[z1] at g2
 generalize hN:s.heap.objs.size=N at *
 have lt:∀ {m:Nat},m<N->∀ j:Nat,¬ m=N+j:=λ hm j=>by lia
 have ne:∀ {i j:Nat},i≠j->¬ (N+i=N+j):=λ A3 e=>A3 (by lia)
 show _/\_
 rw[z4]
 refine⟨⟨_,g5,rfl⟩,h _ (N+4) (N+2) (N+3) N (N+1) (λ b hb=>?_) ⟨?_,?_,?_⟩ ⟨g5,g3,⟨_,_,g4⟩,⟨_,g1,rfl,rfl⟩,⟨_,g2,rfl,rfl⟩⟩ λ c o e=>u _ (u _ (u _ (u _ (u _ e))))⟩
 ·simp only[Ai,AR,or_false] at hb
  have h0:N<=N:=Ah N
  rcases hb with e | e | e | e | e <;> subst e
  ·exact Ca N 4
  ·exact Ca N 2
  ·exact Ca N 3
  ·exact h0
  ·exact Ca N 1
 ·have e0:∀ {i:Nat},i≠0->¬ (N+i=N):=λ hi e=>hi (by lia)
  have e0':∀ {i:Nat},i≠0->¬ (N=N+i):=λ hi e=>hi (by lia)
  simp only[Bc,Ai,AR,or_false,not_or,List.nodup_nil,and_true,not_false_eq_true]
  exact⟨⟨ne (by decide),ne (by decide),e0 (by decide),ne (by decide)⟩,⟨ne (by decide),e0 (by decide),ne (by decide)⟩,⟨e0 (by decide),ne (by decide)⟩,e0' (by decide)⟩
 ·simp only[Ai,AR,or_false,not_or]
  exact⟨lt a1 4,lt a1 2,lt a1 3,Au a1,lt a1 1⟩
 ·simp only[Ai,AR,or_false,not_or]
  exact⟨lt a2 4,lt a2 2,lt a2 3,Au a2,lt a2 1⟩
end
end ZP
namespace L2
open PySem PySem.Spec PyProof.Rows ZP
section
variable {X:Cx}{EF:Ag}{B:St}{H:Hp}{s:Shared}
def Inv.l9 {h':Heap}{t':Nat}{fp:List Addr}(I:Inv X EF B H s) (k:∀ b o,b∉fp->s.heap.get? b=some o->h'.get? b=some o) (hf:∀ b∈fp,vS X EF H b):Inv X EF B H { s with heap:=h',toks:=t' }:=by
 have Ii:∀ b u,H b=some u->b∉fp:=λ b u e z=>by rw[(hf b z).1] at e;cases e
 refine I.step (g':=s.gens) (d':=s.drawn) (ch:=fp) (λ b hb=>?_) (λ b o _ _ hc e _=>k b o hc e) (λ b o _ _ hc e _=>⟨o.slots,k b o hc e⟩) (λ _ _ _ _ n=>n)
  (λ b o hc e=>⟨o,k b o hc e⟩) (λ _ _ e=>e) (λ _ _ _ e=>e) (λ b ps e=>⟨#[],by rw[e];simp⟩) (λ m hm=>?_) (λ b u e=>?_) I.bare
 ·obtain⟨_,q1,_,q2,q3,q4⟩:=hf b hb
  exact⟨q2,q1,q3,q4⟩
 ·obtain⟨o,es,ep,ho,r⟩:=hm
  exact⟨o,es,ep,k _ o (λ z=>(hf _ z).2.1 rfl) ho,r⟩
 ·refine (I.zw b u e).tT (λ c v hc q=>k c v ?_ q) (λ _ q=>q) λ _ _ q=>q
  rcases hc with z | z
  ·rw[z];exact Ii b u e
  ·exact Ii c _ z
def xZ (K:Ac) (H:Hp) (k:Bool) (a:Addr) (xs:List V):Prop:=match k with
 | true=>zL K H a xs
 | false=>zJ K H a xs
def xZ.of (I:Inv X EF B H s) {k:Bool}{a:Addr}{xs:List V}(h:xZ X.K H k a xs):∃ its:List Value,Vals xs its/\SQ s.heap k a its.toArray:=by
 cases k with
 | true=>obtain⟨its,rv,p,_⟩:=I.tuple h;exact⟨its,rv,p⟩
 | false=>obtain⟨its,rv,p,_⟩:=I.list h;exact⟨its,rv,p.isList⟩
def xZ.inj (I:Inv X EF B H s) {k:Bool}{a:Addr}{xs ys:List V}(h:xZ X.K H k a xs) (h':xZ X.K H k a ys):xs=ys:=by
 cases k with
 | true=>exact I.j8 h h'
 | false=>exact I.gs h h'
def YF (K:Ac) (k1 k2:Bool) (a1 a2:Addr):It:=
 ⟨λ i H=>∃ xs ys x y,xZ K H k1 a1 xs/\xZ K H k2 a2 ys/\xs[i]?=some x/\ys[i]?=some y,
   λ i H v H'=>∃ p x y,v=.ref p/\H p=none/\H'=upd H p (.tup [x,y])/\(∀ xs,xZ K H k1 a1 xs->xs[i]?=some x)/\∀ ys,xZ K H k2 a2 ys->ys[i]?=some y,
   λ i H=>∃ xs ys,xZ K H k1 a1 xs/\xZ K H k2 a2 ys/\(xs.length<=i\/ys.length<=i)⟩
def XB {P:Program}{w:World}{K:Ac}{es:List Expr}{kk} {pos:Pos}{k1 k2:Bool}{z TI TO i1 i2 a1 a2:Addr}(D:jg z TI TO i1 i2 a1 a2):
  Turn P w K (.Tuple es kk pos) (YF K k1 k2 a1 a2) [z,TI,TO,i1,i2] z (λ i h=>At h k1 k2 z TI TO i1 i2 a1 a2 .none i) where
 mem:=by simp
 obj:=λ i h st b hb=>by
  obtain⟨q1,q2,⟨_,_,q3⟩,⟨o1,q4,_,d1⟩,⟨o2,q5,_,d2⟩⟩:=st
  simp only[Ai,AR,or_false] at hb
  rcases hb with e | e | e | e | e <;> subst e
  ·exact⟨_,q1,λ v z=>by cases z⟩
  ·exact⟨_,q2,λ v z=>by cases z⟩
  ·exact⟨_,q3,λ v z=>by cases z⟩
  ·exact⟨_,q4,λ v z=>by rw[d1] at z;cases z⟩
  ·exact⟨_,q5,λ v z=>by rw[d2] at z;cases z⟩
 keep:=λ i h h' st k=>st.keep k
 item:=by
  intro X hP hw hK hc i EF s B H E I hf st hg
  subst hP hw hK
  obtain⟨xs,ys,x,y,g1,g2,hx,hy⟩:=hg
  obtain⟨Ju,Jj,q1⟩:=g1.of I
  obtain⟨it2,GG,q2⟩:=g2.of I
  obtain⟨u1,e1,r1⟩:=Jj.get hx
  obtain⟨u2,e2,r2⟩:=GG.get hy
  refine ZP.item D st q1 q2 (x:=u1) (y:=u2) (by simpa using e1) (by simpa using e2) λ h' S' T' up=>⟨_,rfl,?_⟩
  refine wpAny_letOwnedTupleGo_zip S'.z λ h2 z2 sb=>?_
  have nT:s.heap.objs.size∉[z,TI,TO,i1,i2]:=λ hb=>by
   obtain⟨o,ho,_⟩:=(show ∃ o,s.heap.get? s.heap.objs.size=some o/\True from by
    obtain⟨w1,w2,⟨_,_,w3⟩,⟨o1,w4,_⟩,⟨o2,w5,_⟩⟩:=st
    simp only[Ai,AR,or_false] at hb
    rcases hb with e | e | e | e | e <;> rw[e]
    ·exact⟨_,w1,trivial⟩
    ·exact⟨_,w2,trivial⟩
    ·exact⟨_,w3,trivial⟩
    ·exact⟨_,w4,trivial⟩
    ·exact⟨_,w5,trivial⟩)
   exact absurd (Am ho) (BU _)
  have nz:s.heap.objs.size≠z:=λ e=>nT (by simp[e])
  have fr:H s.heap.objs.size=none:=I.zw.fresh (Ah _)
  have I1:Inv X EF B (upd H s.heap.objs.size (.tup [x,y])) { s with heap:=s.heap.push { cls:=.type "tuple",data:=.seq [u1,u2].toArray },toks:=s.toks }:=
   I.laid (o:=.tup [x,y]) (λ b u q=>J9 _ q) (Ah _) ⟨by show 2<=sizeLine;decide,[u1,u2],.cons r1 (.cons r2 .nil),IsTup.new _ _⟩
  have GD:∀ b∈[z,TI,TO,i1,i2],upd H s.heap.objs.size (.tup [x,y]) b=none:=λ b hb=>by
   rw[yj (λ e=>nT (by rw[<- e];exact hb))]
   exact (hf b hb).1
  have kk:∀ b o,b∉[z,TI,TO,i1,i2]->(s.heap.push { cls:=.type "tuple",data:=.seq [u1,u2].toArray }).get? b=some o->h2.get? b=some o:=λ b o hb q=>by
   have hbz:b≠z:=λ e=>hb (by simp[e])
   by_cases Dj:b=s.heap.objs.size
   ·subst Dj
    rw[AD _ rfl] at q
    cases q
    exact sb.extBut _ _ nz T'
   ·have q':s.heap.get? b=some o:=by rw[Heap.get?_push_ne _ _ _ Dj] at q;exact q
    exact sb.extBut _ _ hbz (up b o hb q')
  have I2:=Inv.l9 (h':=h2) (t':=s.toks) (fp:=[z,TI,TO,i1,i2]) I1 kk λ b hb=>⟨GD b hb,(hf b hb).2⟩
  refine⟨.ref s.heap.objs.size,_,I2,rfl,⟨_,x,y,rfl,fr,rfl,λ zs hz=>by rw[hz.inj I g1];exact hx,λ zs hz=>by rw[hz.inj I g2];exact hy⟩,⟨z2,?_,?_,?_,?_⟩,GD⟩
  ·have nd:=D.nd
   simp only[Bc,Ai,AR,or_false,not_or] at nd
   exact sb.extBut _ _ (Ne.symm nd.1.1) S'.ti
  ·obtain⟨a,b,e⟩:=S'.to
   have nd:=D.nd
   simp only[Bc,Ai,AR,or_false,not_or] at nd
   exact⟨a,b,sb.extBut _ _ (Ne.symm nd.1.2.1) e⟩
  ·have nd:=D.nd
   simp only[Bc,Ai,AR,or_false,not_or] at nd
   exact S'.s1.on λ o q=>sb.extBut _ _ (Ne.symm nd.1.2.2.1) q
  ·have nd:=D.nd
   simp only[Bc,Ai,AR,or_false,not_or] at nd
   exact S'.s2.on λ o q=>sb.extBut _ _ (Ne.symm nd.1.2.2.2) q
 done:=by
  intro X hP hw hK hc i EF s B H E I hf st hg
  subst hP hw hK
  obtain⟨xs,ys,g1,g2,hx⟩:=hg
  obtain⟨Ju,Jj,q1⟩:=g1.of I
  obtain⟨it2,GG,q2⟩:=g2.of I
  have l1:=Jj.length
  have l2:=GG.length
  refine ZP.stop (I.ok.hd hc) D st q1 q2 ?_ λ h' up=>⟨rfl,I.l9 (t':=s.toks) up hf⟩
  rcases hx with hx | hx
  ·exact .inl (by simp;lia)
  ·exact .inr (by simp;lia)
 self:=λ _ _ _ _ _ st h=>wpAny_pyIter_zip st.z h
def QC (K:Ac) (ta:TA):TI:=fun B H R=>ta B H λ vs H1=>∃ a1 a2 k1 k2,vs=[.ref a1,.ref a2]/\(∃ xs,xZ K H1 k1 a1 xs)/\(∃ ys,xZ K H1 k2 a2 ys)/\R (YF K k1 k2 a1 a2) H1
def VT {a b:Expr}{ta:TA}{p pos pos':Pos}{es:List Expr}{kk} (hg:Gl X "zip") (hm:X.mg "zip"=none) (ha:PA X [a,b] ta) (hs:starEach [a,b] X.env=[(false,eval a X.env),(false,eval b X.env)]:=by rfl) (GI:starEach [b] X.env=[(false,eval b X.env)]:=by rfl):
  PI X (.Tuple es kk pos') (.Call (.Name "zip" p) [a,b] [] pos) (QC X.K ta):=by
 intro EF s B H R I h
 refine Call_ (rF I hg hm boot_zip (PyProof.Rows.callWith_type1 (zC (ha pos EF s B H _ I h) λ us s1 ⟨vs,H1,I1,r1,q1⟩=>?_) (by rw[hs,GI]) (by rw[GI];rfl)))
 obtain⟨a1,a2,k1,k2,rfl,⟨xs,g1⟩,⟨ys,g2⟩,q⟩:=q1
 cases r1 with
 | cons r rr=>
  cases rr with
  | cons r' rr=>
   cases rr
   cases r
   cases r'
   obtain⟨Ju,_,q1⟩:=g1.of I1
   obtain⟨it2,_,q2⟩:=g2.of I1
   refine ZP.new q1 q2 λ h' z TI TO i1 i2 nw D S up=>wpAny_pyIter_zip S.z ?_
   exact⟨z,[z,TI,TO,i1,i2],_,_,H1,rfl,I1.kept (t':=s1.toks) up,XB D,S,λ b hb=>I1.nU (nw b hb) (I1.zw.fresh (nw b hb)),q⟩
end
end L2
namespace L5
open PySem PySem.Spec L2 L3
open PyProof.Rows hiding St
section
variable {K:Ac}{a:Expr}{p:Pos}
def aJ (t:yh):wy:=fun Y S R=>t Y S λ ds S1=>∃ d e xs ys,ds=[d,e]/\zM d S1=some xs/\zM e S1=some ys/\R ⟨List.zipWith (λ x y=>D.tup [x,y]) xs ys,λ S=>zM d S=some xs/\zM e S=some ys⟩ S1
noncomputable def nJ:D->Bool
 | .tup _=>true
 | _=>false
def zM.k {H:Hp}{S:SS}{d:D}{v:V}{ds:List D}(r:zg K H d v) (p:zH K H S) (e:zM d S=some ds):∃ a xs,v=.ref a/\xZ K H (nJ d) a xs/\zj K H ds xs:=by
 by_cases q:∃ ts,d=.tup ts
 ·obtain⟨ts,rfl⟩:=q
  cases e
  simp only[zg] at r
  obtain⟨a,xs,h1,h2,h3⟩:=r
  exact⟨a,xs,h1,h2,h3⟩
 ·obtain⟨a,xs,h1,h2,h3⟩:=rn r p e λ ts z=>q ⟨ts,z⟩
  refine⟨a,xs,h1,?_,h3⟩
  have:nJ d=false:=by cases d <;> first | rfl | exact absurd ⟨_,rfl⟩ q
  rw[this];exact h2
end
section
variable {X:Cx}{a b:Expr}{tA:yh}{pos p pos':Pos}{es:List Expr}{kk:Nat}
def UI (hm:X.mg "zip"=none) (ha:yY X [a,b] tA) (hg:Gl X "zip":=by rfl) (hs:starEach [a,b] X.env=[(false,eval a X.env),(false,eval b X.env)]:=by rfl) (GI:starEach [b] X.env=[(false,eval b X.env)]:=by rfl):
  sT X (.Tuple es kk pos') (.Call (.Name "zip" p) [a,b] [] pos) (aJ tA):=by
 refine⟨fun Y S Q Q' hq z=>ha.mo Y S _ _ (λ ds S1 ⟨d,e,xs,ys,h1,h2,h3,h4⟩=>⟨d,e,xs,ys,h1,h2,h3,hq _ _ h4⟩) z,PI.imp (VT hg hm ha.pa hs GI) fun B H R hu=>?_⟩
 obtain⟨Y,S,r1,r2,z⟩:=hu
 refine wb.go ha.mo r1 r2 z λ ds S1 vs H1 h1 q1 e1 p1=>?_
 obtain⟨d,e,xs,ys,rfl,s1,s2,h⟩:=h1
 obtain⟨v,u,rfl,d1,d2⟩:=q1.two
 obtain⟨a1,us,rfl,g1,g2⟩:=zM.k d1 p1 s1
 obtain⟨a2,ws,rfl,g3,g4⟩:=zM.k d2 p1 s2
 refine⟨a1,a2,nJ d,nJ e,rfl,⟨us,g1⟩,⟨ws,g3⟩,h _ H1 e1 p1 λ i H2 S2 x1 x2 hk=>?_⟩
 obtain⟨b1,HV,q1,m1,m2⟩:=zM.k (zg.ext x1 d d1) x2 hk.1
 cases q1
 obtain⟨b2,ws2,q2,m3,m4⟩:=zM.k (zg.ext x1 e d2) x2 hk.2
 cases q2
 have l1:=m2.length
 have l2:=m4.length
 refine⟨λ dd hd=>?_,λ hl=>⟨HV,ws2,m1,m3,?_⟩⟩
 ·rw[List.getElem?_zipWith] at hd
  split at hd
  ·rename_i dx dy hx hy
   cases hd
   obtain⟨x,GH,rx⟩:=m2.get hx
   obtain⟨y,hy',ry⟩:=m4.get hy
   refine⟨⟨HV,ws2,x,y,m1,m3,GH,hy'⟩,λ v H' q=>?_⟩
   obtain⟨pp,x',y',rfl,hp,rfl,f1,f2⟩:=q
   have ex:x'=x:=by have:=f1 _ m1;rw[GH] at this;exact (A4 this).symm
   have ey:y'=y:=by have:=f2 _ m3;rw[hy'] at this;exact (A4 this).symm
   subst ex ey
   refine⟨.new hp _,x2.new hp,?_⟩
   simp only[zg]
   exact⟨pp,_,rfl,zL.of y6,zj.ext (.new hp _) _ (.cons rx (.cons ry .nil))⟩
  ·cases hd
 ·have Gp:(List.zipWith (λ x y=>D.tup [x,y]) xs ys).length<=i:=hl
  rw[List.length_zipWith] at Gp
  lia
@[simp] noncomputable def jy:List T->Option (List T)
 | [x,y]=>(xR x).bind λ xs=>(xR y).map λ ys=>List.zipWith (λ a b=>T.tup [a,b]) xs ys
 | _=>none
theorem dW {S:SS}:∀ {ts us:List T}{ds es:List D},zi S ts ds->zi S us es->zi S (List.zipWith (λ a b=>T.tup [a,b]) ts us) (List.zipWith (λ x y=>D.tup [x,y]) ds es)
 | [],us,ds,es,h,h'=>by simp only[zi] at h;subst h;simpa using zi.nil
 | t::ts,[],ds,es,h,h'=>by simp only[zi] at h';subst h';simpa using zi.nil
 | t::ts,u::us,ds,es,h,h'=>by
  simp only[zi] at h h'
  obtain⟨c,cs,rfl,h1,h2⟩:=h
  obtain⟨c',cs',rfl,h3,h4⟩:=h'
  exact zi.cons (qf (zi.cons h1 (zi.cons h3 zi.nil))) (dW h2 h4)
def zM.sx {S S':SS}{d:D}{ds:List D}(h:zM d S=some ds) (s:Sx S S'):zM d S'=some ds:=by
 unfold zM at h ⊢
 split at h
 ·exact h
 ·exact h
 ·split at h
  ·rename_i q
   cases h
   rw[s _ _ q]
  ·cases h
 ·cases h
def TU {g:Ev->Option (List T)}(h:rZ g tA):rY false (wJ jy g) (aJ tA):=λ S Z Y J ts Q hE e hq=>by
 obtain⟨ys,e1,e2⟩:=Aj.mp e
 refine h S Z Y J ys _ hE e1 λ ds S1 s1 r1=>?_
 unfold jy at e2
 split at e2
 ·obtain⟨xs,e3,e4⟩:=Aj.mp e2
  obtain⟨zs,e5,rfl⟩:=AA.mp e4
  obtain⟨d,d',rfl,h1,h2⟩:=dm r1
  obtain⟨es,g1,g2⟩:=h1.seq e3
  obtain⟨FC,g3,g4⟩:=h2.seq e5
  exact⟨d,d',es,FC,rfl,g1,g3,hq _ S1 s1 (dW g2 g4) λ HK s=>⟨zM.sx g1 s,zM.sx g3 s⟩⟩
 ·cases e2
end
end L5
namespace HT
open PySem PyProof.Rows
section
variable {prog:Program}{w:World}{A:Around}{E:Ad}{s:Shared}
def Oh {t sl:Addr}{items:Ap}{vl vu:Value}{lo hi:Option Int}{Q:Ad}(ht:IsTup s.heap t items) (hs:s.heap.IsSliceOf sl vl vu .none) (pl:IsPart vl lo) (pu:IsPart vu hi)
  (hw:zE items.size 0 lo=0/\zE items.size items.size hi=items.size) (h:Q (.ref t) s):wpAny (model prog w) A (getItem (.ref t) (.ref sl)) Q E s:=by
 have hT:=ht.typeIs
 obtain⟨os,e1,e2,e3⟩:=id hs
 have hS:s.TypeIs (.ref sl) "slice":=⟨os,e1,e2⟩
 unfold getItem
 try with_reducible refine J_ ?_
 first | refine Jg (Ab ?_) | skip
 refine Jg (wpAny_sequenceKey hT (by decide) (Jg (Kj (name:=Str.ofString "__getitem__") hT PyProof.Rows.slot_tuple_getitem (Ke PyProof.Rows.slot_tuple_getitem hT entry_tuple_getitem ?_ (args_tuple_getitem _ _)))))
 refine Jg (m:=Builtin.Tuple.tupleItemsOf (.ref t)) (tupleItemsOf_ ht (Jg (Kr hS ?_)))
 rw[if_pos (by decide)]
 refine Jg (cg hs pl pu ?_)
 have yes:(((zE items.size 0 lo:Nat):Int) == 0&&(1:Int) == 1&&(zE items.size items.size hi-zE items.size 0 lo) == items.size)=true:=by rw[hw.1,hw.2];simp
 show wpAny _ _ (if (((zE items.size 0 lo:Nat):Int) == 0&&(1:Int) == 1&&(zE items.size items.size hi-zE items.size 0 lo) == items.size)=true then _ else _) _ _ s
 rw[if_pos yes]
 refine Jg (m:=Builtin.Tuple.tupleIsExact (.ref t)) (Jg (Kr hT (Ab ?_)))
 rw[if_pos (by decide)]
 first
  | exact Jg (Kk (Ab ⟨_,rfl,Ab h⟩))
  | exact Jg (Kk (Jg (Ab (Ab ⟨_,rfl,Ab h⟩))))
end
end HT
namespace L2
open PySem PySem.Spec PyProof.Rows
section
variable {X:Cx}
def cE (K:Ac):V->Option Int->Option Int->Hp->VK->Prop:=λ x lo hi H Q=>∃ a xs,x=.ref a/\zL K H a xs/\(HT.zE xs.length 0 lo=0/\HT.zE xs.length xs.length hi=xs.length)/\Q (.ref a) H
def W6:rX X (cE X.K):=by
 intro EF s B H x v vl vu lo hi sl Q I rx hs pl pu h
 obtain⟨a,xs,rfl,hx,hw,q⟩:=h
 cases rx
 obtain⟨its,r,ht,hz⟩:=I.tuple hx
 have hlen:its.toArray.size=xs.length:=by rw[Ax];exact r.length.symm
 exact⟨"tuple",_,PyProof.Rows.slot_tuple_getitem.lookup,ht.typeIs,HT.Oh ht hs pl pu (by rw[hlen];exact hw) ⟨.ref a,H,I,rfl,q⟩⟩
end
end L2
namespace L5
open PySem PySem.Spec L2 L3
open PyProof.Rows hiding St
def vo {α:Type}(xs:List α) (lo hi:Option Int):List α:=(xs.drop (HT.zE xs.length 0 lo)).take (HT.zE xs.length xs.length hi-HT.zE xs.length 0 lo)
section
variable {X:Cx}{K:Ac}{e:Expr}{lo hi:Option Expr}{te:zr}{tl th:Option zr}{pos p2:Pos}
def uG (t:Option zr):ye->SS->(Option Int->SS->Prop)->Prop:=fun Y S Q=>match t with
 | none=>Q none S
 | some t=>t Y S λ d S1=>match d with
  | .int i=>Q (some i) S1
  | _=>False
def YD (t:Option zr):Prop:=∀ u,t=some u->yf u
def uG.mo (h:YD tl):∀ Y S (Q Q':Option Int->SS->Prop),(∀ d S',Q d S'->Q' d S')->uG tl Y S Q->uG tl Y S Q':=fun Y S Q Q' hq z=>by
 cases tl with
 | none=>exact hq _ _ z
 | some t=>exact h t rfl Y S _ _ (λ d S1 z=>by cases d <;> first | exact hq _ _ z | exact z) z
noncomputable def X2 (K:Ac) (t:Option zr):TO:=fun B H Q=>∃ Y S,yF K H Y B/\zH K H S/\uG t Y S λ o S1=>∀ H1,Ext H H1->zH K H1 S1->Q o H1
structure kU (X:Cx) (e:Option Expr) (t:Option zr):Prop where
 mo:YD t
 po:PO X e (X2 X.K t)
def UH:kU X none none:=⟨nofun,λ EF s B H Q I h=>by
 obtain⟨Y,S,r1,r2,z⟩:=h
 exact VN EF s B H Q I (z H (.refl H) r2)⟩
def UG (h:PD X e te):kU X (some e) (some te):=⟨λ u q=>by cases q;exact h.mo,λ EF s B H Q I hu=>by
 refine VM h.pe EF s B H Q I ?_
 obtain⟨Y,S,r1,r2,z⟩:=hu
 refine zK.go h.mo r1 r2 z λ d S1 v H1 h1 q1 e1 p1=>?_
 cases d with
 | int i=>simp only[zg] at q1;exact⟨i,q1,h1 H1 e1 p1⟩
 | zm=>exact h1.elim
 | bl _=>exact h1.elim
 | str _=>exact h1.elim
 | err _ _ _=>exact h1.elim
 | tup _=>exact h1.elim
 | xr _=>exact h1.elim
 | ref _=>exact h1.elim⟩
def uF (d:D) (lo hi:Option Int) (S:SS) (Q:DK):Prop:=match d with
 | .tup ds=>Q (.tup (vo ds lo hi)) S
 | d=>∃ ds,zM d S=some ds/\∀ p,S p=none->Q (.ref p) (ups S p (.lst (vo ds lo hi)))
def uF.mo {d:D}{lo hi:Option Int}{S:SS}{Q Q':DK}(hq:∀ d S',Q d S'->Q' d S') (h:uF d lo hi S Q):uF d lo hi S Q':=by
 unfold uF at h ⊢
 split at h
 ·exact hq _ _ h
 ·obtain⟨ds,h1,h2⟩:=h
  exact⟨ds,h1,λ p hp=>hq _ _ (h2 p hp)⟩
def zj.cut {H:Hp}{ds:List D}{xs:List V}(h:zj K H ds xs) (lo hi:Option Int):zj K H (vo ds lo hi) (tG xs lo hi):=by
 have hd:∀ {ds:List D}{xs:List V}(n:Nat),zj K H ds xs->zj K H (ds.drop n) (xs.drop n):=by
  intro ds
  induction ds with
  | nil=>intro xs n h;simp only[zj] at h;subst h;simpa using zj.nil
  | cons d ds ih=>
   intro xs n h
   simp only[zj] at h
   obtain⟨y,ys,rfl,h1,h2⟩:=h
   cases n with
   | zero=>exact .cons h1 h2
   | succ n=>exact ih n h2
 have ht:∀ {ds:List D}{xs:List V}(n:Nat),zj K H ds xs->zj K H (ds.take n) (xs.take n):=by
  intro ds
  induction ds with
  | nil=>intro xs n h;simp only[zj] at h;subst h;simpa using zj.nil
  | cons d ds ih=>
   intro xs n h
   simp only[zj] at h
   obtain⟨y,ys,rfl,h1,h2⟩:=h
   cases n with
   | zero=>exact .nil
   | succ n=>exact .cons h1 (ih n h2)
 unfold vo tG
 rw[h.length]
 exact ht _ (hd _ h)
def Oi {xs:List V}{lo hi:Option Int}(h:HT.zE xs.length 0 lo=0/\HT.zE xs.length xs.length hi=xs.length):tG xs lo hi=xs:=by
 unfold tG
 rw[h.1,h.2]
 simp
abbrev Vu (K:Ac):V->Option Int->Option Int->Hp->VK->Prop:=λ x lo hi H Q=>cG K x lo hi H Q\/(cF K x lo hi H Q\/cE K x lo hi H Q)
def uF.fits {d:D}{v:V}{lo hi:Option Int}{H:Hp}{S:SS}{Q:VK}(h1:zg K H d v) (h2:zH K H S) (h:uF d lo hi S (wx K H Q)):Vu K v lo hi H Q:=by
 unfold uF at h
 split at h
 ·simp only[zg] at h1
  obtain⟨a,xs,rfl,g1,g2⟩:=h1
  by_cases hw:HT.zE xs.length 0 lo=0/\HT.zE xs.length xs.length hi=xs.length
  ·refine .inr (.inr ⟨a,xs,rfl,g1,hw,h _ H ?_ (.refl H) h2⟩)
   simp only[zg]
   refine⟨a,xs,rfl,g1,?_⟩
   have:=zj.cut g2 lo hi
   rw[Oi hw] at this
   exact this
  ·refine .inr (.inl ⟨a,xs,rfl,g1,hw,λ p hp=>h _ _ ?_ (.new hp _) (h2.new hp)⟩)
   simp only[zg]
   exact⟨p,_,rfl,zL.of y6,zj.ext (.new hp _) _ (zj.cut g2 lo hi)⟩
 ·rename_i hn
  obtain⟨ds,e,h⟩:=h
  obtain⟨a,xs,rfl,g1,g2⟩:=rn h1 h2 e (λ ts z=>hn ts z)
  exact .inl ⟨a,xs,rfl,g1,λ p hp=>h p (h2.none hp) _ _ (by simp only[zg]) (.new hp _) (h2.ups (.new hp _) ⟨_,y6,zj.ext (.new hp _) _ (zj.cut g2 lo hi)⟩)⟩
def ZQ (te:zr) (tl th:Option zr):zr:=fun Y S Q=>te Y S λ x S1=>uG tl Y S1 λ l S2=>uG th Y S2 λ u S3=>uF x l u S3 Q
def UO (he:PD X e te) (hl:kU X lo tl) (hh:kU X hi th):PD X (.Subscript e (.Slice lo hi none p2) pos) (ZQ te tl th):=by
 refine⟨fun Y S Q Q' hq z=>he.mo Y S _ _ (λ x S1 z=>uG.mo hl.mo Y S1 _ _ (λ l S2 z=>uG.mo hh.mo Y S2 _ _ (λ u S3 z=>uF.mo hq z) z) z) z,
  PE.imp (Uk (W8.or (W7.or W6)) he.pe hl.po hh.po) fun B H Q hu=>?_⟩
 obtain⟨Y,S,r1,r2,z⟩:=hu
 refine zK.go he.mo r1 r2 z λ x S1 v H1 h1 q1 e1 p1=>?_
 refine⟨Y,S1,r1.ext e1,p1,uG.mo hl.mo Y S1 _ _ (λ l S2 h2 H2 e2 p2=>?_) h1⟩
 refine⟨Y,S2,(r1.ext e1).ext e2,p2,uG.mo hh.mo Y S2 _ _ (λ u S3 h3 H3 e3 p3=>?_) h2⟩
 exact uF.fits (zg.ext (e2.trans e3) x q1) p3 (uF.mo (λ d S' z=>z.ext ((e1.trans e2).trans e3)) h3)
@[simp] noncomputable def fE:Option (Ev->Option T)->Ev->Option (Option Int)
 | none,_=>some none
 | some f,J=>(f J).bind λ x=>match x with
  | .int i=>some (some i)
  | _=>none
def jb (f:Option (Ev->Option T)) (t:Option zr):Prop:=∀ S Z Y J y Q,ER S Z Y J->fE f J=some y->(∀ S',Sx S S'->Q y S')->uG t Y S Q
def Sf:jb none none:=λ S Z Y J y Q hE e hq=>by cases e;exact hq S (.refl S)
def Se {f:Ev->Option T}(h:yv f te):jb (some f) (some te):=λ S Z Y J y Q hE e hq=>by
 obtain⟨x,e1,e2⟩:=Aj.mp e
 refine h S Z Y J x _ hE e1 λ d S1 s1 r1=>?_
 split at e2
 ·cases e2
  cases Vw.int r1
  exact hq S1 s1
 ·cases e2
@[simp] noncomputable def fx (lo hi:Option Int):T->Option T
 | .tup ts=>some (.tup (vo ts lo hi))
 | .lst ts=>some (.lst (vo ts lo hi))
 | _=>none
@[simp] def cj (f:Ev->Option T) (lo hi:Option (Ev->Option T)):Ev->Option T:=fun J=>(f J).bind λ x=>(fE lo J).bind λ l=>(fE hi J).bind λ u=>fx l u x
def zi.cut {S:SS}{ts:List T}{ds:List D}(h:zi S ts ds) (lo hi:Option Int):zi S (vo ts lo hi) (vo ds lo hi):=by
 unfold vo
 rw[h.len]
 exact zi.take' _ (zi.drop' _ h)
def So {f:Ev->Option T}{l u:Option (Ev->Option T)}(h:yv f te) (hl:jb l tl) (hu:jb u th):xp (cj f l u) (ZQ te tl th):=λ S Z Y J y Q hE e hq=>by
 obtain⟨x,e1,e⟩:=Aj.mp e
 obtain⟨l',e2,e⟩:=Aj.mp e
 obtain⟨u',e3,e⟩:=Aj.mp e
 refine h S Z Y J x _ hE e1 λ d S1 s1 r1=>?_
 refine hl S1 Z Y J l' _ (hE.grow s1) e2 λ S2 s2=>?_
 refine hu S2 Z Y J u' _ (hE.grow (s1.trans s2)) e3 λ S3 s3=>?_
 have r3:Vw S3 Z x d:=Vw.grow r1 (s2.trans s3)
 have hz:=(hE.grow ((s1.trans s2).trans s3)).zd
 unfold fx at e
 split at e
 ·cases e
  obtain⟨ds,rfl,h2⟩:=r3.tup
  exact hq _ S3 ((s1.trans s2).trans s3) (Cl.of (λ _=>nofun) (qf (zi.cut h2 _ _)))
 ·cases e
  obtain⟨ds,h1,h2⟩:=r3.seq rfl
  have key:∃ ds,zM d S3=some ds/\∀ p,S3 p=none->Q (.ref p) (ups S3 p (.lst (vo ds l' u'))):=⟨ds,h1,λ p hp=>hq _ _ (((s1.trans s2).trans s3).trans (.new hp _)) (Cl.cl ((s1.trans s2).trans s3) (tZ hz hp (zi.cut h2 _ _)))⟩
  obtain⟨_,q | ⟨a,q,_⟩,_⟩:=r3.lst
  ·subst q;exact key
  ·subst q;exact key
 ·cases e
end
end L5
namespace TM
open PySem PyProof.Rows
def noFill:fillsNumberSlot (.type "tuple") "mul"=pure false:=
 PySem.fillsNumberSlot_seq (id:="tuple.__mul__") (r:=some (.builtin "tuple.__rmul__")) F.slot_tuple_mul.lookup (AB) F.slot_tuple_rmul.lookup (AB)
def rep:seqRepeat? (.type "tuple")=pure (some (.builtin "tuple.__mul__")):=by
 have a:=PySem.seqSlot_of (T:="tuple") (name:="__mul__") (id:="tuple.__mul__") F.slot_tuple_mul.lookup (AB)
 have b:=PySem.seqSlot_of (T:="tuple") (name:="__rmul__") (id:="tuple.__rmul__") F.slot_tuple_rmul.lookup (AB)
 unfold seqRepeat?
 rw[a,b]
 rfl
def declines (i:Int) (t:Tok) (l:Addr) (items:Ap) (n:Nat) (dd:Option Addr) (sl:Array (Option Value)):
  Meets (Builtin.«int.__rmul__» ⟨[.int i t,.ref l],[]⟩) (λ _ R s=>s.heap.get? l=some { cls:=.type "tuple",dict:=dd,data:=.seq items n,slots:=sl }/\R (.ok (.ret Value.notImplemented)) s):=
 .of_wp λ prog w A R s h=>by
  obtain⟨hp,g,d,tk,os⟩:=s
  obtain⟨hl,h⟩:=h
  wp_walk
  exact⟨_,rfl,h⟩
theorem gT {α:Type}(xs:List α):∀ (m:Nat) (acc:Array α),(List.replicate m xs.toArray).foldl (·++·) acc=acc++(List.replicate m xs).flatten.toArray
 | 0,acc=>by simp
 | m+1,acc=>by
  rw[BK,Dq,gT xs m,BK,Ce,Array.append_assoc]
  simp
def R8 (k:Int) (t:Tok) (l:Addr) (items:Ap) (n:Nat) (dd:Option Addr) (sl:Array (Option Value)) (h1:¬ (decide (k < -(2 ^ 63))||decide (k≥2 ^ 63))=true) (h2:¬ (items.isEmpty||k == 1)=true) (h3:¬ (decide (k<=0)||items.isEmpty)=true)
  (h4:¬ (items.size*k>(2 ^ 63-1)/8)) (h5:¬ Builtin.Tuple.tupleTooMany (items.size*k)=true) (h6:((List.replicate k.toNat items).foldl (·++·) #[]).size<=sizeLine):
  Meets (Builtin.«tuple.__mul__» ⟨[.ref l,.int k t],[]⟩) (λ _ R s=>s.heap.get? l=some { cls:=.type "tuple",dict:=dd,data:=.seq items n,slots:=sl }/\
   R (.ok (.ret (.ref s.heap.objs.size))) { s with heap:=s.heap.push { cls:=.type "tuple",data:=.seq ((List.replicate k.toNat items).foldl (·++·) #[]) } }):=
 .of_wp λ prog w A R s h=>by
  obtain⟨hp,g,d,tk,os⟩:=s
  obtain⟨hl,h⟩:=h
  have e0:IsTup (Shared.heap ⟨hp,g,d,tk,os⟩) l items:=⟨_,hl,rfl,n,rfl⟩
  wp_walk
  rw[if_neg h1]
  refine Jg (m:=Builtin.Tuple.tupleItemsOf (.ref l)) (tupleItemsOf_ e0 ?_)
  dsimp only
  rw[if_neg h2,if_neg h3,if_neg h4,if_neg h5]
  exact Jg (m:=Builtin.Tuple.tupleExact _) (Kf (Ab ⟨_,rfl,h⟩) h6)
def RA (t:Tok) (l:Addr) (items:Ap) (n:Nat) (dd:Option Addr) (sl:Array (Option Value)):
  Meets (Builtin.«tuple.__mul__» ⟨[.ref l,.int 1 t],[]⟩) (λ _ R s=>s.heap.get? l=some { cls:=.type "tuple",dict:=dd,data:=.seq items n,slots:=sl }/\R (.ok (.ret (.ref l))) s):=
 .of_wp λ prog w A R s h=>by
  obtain⟨hp,g,d,tk,os⟩:=s
  obtain⟨hl,h⟩:=h
  have c:(items.isEmpty||(1:Int) == 1)=true:=by simp
  wp_walk
  exact⟨_,rfl,h⟩
section
variable {prog:Program}{w:World}{A:Around}{E:Ad}{s:Shared}
def times {l:Addr}{its:Ae}{k:Int}{t:Tok}{Q:Ad}(ht:IsTup s.heap l its.toArray) (Aq:its≠[]) (h0:1<=k) (hz:its.length*k.toNat<=sizeLine)
  (one:k=1->Q (.ref l) s) (more:k≠1->Q (.ref s.heap.objs.size) { s with heap:=s.heap.push { cls:=.type "tuple",data:=.seq (List.replicate k.toNat its).flatten.toArray } }):
  wpAny (model prog w) A (binaryOp .Mult (.ref l) (.int k t)) Q E s:=by
 have hT:=ht.typeIs
 obtain⟨⟨cls,dd,data,sl⟩,ho,hc,n,hd⟩:=id ht
 simp only at hc hd
 subst hc hd
 refine wpAny_binaryOp_repeat_ref (T:="tuple") (U:="int") (by decide) hT (λ s'=>typeIs_int s' k t) noFill F.fills_int_mul F.slot_int_rmul rep F.slot_int_index.lookup
  (call_meets F.slot_int_rmul (typeIs_int s k t) F.entry_int_rmul (F.args_int_rmul_2 _ _) (declines k t l its.toArray n dd sl) ⟨ho,rfl,hT,?_⟩)
 have hlen:0<its.length:=List.length_pos_iff.mpr Aq
 have DI:its.toArray.isEmpty=false:=by cases its with
  | nil=>exact absurd rfl Aq
  | cons a r=>rfl
 by_cases h1:k=1
 ·subst h1
  exact call_meets F.slot_tuple_mul hT F.entry_tuple_mul (F.args_tuple_mul_2 _ _) (RA t l its.toArray n dd sl) ⟨ho,one rfl⟩
 ·have hks:k.toNat<=sizeLine:=Bk (Nat.le_mul_of_pos_left _ hlen) hz
  have hl:sizeLine=16777216:=rfl
  have JH:k<=16777216:=by lia
  have Hl:((its.toArray.size:Nat):Int)*k=((its.length*k.toNat:Nat):Int):=by
   rw[Ax,Int.natCast_mul,C0 (by lia)]
  have hf:(List.replicate k.toNat its.toArray).foldl (·++·) #[]=(List.replicate k.toNat its).flatten.toArray:=by rw[gT];simp
  have Ex:(List.replicate k.toNat its).flatten.length=k.toNat*its.length:=by simp
  refine call_meets F.slot_tuple_mul hT F.entry_tuple_mul (F.args_tuple_mul_2 _ _) (R8 k t l its.toArray n dd sl ?_ ?_ ?_ ?_ ?_ ?_) ⟨ho,?_⟩
  ·simp only[DQ,decide_eq_true_eq,not_or]
   exact⟨by lia,by lia⟩
  ·rw[DI];simpa using h1
  ·rw[DI];simp;lia
  ·rw[Hl];lia
  ·rw[Hl]
   intro q
   unfold Builtin.Tuple.tupleTooMany at q
   have:=of_decide_eq_true q
   lia
  ·rw[hf,Ax,Ex,Dt];exact hz
  ·rw[hf];exact more h1
end
end TM
namespace L2
open PySem PySem.Spec PyProof.Rows
def i9 (K:Ac):R2:=λ x y H Q=>∃ a k xs,x=.ref a/\y=.int k/\zL K H a xs/\xs≠[]/\1<=k/\xs.length*k.toNat<=sizeLine/\(k=1->Q (.ref a) H)/\(k≠1->∀ p,H p=none->Q (.ref p) (upd H p (.tup (List.replicate k.toNat xs).flatten)))
def Tp {X:Cx}:ya X (binaryOp .Mult) (i9 X.K):=by
 intro EF s B H x y v u Q I rx ry h
 obtain⟨a,k,xs,rfl,rfl,hx,Aq,h1,hz,q1,q2⟩:=h
 cases rx
 obtain⟨t,rfl⟩:=ry
 obtain⟨its,r,ht,_⟩:=I.tuple hx
 have hl:=r.length
 refine TM.times ht (λ z=>Aq (r.nC.mp z)) h1 (by rw[<- hl];exact hz) (λ e=>⟨.ref a,H,I,rfl,q1 e⟩) λ e=>?_
 have hlen:(List.replicate k.toNat xs).flatten.length<=sizeLine:=by
  have:(List.replicate k.toNat xs).flatten.length=k.toNat*xs.length:=by simp
  rw[this,Dt];exact hz
 exact⟨.ref _,_,I.laid (t':=s.toks) (o:=.tup (List.replicate k.toNat xs).flatten) (λ b ob q=>J9 _ q) (Ah _) ⟨hlen,_,r.rep k.toNat,IsTup.new _ _⟩,rfl,q2 e _ (I.zw.fresh (Ah _))⟩
end L2
namespace L5
open PySem PySem.Spec L2 L3
open PyProof.Rows hiding St
section
variable {K:Ac}{a:Expr}
def tu:yJ:=λ x y S Q=>match x,y with
 | .int i,.int j=>vU i j/\Q (.int (i*j)) S
 | .tup ds,.int k=>(ds≠[]/\1<=k/\ds.length*k.toNat<=sizeLine)/\Q (.tup (List.replicate k.toNat ds).flatten) S
 | _,_=>False
noncomputable def gh:T->T->Option T
 | .int i,.int j=>if vU i j then some (.int (i*j)) else none
 | .tup ts,.int k=>if ts≠[]/\1<=k/\ts.length*k.toNat<=sizeLine then some (.tup (List.replicate k.toNat ts).flatten) else none
 | _,_=>none
def tu.mo:xv tu:=λ x y S Q Q' hq h=>by
 unfold tu at h ⊢
 split at h
 ·exact⟨h.1,hq _ _ h.2⟩
 ·exact⟨h.1,hq _ _ h.2⟩
 ·exact h.elim
theorem zj.rep {H:Hp}{ds:List D}{xs:List V}(h:zj K H ds xs):∀ n:Nat,zj K H (List.replicate n ds).flatten (List.replicate n xs).flatten
 | 0=>.nil
 | n+1=>by
  rw[BK,BK,Ce,Ce]
  exact h.append (zj.rep h n)
def tu.fits:xq K tu (λ x y H Q=>rI vU (λ i j=>.int (i*j)) x y H Q\/i9 K x y H Q):=λ x y d e H S Q h1 h2 h3 h=>by
 unfold tu at h
 split at h
 ·simp only[zg] at h1 h2
  exact .inl ⟨_,_,h1,h2,h.1,h.2 _ H (by simp only[zg]) (.refl H) h3⟩
 ·rename_i ds k
  obtain⟨⟨c1,c2,c3⟩,h⟩:=h
  have IE:=h1
  simp only[zg] at h1 h2
  obtain⟨a,xs,rfl,g1,g2⟩:=h1
  have hl:=g2.length
  refine .inr ⟨a,k,xs,rfl,h2,g1,λ z=>c1 (by subst z;cases ds with | nil=>rfl | cons _ _=>simp at hl),c2,by rw[<- hl];exact c3,λ e=>?_,λ e p hp=>?_⟩
  ·subst e
   refine h _ H ?_ (.refl H) h3
   have:(List.replicate (1:Int).toNat ds).flatten=ds:=by simp
   rw[this];exact IE
  ·refine h _ _ ?_ (.new hp _) (h3.new hp)
   simp only[zg]
   exact⟨p,_,rfl,zL.of y6,zj.ext (.new hp _) _ (zj.rep g2 _)⟩
 ·exact h.elim
theorem zi.rep {S:SS}{ts:List T}{ds:List D}(h:zi S ts ds):∀ n:Nat,zi S (List.replicate n ts).flatten (List.replicate n ds).flatten
 | 0=>.nil
 | n+1=>by
  rw[BK,BK,Ce,Ce]
  exact h.append (zi.rep h n)
def Zk:Good2 zF gh tu:=λ S Z x y z d e Q hz hx hy ef hq=>by
 unfold gh at ef
 split at ef
 ·split at ef
  ·rename_i hc
   cases ef
   cases hx.int;cases hy.int
   exact⟨hc,hq _ S (.refl S) (Cl.of (λ _=>nofun) wc)⟩
  ·cases ef
 ·split at ef
  ·rename_i hc
   cases ef
   obtain⟨ds,rfl,h2⟩:=hx.tup
   cases hy.int
   have hl:=h2.len
   exact⟨⟨λ q=>hc.1 (by subst q;simpa using hl.symm),hc.2.1,by rw[hl];exact hc.2.2⟩,hq _ S (.refl S) (Cl.of (λ _=>nofun) (qf (zi.rep h2 _)))⟩
  ·cases ef
 ·cases ef
end
end L5
namespace L4
open PySem PyProof.Rows
section
variable {prog:Program}{w:World}{A:Around}{E:Ad}{s:Shared}
def Ou {l:Addr}{vs:Ae}{Q:List Value->Shared->Prop}(hl:IsTup s.heap l vs.toArray) (hz:vs.length<=sizeLine)
  (h:Q vs { s with heap:=(s.heap.push (seqObj "list" #[] 0)).update s.heap.objs.size (Obj.mapSeq (·++vs.toArray)) }):wpAny (model prog w) A (collect (.ref l)) Q E s:=by
 obtain⟨o,ho,hc,n,hd⟩:=id hl
 have new:(s.heap.push (seqObj "list" #[] 0)).get? s.heap.objs.size=some (seqObj "list" #[] 0):=AD _ rfl
 have FT:(s.heap.push (seqObj "list" #[] 0)).get? l=some o:=J9 _ ho
 unfold collect
 refine Jg (wpAny_runValue (codeAny_builtin entry_proto_collect' (Jg (m:=newList []) (wpAny_newList (Ab ⟨Code.quiet_builtin _ (AB),codeAny_builtin entry_list_iadd' ?_⟩)))))
 show wpAny _ _ (Builtin.List.listExtendWith (.ref s.heap.objs.size) (.ref l) (.ref s.heap.objs.size)) _ _ { s with heap:=s.heap.push (seqObj "list" #[] 0) }
 unfold Builtin.List.listExtendWith
 refine Jg (Kr (T:="tuple") ⟨o,FT,hc⟩ ?_)
 rw[if_pos (by rw[show (Value.type "tuple" == Value.type "tuple")=true from rfl];simp)]
 refine Jg (listItems_at FT hd (Jg (listItems_at (xs:=#[]) (n:=0) new rfl ?_)))
 rw[if_neg (by simp)]
 refine Jg (listUpdate_at (xs:=#[]) (n:=0) new rfl (Ab ?_) (AN _) (by show (#[]++vs.toArray).size<=sizeLine+1;simp only[Array.size_append,Ax,CW];lia))
 refine Jg (m:=load s.heap.objs.size) (wpAny_load (get?_update_seq new _) ?_)
 show wpAny _ _ (pure ((#[]:Ap)++vs.toArray).toList) Q E _
 have e:((#[]:Ap)++vs.toArray).toList=vs:=by simp
 rw[e]
 exact Ab h
def Ww {l:Addr}{vs:Ae}{Q:Ad}{Out:Array Value->Prop}(hl:IsTup s.heap l vs.toArray) (hz:vs.length<=sizeLine)
  (core:2<=vs.length->∀ s6:Shared,(∀ b o,s.heap.get? b=some o->s6.heap.get? b=some o)->Core prog w A.in1.in1 E vs Out s6) (short:vs.length<2->Out vs.toArray)
  (fin:∀ out:Array Value,Out out->out.size=vs.length->Q (.ref (s.heap.objs.size+1)) { s with heap:=sortedAll s.heap vs out }):
  wpAny (model prog w) A (call (.builtin "sorted") [.ref l]) Q E s:=by
 let h1:=(s.heap.push (seqObj "list" #[] 0)).update s.heap.objs.size (Obj.mapSeq (·++vs.toArray))
 have sz:h1.objs.size=s.heap.objs.size+1:=by show (Heap.update _ _ _).objs.size=_;rw[Heap.size_update,size_push']
 have there:(h1.push (seqObj "list" vs.toArray 0)).get? (s.heap.objs.size+1)=some (seqObj "list" vs.toArray 0):=sz▸AD _ rfl
 have keep:∀ b o,s.heap.get? b=some o->(h1.push (seqObj "list" vs.toArray 0)).get? b=some o:=λ b o q=>by
  refine J9 _ ?_
  show (Heap.update _ _ _).get? b=_
  rw[Heap.get?_update_ne _ _ _ _ (Au (Am q))]
  exact J9 _ q
 refine Calls.call_function_entry kind_sorted plain_sorted entry_sorted (args_sorted1 _) ?_
 unfold Builtin.«sorted»
 refine Jg (m:=checkCount "sorted" 1 1 _) (Ab (Jg (Ou hl hz (Jg (wpAny_newList ?_ hz)))))
 show wpAny _ _ _ _ _ { s with heap:=h1.push (seqObj "list" vs.toArray 0) }
 rw[show (Heap.update (s.heap.push (seqObj "list" #[] 0)) s.heap.objs.size (Obj.mapSeq (·++vs.toArray))).objs.size=s.heap.objs.size+1 from sz]
 refine Jg (J_ (Ke slot_list_sort ⟨_,there,rfl⟩ entry_list_sort (gr there hz (λ h2 s6 k=>core h2 s6 λ b o q=>k b o (Au (Bb (Am q))) (keep b o q)) short λ out g1 g2=>⟨_,rfl,?_⟩) (args_list_sort _)))
 exact Ab ⟨_,rfl,fin out g1 g2⟩
end
section
open L2 PySem.Spec
variable {X:Cx}
def O2:y8 X (.builtin "sorted") (λ xs H Q=>∃ p ys,∃ rows:List (List Int),xs=[.ref p]/\zL X.K H p ys/\Paired (λ v r=>r≠[]/\∃ b,v=V.ref b/\zL X.K H b (r.map V.int)) ys rows/\rows.length<64/\
  ∀ (l:Addr) (idx:List Nat),H l=none->idx.Perm (List.range ys.length)->(idx.map λ i=>rows.getD i []).Pairwise (λ a b=>HT.lexLt b a=false)->Q (.ref l) (upd H l (.lst (idx.map λ i=>ys.getD i .zm)))):=by
 intro EF s B H xs us Q I r h
 obtain⟨p,ys,rows,rfl,hq,hr,F4,q⟩:=h
 obtain⟨u,rfl,ru⟩:=vals1 r
 cases ru
 obtain⟨its,rv,pl,hz⟩:=I.tuple hq
 have hl:=rv.length
 have BM:ys.length=rows.length:=Paired.length hr
 have Fw:∀ h6:Heap,(∀ b o,s.heap.get? b=some o->h6.get? b=some o)->sS h6 its rows:=λ h6 k=>by
  refine ST.Paired.mk (by lia) λ i a b ha hb=>?_
  have hi:i<ys.length:=by have:=(AI.mp hb).1;lia
  obtain⟨Aq,c,hc,Cu⟩:=L4.Paired.at' hr (i:=i) hi V.zm ([]:List Int)
  obtain⟨u,e1,e2⟩:=rv.get (i:=i) (x:=ys.getD i V.zm) (by simp[hi])
  rw[ha] at e1;cases e1
  rw[hc] at e2
  cases (show a=Value.ref c from e2)
  obtain⟨Fc,GG,⟨o,e,AM,n,hd⟩,_⟩:=I.tuple Cu
  have eb:rows.getD i []=b:=by simp[hb]
  rw[eb] at Aq GG
  exact⟨Aq,c,o,_,n,rfl,k _ _ e,AM,hd,by simpa using intsAre_of GG⟩
 refine Ww (Out:=mM its rows) pl (by rw[<- hl];exact hz) (λ h2 s6 k=>fy (Fw _ k) h2 (by lia)) (λ h1=>?_) λ out ho hs=>?_
 ·refine⟨List.range its.length,.refl _,?_,?_⟩
  ·refine BP (by simp) λ i h1 h2=>?_
   simp at h1
   simp[h1]
  ·rw[Cd,Cc]
   intro i j hi hj A3
   simp at hi hj
   lia
 ·obtain⟨idx,g1,g2,g3⟩:=ho
  obtain⟨e,ho⟩:=sortedAll_at s.heap its out
  have GZ:idx.Perm (List.range ys.length):=by rw[hl];exact g1
  refine⟨.ref (s.heap.objs.size+1),_,I.laid (t':=s.toks) (o:=.lst (idx.map λ i=>ys.getD i .zm)) (λ b o q=>sortedAll_old q) (CT _) ?_,rfl,q _ idx (I.zw.fresh (CT _)) GZ g3⟩
  refine⟨by rw[Ay,GZ.length_eq,BV];exact hz,out.toList,e,?_,by simpa using ho⟩
  rw[g2]
  refine ST.Paired.mk (by simp) λ j a b ha hb=>?_
  rw[Az] at ha hb
  obtain⟨i,hi,rfl⟩:=AA.mp ha
  rw[hi] at hb
  cases hb
  have CM:i<ys.length:=by simpa using GZ.mem_iff.mp (Bf hi)
  obtain⟨u,e1,e2⟩:=rv.get (i:=i) (x:=ys.getD i V.zm) (by simp[CM])
  have e3:its.getD i Value.none=u:=by simp[e1]
  show L2.RelV (ys.getD i V.zm) (its.getD i Value.none)
  rw[e3];exact e2
end
end L4
namespace L5
open PySem PySem.Spec L2 L3
open PyProof.Rows hiding St
section
variable {X:Cx}{K:Ac}{e:Expr}{es:List Expr}{tA:yh}{pos p:Pos}
def rK:xn:=λ ds S Q=>∃ d,∃ rows:List (List Int),ds=[d]/\zM d S=some (rows.map xS)/\rows.length<64/\(∀ r∈rows,r≠[])/\∀ l,S l=none->Q (.ref l) (ups S l (.lst ((L4.xw rows).map xS)))
noncomputable def qX:List T->Option T
 | [y]=>(xR y).bind λ ts=>(vX ts).bind λ rs=>if rs.length<64/\∀ r∈rs,r≠[] then some (.lst ((L4.xw rs).map zR)) else none
 | _=>none
def QQ:vx zF qX rK:=λ S Z ys z ds Q hz hv e hq=>by
 unfold qX at e
 split at e
 ·obtain⟨d,rfl,h1⟩:=vz hv
  obtain⟨ts,e0,e⟩:=Aj.mp e
  obtain⟨rs,e1,e2⟩:=Aj.mp e
  split at e2
  ·rename_i hc
   cases e2
   cases i4 e1
   obtain⟨es,h2,h3⟩:=h1.seq e0
   cases qY.mp h3
   exact⟨d,rs,rfl,h2,hc.1,hc.2,λ l hl=>hq _ _ (.new hl _) (tZ hz hl (qY.mpr rfl))⟩
  ·cases e2
 ·cases e
def rK.mo:vw rK:=λ ds S Q Q' hq ⟨d,rows,h0,h1,h2,h3,h4⟩=>⟨d,rows,h0,h1,h2,h3,λ l hl=>hq _ _ (h4 l hl)⟩
abbrev cD (K:Ac) (sq:Hp->Addr->List V->Prop):List V->Hp->VK->Prop:=λ xs H Q=>∃ p ys,∃ rows:List (List Int),xs=[.ref p]/\sq H p ys/\Paired (λ v r=>r≠[]/\∃ b,v=V.ref b/\zL K H b (r.map V.int)) ys rows/\rows.length<64/\
  ∀ (l:Addr) (idx:List Nat),H l=none->idx.Perm (List.range ys.length)->(idx.map λ i=>rows.getD i []).Pairwise (λ a b=>HT.lexLt b a=false)->Q (.ref l) (upd H l (.lst (idx.map λ i=>ys.getD i .zm)))
def y8.or {f:Value}{r r':List V->Hp->VK->Prop}(h:y8 X f r) (h':y8 X f r'):y8 X f (λ xs H Q=>r xs H Q\/r' xs H Q):=λ EF s B H xs us Q I rv q=>
 q.elim (λ q=>h EF s B H xs us Q I rv q) λ q=>h' EF s B H xs us Q I rv q
def rK.fits:uv K rK (λ xs H Q=>cD K (zJ K) xs H Q\/cD K (zL K) xs H Q):=λ xs ds H S Q h0 h2 h=>by
 obtain⟨d,rows,rfl,e,F4,Aq,h⟩:=h
 obtain⟨x,hx,h1⟩:=h0.one;subst hx
 obtain⟨a,ys,rfl,g1,g2⟩:=zM.sq h1 h2 e
 have hl:=g2.length
 rw[Ay] at hl
 have key:∀ (l:Addr) (idx:List Nat),H l=none->idx.Perm (List.range ys.length)->(idx.map λ i=>rows.getD i []).Pairwise (λ a b=>HT.lexLt b a=false)->Q (.ref l) (upd H l (.lst (idx.map λ i=>ys.getD i .zm))):=λ l idx hf hp hs=>by
  rw[<- hl] at hp
  have heq:=L4.dR (ah hp) hs
  have hx:Ext H (upd H l (.lst (idx.map λ i=>ys.getD i .zm))):=.new hf _
  refine h l (h2.none hf) _ _ (by simp only[zg]) hx (h2.ups hx ⟨_,y6,?_⟩)
  rw[<- heq]
  exact zj.ext hx _ (g2.perm λ i hi=>by simpa using hp.mem_iff.mp hi)
 rcases g1 with g1 | g1
 ·exact .inl ⟨_,ys,rows,rfl,g1,oU g2 Aq,F4,key⟩
 ·exact .inr ⟨_,ys,rows,rfl,g1,oU g2 Aq,F4,key⟩
def bq (hm:X.mg "sorted"=none) (ha:yY X (e::es) tA) (hg:Gl X "sorted":=by rfl) (he:starEach (e::es) X.env=(false,eval e X.env)::starEach es X.env:=by rfl) (An:(backTo pos (starEach es X.env)).any (·.1)=false:=by rfl):PD X (.Call (.Name "sorted" p) (e::es) [] pos) (xm rK tA):=
 u6 (uS (y8.or L4.O5 L4.O2) hg hm boot_sorted ha.pa (by decide) (by decide) he An) rK.mo rK.fits ha.mo
end
end L5
namespace L2
open PySem PySem.Spec PyProof.Rows
section
variable {X:Cx}
def uq (r:Addr) (j:Int):Heap->Prop:=λ h=>∃ t u v,IsRange h r 0 j 1 t u v
def OA:y8 X (.type "range") (λ xs H Q=>∃ j,xs=[.int j]/\∀ r,H r=none->Q (.ref r) (upd H r (.ext (uq r j)))):=by
 intro EF s B H xs us Q I r h
 obtain⟨j,rfl,q⟩:=h
 obtain⟨u,rfl,ru⟩:=vals1 r
 obtain⟨t,rfl⟩:=ru
 refine call_range_1 ⟨.ref s.heap.objs.size,_,I.laid (o:=.ext (uq s.heap.objs.size j)) (λ b o e=>J9 _ e) (Ah _) ?_,rfl,q _ (I.zw.fresh (Ah _))⟩
 have here:uq s.heap.objs.size j (s.heap.push { cls:=.type "range",data:=.fields #[.int 0 s.toks,.int j t,.int 1 (s.toks+1)] }):=⟨_,_,_,IsRange.new ..⟩
 refine⟨here,⟨_,AD _ rfl⟩,λ h1 h2 S k=>?_⟩
 obtain⟨a,b,c,e⟩:=S
 exact⟨a,b,c,k _ e⟩
def OE (hc:X.calm=true):y8 X (.type "list") (λ xs H Q=>∃ r j,xs=[.ref r]/\H r=some (.ext (uq r j))/\0<=j/\j<=16777216/\∀ l,H l=none->Q (.ref l) (upd H l (.lst ((List.range j.toNat).map λ(k:Nat)=>V.int (k:Int))))):=by
 intro EF s B H xs us Q I r h
 obtain⟨a,j,rfl,hr,h0,h1,q⟩:=h
 obtain⟨u,rfl,ru⟩:=vals1 r
 cases ru
 obtain⟨⟨t,u,v,hR⟩,-,-⟩:=(show yO X.prog X.w H s.heap a (.ext (uq a j)) from I.zw a _ hr)
 have hsz:Builtin.Range.rangeSize 0 j 1=((j.toNat:Nat):Int):=by rw[rangeSize_one];split <;> lia
 refine call_list_range (n:=j.toNat) (I.ok.hd hc) hR (small_one (by decide) (by decide) (by lia) (by lia)) hsz (by lia) λ h' tk acc c k e hi=>?_
 refine⟨.ref s.heap.objs.size,_,I.laid (o:=.lst ((List.range j.toNat).map λ(k:Nat)=>V.int (k:Int))) k (Ah _) ⟨?_,acc.toList,c,?_,by simpa using e⟩,rfl,q _ (I.zw.fresh (Ah _))⟩
 ·have:sizeLine=16777216:=rfl
  simp;lia
 ·obtain⟨hn,hi⟩:=hi
  refine ST.Paired.mk (by simp[hn]) λ i a b ha hb=>?_
  rw[Az] at ha
  obtain⟨k',hk,rfl⟩:=AA.mp ha
  obtain⟨hk1,JH⟩:=AI.mp hk
  simp at JH
  subst JH
  obtain⟨w,hw⟩:=hi i b (by simpa using hb)
  subst hw
  exact⟨w,by simp⟩
end
end L2
namespace L5
open PySem PySem.Spec L2 L3
open PyProof.Rows hiding St
section
variable {X:Cx}{K:Ac}{e:Expr}{tA:yh}{pos p FL p2:Pos}
def sH:xn:=λ ds S Q=>∃ j:Int,ds=[.int j]/\0<=j/\j<=16777216/\∀ l,S l=none->Q (.ref l) (ups S l (.lst (v8 0 j.toNat)))
noncomputable def nH:List T->Option T
 | [.int j]=>if 0<=j/\j<=16777216 then some (.lst (rangeT 0 j.toNat)) else none
 | _=>none
def QV:vx zF nH sH:=λ S Z ys z ds Q hz hv e hq=>by
 unfold nH at e
 split at e
 ·obtain⟨d,rfl,h1⟩:=vz hv
  split at e
  ·rename_i hc
   cases e
   cases h1.int
   exact⟨_,rfl,hc.1,hc.2,λ l hl=>hq _ _ (.new hl _) (tZ hz hl (dX _ _))⟩
  ·cases e
 ·cases e
def sH.mo:vw sH:=λ ds S Q Q' hq ⟨j,h0,h1,h2,h3⟩=>⟨j,h0,h1,h2,λ l hl=>hq _ _ (h3 l hl)⟩
def Vl {H:Hp}(n:Nat):zj K H (v8 0 n) ((List.range n).map λ(k:Nat)=>V.int (k:Int)):=by
 unfold v8
 induction List.range n with
 | nil=>exact .nil
 | cons k l ih=>exact .cons (by simp only[zg];rw[Int.zero_add]) ih
def sH.fits:uv K sH (λ xs H Q=>∃ j,xs=[.int j]/\∀ r,H r=none->∃ r' j',[V.ref r]=[.ref r']/\(upd H r (.ext (uq r j))) r'=some (.ext (uq r' j'))/\0<=j'/\j'<=16777216/\
  ∀ l,(upd H r (.ext (uq r j))) l=none->Q (.ref l) (upd (upd H r (.ext (uq r j))) l (.lst ((List.range j'.toNat).map λ(k:Nat)=>V.int (k:Int))))):=λ xs ds H S Q h0 h2 h=>by
 obtain⟨j,rfl,c1,c2,h⟩:=h
 obtain⟨x,hx,h1⟩:=h0.one;subst hx
 simp only[zg] at h1
 subst h1
 refine⟨j,rfl,λ r hr=>⟨r,j,rfl,y6,c1,c2,λ l hl=>?_⟩⟩
 have x1:Ext H (upd H r (.ext (uq r j))):=.new hr _
 have BM:l≠r:=λ z=>by subst z;rw[y6] at hl;cases hl
 have hlH:H l=none:=by rw[yj BM] at hl;exact hl
 have x2:Ext (upd H r (.ext (uq r j))) (upd (upd H r (.ext (uq r j))) l (.lst ((List.range j.toNat).map λ(k:Nat)=>V.int (k:Int)))):=.new hl _
 exact h l (h2.none hlH) _ _ (by simp only[zg]) (x1.trans x2) ((h2.new hr).ups x2 ⟨_,y6,Vl _⟩)
def UR (hm:X.mg "list"=none) (G7:X.mg "range"=none) (ha:yY X [e] tA) (hc:X.calm=true:=by rfl) (hg:Gl X "list":=by rfl) (GC:Gl X "range":=by rfl)
  (Iy:starEach [e] X.env=(false,eval e X.env)::starEach [] X.env:=by rfl)
  (he:starEach [.Call (.Name "range" p2) [e] [] FL] X.env=(false,eval (.Call (.Name "range" p2) [e] [] FL) X.env)::starEach [] X.env:=by rfl) (An:(backTo pos (starEach [] X.env)).any (·.1)=false:=by rfl) (HC:(backTo FL (starEach [] X.env)).any (·.1)=false:=by rfl):
  PD X (.Call (.Name "list" p) [.Call (.Name "range" p2) [e] [] FL] [] pos) (xm sH tA):=by
 have h:=nj (p:=p) (OE hc) hg hm PyProof.Rows.boot_list (qp (nj OA GC G7 boot_range ha.pa (by decide) (by decide) Iy HC) p9 he) (by decide) (by decide) he An
 exact⟨xm.mo sH.mo ha.mo,PE.imp h λ _ _ _ hu=>dE sH.mo sH.fits ha.mo hu⟩
end
end L5
namespace ST
open PySem PySem.SetTable PySem.Spec PyProof.Rows L2
def Q9 {us Ha:Ae}(p:Ha.Perm us):∀ {ms:List Int},IntsAre us ms->∃ FY,IntsAre Ha FY/\FY.Perm ms:=by
 induction p with
 | nil=>intro ms h;exact⟨ms,h,.refl _⟩
 | cons x _ ih=>
  intro ms h
  cases h with
  | cons n t h=>
   obtain⟨FY,h1,h2⟩:=ih h
   exact⟨n::FY,.cons n t h1,h2.cons n⟩
 | swap x y l=>
  intro ms h
  cases h with
  | cons n t h=>
   cases h with
   | cons m u h=>exact⟨m::n::_,.cons m u (.cons n t h),.swap _ _ _⟩
 | trans _ _ Jw Jv=>
  intro ms h
  obtain⟨m1,h1,h2⟩:=Jv h
  obtain⟨m2,h3,h4⟩:=Jw h1
  exact⟨m2,h3,h4.trans h2⟩
def vR.at {prog:Program}{w:World}{h:Heap}{a:Addr}{xs:List (Int×Tok)}(S:vR prog w h a xs (vE w)):yE w a (xs.map λ e=>Value.int e.1 e.2) h:=by
 obtain⟨⟨es,ep,t,ho,he,T,h1,h2,h3⟩,_⟩:=S
 have hm:7<=t.mask/\t.mask<=127:=by rcases T.mask with e | e | e <;> lia
 have hlen:es.size=xs.length:=by have:=congrArg List.length he;simpa using this
 exact⟨es,ep,t,⟨ho,fits_of (n:=xs.length) hlen T (by simp) (by lia),T.wB,h1,h2⟩,by rw[he,AU];rfl⟩
theorem Zd:∀ xs:List (Int×Tok),IntsAre (xs.map λ e=>Value.int e.1 e.2) (xs.map (·.1))
 | []=>.nil
 | e::xs=>.cons e.1 e.2 (Zd xs)
theorem dn:∀ {us:Ae}{ns:List Int},IntsAre us ns->Vals (ns.map V.int) us
 | _,_,.nil=>.nil
 | _,_,.cons n t h=>.cons ⟨t,rfl⟩ (dn h)
section
variable {X:Cx}
def O7 (hc:X.calm=true):y8 X (.type "set") (λ xs H Q=>∃ p,∃ ns:List Int,xs=[.ref p]/\zJ X.K H p (ns.map V.int)/\ns.length<64/\
  ∀ (l:Addr) (us:Ae) (ms:List Int),H l=none->IntsAre us ms->ms.Nodup->(∀ n,n∈ms↔n∈ns)->Q (.ref l) (upd H l (.ext (yE X.w l us)))):=by
 intro EF s B H xs us Q I r h
 obtain⟨p,ns,rfl,hq,F4,q⟩:=h
 obtain⟨u,rfl,ru⟩:=vals1 r
 cases ru
 obtain⟨its,rv,pl,hz⟩:=I.list hq
 have hl:=rv.length
 rw[Ay] at hl
 have iA:IntsAre its ns:=intsAre_of rv
 have nums:Nums its.toArray ns:=λ i v hv=>by
  have Gh:its[i]?=some v:=by simpa using hv
  have hi:i<ns.length:=by rw[hl];exact (AI.mp Gh).1
  obtain⟨u,e1,t,e2⟩:=rv.get (i:=i) (x:=V.int ns[i]) (by simp[hi])
  rw[Gh] at e1;cases e1
  exact⟨ns[i],t,e2,by simp[hi]⟩
 have hh:X.A.handled=none:=I.ok.hd hc
 refine O8 (A:=X.A) hh pl.isList nums (by rw[Ax];lia) λ h' tk xs S U k=>?_
 have kk:∀ b o,s.heap.get? b=some o->h'.get? b=some o:=λ b o e=>k b o (Am e) e
 have HR:=S.at
 refine⟨.ref s.heap.objs.size,_,I.laid (t':=tk) (o:=.ext (yE X.w s.heap.objs.size (xs.map λ e=>Value.int e.1 e.2))) kk (Ah _) ?_,rfl,q _ _ (xs.map (·.1)) (I.zw.fresh (Ah _)) (Zd xs) S.nd λ n=>⟨λ hn=>?_,λ hn=>?_⟩⟩
 ·obtain⟨es,ep,t,St,e⟩:=id HR
  exact⟨HR,⟨_,St.get⟩,λ h1 h2 S1 k=>S1.tT k⟩
 ·obtain⟨e,he,rfl⟩:=Av.mp hn
  obtain⟨j,_,hj⟩:=U.own e he
  exact Bf hj
 ·obtain⟨j,hj⟩:=Dp.mp hn
  exact U.all j n (by have:=(AI.mp hj).1;rw[Ax];lia) hj
def O3 (hc:X.calm=true):y8 X (.builtin "sorted") (λ xs H Q=>∃ l us,∃ ms:List Int,xs=[.ref l]/\H l=some (.ext (yE X.w l us))/\IntsAre us ms/\ms.length<64/\
  ∀ (p:Addr) (ns:List Int),H p=none->ns.Perm ms->ns.Pairwise (·<=·)->Q (.ref p) (upd H p (.lst (ns.map V.int)))):=by
 intro EF s B H xs us0 Q I r h
 obtain⟨l,us,ms,rfl,hl,hm,F4,q⟩:=h
 obtain⟨u,rfl,ru⟩:=vals1 r
 cases ru
 obtain⟨⟨es,ep,t,S,eu⟩,-,-⟩:=(show yO X.prog X.w H s.heap l (.ext (yE X.w l us)) from I.zw l _ hl)
 have hlen:es.size=us.length:=by rw[<- eu];simp
 have hml:=hm.length
 have hh:X.A.handled=none:=I.ok.hd hc
 have hp:((comes X.w l es ep).toList.map (·.2)).Perm us:=by rw[<- eu];exact (p_ X.w l es ep).map _
 obtain⟨FY,i1,i2⟩:=Q9 hp hm
 have AM:=hp.length_eq
 have hl24:sizeLine=16777216:=rfl
 refine dQ (Out:=λ out=>∃ FX,IntsAre out.toList FX/\FX.Perm FY/\FX.Pairwise (·<=·)) hh S (by rw[hlen,hml];lia) (λ s6 h2 k=>L4.Oo i1 (by rw[AM,<- hlen];exact h2) (by rw[AM,hml];exact F4)) (λ h1=>⟨FY,by simpa using i1,.refl _,?_⟩) λ out h' tk p ho hs Gi k EE=>?_
 ·have:FY.length<2:=by rw[<- i1.length,AM,<- hlen];exact h1
  match FY,this with
  | [],_=>exact .nil
  | [_],_=>exact List.pairwise_singleton _ _
 ·obtain⟨ns,g1,g2,g3⟩:=ho
  obtain⟨e,he⟩:=EE
  refine⟨.ref p,_,I.laid (t':=tk) (o:=.lst (ns.map V.int)) k Gi ?_,rfl,q p ns (I.zw.fresh Gi) (g2.trans i2) g3⟩
  exact⟨by rw[Ay,g2.length_eq,i2.length_eq];lia,out.toList,e,dn g1,by simpa using he⟩
end
end ST
namespace L5
open PySem PySem.Spec L2 L3
open PyProof.Rows hiding St
noncomputable def insI (n:Int):List Int->List Int
 | []=>[n]
 | m::l=>if n<m then n::m::l else if n=m then m::l else m::insI n l
noncomputable def w9:List Int->List Int
 | []=>[]
 | n::ns=>insI n (w9 ns)
theorem gj {n k:Int}:∀ {l:List Int},k∈insI n l↔k=n\/k∈l
 | []=>by simp[insI]
 | m::l=>by
  unfold insI
  split
  ·simp
  ·split
   ·rename_i h;subst h;simp
   ·rw[Ai,gj,Ai]
    constructor
    ·rintro (h | h | h)
     ·exact .inr (.inl h)
     ·exact .inl h
     ·exact .inr (.inr h)
    ·rintro (h | h | h)
     ·exact .inr (.inl h)
     ·exact .inl h
     ·exact .inr (.inr h)
theorem km {k:Int}:∀ {l:List Int},k∈w9 l↔k∈l
 | []=>.rfl
 | n::l=>by unfold w9;rw[gj,km,Ai]
theorem Zg {n:Int}:∀ {l:List Int},l.Pairwise (· < ·)->(insI n l).Pairwise (· < ·)
 | [],_=>List.pairwise_singleton _ _
 | m::l,h=>by
  have h':=Bn.mp h
  unfold insI
  split
  ·rename_i c
   refine Bn.mpr ⟨λ x hx=>?_,h⟩
   rcases Ai.mp hx with e | e
   ·rw[e];exact c
   ·exact Int.lt_trans c (h'.1 x e)
  ·split
   ·exact h
   ·rename_i c1 c2
    refine Bn.mpr ⟨λ x hx=>?_,Zg h'.2⟩
    rcases gj.mp hx with e | e
    ·rw[e];lia
    ·exact h'.1 x e
theorem dA:∀ l:List Int,(w9 l).Pairwise (· < ·)
 | []=>.nil
 | n::l=>Zg (dA l)
def X0 {l m:List Int}(h1:l.Nodup) (h2:l.Pairwise (·<=·)) (h3:m.Pairwise (· < ·)) (h:∀ k,k∈l↔k∈m):l=m:=by
 have nm:m.Nodup:=h3.imp λ h e=>by lia
 refine L4.iI (r:=λ a b:Int=>a<=b) (λ a b p q=>by lia) ((DS h1 nm).mpr h) h2 (h3.imp λ h=>by lia)
section
variable {X:Cx}{K:Ac}{e:Expr}{tA:yh}{pos FL p p2:Pos}
def nW:xn:=λ ds S Q=>uE ds S Q\/∃ d,∃ ns:List Int,ds=[d]/\(∀ ts,d≠.tup ts)/\zM d S=some (ns.map D.int)/\ns.length<64/\∀ l,S l=none->Q (.ref l) (ups S l (.lst ((w9 ns).map D.int)))
noncomputable def tV:List T->Option T
 | [.lst ts]=>match vH ts with
  | some ns=>if ns.length<64 then some (.lst ((w9 ns).map T.int)) else none
  | none=>lF [.lst ts]
 | _=>none
def QO:vx zF tV nW:=λ S Z ys z ds Q hz hv e hq=>by
 unfold tV at e
 split at e
 ·split at e
  ·rename_i ns CA
   split at e
   ·rename_i hc
    cases e
    cases pO CA
    obtain⟨d,rfl,h1⟩:=vz hv
    obtain⟨es,h2,h3⟩:=h1.seq rfl
    cases u5.mp h3
    refine .inr ⟨d,ns,rfl,?_,h2,hc,λ l hl=>hq _ _ (.new hl _) (tZ hz hl (u5.mpr rfl))⟩
    obtain⟨_,q | ⟨a,q,_⟩,_⟩:=h1.lst <;> subst q <;> exact λ _=>nofun
   ·cases e
  ·exact .inl (QP S Z _ z ds Q hz hv e hq)
 ·cases e
theorem nW.mo:vw nW:=λ ds S Q Q' hq h=>by
 rcases h with h | ⟨d,ns,h1,h2,h3,h4,h5⟩
 ·exact .inl (uE.mo ds S Q Q' hq h)
 ·exact .inr ⟨d,ns,h1,h2,h3,h4,λ l hl=>hq _ _ (h5 l hl)⟩
def Pj {w:World}{xs:List V}{H:Hp}{S:SS}{Q:VK}{d:D}{ns:List Int}(h0:zj K H [d] xs) (h2:zH K H S) (hn:∀ ts,d≠.tup ts) (e:zM d S=some (ns.map D.int)) (F4:ns.length<64) (h:∀ l,S l=none->wx K H Q (.ref l) (ups S l (.lst ((w9 ns).map D.int)))):
  ∃ p,∃ FX:List Int,xs=[.ref p]/\zJ K H p (FX.map V.int)/\FX.length<64/\
   ∀ (l:Addr) (us:Ae) (ms:List Int),H l=none->IntsAre us ms->ms.Nodup->(∀ n,n∈ms↔n∈FX)->
    ∃ l' Ha,∃ FY:List Int,[V.ref l]=[.ref l']/\(upd H l (.ext (ST.yE w l us))) l'=some (.ext (ST.yE w l' Ha))/\IntsAre Ha FY/\FY.length<64/\
     ∀ (p:Addr) (ns:List Int),(upd H l (.ext (ST.yE w l us))) p=none->ns.Perm FY->ns.Pairwise (·<=·)->Q (.ref p) (upd (upd H l (.ext (ST.yE w l us))) p (.lst (ns.map V.int))):=by
 obtain⟨x,hx,h1⟩:=h0.one;subst hx
 obtain⟨a,ys,rfl,g1,g2⟩:=rn h1 h2 e hn
 rw[g2.ints] at g1
 refine⟨a,ns,rfl,g1,F4,λ l us ms hf hi nd A2=>⟨l,us,ms,rfl,y6,hi,?_,λ p Jr hp pm srt=>?_⟩⟩
 ·have:=ST.h_ ms ns nd λ x hx=>(A2 x).mp hx
  lia
 ·have x1:Ext H (upd H l (.ext (ST.yE w l us))):=.new hf _
  have An:p≠l:=λ z=>by subst z;rw[y6] at hp;cases hp
  have JF:H p=none:=by rw[yj An] at hp;exact hp
  have x2:Ext (upd H l (.ext (ST.yE w l us))) (upd (upd H l (.ext (ST.yE w l us))) p (.lst (Jr.map V.int))):=.new hp _
  have heq:Jr=w9 ns:=X0 (pm.nodup_iff.mpr nd) srt (dA ns) λ k=>by rw[pm.mem_iff,A2,km]
  refine h p (h2.none JF) _ _ (by simp only[zg]) (x1.trans x2) ((h2.new hf).ups x2 ⟨_,y6,?_⟩)
  rw[<- heq]
  exact zj.hJ Jr
def bp {k:Nat}(hr:yq k X.A) (hm:X.mg "sorted"=none) (G7:X.mg "set"=none) (ha:yY X [e] tA) (hc:X.calm=true:=by rfl) (hg:Gl X "sorted":=by rfl) (GC:Gl X "set":=by rfl)
  (Iy:starEach [e] X.env=(false,eval e X.env)::starEach [] X.env:=by rfl)
  (he:starEach [.Call (.Name "set" p2) [e] [] FL] X.env=(false,eval (.Call (.Name "set" p2) [e] [] FL) X.env)::starEach [] X.env:=by rfl) (An:(backTo pos (starEach [] X.env)).any (·.1)=false:=by rfl) (HC:(backTo FL (starEach [] X.env)).any (·.1)=false:=by rfl):
  PD X (.Call (.Name "sorted" p) [.Call (.Name "set" p2) [e] [] FL] [] pos) (xm nW tA):=by
 have h:=uS (p:=p) (y8.or (ST.O4 hc) (ST.O3 hc)) hg hm boot_sorted (qp (nj (y8.or (ST.O6 hc hr.units) (ST.O7 hc)) GC G7 PyProof.Rows.boot_set ha.pa (by decide) (by decide) Iy HC) p9 he) (by decide) (by decide) he An
 refine⟨xm.mo nW.mo ha.mo,PE.imp h fun B H Q hu=>?_⟩
 obtain⟨Y,S,r1,r2,z⟩:=hu
 refine wb.go ha.mo r1 r2 z λ ds S1 xs H1 h1 q1 e1 p1=>?_
 rcases h1 with h1 | ⟨d,ns,rfl,c1,c2,c3,h1⟩
 ·obtain⟨p,ys,rows,a1,a2,a3,a4,a5⟩:=uE.fits (w:=X.w) xs ds H1 S1 Q q1 p1 (uE.mo ds S1 _ _ (λ d S' z=>z.ext e1) h1)
  exact .inl ⟨p,ys,rows,a1,a2,a3,a4,λ l us vs rs b1 b2 b3=>.inl (a5 l us vs rs b1 b2 b3)⟩
 ·obtain⟨p,FX,a1,a2,a3,a4⟩:=Pj (w:=X.w) q1 p1 c1 c2 c3 (λ l hl=>(h1 l hl).ext e1)
  exact .inr ⟨p,FX,a1,a2,a3,λ l us ms b1 b2 b3 b4=>.inr (a4 l us ms b1 b2 b3 b4)⟩
end
end L5
namespace L5
open PySem PySem.Spec L2 L3
open PyProof.Rows hiding St
section
variable {X:Cx}{e st:Expr}
noncomputable def kj:Sm:=λ _=>none
def ZS:yD:=λ _ _ _=>False
def iK {st:Stmt}:vq X st ZS:=⟨λ _ _ _ _ _ h=>h.elim,λ _ _ _ _ _ _ ⟨_,_,_,_,h⟩=>h.elim⟩
def TH {R:Rk}:yu R kj ZS:=λ S0 Z0 S Z Y J o E F e P=>by cases e
end
end L5
namespace L5
open PySem L2 L3
def gK:Good2 zF pE gX:=gL (λ _ _ _=>ve) λ _ _ _=>nofun
def gN:Good2 zF kC gY:=gL (λ _ _ _=>ve) λ _ _ _=>nofun
end L5
namespace L5
open PySem PySem.Spec L2 L3
open PyProof.Rows hiding St
section
variable {X:Cx}{e:Expr}{te:zr}{pos p q:Pos}
def bw (T:Bt X.mg) (he:PD X e te) (hg:Gl X "isinstance":=by rfl) (GC:Gl X "str":=by rfl) (h1:starEach (e::[.Name "str" q]) X.env=(false,eval e X.env)::starEach [.Name "str" q] X.env:=by rfl) (h2:(backTo pos (starEach [.Name "str" q] X.env)).any (·.1)=false:=by rfl) (h3:starEach [.Name "str" q] X.env=(false,eval (.Name "str" q) X.env)::starEach [] X.env:=by rfl):
  PD X (.Call (.Name "isinstance" p) [e,.Name "str" q] [] pos) (pY "str" te):=ka (by simp) T.isinstance T.str PyProof.Rows.boot_str GC (by decide) (by decide) he hg h1 h2 h3
end
end L5
namespace L3
open PySem PyProof.Rows L2
section
variable {X:Cx}{pos:Pos}
noncomputable def wE (E:qb) (W:Nat->ye->SS->Prop) (m:Nat):qb:={ E with nx:=fun Y' S'=>∃ m',m'<m/\W m' Y' S',ct:=fun Y' S'=>∃ m',m'<m/\W m' Y' S',bk:=E.nx }
def me (c:y7) (tb:yD):yD:=λ E Y S=>∃ W:Nat->ye->SS->Prop,(∃ m,W m Y S)/\∀ m Y S,W m Y S->
 c Y S λ b S1=>if b=true then tb (wE E W m) Y S1 else E.nx Y S1
def me.mo {c:y7}{tb:yD}(hc:wQ c) (hb:tN tb):tN (me c tb):=λ E E' Y S hE ⟨W,w0,ws⟩=>
 ⟨W,w0,λ m Y S hw=>hc Y S _ _ (λ b S1 z=>wX (λ z=>hb (wE E W m) (wE E' W m) Y S1 ⟨λ _ _ q=>q,hE.rt,hE.nx,λ _ _ q=>q⟩ z) (λ z=>hE.nx _ _ z) z) (ws m Y S hw)⟩
def bh {c:Expr}{body:List Stmt}{tc:y7}{tb:yD}(hp:PassesOwn (model X.prog X.w) X.A X.env X.xe) (hc:xC X c tc) (hb:ur X body tb):vq X (.While c body [] pos) (me tc tb):=by
 refine⟨me.mo hc.mo hb.mo,PS.imp (VA hp hc.pt hb.ps) λ D B H hu=>?_⟩
 obtain⟨Y,S,r1,r2,W,⟨m0,w0⟩,ws⟩:=hu
 refine⟨λ m B' H'=>Ext H H'/\∃ Y S,yF X.K H' Y B'/\zH X.K H' S/\W m Y S,⟨m0,.refl _,Y,S,r1,r2,w0⟩,?_⟩
 rintro m B2 H2 ⟨x2,Y2,S2,q1,q2,w2⟩
 refine wa.go hc.mo q1 q2 (ws m Y2 S2 w2) λ k S3 H3 h3 e3 p3=>wX (λ z=>?_) (λ z=>?_) h3
 ·refine⟨fun B' H'=>Ext H H'/\∃ Y S m',m'<m/\yF X.K H' Y B'/\zH X.K H' S/\W m' Y S,fun B' H' ⟨a,Y',S',m',b,c,d,e⟩=>⟨m',b,a,Y',S',c,d,e⟩,Y2,S3,q1.ext e3,p3,?_⟩
  exact hb.mo (wE (tD X.K H D) W m) _ Y2 S3 ⟨fun Y5 S5 ⟨m',b,w5⟩ B5 H5 b1 b2 b3=>⟨(x2.trans e3).trans b2,Y5,S5,m',b,b1,b3,w5⟩,λ _ _ q=>wx.ext (x2.trans e3) q,λ _ _ q=>wZ.ext (x2.trans e3) q,fun Y5 S5 ⟨m',b,w5⟩ B5 H5 b1 b2 b3=>⟨(x2.trans e3).trans b2,Y5,S5,m',b,b1,b3,w5⟩⟩ z
 ·exact z B2 H3 (q1.ext e3) (x2.trans e3) p3
end
end L3
namespace L5
open PySem PyProof.Rows L2 L3
noncomputable def we (is:List Nat) (c:Ev->Option Bool) (b:Sm):Nat->Ev->Option Out
 | 0,_=>none
 | n+1,J=>(c (yA is J)).bind λ k=>if k=true then (b (yA is J)).bind λ o=>match o with
   | .nx J2=>we is c b n J2
   | .ct J2=>we is c b n J2
   | .bk J2=>some (.nx (yA is J2))
   | .rt t=>some (.rt t)
  else some (.nx (yA is J))
def oB (n:Nat) (is:List Nat) (c:Ev->Option Bool) (b:Sm):Sm:=we is c b n
def TC {R:Rk} [Lo R] {n:Nat}{is:List Nat}{c:Ev->Option Bool}{tc:y7}{b:Sm}{tb:yD}(hc:vd c tc) (hb:yu R b tb):yu R (oB n is c b) (me tc tb):=λ S0 Z0 S Z Y J o E F e P=>by
 obtain⟨SB,b1,FB,b2⟩:=F.rebase
 have lo:∀ S' d y,R SB S' Z0 y d->R S0 S' Z0 y d:=λ S' d y r=>Lo.lo b1 (λ _ z=>z) r
 refine⟨λ m Y' S'=>∃ Z' J',FR SB Z0 S' Z' Y' J'/\we is c b m J'=some o,⟨n,Z,J,FB,e⟩,λ m Y' S' ⟨Z',J',F',e'⟩=>?_⟩
 cases m with
 | zero=>cases e'
 | succ m=>
  unfold we at e'
  obtain⟨k,c1,e'⟩:=Aj.mp e'
  have G:=F'.yA is
  refine hc S' Z' Y' _ k _ G.er c1 λ S3 s3=>?_
  cases k with
  | true=>
   rw[if_pos rfl] at e' ⊢
   obtain⟨o1,g2,e'⟩:=Aj.mp e'
   refine hb SB Z0 S3 Z' Y' _ o1 _ (G.grow s3) g2 ?_
   cases o1 with
   | nx J2=>exact λ S3 Z3 Y3 F3=>⟨m,Cf m,Z3,J2,F3,e'⟩
   | ct J2=>exact λ S3 Z3 Y3 F3=>⟨m,Cf m,Z3,J2,F3,e'⟩
   | bk J2=>cases e';exact λ S3 Z3 Y3 F3=>P S3 Z3 Y3 ((F3.yA is).back b1 F.z0)
   | rt y=>cases e';exact λ d S3 s3 r3=>P d S3 (b1.trans s3) (lo _ _ _ r3)
  | false=>
   rw[if_neg (by decide)] at e' ⊢
   cases e'
   exact P S3 Z' Y' ((G.grow s3).back b1 F.z0)
end L5
namespace ZP
open PySem PyProof.Rows
def RK (k:Bool) (l:Addr) (xs:Ap):Meets (Builtin.«enumerate.__new__» ⟨[.type "enumerate",.ref l],[]⟩) (λ _ R s=>SQ s.heap k l xs/\
   R (.ok (.ret (.ref (s.heap.push (vG k l)).objs.size))) { s with heap:=(s.heap.push (vG k l)).push { cls:=.type "enumerate",data:=.fields #[.none,.bool false,.ref s.heap.objs.size,rawInt 0,.none,.none] } }):=
 .of_wp λ prog w A R s h=>by
  obtain⟨hp,g,d,tk,os⟩:=s
  obtain⟨q,h⟩:=h
  have D_:=sub_enumerate
  have hL:SQ (Shared.heap ⟨hp,g,d,tk,os⟩) k l xs:=q
  obtain⟨⟨c,z_,dt,sl⟩,hl,hc⟩:=q.cls
  replace hc:c=.type (cond k "tuple" "list"):=hc
  subst hc
  wp_walk using AutoSeq1.wpAny_loadPart' hl
  refine wpAny_stack_any λ st=>Ab ?_
  split
  ·rename_i c _ _ _ _ _
   cases (c == Value.type "enumerate")
   ·wp_walk using AutoSeq1.wpAny_loadPart' hl,made hL
    exact⟨_,rfl,h⟩
   ·wp_walk using AutoSeq1.wpAny_loadPart' hl,made hL
    exact⟨_,rfl,h⟩
  ·wp_walk using AutoSeq1.wpAny_loadPart' hl,made hL
   exact⟨_,rfl,h⟩
section
variable {prog:Program}{w:World}{A:Around}{E:Ad}{s:Shared}
def PB {k:Bool}{l:Addr}{xs:Ap}{Q:Ad}(hL:SQ s.heap k l xs)
  (h:∀ h',IsEnum h' (s.heap.objs.size+1) s.heap.objs.size 0 .none->SI h' k s.heap.objs.size l 0->(∀ b o,s.heap.get? b=some o->h'.get? b=some o)->Q (.ref (s.heap.objs.size+1)) { s with heap:=h' }):
  wpAny (model prog w) A (call (.type "enumerate") [.ref l]) Q E s:=by
 refine callType_new F.called_enumerate (by decide) (F.typeCall_enumerate_1 _) (F.newCall_enumerate_1 _) (λ obj=>F.args_object_init_2 obj _) F.entry_enumerate_new (RK k l xs) ⟨hL,?_⟩
 have hz:(s.heap.push (vG k l)).objs.size=s.heap.objs.size+1:=Heap.size_push ..
 show _/\_
 rw[hz]
 have he:IsEnum ((s.heap.push (vG k l)).push { cls:=.type "enumerate",data:=.fields #[.none,.bool false,.ref s.heap.objs.size,rawInt 0,.none,.none] }) (s.heap.objs.size+1) s.heap.objs.size 0 .none:=by
  have:=AD (s.heap.push (vG k l)) (o:={ cls:=.type "enumerate",data:=.fields #[.none,.bool false,.ref s.heap.objs.size,rawInt 0,.none,.none] }) rfl
  rw[hz] at this;exact this
 exact⟨⟨_,he,rfl⟩,h _ he ⟨_,J9 _ (AD _ rfl),rfl,rfl⟩ λ b o x=>J9 _ (J9 _ x)⟩
def PQ (hh:A.handled=none) (k:Bool) (it l:Addr) (Aq:l≠it) (xs:Ap):Draws prog w A it [it,l] xs.size (λ i v=>xs[i]?=some v) (λ i h=>SI h k it l i/\SQ h k l xs) where
 live:=λ _ _ st=>let ⟨o,ho,_⟩:=st.1;⟨o,ho⟩
 frame:=λ _ _ _ st hk=>⟨st.1.on λ o e=>hk it (by simp) o e,st.2.on λ o e=>hk l (by simp) o e⟩
 item:=λ i s Q E hi st hQ=>draw st.1 st.2 (x:=xs[i]) (by simp[hi]) λ h' Eu GJ=>hQ _ h' s.toks (by simp[hi]) ⟨Eu,st.2.on λ o e=>(GJ.2 l Aq).trans e⟩ GJ
 done:=λ s Q E st hE=>kH hh st.1 st.2 (by simp) hE
end
end ZP
namespace L2
open PySem PySem.Spec PyProof.Rows ZP
section
variable {X:Cx}{EF:Ag}{B:St}{H:Hp}{s:Shared}
def YI (K:Ac) (k:Bool) (a:Addr):It:=
 ⟨λ i H=>∃ xs x,xZ K H k a xs/\xs[i]?=some x,
   λ i H v H'=>∃ p x,v=.ref p/\H p=none/\H'=upd H p (.tup [.int i,x])/\∀ xs,xZ K H k a xs->xs[i]?=some x,
   λ i H=>∃ xs,xZ K H k a xs/\xs.length<=i⟩
def XG {P:Program}{w:World}{K:Ac}{es:List Expr}{kk} {pos:Pos}{k:Bool}{e it a:Addr}(Ez:e≠it) (hea:e≠a) (hai:a≠it):
  Turn P w K (.Tuple es kk pos) (YI K k a) [e,it] e (λ i h=>(∃ old,IsEnum h e it i old)/\SI h k it a i) where
 mem:=by simp
 obj:=λ i h st b hb=>by
  obtain⟨⟨old,q1⟩,o1,q2,_,d1⟩:=st
  simp only[Ai,AR,or_false] at hb
  rcases hb with e | e <;> subst e
  ·exact⟨_,q1,λ v z=>by cases z⟩
  ·exact⟨_,q2,λ v z=>by rw[d1] at z;cases z⟩
 keep:=λ i h h' st k=>⟨let ⟨old,q⟩:=st.1;⟨old,k e (by simp) _ q⟩,st.2.on λ o q=>k it (by simp) o q⟩
 item:=by
  intro X hP hw hK hc i EF s B H E I hf st hg
  subst hP hw hK
  obtain⟨xs,x,g1,hx⟩:=hg
  obtain⟨its,rv,q1⟩:=g1.of I
  obtain⟨u1,e1,r1⟩:=rv.get hx
  obtain⟨⟨old,he⟩,si⟩:=st
  have Ak:i<its.toArray.size:=by have:=(AI.mp e1).1;simpa using this
  have D:=PQ (prog:=X.prog) (w:=X.w) (A:=X.A.in1) (show X.A.in1.handled=none from I.ok.hd hc) k it a hai its.toArray
  refine wpAny_pyNext_enum_itemD D he ⟨si,q1⟩ Ak Ez (by simp[Ez,hea]) λ u h' tk hP ho GJ hT hsz hk=>⟨_,rfl,?_⟩
  have hu:u=u1:=by simp only[DR,e1] at hP;exact (A4 hP).symm
  subst hu
  have nT:s.heap.objs.size∉[e,it]:=λ hb=>by
   simp only[Ai,AR,or_false] at hb
   obtain⟨oi,qi,_⟩:=si
   rcases hb with z | z
   ·exact absurd (Am he) (by rw[<- z];exact BU _)
   ·exact absurd (Am qi) (by rw[<- z];exact BU _)
  have ne:s.heap.objs.size≠e:=λ z=>nT (by simp[z])
  refine wpAny_letOwnedTupleGo_enum ho λ h2 Iy sb=>?_
  have fr:H s.heap.objs.size=none:=I.zw.fresh (Ah _)
  have I1:Inv X EF B (upd H s.heap.objs.size (.tup [.int i,x])) { s with heap:=s.heap.push { cls:=.type "tuple",data:=.seq [.int i tk,u].toArray },toks:=s.toks }:=
   I.laid (o:=.tup [.int i,x]) (λ b u q=>J9 _ q) (Ah _) ⟨by show 2<=sizeLine;decide,[.int i tk,u],.cons ⟨tk,rfl⟩ (.cons r1 .nil),IsTup.new _ _⟩
  have GD:∀ b∈[e,it],upd H s.heap.objs.size (.tup [.int i,x]) b=none:=λ b hb=>by
   rw[yj (λ z=>nT (by rw[<- z];exact hb))]
   exact (hf b hb).1
  have kk:∀ b o,b∉[e,it]->(s.heap.push { cls:=.type "tuple",data:=.seq [.int i tk,u].toArray }).get? b=some o->h2.get? b=some o:=λ b o hb q=>by
   have BI:b≠e:=λ z=>hb (by simp[z])
   have hbi:b≠it:=λ z=>hb (by simp[z])
   by_cases Dj:b=s.heap.objs.size
   ·subst Dj
    rw[AD _ rfl] at q
    cases q
    exact sb.extBut _ _ BI hT
   ·have q':s.heap.get? b=some o:=by rw[Heap.get?_push_ne _ _ _ Dj] at q;exact q
    exact sb.extBut _ _ BI (hk b o BI hbi q')
  have I2:=Inv.l9 (h':=h2) (t':=tk+1) (fp:=[e,it]) I1 kk λ b hb=>⟨GD b hb,(hf b hb).2⟩
  refine⟨.ref s.heap.objs.size,_,I2,rfl,⟨_,x,rfl,fr,rfl,λ zs hz=>by rw[hz.inj I g1];exact hx⟩,⟨⟨_,by simpa using Iy⟩,GJ.1.on λ o q=>(sb.2 it (Ne.symm Ez)).trans q⟩,GD⟩
 done:=by
  intro X hP hw hK hc i EF s B H E I hf st hg
  subst hP hw hK
  obtain⟨xs,g1,hx⟩:=hg
  obtain⟨its,rv,q1⟩:=g1.of I
  have l1:=rv.length
  obtain⟨⟨old,he⟩,si⟩:=st
  have hT:s.TypeIs (.ref e) "enumerate":=⟨_,he,rfl⟩
  unfold pyNext
  refine Jg (wpAny_attempt (Kj (name:=Str.ofString "__next__") hT F.slot_enumerate_next
   (Ke F.slot_enumerate_next hT F.entry_enumerate_next ?_ (F.args_enumerate_next_1 _))))
  show wpAny _ _ (field (.ref e) 2 >>= _) _ _ _
  refine Jg (Kb he rfl (x:=.ref it) rfl ?_)
  refine Jg (kH (show X.A.in1.handled=none from I.ok.hd hc) si q1 (by simp;lia) λ h' x JI GH=>?_)
  obtain⟨o,ho,hc⟩:=GH
  refine Jg (wpAny_isInstance (T:="StopIteration") (b:=true) ⟨o,ho,hc⟩ isSubtype_stop ?_)
  exact Ab ⟨rfl,I.l9 (t':=s.toks) (fp:=[e,it]) (λ b o hb q=>JI b o (λ z=>hb (by simp[z])) q) hf⟩
 self:=λ _ _ _ _ _ st h=>let ⟨_,q⟩:=st.1;wpAny_pyIter_enum q h
def QF (K:Ac) (ta:TA):TI:=fun B H R=>ta B H λ vs H1=>∃ a k,vs=[.ref a]/\(∃ xs,xZ K H1 k a xs)/\R (YI K k a) H1
def VX {a:Expr}{ta:TA}{p pos pos':Pos}{es:List Expr}{kk} (hg:Gl X "enumerate") (hm:X.mg "enumerate"=none) (ha:PA X [a] ta) (hs:starEach [a] X.env=[(false,eval a X.env)]:=by rfl):
  PI X (.Tuple es kk pos') (.Call (.Name "enumerate" p) [a] [] pos) (QF X.K ta):=by
 intro EF s B H R I h
 refine Call_ (rF I hg hm boot_enumerate (PyProof.Rows.callWith_type1 (zC (ha pos EF s B H _ I h) λ us s1 ⟨vs,H1,I1,r1,q1⟩=>?_) (by rw[hs];rfl) rfl))
 obtain⟨a1,k,rfl,⟨xs,g1⟩,q⟩:=q1
 cases r1 with
 | cons r rr=>
  cases rr
  cases r
  obtain⟨Ju,_,q1⟩:=g1.of I1
  have la:=q1.lt
  refine ZP.PB q1 λ h' E S up=>wpAny_pyIter_enum E ?_
  have nw:∀ b∈[s1.heap.objs.size+1,s1.heap.objs.size],s1.heap.objs.size<=b:=λ b hb=>by
   simp only[Ai,AR,or_false] at hb
   rcases hb with z | z <;> rw[z]
   ·exact CT _
   ·exact Ah _
  exact⟨_,[s1.heap.objs.size+1,s1.heap.objs.size],_,_,H1,rfl,I1.kept (t':=s1.toks) up,XG (Nat.succ_ne_self _) (BA (Bb la)) (Au la),⟨⟨_,E⟩,S⟩,λ b hb=>I1.nU (nw b hb) (I1.zw.fresh (nw b hb)),q⟩
end
end L2
namespace L5
open PySem PySem.Spec L2 L3
open PyProof.Rows hiding St
noncomputable def t9 (k:Nat):List D->List D
 | []=>[]
 | d::ds=>.tup [.int k,d]::t9 (k+1) ds
noncomputable def rO (k:Nat):List T->List T
 | []=>[]
 | d::ds=>.tup [.int k,d]::rO (k+1) ds
theorem ZE:∀ (ds:List D) (k i:Nat),(t9 k ds)[i]?=(ds[i]?).map λ d=>D.tup [.int ((k+i:Nat):Int),d]
 | [],k,i=>by simp[t9]
 | d::ds,k,0=>by simp[t9]
 | d::ds,k,i+1=>by
  unfold t9
  rw[DU,DU,ZE ds (k+1) i,show k+1+i=k+(i+1) from by lia]
theorem ZD:∀ (ds:List D) (k:Nat),(t9 k ds).length=ds.length
 | [],k=>rfl
 | d::ds,k=>by unfold t9;rw[AW,ZD ds];rfl
theorem dY {S:SS}:∀ {ts:List T}{ds:List D}(k:Nat),zi S ts ds->zi S (rO k ts) (t9 k ds)
 | [],ds,k,h=>by simp only[zi] at h;subst h;exact zi.nil
 | t::ts,ds,k,h=>by
  simp only[zi] at h
  obtain⟨c,cs,rfl,h1,h2⟩:=h
  exact zi.cons (qf (zi.cons (by simp only[Sn]) (zi.cons h1 zi.nil))) (dY (k+1) h2)
section
variable {X:Cx}{a:Expr}{tA:yh}{pos p pos':Pos}{es:List Expr}{kk:Nat}
def aL (t:yh):wy:=fun Y S R=>t Y S λ ds S1=>∃ d xs,ds=[d]/\zM d S1=some xs/\R ⟨t9 0 xs,λ S=>zM d S=some xs⟩ S1
def bj (hm:X.mg "enumerate"=none) (ha:yY X [a] tA) (hg:Gl X "enumerate":=by rfl) (hs:starEach [a] X.env=[(false,eval a X.env)]:=by rfl):
  sT X (.Tuple es kk pos') (.Call (.Name "enumerate" p) [a] [] pos) (aL tA):=by
 refine⟨fun Y S Q Q' hq z=>ha.mo Y S _ _ (λ ds S1 ⟨d,xs,h1,h2,h4⟩=>⟨d,xs,h1,h2,hq _ _ h4⟩) z,PI.imp (VX hg hm ha.pa hs) fun B H R hu=>?_⟩
 obtain⟨Y,S,r1,r2,z⟩:=hu
 refine wb.go ha.mo r1 r2 z λ ds S1 vs H1 h1 q1 e1 p1=>?_
 obtain⟨d,xs,rfl,s1,h⟩:=h1
 obtain⟨v,rfl,d1⟩:=q1.one
 obtain⟨a1,us,rfl,g1,g2⟩:=zM.k d1 p1 s1
 refine⟨a1,nJ d,rfl,⟨us,g1⟩,h _ H1 e1 p1 λ i H2 S2 x1 x2 hk=>?_⟩
 obtain⟨b1,HV,q1,m1,m2⟩:=zM.k (zg.ext x1 d d1) x2 hk
 cases q1
 have l1:=m2.length
 refine⟨λ dd hd=>?_,λ hl=>⟨HV,m1,?_⟩⟩
 ·rw[ZE,Nat.zero_add] at hd
  obtain⟨dx,hx,rfl⟩:=AA.mp hd
  obtain⟨x,GH,rx⟩:=m2.get hx
  refine⟨⟨HV,x,m1,GH⟩,λ v H' q=>?_⟩
  obtain⟨pp,x',rfl,hp,rfl,f1⟩:=q
  have ex:x'=x:=by have:=f1 _ m1;rw[GH] at this;exact (A4 this).symm
  subst ex
  refine⟨.new hp _,x2.new hp,?_⟩
  simp only[zg]
  exact⟨pp,_,rfl,zL.of y6,zj.ext (.new hp _) _ (.cons (by simp only[zg]) (.cons rx .nil))⟩
 ·have Gp:(t9 0 xs).length<=i:=hl
  rw[ZD] at Gp
  lia
@[simp] noncomputable def rP:List T->Option (List T)
 | [x]=>(xR x).map λ xs=>rO 0 xs
 | _=>none
def TY {g:Ev->Option (List T)}(h:rZ g tA):rY false (wJ rP g) (aL tA):=λ S Z Y J ts Q hE e hq=>by
 obtain⟨ys,e1,e2⟩:=Aj.mp e
 refine h S Z Y J ys _ hE e1 λ ds S1 s1 r1=>?_
 unfold rP at e2
 split at e2
 ·obtain⟨xs,e3,rfl⟩:=AA.mp e2
  obtain⟨d,rfl,h1⟩:=vz r1
  obtain⟨es,g1,g2⟩:=h1.seq e3
  exact⟨d,es,rfl,g1,hq _ S1 s1 (dY 0 g2) λ HK s=>zM.sx g1 s⟩
 ·cases e2
end
end L5
namespace TM
open PySem PyProof.Rows
def Ob (i:Int) (t:Tok) (l:Addr) (items:Ap) (n:Nat) (dd:Option Addr) (sl:Array (Option Value)):
  Meets (Builtin.«int.__rmul__» ⟨[.int i t,.ref l],[]⟩) (λ _ R s=>s.heap.get? l=some { cls:=.type "list",dict:=dd,data:=.seq items n,slots:=sl }/\R (.ok (.ret Value.notImplemented)) s):=
 .of_wp λ prog w A R s h=>by
  obtain⟨hp,g,d,tk,os⟩:=s
  obtain⟨hl,h⟩:=h
  wp_walk
  exact⟨_,rfl,h⟩
def mulL (l:Addr) (items:Ap) (n:Nat) (x:Int) (u:Tok) (dd:Option Addr) (sl:Array (Option Value)) (hc0:¬(!Builtin.List.listFitsIndex x)=true) (Iz:¬items.size*x.toNat>(2 ^ 63-1)/8) (FV:¬Builtin.List.listTooLong (items.size*x.toNat)=true):
  Meets (Builtin.«list.__mul__» ⟨[.ref l,.int x u],[]⟩) (λ _ R s=>s.heap.get? l=some { cls:=.type "list",dict:=dd,data:=.seq items n,slots:=sl }/\R (.ok (.ret (Value.ref s.heap.objs.size))) { s with heap:=s.heap.push { cls:=.type "list",data:=.seq (List.foldl (λ x1 x2=>x1++x2) #[] (List.replicate (if items.isEmpty=true then 0 else x.toNat) items)) } }):=
 .of_wp λ prog w A R s h=>by
  obtain⟨hp,g,d,tk,os⟩:=s;obtain⟨hl,h⟩:=h
  have hsz:=AutoListH.joined_fits FV
  wp_walk;refine wpAny_ite_false (Kd (Nat.not_lt.mpr hsz)) ?_;wp_walk;exact⟨_,rfl,h⟩
section
variable {prog:Program}{w:World}{A:Around}{E:Ad}{s:Shared}
def XN {l:Addr}{its:Ae}{k:Int}{t:Tok}{Q:Ad}(ht:PlainL s.heap l its.toArray) (Aq:its≠[]) (h0:0<=k) (hz:its.length*k.toNat<=sizeLine)  (hk:k<=1000000)
  (more:Q (.ref s.heap.objs.size) { s with heap:=s.heap.push { cls:=.type "list",data:=.seq (List.replicate k.toNat its).flatten.toArray } }):
  wpAny (model prog w) A (binaryOp .Mult (.ref l) (.int k t)) Q E s:=by
 obtain⟨⟨cls,dd,data,sl⟩,n,ho,hc,he,hd⟩:=id ht
 simp only at hc hd he
 subst hc hd he
 have hl:sizeLine=16777216:=rfl
 have DI:its.toArray.isEmpty=false:=by cases its with
  | nil=>exact absurd rfl Aq
  | cons a r=>rfl
 have hf:List.foldl (λ x1 x2=>x1++x2) #[] (List.replicate (if its.toArray.isEmpty=true then 0 else k.toNat) its.toArray)=(List.replicate k.toNat its).flatten.toArray:=by
  rw[DI,if_neg (by decide)]
  have:=gT its k.toNat #[]
  simpa using this
 refine wpAny_binaryOp_repeat_ref (T:="list") (U:="int") (by decide) ⟨_,ho,rfl⟩ (λ s'=>typeIs_int s' k t) noFill_list_mul F.fills_int_mul F.slot_int_rmul repeat_list F.slot_int_index.lookup
  (call_meets F.slot_int_rmul (typeIs_int s k t) F.entry_int_rmul (F.args_int_rmul_2 _ _) (Ob k t l its.toArray n none sl)
   ⟨ho,rfl,⟨_,ho,rfl⟩,call_meets F.slot_list_mul ⟨_,ho,rfl⟩ F.entry_list_mul (F.args_list_mul_2 _ _)
    (mulL l its.toArray n k t none sl (by simp[Builtin.List.listFitsIndex];lia) (by simp;lia) (by simp[Builtin.List.listTooLong];lia)) ⟨ho,?_⟩⟩)
 rw[hf];exact more
end
end TM
namespace L2
open PySem PySem.Spec PyProof.Rows
def iB (K:Ac):R2:=λ x y H Q=>∃ a k xs,x=.ref a/\y=.int k/\zJ K H a xs/\xs≠[]/\0<=k/\k<=1000000/\xs.length*k.toNat<=sizeLine/\∀ p,H p=none->Q (.ref p) (upd H p (.lst (List.replicate k.toNat xs).flatten))
def Tq {X:Cx}:ya X (binaryOp .Mult) (iB X.K):=by
 intro EF s B H x y v u Q I rx ry h
 obtain⟨a,k,xs,rfl,rfl,hx,Aq,h1,h2,hz,q⟩:=h
 cases rx
 obtain⟨t,rfl⟩:=ry
 obtain⟨its,r,ht,_⟩:=I.list hx
 have hl:=r.length
 refine TM.XN ht (λ z=>Aq (r.nC.mp z)) h1 (by rw[<- hl];exact hz) h2 ?_
 have hlen:(List.replicate k.toNat xs).flatten.length<=sizeLine:=by
  have:(List.replicate k.toNat xs).flatten.length=k.toNat*xs.length:=by simp
  rw[this,Dt];exact hz
 exact⟨.ref _,_,I.laid (t':=s.toks) (o:=.lst (List.replicate k.toNat xs).flatten) (λ b ob q=>J9 _ q) (Ah _) ⟨hlen,_,0,r.rep k.toNat,AD _ rfl⟩,rfl,q _ (I.zw.fresh (Ah _))⟩
end L2
namespace L5
open PySem PySem.Spec L2 L3
open PyProof.Rows hiding St
section
variable {X:Cx}{K:Ac}{a b:Expr}{ta tb:zr}{pos:Pos}
noncomputable def Qy:D->Bool
 | .tup _=>true
 | _=>false
def kE:yJ:=λ x y S Q=>∃ k ds,y=.int k/\Qy x=false/\zM x S=some ds/\(ds≠[]/\0<=k/\k<=1000000/\ds.length*k.toNat<=sizeLine)/\∀ p,S p=none->Q (.ref p) (ups S p (.lst (List.replicate k.toNat ds).flatten))
def rL:yJ:=λ x y S Q=>tu x y S Q\/kE x y S Q
noncomputable def uY:T->T->Option T
 | .lst ts,.int k=>if ts≠[]/\0<=k/\k<=1000000/\ts.length*k.toNat<=sizeLine then some (.lst (List.replicate k.toNat ts).flatten) else none
 | x,y=>gh x y
theorem rL.mo:xv rL:=λ x y S Q Q' hq h=>by
 rcases h with h | ⟨k,ds,h1,h2,h3,h4,h5⟩
 ·exact .inl (tu.mo x y S Q Q' hq h)
 ·exact .inr ⟨k,ds,h1,h2,h3,h4,λ p hp=>hq _ _ (h5 p hp)⟩
def kE.fits:xq K kE (iB K):=λ x y d e H S Q h1 h2 h3 h=>by
 obtain⟨k,ds,rfl,ht,hs,⟨c1,c2,c3,c4⟩,h⟩:=h
 simp only[zg] at h2
 obtain⟨a,xs,rfl,g1,g2⟩:=rn h1 h3 hs λ ts z=>by subst z;cases ht
 have hl:=g2.length
 refine⟨a,k,xs,rfl,h2,g1,λ z=>c1 (by subst z;cases ds with | nil=>rfl | cons _ _=>simp at hl),c2,c3,by rw[<- hl];exact c4,λ p hp=>?_⟩
 exact h p (h3.none hp) _ _ (by simp only[zg]) (.new hp _) (h3.ups (.new hp _) ⟨_,y6,zj.ext (.new hp _) _ (zj.rep g2 _)⟩)
theorem rL.fits:xq K rL (λ x y H Q=>(rI vU (λ i j=>.int (i*j)) x y H Q\/i9 K x y H Q)\/iB K x y H Q):=λ x y d e H S Q h1 h2 h3 h=>by
 rcases h with h | h
 ·exact .inl (tu.fits x y d e H S Q h1 h2 h3 h)
 ·exact .inr (kE.fits x y d e H S Q h1 h2 h3 h)
def QR:Good2 zF uY rL:=λ S Z x y z d e Q hz hx hy ef hq=>by
 unfold uY at ef
 split at ef
 ·rename_i ts k
  split at ef
  ·rename_i hc
   cases ef
   obtain⟨ds,g1,g2⟩:=hx.seq (ts:=ts) rfl
   cases hy.int
   have hl:=g2.len
   refine .inr ⟨_,ds,rfl,?_,g1,⟨λ q=>hc.1 (by subst q;simpa using hl.symm),hc.2.1,hc.2.2.1,by rw[hl];exact hc.2.2.2⟩,λ p hp=>hq _ _ (.new hp _) (tZ hz hp (zi.rep g2 _))⟩
   cases d with
   | tup es=>exact absurd hx (by
     intro q
     rcases q with q | ⟨us,p,FC,_,q,_⟩
     ·simp only[Sn] at q;obtain⟨_,⟨q,_⟩ | ⟨_,q,_⟩,_⟩:=q <;> cases q
     ·cases q)
   | _=>rfl
  ·cases ef
 ·exact .inl (Zk S Z x y z d e Q hz hx hy ef hq)
def lZ (ha:PD X a ta) (hb:PD X b tb):PD X (.BinOp a .Mult b pos) (yn rL ta tb):=r9 ((Ts.or Tp).or Tq) rL.fits rL.mo ha hb
end
end L5
namespace L3
open PySem PySem.Spec PyProof.Rows L2
section
variable {X:Cx}{K:Ac}{e o:Expr}{te to:zr}{apos Al:Pos}
def rS (to te:zr):zr:=fun Y S Q=>to Y S λ x S1=>match x with
 | .ref p=>(∃ ds,S1 p=some (.lst ds))/\te Y S1 λ y S2=>∃ q ds es,y=.ref q/\S2 p=some (.lst ds)/\S2 q=some (.lst es)/\ds.length+es.length<=sizeLine/\Q .zm (ups S2 p (.lst (ds++es)))
 | _=>False
def rS.mo (h:yf to) (h':yf te):yf (rS to te):=fun Y S Q Q' hq z=>h Y S _ _ (λ x S1 z=>by
 cases x with
 | ref p=>exact⟨z.1,h' Y S1 _ _ (λ y S2 ⟨q,ds,es,a,b,c,d,w⟩=>⟨q,ds,es,a,b,c,d,hq _ _ w⟩) z.2⟩
 | _=>exact z) z
def UU {e0:Expr}(Ee:PE X e0 (jE X.K "list" cO (zK X.K to) (jD (zK X.K te) jB))) (h:yf to) (h':yf te):PD X e0 (rS to te):=by
 refine⟨rS.mo h h',PE.imp Ee fun B H Q hu=>?_⟩
 obtain⟨Y,S,r1,r2,z⟩:=hu
 refine zK.go h r1 r2 z λ x S1 v H1 h1 q1 e1 p1=>?_
 cases x with
 | ref p=>
  obtain⟨⟨ds,hd⟩,h1⟩:=h1
  simp only[zg] at q1
  subst q1
  obtain⟨xs,g1,g2⟩:=p1 _ _ hd
  refine⟨.inl ⟨rfl,xs,zJ.of g1⟩,?_⟩
  refine zK.go h' (r1.ext e1) p1 h1 λ y S2 w H2 h2 q2 e2 p2=>?_
  obtain⟨q,G3,es,rfl,b1,b2,b3,b4⟩:=h2
  simp only[zg] at q2
  subst q2
  obtain⟨E9,g3,g4⟩:=p2 _ _ b1
  obtain⟨IJ,g5,g6⟩:=p2 _ _ b2
  refine⟨p,q,E9,IJ,rfl,rfl,g3,g5,by rw[<- g4.length,<- g6.length];exact b3,?_⟩
  have e4:Ext H2 (upd H2 p (.lst (E9++IJ))):=.lst g3 _
  exact b4 _ _ (by simp only[zg]) ((e1.trans e2).trans e4) (p2.ups e4 ⟨_,y6,zj.ext e4 _ (g4.append g6)⟩)
 | _=>exact h1.elim
def UQ (ho:PD X o to) (he:PD X e te)
  (Gg:attributeBase o "extend" X.env (eval o X.env)=eval o X.env:=by rfl)
  (AJ:((backTo Al (starEach [e] X.env)).all (λ x=>!x.1)&&(backToKw Al (keywordEach [] X.env)).all (λ x=>x.1.isSome)
   && decide ([e].length+([]:List Keyword).length+(if ([]:List Keyword).isEmpty then 0 else 1)<30))=true:=by rfl)
  (Ge:(apos.endLine == Al.line)=true:=by rfl) (hs:starEach [e] X.env=(false,eval e X.env)::starEach [] X.env:=by rfl) (FN:(backTo Al (starEach [] X.env)).any (·.1)=false:=by rfl):
  PD X (.Call (.Attribute o "extend" apos) [e] [] Al) (rS to te):=
 UU (bc PySem.F.plainAttrs_list PySem.F.slot_list_extend PySem.F.type_list_extend RD ho.pe (qp he.pe p9 hs) Gg AJ Ge hs FN) ho.mo he.mo
end
end L3
namespace L5
open PySem L2 L3
@[simp] noncomputable def gZ (i:Nat) (f:Ev->Option T):Sm:=fun J=>match J[i]? with
 | some (some (.own (.lst ts)))=>(f J).bind λ y=>match y with
  | .lst us=>if ts.length+us.length<=sizeLine then some (.nx (J.set i (some (.own (.lst (ts++us)))))) else none
  | _=>none
 | _=>none
section
variable {R:Rk}{f:Ev->Option T}{te:zr}
def TL (i:Nat) (hf:xp f te):yu R (gZ i f) (kM (rS (y4 i) te)):=λ S0 Z0 S Z Y J o E F e P=>by
 unfold gZ at e
 split at e
 ·rename_i ts h
  obtain⟨y,e1,e2⟩:=Aj.mp e
  split at e2
  ·rename_i us
   split at e2
   ·rename_i hl
    cases e2
    obtain⟨p,ob,h1,h2,h3,h4⟩:=F.er.ow i _ h
    obtain⟨ds,rfl⟩:∃ ds,ob=.lst ds:=by
     cases ob with
     | lst ds=>exact⟨ds,rfl⟩
     | z_ _=>exact h3.elim
    replace h3:zi (zN S Z) ts ds:=h3
    show rS (y4 i) te Y S _
    unfold rS y4
    rw[h1]
    refine⟨⟨ds,h2⟩,hf S Z Y J _ _ F.er e1 λ d S1 s1 r1=>?_⟩
    obtain⟨q,es,rfl,g1,g2,g3⟩:=r1.2 us rfl
    have F1:=F.grow s1
    have g4:zi (zN S1 Z) us es:=zi.sx (tp λ a z=>.inl z) us g3
    refine⟨q,ds,es,rfl,s1 _ _ h2,g2,by rw[h3.len,g4.len];exact hl,P _ Z Y (F1.mut (us:=.lst (ts++us)) (es:=.lst (ds++es)) i h h1 ((zi.sx (wK s1) ts h3).append g4))⟩
   ·cases e2
  ·cases e2
 ·cases e
end
section
variable {α:Type}{P:List α->Prop}
def tJ (h:∀ a,P [a]) (us:List α) (hl:us.length=1):P us:=match us,hl with | [a],_=>h a
def va (h:∀ a b,P [a,b]) (us:List α) (hl:us.length=2):P us:=match us,hl with | [a,b],_=>h a b
def sN (h:∀ a b c,P [a,b,c]) (us:List α) (hl:us.length=3):P us:=match us,hl with | [a,b,c],_=>h a b c
def fN (h:∀ a b c d,P [a,b,c,d]) (us:List α) (hl:us.length=4):P us:=match us,hl with | [a,b,c,d],_=>h a b c d
def ar5 (h:∀ a b c d e,P [a,b,c,d,e]) (us:List α) (hl:us.length=5):P us:=match us,hl with | [a,b,c,d,e],_=>h a b c d e
def ar6 (h:∀ a b c d e f,P [a,b,c,d,e,f]) (us:List α) (hl:us.length=6):P us:=match us,hl with | [a,b,c,d,e,f],_=>h a b c d e f
def ar7 (h:∀ a b c d e f g,P [a,b,c,d,e,f,g]) (us:List α) (hl:us.length=7):P us:=match us,hl with | [a,b,c,d,e,f,g],_=>h a b c d e f g
def ar8 (h:∀ a b c d e f g i,P [a,b,c,d,e,f,g,i]) (us:List α) (hl:us.length=8):P us:=match us,hl with | [a,b,c,d,e,f,g,i],_=>h a b c d e f g i
end
end L5
namespace L5
open PySem PySem.Spec L2 L3
open PyProof.Rows hiding St
section
variable {P:Program}{w:World}{K:Ac}{mg:AF}{base h:Heap}{x:Str}{st:Stmt}
def Fx (K:Ac) (x:Str) (st:Stmt):Prop:=∃ (f:Addr) (oc:Value) (od:Option Addr) (kV dc pm:Value) (an:Option Addr) (cd ct:Value) (sl:Array (Option Value)),
 PySem.W.nsIn K mainGlobals x=some (some (.ref f))/\K.lookup f=some ⟨oc,od,.func (PySem.W.fnOf x x (tE st) (w_ st) (zB st) .none kV dc pm an cd ct),sl⟩/\PySem.W.codeIn K cd x=true/\PySem.W.keepIn K (.ref f)=true
def Fx.i {f:Addr}{oc:Value}{od:Option Addr}{kV dc pm:Value}{an:Option Addr}{cd ct:Value}{sl:Array (Option Value)}(a:PySem.W.nsIn K mainGlobals x=some (some (.ref f))) (l:K.lookup f=some ⟨oc,od,.func (PySem.W.fnOf x x (tE st) (w_ st) (zB st) .none kV dc pm an cd ct),sl⟩) (c:PySem.W.codeIn K cd x=true) (k:PySem.W.keepIn K (.ref f)=true):Fx K x st:=⟨f,oc,od,kV,dc,pm,an,cd,ct,sl,a,l,c,k⟩
def Fy (K:Ac) (mg:AF) (x:Str) (st:Stmt):Prop:=∃ (f:Addr) (fd:FuncData),uL K x x st f fd/\mg x=some (.ref f)
def Fx.mk (H:Fx K x st) (X:K.In h) (G:h.Ns mainGlobals mg):Fy K mg x st:=by
 obtain⟨f,oc,od,kV,dc,pm,an,cd,ct,sl,a,l,c,k⟩:=H
 exact⟨f,_,Zt l c k,PySem.W.mg_of X G a⟩
theorem Fx.law {fa:Addr}{p:Str}(H:Fx K "law" st) (X:K.In h) (G:h.Ns mainGlobals mg) (Ey:mg "law"=some (.ref fa)) (hb:∀ (kV dc pm:Value) (an:Option Addr) (cd ct:Value) (s:Shared) (v:Value),BindsTo s (PySem.W.fnOf "law" "law" (tE st) (w_ st) (zB st) .none kV dc pm an cd ct) ⟨[v],[]⟩ [(p,v)]):∃ fd:FuncData,uL K "law" "law" st fa fd/\∀ (s:Shared) (v:Value),BindsTo s fd ⟨[v],[]⟩ [(p,v)]:=by
 obtain⟨f,oc,od,kV,dc,pm,an,cd,ct,sl,a,l,c,k⟩:=H
 have e:=Ey.symm.trans (PySem.W.mg_of X G a)
 cases e
 exact⟨_,Zt l c k,hb kV dc pm an cd ct⟩
def Cn (K:Ac) (x:Str) (t:V):Prop:=∃ u,PySem.W.nsIn K mainGlobals x=some (some u)/\L2.RelV t u
def Cn.i {t:V}{u:Value}(a:PySem.W.nsIn K mainGlobals x=some (some u)) (r:L2.RelV t u):Cn K x t:=⟨u,a,r⟩
def Cn.mk {t:V}(H:Cn K x t) (X:K.In h) (G:h.Ns mainGlobals mg):∃ u,mg x=some u/\L2.RelV t u:=by
 obtain⟨u,a,r⟩:=H
 exact⟨u,PySem.W.mg_of X G a,r⟩
def yp {R:Rk} [Lo R] {N ps:List Str}{k n:Nat}{g:Sm}(F:Fy K mg x st) (Sc:zY N ps (zB st)) (hn:n=ps.length)
  (hb:∀ (kV doc pm:Value) (an:Option Addr) (Af ct:Value) (us:Ae),us.length=ps.length->bindArgs (PySem.W.fnOf x x (tE st) (w_ st) (zB st) .none kV doc pm an Af ct) ⟨us,[]⟩=pure (ps.zip us))
  (Fm:∀ (f:Addr) (Af:Value) (A:Around) (outer:List Env) (s:Shared) (H:Hp) (E:XK),yq k (A.deeper (envOfC x (zB st) s.heap.objs.size f Af))->
   ∃ t,ur (tF vy P w K mg base N x (zB st) f Af A outer s H E).rD (w_ st) t/\yu R g t):FD P w K mg base x (k+1) ps (zQ R (zZ N n g)):=by
 obtain⟨f,fd,F,hm⟩:=F
 exact Pn F hm Sc hn hb (Fm f)
end
end L5
namespace L2
open PySem PySem.Spec PyProof.Rows
def jf (lo c:Int) (n:Nat):It:=⟨λ i _=>i<n,λ i H x H'=>H'=H/\x=.int (lo+i*c),λ i _=>n<=i⟩
def XD {P:Program}{w:World}{K:Ac}{tg:Expr}(it:Addr) (lo c:Int) (n:Nat):Turn P w K tg (jf lo c n) [it] it (λ i h=>IsRangeIter h it (lo+(i:Nat)*c) ((n:Int)-(i:Nat)) c) where
 mem:=by simp
 obj:=λ i h st b hb=>by
  have e:b=it:=by simpa using hb
  subst e
  exact⟨_,st,λ v z=>by
   have z':Data.fields _=Data.cell v:=z
   cases z'⟩
 keep:=λ i h h' st k=>k it (by simp) _ st
 item:=by
  intro X hP hw hK hc i EF s B H E I hf st hg
  subst hP hw hK
  obtain⟨f0,f1,f2,f3,f4,f5⟩:=hf it (by simp)
  have W:=Walks.range (prog:=X.prog) (w:=X.w) (I.ok.hd hc) it lo c n
  refine W.item i s _ _ hg st λ v h' tk hv Ga kk=>?_
  obtain⟨t,rfl⟩:=hv
  have I1:Inv X EF B H { s with heap:=h',toks:=tk }:=I.turned (λ b o hb e=>kk b o (by simpa using hb) e) f0 f1 f3 f4 f5
  exact⟨_,rfl,kB (s:={ s with heap:=h',toks:=tk }) (n:="range_iterator") Ga rfl rfl (by decide) ⟨.int (lo+i*c),H,I1,⟨t,rfl⟩,⟨rfl,rfl⟩,Ga,λ b hb=>(hf b hb).1⟩⟩
 done:=by
  intro X hP hw hK hc i EF s B H E I hf st hg
  subst hP hw hK
  obtain⟨f0,f1,f2,f3,f4,f5⟩:=hf it (by simp)
  exact wpAny_pyNext_range_end (I.ok.hd hc) st (by have:n<=i:=hg;lia) λ h' eb=>⟨rfl,I.turned (t':=s.toks) (λ b o hb e=>eb b o hb e) f0 f1 f3 f4 f5⟩
 self:=λ _ _ _ _ _ st h=>wpAny_pyIter_rangeiter st h
noncomputable def u9 (i j c:Int):Nat:=if i<j then ((j-i-1)/c+1).toNat else 0
def ae {i j c:Int}(hc:0<c):((u9 i j c:Nat):Int)=Builtin.Range.rangeSize i j c:=by
 unfold u9 Builtin.Range.rangeSize
 rw[if_pos hc]
 split
 ·rename_i h
  have:0<=(j-i-1)/c:=Int.ediv_nonneg (by lia) (by lia)
  lia
 ·rfl
def W3 {a b c:Int}(ha:-(2 ^ 31)<=a) (ha':a<2 ^ 31) (hb:-(2 ^ 31)<=b) (GL:b<2 ^ 31) (hc:0<c) (IA:c<1000000):Builtin.Range.small a b c=true:=by
 have e:=ae (i:=a) (j:=b) hc
 have h1:(b-a-1)/c<=(b-a-1)\/¬ a<b:=by
  by_cases h:a<b
  ·exact .inl (Int.ediv_le_self _ (by lia))
  ·exact .inr h
 have h2:0<=Builtin.Range.rangeSize a b c/\Builtin.Range.rangeSize a b c<=2 ^ 33:=by
  refine⟨by lia,?_⟩
  unfold Builtin.Range.rangeSize
  rw[if_pos hc]
  split <;> lia
 have h3:Builtin.Range.rangeSize a b c*c<=2 ^ 33*1000000:=by
  refine Int.le_trans (DP h2.2 (by lia)) ?_
  exact DN (by lia) (by decide)
 have h4:0<=Builtin.Range.rangeSize a b c*c:=Int.mul_nonneg h2.1 (by lia)
 unfold Builtin.Range.small
 simp only[Builtin.Range.rangeFitsLong,Bw,DQ,decide_eq_true_eq,beq_iff_eq,hc,if_true]
 lia
section
variable {X:Cx}{tg:Expr}
def Vo {EF:Ag}{B:St}{H:Hp}{s:Shared}{R:It->Hp->Prop}{E:Ad}{lo hi c:Int}{t u v:Tok}{tk:Nat}(I:Inv X EF B H s) (h1:-(2 ^ 31)<=lo) (h2:lo<2 ^ 31) (h3:-(2 ^ 31)<=hi) (h4:hi<2 ^ 31) (h5:0<c) (h6:c<1000000)
  (q:R (jf lo c (u9 lo hi c)) H):wpAny (model X.prog X.w) X.A (pyIter (.ref s.heap.objs.size)) (fW X EF B tg R) E { s with heap:=s.heap.push { cls:=.type "range",data:=.fields #[.int lo t,.int hi u,.int c v] },toks:=tk }:=by
 refine wpAny_pyIter_range (IsRange.new ..) (W3 h1 h2 h3 h4 h5 h6) ?_
 have I1:Inv X EF B H { s with heap:=s.heap.push { cls:=.type "range",data:=.fields #[.int lo t,.int hi u,.int c v] },toks:=tk }:=I.kept λ b o e=>J9 _ e
 refine⟨(s.heap.push { cls:=.type "range",data:=.fields #[.int lo t,.int hi u,.int c v] }).objs.size,[(s.heap.push { cls:=.type "range",data:=.fields #[.int lo t,.int hi u,.int c v] }).objs.size],_,_,H,rfl,
  I1.kept (t':=tk) λ b o e=>J9 _ e,XD _ lo c (u9 lo hi c),?_,λ b hb=>?_,q⟩
 ·have e1:lo+((0:Nat):Int)*c=lo:=by simp
  have e2:((u9 lo hi c:Nat):Int)-((0:Nat):Int)=Builtin.Range.rangeSize lo hi c:=by rw[ae h5];simp
  show IsRangeIter _ _ (lo+((0:Nat):Int)*c) (((u9 lo hi c:Nat):Int)-((0:Nat):Int)) c
  rw[e1,e2]
  exact AD _ rfl
 ·have e:b=(s.heap.push { cls:=.type "range",data:=.fields #[.int lo t,.int hi u,.int c v] }).objs.size:=by simpa using hb
  subst e
  exact I1.nU (Ah _) (I1.zw.fresh (Ah _))
def QE (ta:TA):TI:=fun B H R=>ta B H λ vs H1=>∃ i j c:Int,vs=[.int i,.int j,.int c]/\(-(2 ^ 31)<=i/\i<2 ^ 31/\-(2 ^ 31)<=j/\j<2 ^ 31/\0<c/\c<1000000)/\R (jf i c (u9 i j c)) H1
def VV {a b c:Expr}{ta:TA}{p pos:Pos}(hg:Gl X "range") (hm:X.mg "range"=none) (ha:PA X [a,b,c] ta) (hs:starEach [a,b,c] X.env=[(false,eval a X.env),(false,eval b X.env),(false,eval c X.env)]:=by rfl) (GI:starEach [b,c] X.env=[(false,eval b X.env),(false,eval c X.env)]:=by rfl):
  PI X tg (.Call (.Name "range" p) [a,b,c] [] pos) (QE ta):=by
 intro EF s B H R I h
 refine Call_ (rF I hg hm boot_range (PyProof.Rows.callWith_type1 (zC (ha pos EF s B H _ I h) λ us s1 ⟨vs,H1,I1,r1,q1⟩=>?_) (by rw[hs,GI]) (by rw[GI];rfl)))
 obtain⟨i,j,c,e,⟨q1,q2,q3,q4,q5,q6⟩,q⟩:=q1
 subst e
 cases r1 with
 | cons r rr=>
  cases rr with
  | cons r' rr=>
   cases rr with
   | cons r2 rr=>
    cases rr
    obtain⟨t,rfl⟩:=r
    obtain⟨t',rfl⟩:=r'
    obtain⟨t2,rfl⟩:=r2
    exact call_range_3 (by lia) (Vo I1 q1 q2 q3 q4 q5 q6 q) (.inl (PyProof.noPylong_small (by lia)))
end
end L2
namespace L3
open PySem PySem.Spec L2
open PyProof.Rows hiding St
section
variable {X:Cx}{K:Ac}{tg e a b c:Expr}{es:List Expr}{tA:yh}{pos p:Pos}
noncomputable def t_ (lo c:Int) (n:Nat):List D:=(List.range n).map λ(k:Nat)=>D.int (lo+(k:Int)*c)
def Vt {lo c:Int}{n i:Nat}{d:D}(h:(t_ lo c n)[i]?=some d):i<n/\d=.int (lo+(i:Int)*c):=by
 unfold t_ at h
 rw[Az] at h
 cases q:(List.range n)[i]? with
 | none=>rw[q] at h;cases h
 | some k=>
  rw[q] at h
  obtain⟨h1,h2⟩:=AI.mp q
  rw[BV] at h1
  rw[Dw] at h2
  subst h2
  cases h
  exact⟨h1,rfl⟩
def mR.Vq {H1:Hp}{lo c:Int}{n:Nat}:mR K H1 (jf lo c n) ⟨t_ lo c n,λ _=>True⟩:=λ i H S _ x2 _=>by
 refine⟨λ d hd=>?_,λ hl=>by rw[show (o8.mk (t_ lo c n) λ _=>True).items=t_ lo c n from rfl] at hl;unfold t_ at hl;rw[Ay,BV] at hl;exact hl⟩
 obtain⟨h1,rfl⟩:=Vt hd
 refine⟨h1,λ x H' q=>?_⟩
 obtain⟨rfl,rfl⟩:=q
 exact⟨.refl _,x2,by simp only[zg]⟩
def aK (t:yh):wy:=fun Y S R=>t Y S λ ds S1=>match ds with
 | [.int i,.int j,.int c]=>(-(2 ^ 31)<=i/\i<2 ^ 31/\-(2 ^ 31)<=j/\j<2 ^ 31/\0<c/\c<1000000)/\R ⟨t_ i c (u9 i j c),λ _=>True⟩ S1
 | _=>False
def zj.three {H:Hp}{d d' d2:D}{xs:List V}(h:zj K H [d,d',d2] xs):∃ x y z,xs=[x,y,z]/\zg K H d x/\zg K H d' y/\zg K H d2 z:=by
 simp only[zj] at h
 obtain⟨x,r,rfl,h1,y,r',rfl,h2,z,r2,rfl,h3,rfl⟩:=h
 exact⟨x,y,z,rfl,h1,h2,h3⟩
def UJ (hm:X.mg "range"=none) (ha:yY X [a,b,c] tA) (hg:Gl X "range":=by rfl) (hs:starEach [a,b,c] X.env=[(false,eval a X.env),(false,eval b X.env),(false,eval c X.env)]:=by rfl) (GI:starEach [b,c] X.env=[(false,eval b X.env),(false,eval c X.env)]:=by rfl):sT X tg (.Call (.Name "range" p) [a,b,c] [] pos) (aK tA):=by
 refine⟨fun Y S Q Q' hq z=>ha.mo Y S _ _ (λ ds S1 z=>?_) z,PI.imp (VV hg hm ha.pa hs GI) fun B H R hu=>?_⟩
 ·split at z
  ·exact⟨z.1,hq _ _ z.2⟩
  ·exact z.elim
 ·obtain⟨Y,S,r1,r2,z⟩:=hu
  refine wb.go ha.mo r1 r2 z λ ds S1 xs H1 h1 q1 e1 p1=>?_
  split at h1
  ·obtain⟨x,y,w,rfl,q,q',q2⟩:=q1.three
   simp only[zg] at q q' q2
   subst q q' q2
   exact⟨_,_,_,rfl,h1.1,h1.2 _ H1 e1 p1 .Vq⟩
  ·exact h1.elim
def t8:xn:=λ ds S Q=>match ds with
 | [.int i]=>Q (.int (if i<0 then -i else i)) S
 | _=>False
def t8.mo:vw t8:=λ ds S Q Q' hq h=>by
 unfold t8 at h ⊢
 split at h
 ·exact hq _ _ h
 ·exact h.elim
def t8.fits:uv K t8 (λ xs H Q=>∃ i,xs=[.int i]/\Q (.int (if i<0 then -i else i)) H):=λ xs ds H S Q h0 h2 h=>by
 unfold t8 at h
 split at h
 ·obtain⟨x,rfl,h1⟩:=h0.one
  simp only[zg] at h1;subst h1
  exact⟨_,rfl,h _ H (by simp only[zg]) (.refl H) h2⟩
 ·exact h.elim
def Tc (hm:X.mg "abs"=none) (ha:yY X (e::es) tA) (hg:Gl X "abs":=by rfl) (he:starEach (e::es) X.env=(false,eval e X.env)::starEach es X.env:=by rfl) (An:(backTo pos (starEach es X.env)).any (·.1)=false:=by rfl):PD X (.Call (.Name "abs" p) (e::es) [] pos) (xm t8 tA):=
 u6 (uS OO hg hm boot_abs ha.pa (by decide) (by decide) he An) t8.mo t8.fits ha.mo
def ux (_ j:Int):Prop:=0<j/\j<2 ^ 200
def tQ (i j:Int):Prop:=i.natAbs<2 ^ 200/\j.natAbs<2 ^ 200
instance (i j:Int):Decidable (ux i j):=by unfold ux;infer_instance
instance (i j:Int):Decidable (tQ i j):=by unfold tQ;infer_instance
def au {n:Nat}(h:n<2 ^ 200):n.log2<200:=by
 rcases DZ n with h0 | hp
 ·rw[h0];decide
 ·exact (Nat.log2_lt (BA hp)).mpr h
def Ys {i:Int}(h:i.natAbs<2 ^ 200):Builtin.Int.intBits i<=2 ^ 20:=by
 have:=au h
 unfold Builtin.Int.intBits
 split <;> lia
def T2:ya X (binaryOp .FloorDiv) (rI ux λ i j=>.int (i/j)):=pA λ i j _ _ _ _ _ hc q=>by
 have h1:(0:Int)<j:=hc.1
 have h2:j.natAbs<2 ^ 200:=by have:=hc.2;lia
 have h3:=au h2
 exact floordiv_int (by lia) (by rw[Int.fdiv_eq_ediv_of_nonneg i (by lia)];exact q) (.inl (PyProof.noPylong_of_log2 (by lia)))
def Tr:ya X (binaryOp .Mult) (rI tQ λ i j=>.int (i*j)):=pA λ _ _ _ _ _ _ _ hc q=>mul_int q (PySem.IntMulOk.of_bits (Ys hc.1) (Ys hc.2))
variable {ta tb:zr}
def p7 (ha:PD X a ta) (hb:PD X b tb):PD X (.BinOp a .FloorDiv b pos) (yn (fI ux λ i j=>.int (i/j)) ta tb):=r9 T2 (fI.fits λ _ _ _=>by simp only[zg]) fI.mo ha hb
def sg (ha:PD X a ta) (hb:PD X b tb):PD X (.BinOp a .Mult b pos) (yn (fI tQ λ i j=>.int (i*j)) ta tb):=r9 Tr (fI.fits λ _ _ _=>by simp only[zg]) fI.mo ha hb
end
end L3
namespace L5
open PySem PySem.Spec L2 L3
open PyProof.Rows hiding St
structure Xp (mg:AF):Prop extends Bq mg where
 abs:mg "abs"=none
@[simp] noncomputable def fS:List T->Option T
 | [.int i]=>some (.int (if i<0 then -i else i))
 | _=>none
def Zn:vx zF fS t8:=λ S Z ys z ds Q hz hv e hq=>by
 unfold fS at e
 split at e
 ·cases e
  obtain⟨d,rfl,h1⟩:=vz hv
  cases h1.int
  exact hq _ S (.refl S) (Cl.of (λ _=>nofun) wc)
 ·cases e
@[simp] def xJ:T->T->Option T:=qA ux λ i j=>.int (i/j)
@[simp] def xG:T->T->Option T:=qA tQ λ i j=>.int (i*j)
def qw {fa fb:Ev->Option T}{ta tb:zr}(ha:yv fa ta) (hb:yv fb tb):xp (zb xJ fa fb) (yn (fI ux λ i j=>.int (i/j)) ta tb):=zX (nR (λ _ _ _=>wc) λ _ _ _=>nofun) ha hb
def uW {fa fb:Ev->Option T}{ta tb:zr}(ha:yv fa ta) (hb:yv fb tb):xp (zb xG fa fb) (yn (fI tQ λ i j=>.int (i*j)) ta tb):=zX (nR (λ _ _ _=>wc) λ _ _ _=>nofun) ha hb
noncomputable def rH (j:Int):Bool:=decide (-1000000<=j)&&decide (j<1000000)
noncomputable def lR (lo c:Int) (n:Nat):List T:=(List.range n).map λ(k:Nat)=>T.int (lo+(k:Int)*c)
def W2 {S:SS}(lo c:Int) (n:Nat):zi S (lR lo c n) (t_ lo c n):=by
 unfold lR t_
 induction List.range n with
 | nil=>exact .nil
 | cons k l ih=>exact .cons wc ih
noncomputable def oX:List T->Option (List T)
 | [.int i,.int j,.int c]=>if (rH i=true/\rH j=true)/\rH c=true/\0<c then some (lR i c (u9 i j c)) else none
 | _=>none
def Xz {S:SS}{Z:Addr->Prop}{a b c:T}{ds:List D}(h:oq S Z [a,b,c] ds):∃ d d' d2,ds=[d,d',d2]/\Vw S Z a d/\Vw S Z b d'/\Vw S Z c d2:=by
 obtain⟨d,cs,rfl,h1,d',cs2,rfl,h2,d2,cs3,rfl,h3,h4⟩:=h
 cases h4
 exact⟨d,d',d2,rfl,h1,h2,h3⟩
def TX {b:Bool}{g:Ev->Option (List T)}{tA:yh}(h:rZ g tA):rY b (wJ oX g) (aK tA):=λ S Z Y J ts Q hE e hq=>by
 obtain⟨ys,e1,e2⟩:=Aj.mp e
 refine h S Z Y J ys _ hE e1 λ ds S1 s1 r1=>?_
 unfold oX at e2
 split at e2
 ·split at e2
  ·rename_i hc
   cases e2
   obtain⟨d,d',d2,rfl,h1,h2,h3⟩:=Xz r1
   cases h1.int;cases h2.int;cases h3.int
   simp only[rH,Bw,decide_eq_true_eq] at hc
   exact⟨⟨by lia,by lia,by lia,by lia,by lia,by lia⟩,hq _ S1 s1 (W2 _ _ _) λ _ _=>trivial⟩
  ·cases e2
 ·cases e2
end L5
namespace MX
open PySem PySem.Spec PyProof.Rows HT
open PySem.SeqAt
open PySem.AutoSeq1 (wpAny_loadPart')
open PySem.MeetsSeq PySem.MeetsSeq2 PySem.MeetsSeq3
abbrev jd (A:Around) (s:Shared) (a b:Value) (r:Bool):Prop:=∀ (prog:Program) (w:World) (E Q:Ad),Q (.bool r) s->wpAny (model prog w) A (richCompare .Lt a b) Q E s
def XH (l b:Addr) (a1 a2 b1 b2:Value) (n n2:Nat) (dd Gz:Option Addr) (sl Gu:Array (Option Value)) (e1 e2 r1 r2:Bool):
  Meets (Builtin.«tuple.__lt__» ⟨[.ref l,.ref b],[]⟩)
   (λ A R s=>s.heap.get? l=some { cls:=.type "tuple",dict:=dd,data:=.seq #[a1,a2] n,slots:=sl }/\s.heap.get? b=some { cls:=.type "tuple",dict:=Gz,data:=.seq #[b1,b2] n2,slots:=Gu }/\
    EqAt A.in1 s a1 b1 e1/\(e1=false->jd A.in1 s a1 b1 r1)/\EqAt A.in1 s a2 b2 e2/\(e2=false->jd A.in1 s a2 b2 r2)/\
    R (.ok (.ret (.bool (if e1=true then (if e2=true then false else r2) else r1)))) s):=
 .of_wp λ prog w A R s h=>by
  obtain⟨hp,g,d,tk,os⟩:=s;obtain⟨hl,hb,q1,l1,q2,l2,h⟩:=h
  have f2:=AutoSeq1.sub_tuple_tuple
  wp_walk using wpAny_loadPart' hl,wpAny_loadPart' hb,Kw _ (λ EK b s'=>b.1=none/\s'=⟨hp,g,d,tk,os⟩/\(EK=[(a1,b1),(a2,b2)]\/(EK=[(a2,b2)]/\e1=true)\/(EK=[]/\e1=true/\e2=true))) _
  case turn=>
   rintro⟨y,x⟩ EK b s' ⟨GL,rfl,hz⟩
   rcases hz with hz | ⟨hz,k1⟩ | ⟨hz,_⟩
   ·cases hz
    refine Jg (q1 prog w _ _ ?_)
    cases e1 with
    | true=>
     wp_walk
     exact⟨rfl,rfl,.inr (.inl ⟨rfl,rfl⟩)⟩
    | false=>
     have C4:=l1 rfl prog w
     wp_walk using C4
     exact⟨_,rfl,by simpa using h⟩
   ·cases hz
    refine Jg (q2 prog w _ _ ?_)
    cases e2 with
    | true=>
     wp_walk
     exact⟨rfl,rfl,.inr (.inr ⟨rfl,k1,rfl⟩)⟩
    | false=>
     have C4:=l2 rfl prog w
     wp_walk using C4
     exact⟨_,rfl,by simpa [k1] using h⟩
   ·cases hz
  case fin=>
   rintro⟨b1,b2⟩ s' ⟨GL,rfl,hz⟩
   simp only at GL
   subst GL
   rcases hz with hz | ⟨hz,k1⟩ | ⟨_,k1,k2⟩
   ·cases hz
   ·cases hz
   ·rw[k1,k2] at h
    wp_walk
    exact⟨_,rfl,by simpa [Builtin.Tuple.tupleCompareSizes] using h⟩
  case h=>exact⟨rfl,rfl,.inl rfl⟩
section
variable {prog:Program}{w:World}{A:Around}{E:Ad}{s:Shared}
def TupAt (h:Heap) (v:Value) (k:Int×List Int):Prop:=∃ (b c:Addr) (t:Tok) (its:Ap),v=.ref b/\IsTup h b #[.int k.1 t,.ref c]/\IsTup h c its/\IntsAre its.toList k.2
def vD (k m:Int×List Int):Bool:=if k.1=m.1 then lexLt k.2 m.2 else decide (k.1<m.1)
theorem aw:∀ r:List Int,lexLt r r=false
 | []=>rfl
 | x::xs=>by rw[tf,if_pos rfl];exact aw xs
def Ze {us:Ae}{ns:List Int}(h:IntsAre us ns):∀ (j:Nat) (hj:j<us.length),∃ t,us[j]=.int (ns.getD j 0) t:=by
 induction h with
 | nil=>intro j hj;simp at hj
 | cons a t _ ih=>
  intro j hj
  cases j with
  | zero=>exact⟨t,rfl⟩
  | succ j=>simpa using ih j (by simpa using hj)
theorem Zc:∀ {us:Ae}{r m:List Int},IntsAre us r->IntsAre us m->r=m
 | _,_,_,.nil,h=>by cases h;rfl
 | _,_,_,.cons a t h,g=>by cases g with | cons _ _ g=>rw[Zc h g]
theorem all_eq:∀ (r m:List Int),((List.range (min r.length m.length)).all (λ j=>r.getD j 0 == m.getD j 0)&&r.length == m.length)=decide (r=m)
 | [],[]=>by simp
 | [],_::_=>by simp
 | _::_,[]=>by simp
 | x::r,y::m=>by
  have:=all_eq r m
  simp only[AW,Nat.succ_min_succ,CF,List.all_cons,List.all_map,List.getD_cons_zero,Function.comp_def,List.getD_cons_succ]
  by_cases h:x=y
  ·subst h
   have e:(x::r=x::m)↔r=m:=by simp
   simp only[beq_self_eq_true,Bool.true_and,decide_eq_decide.mpr e,<- this]
   congr 1
   simp
  ·simp[h]
def Py {b c:Addr}{its Fc:Ap}{r m:List Int}(h1:IsTup s.heap b its) (h2:IsTup s.heap c Fc) (i1:IntsAre its.toList r) (i2:IntsAre Fc.toList m) (hu:A.units<cLine) (hs:b=c->r=m):EqAt A s (.ref b) (.ref c) (decide (r=m)):=by
 by_cases z:b=c
 ·subst z
  rw[Ki (hs rfl)]
  exact .same _
 ·have z1:its.size=r.length:=by rw[<- i1.length];simp
  have z2:Fc.size=m.length:=by rw[<- i2.length];simp
  have q:=RcAt.tuples (A:=A) (s:=s) (e:=λ j=>r.getD j 0 == m.getD j 0) h1 h2 hu λ j j1 j2=>by
   obtain⟨t,e1⟩:=Ze i1 j (by simpa using j1)
   obtain⟨u,e2⟩:=Ze i2 j (by simpa using j2)
   simp only[Cb] at e1 e2
   rw[e1,e2]
   exact .int_int _ _ _ _
  rw[z1,z2,all_eq] at q
  exact .of_refs z q
def RM {a b:Value}{k m:Int×List Int}(h1:TupAt s.heap a k) (h2:TupAt s.heap b m) (hu:A.units+4<cLine):jd A s a b (vD k m):=by
 intro prog w E Q h
 obtain⟨l,c,t,its,rfl,p1,p2,p3⟩:=h1
 obtain⟨l',c',t',AH,rfl,p1',Jn,Jm⟩:=h2
 have hs:c=c'->k.2=m.2:=λ z=>by
  subst z
  obtain⟨o,g1,g2,n,g3⟩:=p2
  obtain⟨o',GZ,g2',n',g3'⟩:=Jn
  rw[g1] at GZ;cases GZ
  rw[g3] at g3';cases g3'
  exact Zc p3 Jm
 have u1:A.in1.units<cLine:=by show A.units+1<cLine;lia
 have E2:EqAt A.in1 s (.ref c) (.ref c') (decide (k.2=m.2)):=Py p2 Jn p3 Jm u1 hs
 have L2:jd A.in1 s (.ref c) (.ref c') (lexLt k.2 m.2):=λ prog w E Q h=>ai p2 Jn p3 Jm u1 h
 obtain⟨⟨cls,dd,data,sl⟩,ho,hc,n,hd⟩:=id p1
 obtain⟨⟨G9,Gz,data2,Gu⟩,Gj,FV,n2,hd2⟩:=id p1'
 simp only at hc hd FV hd2
 subst hc hd FV hd2
 have hv:(if (k.1 == m.1)=true then (if decide (k.2=m.2)=true then false else lexLt k.2 m.2) else decide (k.1<m.1))=vD k m:=by
  unfold vD
  by_cases z:k.1=m.1
  ·by_cases z2:k.2=m.2
   ·simp[z,z2,aw]
   ·simp[z,z2]
  ·simp[z]
 exact richCompare_meets_room (op:=.Lt) ⟨_,ho,rfl⟩ ⟨_,Gj,rfl⟩ PySem.F.slot_tuple_lt PySem.F.entry_tuple_lt (PySem.F.args_tuple_lt_2 _ _) (XH l l' _ _ _ _ n n2 dd Gz sl Gu (k.1 == m.1) (decide (k.2=m.2)) (decide (k.1<m.1)) (lexLt k.2 m.2))
  ⟨ho,Gj,EqAt.int_int _ _ _ _,λ _ prog w E Q h=>cC _ s _ _ _ _ prog w E Q h,E2,λ _=>L2,show Value.bool _≠Value.notImplemented/\Q (.bool _) s from ⟨(λ x=>nomatch x),by rw[hv];exact h⟩⟩ (by lia)
end
section
variable {prog:Program}{w:World}{A:Around}{R:Result->Shared->Prop}{I:Addr}{fp wr:List Addr}{n:Nat}{P:Nat->Value->Prop}{St:Nat->Heap->Prop}
def Old (P:Nat->Value->Prop) (bt:Nat->Nat->Bool) (j:Nat) (old:Ap):Prop:=(j=0/\old=#[])\/∃ i v,j=i+1/\old=#[v,v]/\P (argBest bt i) v
def RI (W:Walks prog w A.in1 I fp wr n P St) (bt:Nat->Nat->Bool) {h0:Heap}(EB:∀ (i j:Nat) (vi vj:Value) (s:Shared) (Q E:Ad),(∀ b o,h0.get? b=some o->s.heap.get? b=some o)->P i vi->P j vj->Q (.bool (bt i j)) s->wpAny (model prog w) A.in1 (richCompare .Lt vi vj) Q E s) (S:Addr) (Hn:S∉fp) (dv:Value) (hdm:∀ b o,h0.get? b=some o->b∉wr/\b≠S):
  ∀ (k j:Nat) (s:Shared) (old:Ap) (c:Nat),j+k=n->(∀ b o,h0.get? b=some o->s.heap.get? b=some o)->St j s.heap->Old P bt j old->
  s.heap.get? S=some { cls:=.type "list",dict:=none,data:=.seq old c,slots:=#[] }->
  (∀ v h' tk,(n=0/\v=dv)\/(0<n/\P (argBest bt (n-1)) v)->(∀ b o,b∉wr->b≠S->s.heap.get? b=some o->h'.get? b=some o)->R (.ok (.ret v)) { s with heap:=h',toks:=tk })->
  codeAny (model prog w) A (.builtin "min.loop" ⟨[.ref I,.none,.ref S],[("default",dv)]⟩) R s:=by
 have Hm:S∉wr:=λ h=>Hn (W.sub _ h)
 have Gb:(toString "min"++toString ".loop":String)="min.loop":=by decide
 intro k
 induction k with
 | zero=>
  intro j s old c hk hz0 AV ho hS hR
  have Dc:j=n:=by lia
  refine codeAny_builtin F.entry_min_loop ?_
  rw[Around.under_plainId F.plain_min_loop _]
  show wpAny _ A.in1 (seqItems? (.ref S) >>= _) _ _ s
  refine Jg (Kh hS rfl ?_)
  show wpAny _ A.in1 (tryCatch (pyNext (.ref I)) _ >>= _) _ _ s
  refine Jg (wpAny_tryCatch (W.done s _ _ (Dc▸AV) λ h' tk FF=>?_))
  rcases ho with ⟨h0,rfl⟩ | ⟨i,v,hi,rfl,hv⟩
  ·show wpAny _ A.in1 (rule _ >>= _) _ _ _
   refine Jg (Kk (Ab ?_))
   exact hR dv h' tk (.inl ⟨by lia,rfl⟩) λ b o hb _ e=>FF b o hb e
  ·have Ho:=FF S _ Hm hS
   show wpAny _ A.in1 (updateSeq S (λ _=>#[]) >>= _) _ _ _
   refine Jg (wpAny_updateSeq Ho rfl (Jg (Kp (Ab ?_))))
   exact hR v _ tk (.inr ⟨by lia,by rw[show n-1=i by lia];exact hv⟩) λ b o hb HQ e=>(Kl _ _ (Ne.symm HQ)).trans (FF b o hb e)
 | succ k ih=>
  intro j s old c hk hz0 AV ho hS hR
  refine codeAny_builtin F.entry_min_loop ?_
  rw[Around.under_plainId F.plain_min_loop _]
  show wpAny _ A.in1 (seqItems? (.ref S) >>= _) _ _ s
  refine Jg (Kh hS rfl ?_)
  show wpAny _ A.in1 (tryCatch (pyNext (.ref I)) _ >>= _) _ _ s
  refine Jg (wpAny_tryCatch (W.item j s _ _ (by lia) AV λ v h' tk hP C3 FF=>?_))
  have Ho:=FF S _ Hm hS
  have GB:∀ b o,h0.get? b=some o->h'.get? b=some o:=λ b o e=>FF b o (hdm b o e).1 (hz0 b o e)
  have hz:old.size<=sizeLine:=by
   rcases ho with ⟨_,rfl⟩ | ⟨_,_,_,rfl,_⟩
   ·decide
   ·show 2<=sizeLine;decide
  have put:∀ (tk:Nat),Old P bt (j+1) #[v,v]->wpAny (model prog w) A.in1 (updateSeq S (λ _=>#[v,v])) (λ _ s'=>codeAny (model prog w) A (.builtin "min.loop" ⟨[.ref I,.none,.ref S],[("default",dv)]⟩) R s') (λ _ _=>False) { s with heap:=h',toks:=tk }:=λ tk hb=>by
   refine wpAny_updateSeq (hz:=hz) Ho rfl ?_
   refine ih (j+1) _ #[v,v] _ (by lia) (λ b o e=>(Kl _ _ (Ne.symm (hdm b o e).2)).trans (GB b o e)) (W.frame _ _ _ C3 λ b hbf o e=>?_) hb (Km _ Ho rfl) λ v' JS Hr JN HG=>?_
   ·exact (Kl _ _ (λ h:S=b=>Hn (by rw[h];exact hbf))).trans e
   ·exact hR v' JS Hr JN λ b o Di HQ e=>HG b o Di HQ ((Kl _ _ (Ne.symm HQ)).trans (FF b o Di e))
  rcases ho with ⟨h0,rfl⟩ | ⟨i,vb,hi,rfl,hvb⟩
  ·show wpAny _ A.in1 (updateSeq S (λ _=>#[v,v]) >>= _) _ _ _
   refine Jg (Kc (put tk (.inr ⟨j,v,rfl,rfl,by subst h0;exact hP⟩)) (λ _ s' h=>?_) λ _ _ z=>z.elim)
   rw[Gb]
   exact Ab ⟨plainId_quiet F.plain_min_loop _,h⟩
  ·show wpAny _ A.in1 (tryCatch (holding [v,v] (richCompare .Lt v vb >>= _)) _ >>= _) _ _ _
   refine Jg (wpAny_tryCatch (J_ (Jg (EB j (argBest bt i) v vb _ _ _ GB hP hvb ?_))))
   refine Jg (J_ (Ko ?_))
   refine Jg (Kp (Ab ?_))
   subst hi
   cases hb:bt (i+1) (argBest bt i) with
   | true=>
    simp only[if_true]
    refine Jg (Kc (put tk (.inr ⟨i+1,v,rfl,rfl,by simp only[argBest,hb,if_true];exact hP⟩)) (λ _ s' h=>Jg (Kp ?_)) λ _ _ z=>z.elim)
    rw[Gb]
    exact Ab ⟨plainId_quiet F.plain_min_loop _,h⟩
   | false=>
    simp only[A5,if_false]
    refine Jg (Kp ?_)
    rw[Gb]
    refine Ab ⟨plainId_quiet F.plain_min_loop _,ih (i+1+1) _ #[vb,vb] c (by lia) GB C3 (.inr ⟨i+1,vb,rfl,rfl,by simp only[argBest,hb,A5,if_false];exact hvb⟩) Ho λ v' JS Hr JN HG=>?_⟩
    exact hR v' JS Hr JN λ b o Di HQ e=>HG b o Di HQ (FF b o Di e)
end
section
variable {prog:Program}{w:World}{A:Around}{E:Ad}{s:Shared}
theorem O1 {id:String}{b:Builtin}{args:Ae}{kw:List (Str×Value)}{Q:Ad}(hk:builtinKind id=none) (hp:plainId id=true)
  (hb:entryFor table id=some b) (ha:argsOk id ⟨args,kw⟩)
  (hc:wpAny (model prog w) A.in1 (b ⟨args,kw⟩) (λ fin s'=>match fin with
   | .done f=>(match (Except.ok f:Result) with | .ok (.ret v)=>Q v s' | .ok _=>False | .error e=>E e s')
   | .again c'=>c'.quiet=true/\codeAny (model prog w) A c' (λ r s'=>match r with | .ok (.ret v)=>Q v s' | .ok _=>False | .error e=>E e s') s') E s):
  wpAny (model prog w) A (call (.builtin id) args kw) Q E s:=by
 refine wpAny_call (codeAny_call_builtin hp hb ?_)
 simp only[checkBuiltinCall,hk]
 cases Ea:Manifest.signature? id with
 | none=>exact Ab hc
 | some sig=>
  have ha':Bind.checkArgs id sig ⟨args,kw⟩=pure ():=by simpa only [argsOk,Ea] using ha
  simp only[ha']
  exact Ab hc
def Nb (a d:Value):argsOk "min" ⟨[a],[("default",d)]⟩:=by unfold argsOk;kernel_rfl
def RH {l:Addr}{its:Ap}{ks:List (Int×List Int)}{Q:Ad}(hh:A.handled=none) (hu:A.units+8<cLine) (hl:s.heap.IsList l its) (hk:∀ (i:Nat) v,its[i]?=some v->TupAt s.heap v (ks.getD i (0,[])))
  (h:∀ v h' tk,(its.size=0/\v=.none)\/(0<its.size/\its[argBest (λ i j=>vD (ks.getD i (0,[])) (ks.getD j (0,[]))) (its.size-1)]?=some v)->(∀ b o,s.heap.get? b=some o->h'.get? b=some o)->Q v { s with heap:=h',toks:=tk }):
  wpAny (model prog w) A (call (.builtin "min") [.ref l] [("default",.none)]) Q E s:=by
 have Gb:(toString "min"++toString ".loop":String)="min.loop":=by decide
 refine O1 F.kind_min F.plain_min F.entry_min (Nb _ _) ?_
 show wpAny _ A.in1 (Builtin.Builtins.bindParams "min" ["key","default"] 0 ⟨[],[("default",.none)]⟩ >>= _) _ _ s
 refine Jg (wpAny_of_eq (show Builtin.Builtins.bindParams "min" ["key","default"] 0 ⟨[],[("default",.none)]⟩=pure [none,some .none] from rfl) ?_)
 refine Jg (Ab ?_)
 refine Jg (Kq hl ?_)
 refine Jg (Kf ?_)
 rw[Gb]
 obtain⟨ol,g1,g2⟩:=id hl
 have Ak:l<s.heap.objs.size:=Am g1
 have W:=Walks.list (prog:=prog) (w:=w) (A:=A.in1) hh s.heap.objs.size l (Au Ak) its
 have p1:∀ b o,s.heap.get? b=some o->(s.heap.push { cls:=.type "list_iterator",data:=.fields #[.ref l,.int 0 0] }).get? b=some o:=λ b o e=>J9 _ e
 have hsz:(s.heap.push { cls:=.type "list_iterator",data:=.fields #[.ref l,.int 0 0] }).objs.size=s.heap.objs.size+1:=by simp[Heap.push]
 have st:(s.heap.push { cls:=.type "list_iterator",data:=.fields #[.ref l,.int 0 0] }).IsListIter s.heap.objs.size l 0/\(s.heap.push { cls:=.type "list_iterator",data:=.fields #[.ref l,.int 0 0] }).IsList l its:=⟨⟨_,AD _ rfl,rfl,rfl⟩,⟨ol,p1 _ _ g1,g2⟩⟩
 refine Ab ⟨plainId_quiet F.plain_min_loop _,RI W (λ i j=>vD (ks.getD i (0,[])) (ks.getD j (0,[]))) (h0:=s.heap) (λ i j vi vj s' Q E kp h1 h2 hq=>?_) _ ?_ .none ?_ its.size 0 _ #[] _ (by simp) ?_ (W.frame _ _ _ st λ b _ o e=>J9 _ e) (.inl ⟨rfl,rfl⟩) (AD _ rfl) λ v h' tk hv hk=>?_⟩
 ·have f:∀ {v k},TupAt s.heap v k->TupAt s'.heap v k:=by
   rintro v k ⟨b,c,t,us,rfl,⟨o1,a1,a2⟩,⟨o2,b1,b2⟩,i⟩
   exact⟨b,c,t,us,rfl,⟨o1,kp _ _ a1,a2⟩,⟨o2,kp _ _ b1,b2⟩,i⟩
  exact RM (f (hk i vi h1)) (f (hk j vj h2)) (by show A.units+1+4<cLine;lia) prog w E Q hq
 ·intro hm
  rw[hsz] at hm
  rcases Ai.mp hm with z | z
  ·exact Nat.succ_ne_self _ z
  ·exact BA (Bb Ak) (AQ.mp z)
 ·intro b o e
  have hb:=Am e
  exact⟨λ z=>Au hb (AQ.mp z),λ z=>Au (Bb hb) (by rw[z,hsz])⟩
 ·exact λ b o e=>J9 _ (p1 b o e)
 ·refine h v h' tk hv λ b o e=>?_
  have hb:=Am e
  exact hk b o (λ z=>Au hb (AQ.mp z)) (λ z=>Au (Bb hb) (by rw[z,hsz])) (J9 _ (p1 b o e))
end
end MX
namespace L2
open PySem PySem.Spec PyProof.Rows MX
def mQ (K:Ac) (H:Hp) (v:V) (k:Int×List Int):Prop:=∃ b c,v=.ref b/\zL K H b [.int k.1,.ref c]/\zL K H c (k.2.map V.int)
def uH (ks:List (Int×List Int)) (n:Nat):Nat:=argBest (λ i j=>vD (ks.getD i (0,[])) (ks.getD j (0,[]))) (n-1)
section
variable {X:Cx}{e:Expr}{t:TA}{p pos q kp:Pos}{j:Nat}
def Ql {EF:Ag}{B:St}{H:Hp}{s:Shared}(I:Inv X EF B H s) {v:V}{u:Value}{k:Int×List Int}(h:mQ X.K H v k) (r:RelV v u):TupAt s.heap u k:=by
 obtain⟨b,c,rfl,h1,h2⟩:=h
 obtain rfl:u=Value.ref b:=r
 obtain⟨is,r1,t1,_⟩:=I.tuple h1
 obtain⟨is2,r2,t2,_⟩:=I.tuple h2
 cases r1 with
 | cons a1 r1=>
 cases r1 with
 | cons a2 r1=>
 cases r1
 obtain⟨tk,rfl⟩:=a1
 cases a2
 exact⟨b,c,tk,_,rfl,t1,t2,intsAre_of r2⟩
theorem dG {EF:Ag}{B:St}{H:Hp}{s:Shared}(I:Inv X EF B H s):∀ {es:List V}{us:Ae}{ks:List (Int×List Int)},Vals es us->Paired (mQ X.K H) es ks->∀ (i:Nat) v,us[i]?=some v->TupAt s.heap v (ks.getD i (0,[]))
 | _,_,_,.nil,_,i,v,h=>by simp at h
 | _,_,_,.cons a r,p,i,v,h=>by
  cases p with
  | cons k p=>
  cases i with
  | zero=>cases h;exact Ql I k a
  | succ i=>exact dG I r p i v (by simpa using h)
def cH (K:Ac):List V->Hp->VK->Prop:=λ xs H Q=>∃ (p:Addr) (es:List V) (ks:List (Int×List Int)),xs=[.ref p]/\zJ K H p es/\Paired (mQ K H) es ks/\(es=[]->Q .zm H)/\∀ v,es[uH ks es.length]?=some v->Q v H
def Ur {k0:Nat}(hr:yq k0 X.A) (hc:X.calm=true) (hg:Gl X "min") (hm:X.mg "min"=none) (ha:PA X [e] t) (he:backTo pos (starEach [e] X.env)=(false,eval e X.env)::backTo pos (starEach [] X.env):=by rfl) (An:(backTo pos (starEach [e] X.env)).any (·.1)=false:=by rfl):
  PE X (.Call (.Name "min" p) [e] [⟨some "default",.Constant .none j q,kp⟩] pos) (oI (cH X.K) t):=by
 intro EF s B H Q I h
 refine Kx (rF I hg hm boot_min ?_)
 refine PyProof.Rows.callWith_kw (zC (ha pos EF s B H _ I h) λ us s1 ⟨vs,H1,I1,r1,q1⟩=>?_) he An rfl rfl
 refine PyProof.Rows.kws_cons (Constant_none (PyProof.Rows.kws_nil ?_))
 show wpAny (model X.prog X.w) X.A (call (.builtin "min") us [("default",.none)]) (EP X EF B Q) X.xe s1
 obtain⟨p,es,ks,rfl,hq,hp,hn,hM⟩:=q1
 obtain⟨u,rfl,rx⟩:=vals1 r1
 cases rx
 obtain⟨its,r',pl,hz⟩:=I1.list hq
 have hu:=hr.units
 refine RH (ks:=ks) (I1.ok.hd hc) (by lia) pl.isList (λ i v hv=>dG I1 r' hp i v (by simpa using hv)) λ v h' tk hv hk=>?_
 have hsz:its.toArray.size=es.length:=by rw[Ax,r'.length]
 rcases hv with ⟨h0,rfl⟩ | ⟨h0,hv⟩
 ·exact⟨.zm,H1,I1.kept hk,rfl,hn (List.length_eq_zero_iff.mp (hsz.symm.trans h0))⟩
 ·rw[hsz] at hv
  have Gh:its[uH ks es.length]?=some v:=by
   have:=hv
   rw[DR] at this
   exact this
  obtain⟨i1,i2⟩:=AI.mp Gh
  have hi:uH ks es.length<es.length:=Nat.lt_of_lt_of_eq i1 r'.length.symm
  obtain⟨u,e1,e2⟩:=r'.get (AL hi)
  rw[Gh] at e1;cases e1
  exact⟨_,H1,I1.kept hk,e2,hM _ (AL hi)⟩
end
end L2
namespace L3
open PySem PySem.Spec L2 MX
open PyProof.Rows hiding St
section
variable {X:Cx}{K:Ac}{e:Expr}{tA:yh}{p pos q kp:Pos}{j:Nat}
noncomputable def tm (k:Int×List Int):D:=.tup [.int k.1,.tup (k.2.map D.int)]
def lstK (d:D) (S:SS) (ks:List (Int×List Int)):Prop:=match d with
 | .xr es=>es=[]/\ks=[]
 | .ref a=>S a=some (.lst (ks.map tm))
 | _=>False
def rM:xn:=λ ds S Q=>∃ a ks,ds=[a]/\lstK a S ks/\(ks=[]->Q .zm S)/\∀ k,ks[uH ks ks.length]?=some k->Q (tm k) S
def rM.mo:vw rM:=λ ds S Q Q' hq ⟨a,ks,h1,h2,h3,h4⟩=>⟨a,ks,h1,h2,λ e=>hq _ _ (h3 e),λ k a=>hq _ _ (h4 k a)⟩
def pJ {H:Hp}{v:V}{k:Int×List Int}(h:zg K H (tm k) v):mQ K H v k:=by
 simp only[tm,zg,zj] at h
 obtain⟨b,xs,rfl,h1,x,ys,rfl,rfl,z,zs,rfl,⟨c,ws,rfl,h2,h3⟩,rfl⟩:=h
 rw[h3.ints] at h2
 exact⟨b,c,rfl,h1,h2⟩
theorem aG {H:Hp}:∀ {ks:List (Int×List Int)}{es:List V},zj K H (ks.map tm) es->Paired (mQ K H) es ks
 | [],es,h=>by simp only[A6,zj] at h;subst h;exact .nil
 | k::ks,es,h=>by
  simp only[Ar,zj] at h
  obtain⟨x,xs,rfl,h1,h2⟩:=h
  exact .cons (pJ h1) (aG h2)
def rM.fits:uv K rM (cH K):=λ xs ds H S Q h0 h2 h=>by
 obtain⟨a,ks,rfl,h1,h3,h4⟩:=h
 obtain⟨x,rfl,r⟩:=h0.one
 obtain⟨a,es,rfl,x1,x2⟩:∃ p es,x=.ref p/\zJ K H p es/\zj K H (ks.map tm) es:=by
  unfold lstK at h1
  split at h1
  ·obtain⟨rfl,rfl⟩:=h1
   simp only[zg] at r
   obtain⟨a,xs,r1,r2,r3⟩:=r
   exact⟨a,xs,r1,r2.sq,r3⟩
  ·rename_i a
   simp only[zg] at r
   obtain⟨xs,x1,x2⟩:=h2 a _ h1
   exact⟨a,xs,r,.inl (.inl x1),x2⟩
  ·exact h1.elim
 have hl:es.length=ks.length:=by rw[<- x2.length,Ay]
 refine⟨a,es,ks,rfl,x1,aG x2,λ e=>h3 (by
  have:ks.length=0:=by rw[<- hl,e];rfl
  exact List.length_eq_zero_iff.mp this) _ H (by simp only[zg]) (.refl H) h2,λ v hv=>?_⟩
 rw[hl] at hv
 have hi:uH ks ks.length<ks.length:=Nat.lt_of_lt_of_eq (AI.mp hv).1 hl
 have hk:=AL hi
 obtain⟨y,y1,y2⟩:=x2.get (i:=uH ks ks.length) (d:=tm ks[uH ks ks.length]) (by rw[Az,hk];rfl)
 rw[hv] at y1;cases y1
 exact h4 _ hk _ H y2 (.refl H) h2
def UP {k0:Nat}(hr:yq k0 X.A) (hm:X.mg "min"=none) (ha:yY X [e] tA) (hc:X.calm=true:=by rfl) (hg:Gl X "min":=by rfl) (he:backTo pos (starEach [e] X.env)=(false,eval e X.env)::backTo pos (starEach [] X.env):=by rfl) (An:(backTo pos (starEach [e] X.env)).any (·.1)=false:=by rfl):
  PD X (.Call (.Name "min" p) [e] [⟨some "default",.Constant .none j q,kp⟩] pos) (xm rM tA):=
 u6 (Ur hr hc hg hm ha.pa he An) rM.mo rM.fits ha.mo
end
end L3
namespace L5
open PySem PySem.Spec L2 L3 MX
open PyProof.Rows hiding St
noncomputable def tj (k:Int×List Int):T:=.tup [.int k.1,.tup (k.2.map T.int)]
noncomputable def nI:T->Option (Int×List Int)
 | .tup [.int c,.tup ts]=>(vH ts).map λ r=>(c,r)
 | _=>none
noncomputable def pH:List T->Option (List (Int×List Int))
 | []=>some []
 | t::ts=>(nI t).bind λ k=>(pH ts).map λ ks=>k::ks
def Qq {t:T}{k:Int×List Int}(h:nI t=some k):t=tj k:=by
 unfold nI at h
 split at h
 ·obtain⟨r,e1,e2⟩:=AA.mp h
  cases e2
  rw[pO e1];rfl
 ·cases h
theorem aH:∀ {ts:List T}{ks:List (Int×List Int)},pH ts=some ks->ts=ks.map tj
 | [],ks,h=>by cases h;rfl
 | t::ts,ks,h=>by
  unfold pH at h
  obtain⟨k,e1,e2⟩:=Aj.mp h
  obtain⟨ks',e3,rfl⟩:=AA.mp e2
  rw[Qq e1,aH e3];rfl
def Qk (ks:List (Int×List Int)):pH (ks.map tj)=some ks:=by
 induction ks with
 | nil=>rfl
 | cons k ks ih=>
  have:nI (tj k)=some k:=by simp[nI,tj,gD]
  simp[pH,this,ih]
noncomputable def nF:List T->Option T
 | [.lst ts]=>(pH ts).map λ ks=>match ks[uH ks ks.length]? with
  | none=>.zm
  | some k=>tj k
 | _=>none
def d_ {S:SS}{k:Int×List Int}{d:D}:Sn S (tj k) d↔d=tm k:=by
 unfold tj tm
 constructor
 ·intro h
  simp only[Sn,zi] at h
  obtain⟨ds,rfl,c,cs,rfl,rfl,c',cs',rfl,⟨es,rfl,h⟩,rfl⟩:=h
  rw[u5.mp h]
 ·rintro rfl
  simp only[Sn,zi]
  exact⟨_,rfl,_,_,rfl,rfl,_,_,rfl,⟨_,rfl,u5.mpr rfl⟩,rfl⟩
theorem jJ {S:SS}:∀ {ks:List (Int×List Int)}{ds:List D},zi S (ks.map tj) ds->ds=ks.map tm
 | [],ds,h=>by simpa only [A6,zi] using h
 | k::ks,ds,h=>by
  simp only[Ar,zi] at h
  obtain⟨c,cs,rfl,h1,h2⟩:=h
  rw[d_.mp h1,jJ h2];rfl
def QS:vx zF nF rM:=λ S Z ys z ds Q hz hv e hq=>by
 unfold nF at e
 split at e
 ·obtain⟨d,rfl,h1⟩:=vz hv
  obtain⟨ks,e1,e2⟩:=AA.mp e
  rw[aH e1] at h1
  have hk:lstK d S ks:=by
   rcases h1 with h | ⟨ts,p,ds,e,rfl,h1,h2,_⟩
   ·simp only[Sn] at h
    obtain⟨ds,h1,h2⟩:=h
    have e:=jJ h2
    subst e
    rcases h1 with ⟨rfl,ho⟩ | ⟨a,rfl,h3⟩
    ·cases ks with
     | nil=>exact⟨rfl,rfl⟩
     | cons k ks=>cases ho
    ·exact (uB h3).2
   ·cases e
    rw[jJ h2] at h1
    exact h1
  refine⟨d,ks,rfl,hk,λ en=>?_,λ k hk=>?_⟩
  ·subst en
   cases e2
   exact hq _ S (.refl S) (Cl.of (λ _=>nofun) jK)
  ·rw[hk] at e2
   cases e2
   exact hq _ S (.refl S) (Cl.of (λ _=>nofun) (d_.mpr rfl))
 ·cases e
end L5
namespace L5
open PySem PySem.Spec L2 L3
open PyProof.Rows hiding St
def Po {P:Program}{w:World}{K:Ac}{mg:AF}{base:Heap}{x:Str}{st:Stmt}{R:Rk}{ps:List Str}{k:Nat}(F:Fy K mg x st)
  (hb:∀ (kV doc pm:Value) (an:Option Addr) (Af ct:Value) (us:Ae),us.length=ps.length->bindArgs (PySem.W.fnOf x x (tE st) (w_ st) (zB st) .none kV doc pm an Af ct) ⟨us,[]⟩=pure (ps.zip us)):FD P w K mg base x k ps (zQ R λ _=>none):=by
 obtain⟨f,fd,F,hm⟩:=F
 exact⟨⟨f,fd,⟨λ vs H Q E ⟨ds,S,r1,r2,Z,ys,y,_,_,e,_⟩=>(nomatch e),λ A outer s H args us vs Q E _ _ _ _ ⟨ds,S,_,_,Z,ys,y,_,_,e,_⟩=>(nomatch e)⟩,hm,F.kp,F.binds hb⟩,zQ.mo⟩
end L5
namespace L3
open PySem PySem.Spec L2
open PyProof.Rows hiding St
section
variable {X:Cx}{e:Expr}{es:List Expr}{tA:yh}{pos p:Pos}
def za (i:Nat) {x:Str}(hN:X.N[i]?=some x:=by rfl) (hv:kS X.env.scope x:=by first | exact Or.inl rfl | exact Or.inr (Or.inl rfl) | exact Or.inr (Or.inr rfl)) (hd:(x == ("__debug__":Str))=false:=by decide) (Bs:(x == ("__classdict__":Str))=false:=by decide):PD X (.Name x pos) (y4 i):=UN i (pv i hN hv hd Bs)
def zG {x:Str}{k k':Nat}{ps:List Str}{sp:sR}(F:FD X.prog X.w X.K X.mg X.base x k ps sp) (hr:yq k' X.A) (ha:yY X (e::es) tA) (hk:k<=k':=by decide) (hg:Gl X x:=by rfl) (B_:(x == ("__debug__":Str))=false:=by decide)
  (he:starEach (e::es) X.env=(false,eval e X.env)::starEach es X.env:=by rfl) (An:(backTo pos (starEach es X.env)).any (·.1)=false:=by rfl):PD X (.Call (.Name x p) (e::es) [] pos) (kN sp tA):=b9 F (hr.mono hk) ha hg B_ he An
end
def ym {N P:List Str}{sc:Scope}(h1:sc.kind=.function:=by rfl) (h2:sc.isCoroutine=false:=by rfl) (h3:sc.isGenerator=false:=by rfl) (h4:N.Nodup:=by decide +kernel) (h5:N.take P.length=P:=by rfl) (h6:∀ x∈P,sc.names.lookup x=some .local\/sc.names.lookup x=some .cell:=by decide +kernel) (h7:∀ y∈sc.names,y.2≠.free:=by decide +kernel):zY N P sc:=⟨h1,h2,h3,h4,h5,h6,h7⟩
def wH (l:List Str) (h:l.Nodup:=by decide +kernel):l.Nodup:=h
end L3
namespace L5
open L2 L3
def yz {R:Rk}{g:Sm}{t:yD}(h:yu R g t:=by
 repeat' first
  | (with_reducible first | exact yb _ | apply bR | apply Sv | apply SX)
  | (with_reducible first | exact xx _ | refine zX (R:=xB) xV ?_ ?_ | refine rC (R:=xB) ?_ | apply bO | apply bP)
  | ((try first | refine xo.fr ?_ | refine xo.fe ?_);with_reducible first | exact yc _ | refine zX (R:=zF) (by with_reducible first | exact good_add | exact nQ | exact Zm | exact QY | exact rJ | exact gK | exact gN | exact QR | exact Zk) ?_ ?_ | refine rC (R:=zF) ?_ | refine bQ (R:=zF) (by with_reducible first | exact QX | exact QN | exact QW | exact QU | exact QT | exact QZ | exact QQ | exact QO | exact QV | exact Zn | exact QS) ?_ | apply kg | apply Si | apply qv | apply S_ | apply bL | exact ki _ | exact Sj _ | exact su | apply S9 | apply SW | apply S7 | refine Rj (by with_reducible first | exact nQ | exact gK | exact gN) (by with_reducible first | exact nQ | exact gK | exact gN) ?_ ?_ ?_ | apply rB | apply So | exact Rc _ | apply qw | apply uW)
  | (refine xo.er ?_;with_reducible first | exact xx _ | refine zX (R:=xB) xV ?_ ?_ | refine rC (R:=xB) ?_ | apply bO | apply bP)
  | (with_reducible first | apply xF | apply ud | apply qu | exact qq | apply qt | apply iX | apply bI | apply nA | apply TC | exact kd _ | apply TN | exact TH | apply TK | apply TF | apply TL | exact TR _ | apply TQ | apply TJ)
  | (with_reducible first | exact ke | apply kf | exact uV | apply xt | apply sr | apply hG | apply bM | apply kh | apply bN | exact Sh | exact pB _ | exact bJ | apply i_ | exact TZ | apply T_ | apply iZ | apply TV | apply iY | apply TY | apply TU | apply TX | exact Sf | apply Se)
  | (first | exact Sd _ | apply bK | apply Sb)
  | exact yu.fv (kd _)
  | exact Bool.false):yu R g t:=h
end L5
namespace RN
open L5
abbrev Bd:=List (Int×Int)
def yP (b c:Bd):Prop:=∀ q,zV b q=true->zV c q=true
def yP.refl (b:Bd):yP b b:=λ _ h=>h
def yP.of {b c:Bd}(h:∀ p∈b,∃ r∈c,r.1<=p.1/\r.2<=p.2):yP b c:=λ q x=>by
 obtain⟨p,hp,h1,h2⟩:=yT.mp x
 obtain⟨r,hr,h3,h4⟩:=h p hp
 exact yT.mpr ⟨r,hr,by lia,by lia⟩
def yP.at {b c:Bd}(h:yP b c) {p:Int×Int}(hp:p∈b):∃ r∈c,r.1<=p.1/\r.2<=p.2:=yT.mp (h p (yT.mpr ⟨p,hp,AG _,AG _⟩))
structure Gd (A B:Int) (b:Bd):Prop where
 nN:wz b
 wj:∀ p∈b,(0<=p.1/\p.1<=A)/\0<=p.2/\p.2<=B
noncomputable def xO:Bd:=[(0,0)]
theorem Gd.xO {A B:Int}(hA:0<=A) (hB:0<=B):Gd A B xO:=⟨by unfold RN.xO wz;simp,λ p hp=>by
 unfold RN.xO at hp;cases AQ.mp hp;exact⟨⟨AG _,hA⟩,AG _,hB⟩⟩
def Gd.Qa {A B:Int}{b:Bd}(h:Gd A B b):yP b RN.xO:=yP.of λ p hp=>⟨(0,0),by unfold RN.xO;simp,(h.wj p hp).1.1,(h.wj p hp).2.1⟩
theorem Gd.eq {A B:Int}{b c:Bd}(h:Gd A B b) (h':Gd A B c) (x:yP b c) (y:yP c b):b=c:=wz.eq h.nN h'.nN λ q=>by
 rw[Bz];exact⟨x q,y q⟩
def Gd.least {A B:Int}{ps:Bd}(h:∀ p∈ps,(0<=p.1/\p.1<=A)/\0<=p.2/\p.2<=B):Gd A B (wV ps):=⟨gy ps,λ p hp=>h p (RZ hp)⟩
def a9 {ps qs:Bd}(h:∀ p∈ps,∃ r∈qs,r.1<=p.1/\r.2<=p.2):yP (wV ps) (wV qs):=λ q x=>by
 rw[kx] at x ⊢;exact yP.of h q x
theorem aU:∀ {b:Bd}{lo hi:Int},wz b->(∀ p∈b,lo<=p.1/\p.1<=hi)->(b.length:Int)<=hi+1-lo\/b=[]
 | [],_,_,_,_=>.inr rfl
 | p::b,lo,hi,h,hb=>by
  have h1:=Bn.mp h
  have hp:=hb p Ao
  refine .inl ?_
  rcases aU (lo:=p.1+1) (hi:=hi) h1.2 (λ q hq=>⟨by have:=(h1.1 q hq).1;lia,(hb q (Aw _ hq)).2⟩) with x | x
  ·rw[AW];lia
  ·subst x;simp;lia
theorem aR:∀ {b:Bd}{lo hi:Int},wz b->(∀ p∈b,lo<=p.2/\p.2<=hi)->(b.length:Int)<=hi+1-lo\/b=[]
 | [],_,_,_,_=>.inr rfl
 | p::b,lo,hi,h,hb=>by
  have h1:=Bn.mp h
  have hp:=hb p Ao
  refine .inl ?_
  rcases aR (lo:=lo) (hi:=p.2-1) h1.2 (λ q hq=>⟨(hb q (Aw _ hq)).1,by have:=(h1.1 q hq).2;lia⟩) with x | x
  ·rw[AW];lia
  ·subst x;simp;lia
def Gd.rE {A B:Int}{b:Bd}(h:Gd A B b) (hA:0<=A):(b.length:Int)<=A+1:=by
 rcases aU (lo:=0) (hi:=A) h.nN (λ p hp=>(h.wj p hp).1) with x | x
 ·lia
 ·subst x;simp;lia
def Gd.RY {A B:Int}{b:Bd}(h:Gd A B b) (hB:0<=B):(b.length:Int)<=B+1:=by
 rcases aR (lo:=0) (hi:=B) h.nN (λ p hp=>(h.wj p hp).2) with x | x
 ·lia
 ·subst x;simp;lia
noncomputable def xT (x:Int):Int:=if x>0 then x else 0
def gg (x:Int):0<=xT x:=by unfold xT;split <;> lia
def gf {x y:Int}(h:x<=y):xT x<=xT y:=by unfold xT;split <;> split <;> lia
def R7 {x g:Int}(h:0<=x) (hg:0<=g):xT (x-g)<=x:=by unfold xT;split <;> lia
def xN (a b:Int) (p:Int×Int):Int×Int:=(xT (p.1-a),xT (p.2-b))
noncomputable def vK (A B:Int) (p:Int×Int):Bool:=decide (p.1<=A)&&decide (p.2<=B)
def mL (A B a b:Int) (bd:Bd):Bd:=wV ((bd.map (xN a b)).filter (vK A B))
def Nf (A B a b:Int) (bd:Bd):Gd A B (mL A B a b bd):=Gd.least λ p hp=>by
 obtain⟨h1,h2⟩:=Bm.mp hp
 obtain⟨q,_,rfl⟩:=Av.mp h1
 have h3:(xN a b q).1<=A/\(xN a b q).2<=B:=by simpa [vK] using h2
 exact⟨⟨gg _,h3.1⟩,gg _,h3.2⟩
def Y6 (A B a b:Int) {bd bd':Bd}(h:yP bd bd'):yP (mL A B a b bd) (mL A B a b bd'):=a9 λ p hp=>by
 obtain⟨h1,h2⟩:=Bm.mp hp
 obtain⟨q,hq,rfl⟩:=Av.mp h1
 obtain⟨r,hr,r1,r2⟩:=h.at hq
 have h3:(xN a b q).1<=A/\(xN a b q).2<=B:=by simpa [vK] using h2
 have m1:(xN a b r).1<=(xN a b q).1:=gf (by lia)
 have m2:(xN a b r).2<=(xN a b q).2:=gf (by lia)
 exact⟨xN a b r,Bm.mpr ⟨Av.mpr ⟨r,hr,rfl⟩,by simp[vK];lia⟩,m1,m2⟩
def uj (b c:Bd):Bd:=wV (b++c)
def PM (b c:Bd) (q:Int×Int):zV (uj b c) q=(zV b q||zV c q):=by unfold uj;rw[kx,Ol]
def PL {A B:Int}{b c:Bd}(h:Gd A B b) (h':Gd A B c):Gd A B (uj b c):=Gd.least λ p hp=>by
 rcases AY.mp hp with x | x
 ·exact h.wj p x
 ·exact h'.wj p x
noncomputable def kq (p q:Int×Int):Int×Int:=(if q.1>p.1 then q.1 else p.1,if q.2>p.2 then q.2 else p.2)
def vO (b c:Bd):Bd:=wV (b.flatMap λ p=>c.map (kq p))
def Yl (b c:Bd) (q:Int×Int):zV (vO b c) q=(zV b q&&zV c q):=by
 unfold vO
 rw[kx,Bz,Bw,yT,yT,yT]
 constructor
 ·rintro⟨p,hp,h1,h2⟩
  obtain⟨x,hx,hp⟩:=Ck.mp hp
  obtain⟨y,hy,rfl⟩:=Av.mp hp
  unfold kq at h1 h2
  dsimp only at h1 h2
  refine⟨⟨x,hx,?_,?_⟩,⟨y,hy,?_,?_⟩⟩ <;> (first | (split at h1 <;> lia) | (split at h2 <;> lia))
 ·rintro⟨⟨x,hx,h1,h2⟩,⟨y,hy,h3,h4⟩⟩
  refine⟨kq x y,Ck.mpr ⟨x,hx,Av.mpr ⟨y,hy,rfl⟩⟩,?_,?_⟩
  ·show (if y.1>x.1 then y.1 else x.1)<=q.1
   split <;> lia
  ·show (if y.2>x.2 then y.2 else x.2)<=q.2
   split <;> lia
def OU {A B:Int}{b c:Bd}(h:Gd A B b) (h':Gd A B c):Gd A B (vO b c):=Gd.least λ p hp=>by
 obtain⟨x,hx,hp⟩:=Ck.mp hp
 obtain⟨y,hy,rfl⟩:=Av.mp hp
 have a1:=h.wj x hx
 have a2:=h'.wj y hy
 unfold kq
 dsimp only
 refine⟨⟨?_,?_⟩,?_,?_⟩ <;> split <;> lia
def sJ (bs:List Bd):Bd:=bs.foldl uj []
def kP (bs:List Bd):Bd:=bs.foldl vO xO
theorem ZF:∀ (bs:List Bd) (b:Bd) (q:Int×Int),zV (bs.foldl uj b) q=true↔zV b q=true\/∃ c∈bs,zV c q=true
 | [],b,q=>by simp
 | c::bs,b,q=>by
  rw[Dq,ZF bs,PM,DQ]
  constructor
  ·rintro ((h | h) | ⟨d,hd,h⟩)
   ·exact .inl h
   ·exact .inr ⟨c,Ao,h⟩
   ·exact .inr ⟨d,Aw _ hd,h⟩
  ·rintro (h | ⟨d,hd,h⟩)
   ·exact .inl (.inl h)
   ·rcases Ai.mp hd with e | e
    ·subst e;exact .inl (.inr h)
    ·exact .inr ⟨d,e,h⟩
theorem kG {A B:Int}:∀ (bs:List Bd) (b:Bd),Gd A B b->(∀ c∈bs,Gd A B c)->Gd A B (bs.foldl uj b)
 | [],b,h,_=>h
 | c::bs,b,h,hb=>kG bs _ (PL h (hb c Ao)) λ d hd=>hb d (Aw _ hd)
def Gd.nil {A B:Int}:Gd A B []:=⟨by unfold wz;simp,λ p hp=>by cases hp⟩
theorem Ym:∀ (bs:List Bd) (b:Bd) (q:Int×Int),zV (bs.foldl vO b) q=true↔zV b q=true/\∀ c∈bs,zV c q=true
 | [],b,q=>by simp
 | c::bs,b,q=>by
  rw[Dq,Ym bs,Yl,Bw]
  constructor
  ·rintro⟨⟨h1,h2⟩,h3⟩
   exact⟨h1,λ d hd=>by
    rcases Ai.mp hd with e | e
    ·subst e;exact h2
    ·exact h3 d e⟩
  ·rintro⟨h1,h2⟩
   exact⟨⟨h1,h2 c Ao⟩,λ d hd=>h2 d (Aw _ hd)⟩
theorem fD {A B:Int}:∀ (bs:List Bd) (b:Bd),Gd A B b->(∀ c∈bs,Gd A B c)->Gd A B (bs.foldl vO b)
 | [],b,h,_=>h
 | c::bs,b,h,hb=>fD bs _ (OU h (hb c Ao)) λ d hd=>hb d (Aw _ hd)
noncomputable def sa (pu:Bool) (g t:Int):Int×Int:=if pu=true then (t,g) else (g,t)
noncomputable def vI (pu:Bool) (p:Int×Int):Int:=if pu=true then p.2 else p.1
noncomputable def sF (pu:Bool) (p:Int×Int):Int:=if pu=true then p.1 else p.2
noncomputable def xX (pu:Bool) (zO give get:Int):Nat->Int->Int->Bd
 | 0,_,_=>[]
 | n+1,g,t=>if g<=zO then sa pu g t::xX pu zO give get n (g+give) (xT (t-get)) else []
def VI {pu:Bool}{g t g' t':Int}(h:g'<=g) (h':t'<=t):(sa pu g' t').1<=(sa pu g t).1/\(sa pu g' t').2<=(sa pu g t).2:=by
 cases pu
 ·exact⟨h,h'⟩
 ·exact⟨h',h⟩
theorem Yg (pu:Bool) (zO give get:Int):∀ (n:Nat) (g t g' t':Int),g'<=g->t'<=t->∀ e∈xX pu zO give get n g t,∃ r∈xX pu zO give get n g' t',r.1<=e.1/\r.2<=e.2
 | 0,_,_,_,_,_,_,e,he=>by cases he
 | n+1,g,t,g',t',h1,h2,e,he=>by
  unfold xX at he ⊢
  split at he
  ·rw[if_pos (by lia)]
   rcases Ai.mp he with x | x
   ·subst x;exact⟨_,Ao,VI h1 h2⟩
   ·obtain⟨r,hr,r1⟩:=Yg pu zO give get n _ _ (g' + give) (xT (t'-get)) (by lia) (gf (by lia)) e x
    exact⟨r,Aw _ hr,r1⟩
  ·cases he
theorem fA (pu:Bool) (zO give get most:Int) (hg:1<=give) (hgt:0<=get):∀ (n:Nat) (g t:Int),0<=g->0<=t->t<=most->∀ e∈xX pu zO give get n g t,(0<=vI pu e/\vI pu e<=zO)/\0<=sF pu e/\sF pu e<=most
 | 0,_,_,_,_,_,e,he=>by cases he
 | n+1,g,t,h1,h2,h3,e,he=>by
  unfold xX at he
  split at he
  ·rcases Ai.mp he with x | x
   ·subst x
    cases pu <;> exact⟨⟨h1,by assumption⟩,h2,h3⟩
   ·exact fA pu zO give get most hg hgt n _ _ (by lia) (gg _) (Int.le_trans (R7 h2 hgt) h3) e x
  ·cases he
theorem Yh (pu:Bool) (zO give get:Int) (hg:1<=give):∀ (n:Nat) (g t:Int),g<=zO+1->((xX pu zO give get n g t).length:Int)<=zO+1-g
 | 0,g,t,h=>by simp[xX];lia
 | n+1,g,t,h=>by
  unfold xX
  split
  ·rw[AW]
   by_cases hh:g+give<=zO+1
   ·have:=Yh pu zO give get hg n (g+give) (xT (t-get)) hh
    lia
   ·have e:xX pu zO give get n (g+give) (xT (t-get))=[]:=by
     cases n with
     | zero=>rfl
     | succ n=>unfold xX;rw[if_neg (by lia)]
    rw[e];simp;lia
  ·simp;lia
structure Wy where
 f:Nat
 t:Nat
 a:Int
 b:Int
structure Sl where
 p:Nat
 pu:Bool
 gv:Int
 gt:Int
structure zP where
 A:Int
 B:Int
 os:List Bool
 ws:List Wy
 ss:List Sl
structure zP.Ok (F:zP):Prop where
 a0:0<=F.A
 a1:F.A<=12
 b0:0<=F.B
 b1:F.B<=12
 n1:1<=F.os.length
 n8:F.os.length<=8
 ws:∀ w∈F.ws,w.f<F.os.length/\w.t<F.os.length
 oD:F.ws.length<=60
 ss:∀ s∈F.ss,1<=s.gv/\0<=s.gt
 sl:F.ss=[]\/(F.A+1)*(F.B+1)<64
 s8:F.ss.length<=60
noncomputable def zP.zO (F:zP) (pu:Bool):Int:=if pu=true then F.B else F.A
def yM (F:zP) (s:Sl) (p:Int×Int):Bd:=xX s.pu (F.zO s.pu) s.gv s.gt 100 (vI s.pu p) (sF s.pu p)
def mm (F:zP) (s:Sl) (bd:Bd):Bd:=wV (bd.flatMap (yM F s))
def Ox (F:zP) (s:Sl) {b c:Bd}(h:yP b c):yP (mm F s b) (mm F s c):=a9 λ p hp=>by
 obtain⟨x,hx,hp⟩:=Ck.mp hp
 obtain⟨r,hr,r1,r2⟩:=h.at hx
 obtain⟨e,he,e1⟩:=Yg s.pu (F.zO s.pu) s.gv s.gt 100 (vI s.pu x) (sF s.pu x) (vI s.pu r) (sF s.pu r) (by unfold vI;split <;> assumption) (by unfold sF;split <;> assumption) p hp
 exact⟨e,Ck.mpr ⟨r,hr,he⟩,e1⟩
def Ow {F:zP}{s:Sl}(hs:1<=s.gv/\0<=s.gt) {p:Int×Int}(hp:(0<=p.1/\p.1<=F.A)/\0<=p.2/\p.2<=F.B):∀ e∈yM F s p,(0<=e.1/\e.1<=F.A)/\0<=e.2/\e.2<=F.B:=λ e he=>by
 obtain⟨p,pu,gv,gt⟩:=s
 unfold yM zP.zO at he
 cases pu with
 | true=>exact (fA true F.B gv gt F.A hs.1 hs.2 100 _ _ hp.2.1 hp.1.1 hp.1.2 e he).symm
 | false=>exact fA false F.A gv gt F.B hs.1 hs.2 100 _ _ hp.1.1 hp.2.1 hp.2.2 e he
def Oy {F:zP}{s:Sl}(hs:1<=s.gv/\0<=s.gt) {b:Bd}(h:Gd F.A F.B b):Gd F.A F.B (mm F s b):=Gd.least λ p hp=>by
 obtain⟨x,hx,hp⟩:=Ck.mp hp
 exact Ow hs (h.wj x hx) p hp
def vc (F:zP) (EG:List Bd) (p:Nat):List Bd:=(F.ws.filter λ w=>decide (w.f=p)).map λ w=>mL F.A F.B w.a w.b (EG.getD w.t [])
noncomputable def zP.FW (F:zP) (p:Nat):Option Sl:=F.ss.find? λ s=>decide (s.p=p)
def xf (F:zP) (EG:List Bd) (p:Nat):Bd:=
 if F.os.getD p false=true then match F.FW p with
  | none=>sJ (vc F EG p)
  | some s=>mm F s (sJ (vc F EG p))
 else kP (vc F EG p)
def fQ (F:zP) (EG:List Bd) (p:Nat):∀ c∈vc F EG p,Gd F.A F.B c:=λ c hc=>by
 obtain⟨w,_,rfl⟩:=Av.mp hc
 exact Nf ..
def aa {F:zP}(ok:F.Ok) (EG:List Bd) (p:Nat):Gd F.A F.B (xf F EG p):=by
 unfold xf
 have h1:Gd F.A F.B (sJ (vc F EG p)):=kG _ _ Gd.nil (fQ F EG p)
 split
 ·split
  ·exact h1
  ·rename_i s e
   exact Oy (ok.ss s (List.mem_of_find?_eq_some e)) h1
 ·exact fD _ _ (Gd.xO ok.a0 ok.b0) (fQ F EG p)
def R5 (F:zP) {l m:List Bd}(p:Nat) (h:∀ w∈F.ws,w.f=p->yP (l.getD w.t []) (m.getD w.t [])):yP (xf F l p) (xf F m p):=by
 have h1:yP (sJ (vc F l p)) (sJ (vc F m p)):=λ q hq=>by
  unfold sJ at hq ⊢
  rw[ZF] at hq ⊢
  rcases hq with x | ⟨c,hc,x⟩
  ·exact .inl x
  ·obtain⟨w,hw,rfl⟩:=Av.mp hc
   obtain⟨w1,w2⟩:=Bm.mp hw
   exact .inr ⟨_,Av.mpr ⟨w,hw,rfl⟩,Y6 _ _ _ _ (h w w1 (by simpa using w2)) q x⟩
 unfold xf
 split
 ·split
  ·exact h1
  ·exact Ox F _ h1
 ·intro q hq
  unfold kP at hq ⊢
  rw[Ym] at hq ⊢
  refine⟨hq.1,λ c hc=>?_⟩
  obtain⟨w,hw,rfl⟩:=Av.mp hc
  obtain⟨w1,w2⟩:=Bm.mp hw
  exact Y6 _ _ _ _ (h w w1 (by simpa using w2)) q (hq.2 _ (Av.mpr ⟨w,hw,rfl⟩))
def R4 (F:zP) {l m:List Bd}(p:Nat) (h:∀ w∈F.ws,w.f=p->l.getD w.t []=m.getD w.t []):xf F l p=xf F m p:=by
 have:vc F l p=vc F m p:=by
  unfold vc
  refine CD λ w hw=>?_
  obtain⟨w1,w2⟩:=Bm.mp hw
  rw[h w w1 (by simpa using w2)]
 unfold xf;rw[this]
noncomputable def box:List (Int×Int):=(List.range 13).flatMap λ(i:Nat)=>(List.range 13).map λ(j:Nat)=>((i:Int),(j:Int))
def mu (b:Bd):Nat:=box.countP (zV b)
def OT {p:Int×Int}(h:(0<=p.1/\p.1<=12)/\0<=p.2/\p.2<=12):p∈box:=by
 obtain⟨x,y⟩:=p
 dsimp only at h
 refine Ck.mpr ⟨x.toNat,AK.mpr (by lia),Av.mpr ⟨y.toNat,AK.mpr (by lia),?_⟩⟩
 rw[C0 h.1.1,C0 h.2.1]
theorem Yb {α:Type}{p q:α->Bool}:∀ {l:List α},(∀ x,q x=true->p x=true)->(∃ x∈l,p x=true/\q x=false)->l.countP q<l.countP p
 | [],_,⟨x,hx,_⟩=>by cases hx
 | a::l,h,⟨x,hx,h1,h2⟩=>by
  have hle:l.countP q<=l.countP p:=List.countP_mono_left λ y _=>h y
  rw[List.countP_cons,List.countP_cons]
  rcases Ai.mp hx with e | e
  ·subst e;rw[if_neg (by rw[h2];decide),if_pos h1];lia
  ·have:=Yb h ⟨x,e,h1,h2⟩
   by_cases c:q a=true
   ·rw[if_pos c,if_pos (h a c)];lia
   ·rw[if_neg c];split <;> lia
def RB {A B:Int}(hA:A<=12) (hB:B<=12) {b c:Bd}(hb:Gd A B b) (hc:Gd A B c) (h:yP b c) (Aq:b≠c):mu b<mu c:=by
 refine Yb h ?_
 by_cases x:∃ p∈c,zV b p=false
 ·obtain⟨p,hp,e⟩:=x
  have q:=hc.wj p hp
  exact⟨p,OT ⟨⟨q.1.1,by lia⟩,q.2.1,by lia⟩,yT.mpr ⟨p,hp,AG _,AG _⟩,e⟩
 ·exact absurd (hb.eq hc h (yP.of λ p hp=>by
   cases e:zV b p with
   | true=>exact yT.mp e
   | false=>exact absurd ⟨p,hp,e⟩ x)) Aq
def RC (b:Bd):mu b<=169:=by
 have:box.length=169:=by decide
 rw[<- this];exact List.countP_le_length
def vC (l:List Bd):Nat:=(l.map mu).sum
theorem af:∀ (l:List Bd),vC l<=169*l.length
 | []=>by simp[vC]
 | b::l=>by
  have h1:=af l
  have h2:=RC b
  unfold vC at h1 ⊢
  rw[Ar,List.sum_cons,AW];lia
theorem gi {A B:Int}(hA:A<=12) (hB:B<=12):∀ {l m:List Bd},l.length=m.length->(∀ b∈l,Gd A B b)->(∀ b∈m,Gd A B b)->(∀ i,yP (l.getD i []) (m.getD i []))->l≠m->vC l<vC m
 | [],[],_,_,_,_,h=>absurd rfl h
 | [],_::_,h,_,_,_,_=>by simp at h
 | _::_,[],h,_,_,_,_=>by simp at h
 | b::l,c::m,hl,gb,gc,h,Aq=>by
  have Gp:l.length=m.length:=by simpa using hl
  have h0:yP b c:=h 0
  have hs:∀ i,yP (l.getD i []) (m.getD i []):=λ i=>by simpa using h (i+1)
  have key:vC l<=vC m:=by
   by_cases e:l=m
   ·rw[e];exact Ah _
   ·exact BC (gi hA hB Gp (λ x hx=>gb x (Aw _ hx)) (λ x hx=>gc x (Aw _ hx)) hs e)
  show (List.map mu (b::l)).sum<(List.map mu (c::m)).sum
  rw[Ar,List.sum_cons,Ar,List.sum_cons]
  by_cases e:b=c
  ·subst e
   have:l≠m:=λ q=>Aq (by rw[q])
   have:=gi hA hB Gp (λ x hx=>gb x (Aw _ hx)) (λ x hx=>gc x (Aw _ hx)) hs this
   unfold vC at this;lia
  ·have:=RB hA hB (gb b Ao) (gc c Ao) h0 e
   unfold vC at key;lia
noncomputable def uC (F:zP) (fresh:List Nat) (p:Nat):Bool:=F.ws.any λ w=>decide (w.f=p)&&fresh.contains w.t
def yd (F:zP) (EG:List Bd) (fresh:List Nat):List Bd:=(List.range EG.length).map λ p=>if uC F fresh p=true then xf F EG p else EG.getD p []
noncomputable def xI (EG F5:List Bd):List Nat:=(List.range F5.length).filter λ p=>decide (F5.getD p []≠EG.getD p [])
def oW (F:zP):Nat->List (List Bd)->List Bd->List Nat->Option (List (List Bd))
 | 0,_,_,_=>none
 | n+1,FE,EG,fresh=>if fresh=[] then some (FE++[EG]) else
   let fo:=yd F EG fresh
   let fr:=xI EG fo
   if fr=[] then some (FE++[EG]) else oW F n (FE++[EG]) fo fr
structure St (F:zP) (EG:List Bd) (fresh:List Nat):Prop where
 len:EG.length=F.os.length
 gd:∀ b∈EG,Gd F.A F.B b
 fr:∀ p<F.os.length,uC F fresh p=false->(∃ w∈F.ws,w.f=p)->xf F EG p=EG.getD p []
 le:∀ p<F.os.length,(∃ w∈F.ws,w.f=p)->yP (xf F EG p) (EG.getD p [])
def Zr {α:Type}(f:Nat->α) (n p:Nat) (d:α) (h:p<n):((List.range n).map f).getD p d=f p:=by
 rw[AZ,Az,List.getElem?_range h];rfl
def qx (F:zP) (EG:List Bd) (fresh:List Nat):(yd F EG fresh).length=EG.length:=by unfold yd;simp
def St.at {F:zP}{EG:List Bd}{fresh:List Nat}(s:St F EG fresh) {p:Nat}(hp:p<F.os.length) (hw:∃ w∈F.ws,w.f=p):(yd F EG fresh).getD p []=xf F EG p:=by
 unfold yd
 rw[Zr _ _ _ _ (by rw[s.len];exact hp)]
 split
 ·rfl
 ·rename_i h;exact (s.fr p hp (by simpa using h) hw).symm
def QK {F:zP}{fresh:List Nat}{p:Nat}(h:uC F fresh p=true):∃ w∈F.ws,w.f=p:=by
 unfold uC at h
 obtain⟨w,h1,h2⟩:=A_.mp h
 exact⟨w,h1,by simp at h2;exact h2.1⟩
def St.no {F:zP}{EG:List Bd}{fresh:List Nat}(s:St F EG fresh) {p:Nat}(hp:p<F.os.length) (hw:¬ ∃ w∈F.ws,w.f=p):(yd F EG fresh).getD p []=EG.getD p []:=by
 unfold yd
 rw[Zr _ _ _ _ (by rw[s.len];exact hp),if_neg (λ h=>hw (QK h))]
def St.Yf {F:zP}{EG:List Bd}{fresh:List Nat}(s:St F EG fresh) (p:Nat):yP ((yd F EG fresh).getD p []) (EG.getD p []):=by
 by_cases hp:p<F.os.length
 ·by_cases hw:∃ w∈F.ws,w.f=p
  ·rw[s.at hp hw];exact s.le p hp hw
  ·rw[s.no hp hw];exact yP.refl _
 ·have h1:(yd F EG fresh).getD p []=[]:=by
   rw[AZ,List.getElem?_eq_none (by rw[qx,s.len];lia)];rfl
  rw[h1];intro q x;cases x
def St.next {F:zP}(ok:F.Ok) {EG:List Bd}{fresh:List Nat}(s:St F EG fresh):St F (yd F EG fresh) (xI EG (yd F EG fresh)) where
 len:=by rw[qx,s.len]
 gd:=λ b hb=>by
  unfold yd at hb
  obtain⟨p,hp,rfl⟩:=Av.mp hb
  split
  ·exact aa ok EG p
  ·have Ak:=AK.mp hp
   rw[AZ,AL Ak]
   exact s.gd _ (BL Ak)
 fr:=λ p hp hn hw=>by
  rw[s.at hp hw]
  refine R4 F p λ w w1 w2=>?_
  have hwt:=(ok.ws w w1).2
  by_cases e:(yd F EG fresh).getD w.t []=EG.getD w.t []
  ·exact e
  ·have:uC F (xI EG (yd F EG fresh)) p=true:=by
    unfold uC
    refine A_.mpr ⟨w,w1,?_⟩
    have:w.t∈xI EG (yd F EG fresh):=by
     unfold xI
     exact Bm.mpr ⟨AK.mpr (by rw[qx,s.len];exact hwt),by simpa using e⟩
    simp[w2,this]
   rw[this] at hn;cases hn
 le:=λ p hp hw=>by
  rw[s.at hp hw]
  exact R5 F p λ w w1 w2=>s.Yf w.t
def Pe {EG fo:List Bd}(hl:fo.length=EG.length) (h:xI EG fo≠[]):fo≠EG:=λ e=>h (by
 subst e;unfold xI;simp)
def start (F:zP):List Bd:=List.replicate F.os.length xO
theorem St.start {F:zP}(ok:F.Ok):St F (start F) (List.range F.os.length) where
 len:=by unfold RN.start;simp
 gd:=λ b hb=>by rw[List.eq_of_mem_replicate hb];exact Gd.xO ok.a0 ok.b0
 fr:=λ p hp hn ⟨w,w1,w2⟩=>by
  have:uC F (List.range F.os.length) p=true:=by
   unfold uC
   refine A_.mpr ⟨w,w1,?_⟩
   have:=(ok.ws w w1).2
   simp[w2,this]
  rw[this] at hn;cases hn
 le:=λ p hp hw=>by
  have e:(RN.start F).getD p []=xO:=by
   unfold RN.start
   rw[AZ,DA,if_pos hp];rfl
  rw[e]
  exact (aa ok _ p).Qa
theorem c9 {F:zP}(ok:F.Ok):∀ (n:Nat) (FE:List (List Bd)) (EG:List Bd) (fresh:List Nat),St F EG fresh->vC EG<n->
  ∃ more Gw,oW F n FE EG fresh=some (FE++EG::more)/\(∀ r∈EG::more,r.length=F.os.length/\∀ b∈r,Gd F.A F.B b)/\(EG::more).getLast?=some Gw/\more.length<=vC EG
 | 0,_,_,_,_,h=>by lia
 | n+1,FE,EG,fresh,s,h=>by
  unfold oW
  split
  ·exact⟨[],EG,rfl,λ r hr=>by cases AQ.mp hr;exact⟨s.len,s.gd⟩,rfl,AN _⟩
  ·dsimp only
   split
   ·exact⟨[],EG,rfl,λ r hr=>by cases AQ.mp hr;exact⟨s.len,s.gd⟩,rfl,AN _⟩
   ·rename_i hf
    have s':=s.next ok
    have Ak:vC (yd F EG fresh)<vC EG:=gi ok.a1 ok.b1 (qx ..) s'.gd s.gd s.Yf (Pe (qx ..) hf)
    obtain⟨more,Gw,e1,e2,e3,e4⟩:=c9 ok n (FE++[EG]) _ _ s' (by lia)
    refine⟨yd F EG fresh::more,Gw,by rw[e1];simp,λ r hr=>?_,by rw[List.getLast?_cons_cons];exact e3,by rw[AW];lia⟩
    rcases Ai.mp hr with e | e
    ·subst e;exact⟨s.len,s.gd⟩
    ·exact e2 r e
end RN
namespace yo
open PySem L2 L3 L5
def ju:Sm:=
 (retS (sO (Fu "int" (zf 0)) (hZ (Fu "bool" (zf 0)))))
def qO:List T->Option T:=zZ ["thing"] 1 ju
def eE:Sm:=
 (retS (zu xH (zc (zb zp (zf 0) (cI 1)) zk)))
def qN:List T->Option T:=zZ ["floor"] 1 eE
def dh:Sm:=
 (retS (sO (zb kC (zb zp (zf 0) (cI 0)) (zb zp (zf 1) (cI 0))) (zb kC (zb zp (zf 0) (cI 1)) (zb zp (zf 1) (cI 1)))))
def o7:List T->Option T:=zZ ["pair","other"] 2 dh
def om:Sm:=
 (yV (qB (tB (y_ (zf 1))) (yB (zb vh (zb zp (zf 2) (cI 1)) (zb zp (zb zp (zf 1) (kl (cI 1))) (cI 1))))) (xY 1 (zq 2)) yU)
def eJ:Sm:=
 (zv (uJ 1 (wU zk))
 (zv (wo [2] (xg (zu qX (zc (zf 0) zk))) (zD 2) om)
 (retS (zu qV (zc (zf 1) zk)))))
def sX:List T->Option T:=zZ ["pairs","least","pair"] 1 eJ
def rW:Sm:=
 (zv (xY 4 (Zi (yB (zb (yt false) (zf 3) (cI 0))) (tupS (zc (zq 5) (zc (zq 6) zk))) (tupS (zc (zq 6) (zc (zq 5) zk)))))
 (zv (zW 5 (zb yi (zf 5) (zb zp (zf 1) (cI 2))))
 (zW 6 (zu pD (zc (cI 0) (zc (zb rm (zf 6) (zb zp (zf 1) (cI 3))) zk))))))
def eF:Sm:=
 (zv (zW 3 (zb zp (zf 1) (cI 1)))
 (zv (uJ 4 (wU zk))
 (zv (zW 5 (zb zp (zf 2) (zf 3)))
 (zv (zW 6 (zb zp (zf 2) (zb rm (cI 1) (zf 3))))
 (zv (oB 1000000 [] (yB (zb pE (zf 5) (zb zp (zf 0) (zf 3)))) rW)
 (qk 4))))))
def mU:List T->Option T:=zZ ["brims","stall","pair","purse","pairs","given","got"] 3 eF
def Xt:Sm:=
 (retS (zb yi (zb xG (zb zp (zf 1) (cI 0)) (zb zp (zf 0) (cI 0))) (zb xG (zb zp (zf 1) (cI 1)) (zb zp (zf 0) (cI 1)))))
def jl:List T->Option T:=zZ ["pair","prices"] 2 Xt
def eO:Sm:=
 (zv (yV (yB (zb vh (zf 1) (zu xH (zc (zf 0) zk)))) (retS (zb zp (zf 0) (zf 1))) yU)
 (retS (cI 0)))
def vT:List T->Option T:=zZ ["_law_script","_law_k"] 2 eO
def Y0:Sm:=
 (zv (xY 2 (zb yg (zf 3) (zb xk (cI 10) (cI 6))))
 (zW 3 (zb xJ (zf 3) (zb xk (cI 10) (cI 6)))))
def Yz:Sm:=
 (zv (zW 3 (zb yg (zb yi (zb yi (zb xG (zf 3) (cI 52027)) (zb xJ (zf 3) (zb xk (cI 10) (cI 22)))) (zb xG (cI 13) (zf 4))) (zb yi (zb xk (cI 10) (cI 45)) (cI 9))))
 (xY 2 (zb xJ (zb xG (zf 3) (zb yi (zb xJ (zf 3) (zb xk (cI 10) (cI 23))) (cI 7))) (zb xk (cI 10) (cI 9)))))
def Xq:Sm:=
 (zv (uJ 2 (wU zk))
 (zv (zW 3 (zu fS (zc (zb xJ (zf 0) (cI 2)) zk)))
 (zv (yV (yB (zb (yt false) (zb yg (zf 0) (cI 2)) (cI 1))) (zv (wo [4] (wJ tY (zc (zf 1) zk)) (zD 4) Y0)
 (qk 2)) yU)
 (zv (zW 3 (zb yi (zb yg (zf 3) (zb yi (zb xk (cI 10) (cI 45)) (cI 9))) (cI 77003)))
 (zv (wo [4] (wJ tY (zc (zf 1) zk)) (zD 4) Yz)
 (qk 2))))))
def uw:List T->Option T:=zZ ["_law_cell","_law_count","_law_found","_law_number","_law_k"] 2 Xq
def eP:Sm:=
 (retS (zu nE (zc (cI 12) (zc (zb yi (zb rm (zb yg (zb yg (zf 0) (cI 25)) (zb yi (zb uY (cI 2) (zf 1)) (cI 1))) (zf 1)) (zb yg (zb wq (zf 0) (cI 25)) (cI 2))) zk))))
def o3:List T->Option T:=zZ ["_law_number","_law_most"] 2 eP
def eL:Sm:=
 (retS (zb zp (wU (zc (tupS (zc (cI 3) (zc (cI 2) zk))) (zc (tupS (zc (cI 2) (zc (cI 3) zk))) (zc (tupS (zc (cI 4) (zc (cI 1) zk))) (zc (tupS (zc (cI 1) (zc (cI 4) zk))) (zc (tupS (zc (cI 3) (zc (cI 2) zk))) (zc (tupS (zc (cI 2) (zc (cI 3) zk))) (zc (tupS (zc (cI 8) (zc (cI 1) zk))) (zc (tupS (zc (cI 3) (zc (cI 2) zk))) (zc (tupS (zc (cI 2) (zc (cI 3) zk))) (zc (tupS (zc (cI 4) (zc (cI 1) zk))) zk))))))))))) (zb yg (zf 0) (cI 10))))
def mW:List T->Option T:=zZ ["_law_number"] 1 eL
def eM:Sm:=
 (retS (zb zp (wU (zc (cI 0) (zc (zb yg (zb wq (zf 0) (cI 7)) (cI 4)) (zc (zb yg (zb wq (zf 0) (cI 7)) (cI 4)) (zc (cI 1) (zc (zb yg (zb wq (zf 0) (cI 7)) (cI 30)) (zc (zb yg (zb wq (zf 0) (cI 7)) (zb xk (cI 10) (cI 30))) (zc (zb xk (cI 10) (cI 30)) zk)))))))) (zb yg (zf 0) (cI 7))))
def sY:List T->Option T:=zZ ["_law_number"] 1 eM
def eR:Sm:=
 (retS (sO (zu qO (zc (zq 0) zk)) (Yj pE pE (zf 1) (zf 0) (zf 2))))
def mZ:List T->Option T:=zZ ["thing","least","most"] 3 eR
def eT:Sm:=
 (retS (sO (zu qO (zc (zq 0) zk)) (zb kC (zf 0) (cI 0))))
def jj:List T->Option T:=zZ ["thing"] 1 eT
def m6:Ev->Option T:=
 xU [none,some 1] (xg (zf 0)) (zD 0) tH (zu o7 (zc (zq 1) (zc (zq 0) zk)))
def eU:Sm:=
 (retS (zu (mB λ bs=>bs.any id) (zc m6 zk)))
def jk:List T->Option T:=zZ ["border","pair"] 2 eU
def fC:Ev->Option T:=
 xU [none] (xg (zf 0)) (zD 0) tH (tupS (zc (zb zp (zf 0) (cI 0)) (zc (cI 0) (zc (zb zp (zf 0) (cI 1)) zk))))
def fB:Ev->Option T:=
 xU [none] (xg (zf 1)) (zD 0) tH (tupS (zc (zb zp (zf 0) (cI 0)) (zc (cI 1) (zc (zb zp (zf 0) (cI 1)) zk))))
def mH:Sm:=
 (zv (ZI 3 (zf 6) (zu nE (zc (zf 7) (zc (ZK 3 (zf 6) (zq 7)) zk))))
 (yV (yB (zb (yt false) (fk 3) (cI 2))) (xY 4 (tupS (zc (zq 5) (zc (zu pD (zc (fm 3 (cI 0)) (zc (fm 3 (cI 1)) zk))) zk)))) yU))
def e_:Sm:=
 (zv (zW 2 (zb yi fC fB))
 (zv (ZJ 3)
 (zv (uJ 4 (wU zk))
 (zv (wo [5,6,7] (xg (zu qX (zc (zf 2) zk))) (wR 3 (yR (zD 5) (yR (zD 6) (yR (zD 7) vB)))) mH)
 (gR 4 (retS (zu sX (zc (zq 4) zk))))))))
def lh:List T->Option T:=zZ ["border","other","steps","lows","shared","first","side","second"] 2 e_
def eW:Sm:=
 (retS (zu sX (zc (zb yi (zu listS (zc (zf 0) zk)) (zu listS (zc (zf 1) zk))) zk)))
def lb:List T->Option T:=zZ ["border","other"] 2 eW
def m9:Ev->Option T:=
 xU [none,some 1] (xg (zf 2)) (zD 0) tH (tupS (zc (zu pD (zc (cI 0) (zc (zb rm (zb zp (zf 0) (cI 0)) (zb zp (zf 1) (cI 2))) zk))) (zc (zu pD (zc (cI 0) (zc (zb rm (zb zp (zf 0) (cI 1)) (zb zp (zf 1) (cI 3))) zk))) zk)))
def mr:Ev->Option T:=
 xU [none,some 0] (xg (zf 3)) (zD 0) (y_ (zu o7 (zc (zq 1) (zc (zq 0) zk)))) (zq 0)
def dg:Sm:=
 (zv (zW 3 m9)
 (retS (zu sX (zc mr zk))))
def lq:List T->Option T:=zZ ["brims","way","border","pairs"] 3 dg
def eK:Sm:=
 (retS (tupS (zc (zq 0) (zc (zb yg (zb yg (zf 2) (cI 8)) (zf 1)) (zc (zu o3 (zc (zb yg (zb wq (zf 2) (cI 8)) (cI 50)) (zc (zq 3) zk))) (zc (zu o3 (zc (zb yg (zb wq (zf 2) (cI 400)) (cI 50)) (zc (zq 3) zk))) zk))))))
def qa:List T->Option T:=zZ ["_law_place","_law_many","_law_number","_law_size"] 4 eK
def m5:Ev->Option T:=
 xU [none,none] (wJ jy (zc (zf 0) (zc (zf 1) zk))) (wR 2 (yR (zD 0) (yR (zD 1) vB))) tH (zu mZ (zc (zq 0) (zc (zb zp (zf 1) (cI 0)) (zc (zb zp (zf 1) (cI 1)) zk))))
def eS:Sm:=
 (zv (yV (qB (tB (y_ (Fu "tuple" (zf 0)))) (yB (zb (yt true) (zu xH (zc (zf 0) zk)) (zu xH (zc (zf 1) zk))))) (retS (cS (.bl false))) yU)
 (retS (zu (mB λ bs=>bs.all id) (zc m5 zk))))
def m_:List T->Option T:=zZ ["thing","bounds"] 2 eS
def eX:Sm:=
 (yV (tB (y_ (zu mZ (zc (zq 1) (zc (cI 0) (zc (zb rm (zu qN (zc (zq 0) zk)) (cI 1)) zk)))))) kj yU)
def qQ:List T->Option T:=zZ ["floor","place"] 2 eX
def mI:Sm:=
 (zW 1 (zu lb (zc (zq 1) (zc (zq 2) zk))))
def de:Sm:=
 (zv (zW 1 (tupS zk))
 (zv (wo [2] (xg (zq 0)) (zD 2) mI)
 (retS (zq 1))))
def lj:List T->Option T:=zZ ["borders","joined","border"] 1 de
def mJ:Sm:=
 (zW 1 (zu lh (zc (zq 1) (zc (zq 2) zk))))
def df:Sm:=
 (zv (zW 1 (tupS (zc (tupS (zc (cI 0) (zc (cI 0) zk))) zk)))
 (zv (wo [2] (xg (zq 0)) (zD 2) mJ)
 (retS (zq 1))))
def lp:List T->Option T:=zZ ["borders","joined","border"] 1 df
def mF:Sm:=
 (xY 6 (zu qa (zc (zq 8) (zc (zq 4) (zc (zb zp (zf 3) (zb yi (zb yi (cI 3) (zb uY (cI 4) (zf 8))) (zf 11))) (zc (zq 10) zk))))))
def qG:Sm:=
 (zv (zW 9 (zb zp (zf 3) (zb yi (cI 2) (zb uY (cI 4) (zf 8)))))
 (zv (xY 5 (zb zp (wU (zc (cS (.str "keeper")) (zc (cS (.str "taker")) zk))) (zb yg (zf 9) (cI 2))))
 (zv (zW 10 (zb zp (wU (zc (cI 2) (zc (cI 3) (zc (cI 3) (zc (cI 12) zk))))) (zb yg (zb wq (zf 9) (cI 2)) (cI 4))))
 (zv (wo [11] (wJ tY (zc (zb yi (cI 1) (zb yg (zb wq (zf 9) (cI 8)) (cI 3))) zk)) (zD 11) mF)
 (yV (fj (yB (zb (yt false) (zb zp (zf 5) (zf 8)) (cS (.str "keeper")))) (yB (zb (yt false) (zb yg (zb wq (zf 9) (cI 24)) (cI 3)) (cI 0)))) (xY 7 (tupS (zc (zq 8) (zc (zb yg (zb wq (zf 9) (cI 72)) (cI 2)) (zc (zb yi (cI 1) (zb yg (zb wq (zf 9) (cI 144)) (cI 4))) (zc (zb yg (zb wq (zf 9) (cI 576)) (cI 5)) zk)))))) yU)))))
def mC:Sm:=
 (xY 6 (zu qa (zc (zb yg (zb yg (zb wq (zb zp (zf 3) (cI 0)) (cI 64)) (cI 8)) (zf 4)) (zc (zq 4) (zc (zb zp (zf 3) (zb yi (cI 34) (zf 11))) (zc (cI 3) zk))))))
def eN:Sm:=
 (zv (zW 3 (zu uw (zc (zq 0) (zc (cI 43) zk))))
 (zv (zW 4 (zb yi (cI 1) (zb yg (zb zp (zf 3) (cI 0)) (zf 1))))
 (zv (uJ 5 (wU zk))
 (zv (uJ 6 (wU zk))
 (zv (uJ 7 (wU zk))
 (zv (wo [8,9,10,11] (wJ tY (zc (zf 4) zk)) (zD 8) qG)
 (zv (yV (yB (zb (yt false) (zb yg (zb wq (zb zp (zf 3) (cI 0)) (cI 8)) (cI 8)) (cI 1))) (wo [11] (wJ tY (zc (zu nE (zc (cI 9) (zc (zb rm (cI 24) (zu xH (zc (zf 6) zk))) zk))) zk)) (zD 11) mC) yU)
 (zv (zW 12 (tupS (zc (zb yg (zb zp (zf 3) (cI 1)) (zb yi (zf 2) (cI 1))) (zc (zb yg (zb wq (zb zp (zf 3) (cI 1)) (cI 13)) (zb yi (zf 2) (cI 1))) zk))))
 (retS (tupS (zc (zq 12) (zc (zu qV (zc (zf 5) zk)) (zc (zu qV (zc (zu tV (zc (zf 6) zk)) zk)) (zc (zu qV (zc (zf 7) zk)) zk))))))))))))))
def oz:List T->Option T:=zZ ["_law_cell","_law_most","_law_brim","_law_xs","_law_many","_law_owners","_law_ways","_law_stalls","_law_place","_law_number","_law_size","_law_k","_law_brims"] 3 eN
def eY:Sm:=
 (yV (tB (y_ (zu m_ (zc (zq 1) (zc (tupS (zc (tupS (zc (cI 0) (zc (zb zp (zb zp (zf 0) (cI 0)) (cI 0)) zk))) (zc (tupS (zc (cI 0) (zc (zb zp (zb zp (zf 0) (cI 0)) (cI 1)) zk))) zk))) zk))))) kj yU)
def jm:List T->Option T:=zZ ["floor","pair"] 2 eY
def mv:Ev->Option T:=
 xU [none,none,some 1] (wJ rP (zc (zb zp (zf 0) (cI 2)) zk)) (wR 2 (yR (zD 0) (yR (zD 1) vB))) (yB (zb (yt false) (zb zp (zf 1) (cI 0)) (zf 2))) (zq 0)
def eB:Sm:=
 (zv (pW (zu qQ (zc (zq 0) (zc (zq 1) zk))))
 (retS mv))
def mS:List T->Option T:=zZ ["floor","place"] 2 eB
def oj:Sm:=
 (yV (yB (zb (yt false) (zb zp (zf 2) (cI 0)) (zf 1))) (retS (zq 2)) yU)
def eC:Sm:=
 (zv (pW (zu qQ (zc (zq 0) (zc (zq 1) zk))))
 (zv (wo [2] (xg (zb zp (zf 0) (cI 3))) (zD 2) oj)
 (retS (cS .zm))))
def qM:List T->Option T:=zZ ["floor","place","stall"] 2 eC
def mK:Sm:=
 (gZ 4 (zu mU (zc (zb zp (zf 0) (cI 0)) (zc (zq 3) (zc (zq 5) zk)))))
def jv:Sm:=
 (zv (zW 3 (zu qM (zc (zq 0) (zc (zq 1) zk))))
 (zv (yV (yB (zb (x9 false) (zf 3) (cS .zm))) (retS (zq 2)) yU)
 (zv (uJ 4 (wU zk))
 (zv (wo [5] (xg (zq 2)) (zD 5) mK)
 (gR 4 (retS (zu sX (zc (zq 4) zk))))))))
def o5:List T->Option T:=zZ ["floor","place","border","stall","pairs","pair"] 3 jv
def my:Ev->Option T:=
 xU [none,some 0] (xg (zu mS (zc (zq 0) (zc (zq 1) zk)))) (zD 0) tH (zb zp (zb zp (zf 1) (cI 2)) (zf 0))
def mq:Ev->Option T:=
 xU [none,some 0,some 2] (xg (zf 3)) (zD 0) tH (zu lq (zc (zb zp (zf 1) (cI 0)) (zc (zq 0) (zc (zb zp (zf 2) (zb zp (zf 0) (cI 1))) zk))))
def eI:Sm:=
 (zv (zW 3 my)
 (zv (zW 4 mq)
 (zv (yV (yB (zb (yt false) (zb zp (zb zp (zf 0) (cI 1)) (zf 1)) (cS (.str "keeper")))) (retS (zu o5 (zc (zq 0) (zc (zq 1) (zc (zu lj (zc (zq 4) zk)) zk))))) yU)
 (retS (zu lp (zc (zq 4) zk))))))
def mV:List T->Option T:=zZ ["floor","place","last","ways","ahead"] 3 eI
def mx:Ev->Option T:=
 xU [none,some 2] (xg (zb zp (zf 0) (cI 2))) (zD 0) (yB (zb (pP false) (zb zp (zf 0) (cI 1)) (zf 1))) (zb zp (zf 0) (cI 0))
def mD:Sm:=
 (ak 3 (zf 4) (zu mV (zc (zq 0) (zc (zq 4) (zc (zq 1) zk)))))
def eG:Sm:=
 (zv (uJ 3 (zu listS (zc (zf 1) zk)))
 (zv (wo [4] (xg (zu tV (zc mx zk))) (zD 4) mD)
 (qk 3)))
def oy:List T->Option T:=zZ ["floor","last","fresh","following","place"] 3 eG
def mz (w6:List T->Option T):Ev->Option T:=
 xU [none,some 0,some 1] (wJ tY (zc (zu xH (zc (zf 1) zk)) zk)) (zD 0) tH (zu w6 (zc (zb zp (zf 1) (zf 0)) (zc (zb zp (zf 2) (zf 0)) zk)))
def jt (w6:List T->Option T):Sm:=
 (zv (yV (y_ (Fu "tuple" (zf 1))) (zv (yV (qB (tB (y_ (Fu "tuple" (zf 0)))) (yB (zb (yt true) (zu xH (zc (zf 0) zk)) (zu xH (zc (zf 1) zk))))) (retS (cS (.bl false))) yU)
 (retS (zu (mB λ bs=>bs.all id) (zc (mz w6) zk)))) yU)
 (zv (yV (y_ (Fu "str" (zf 1))) (retS (sO (Fu "str" (zf 0)) (zb (yt false) (zf 0) (zf 1)))) yU)
 (retS (sO (Fu "int" (zf 0)) (sO (hZ (Fu "bool" (zf 0))) (zb (yt false) (zf 0) (zf 1)))))))
def w6:Nat->List T->Option T
 | 0=>λ _=>none
 | n+1=>zZ ["_law_found","_law_due"] 2 (jt (w6 n))
def oa:Ev->Option T:=
 xU [none,none,some 3] (wJ rP (zc (zf 4) zk)) (wR 2 (yR (zD 0) (yR (zD 1) vB))) (yB (zb (yt true) (zf 1) (zb zp (zf 2) (zf 0)))) (zq 0)
def uI:Sm:=
 (zv (zW 3 (zb zp (zf 1) (kl (cI 1))))
 (zv (zW 4 (zu oy (zc (zq 0) (zc (zq 3) (zc (zq 2) zk)))))
 (zv (zW 2 oa)
 (yV (y_ (zf 2)) (xY 1 (zq 4)) yU))))
def eD:Sm:=
 (zv (uJ 1 (wU (zc (zb uY (wU (zc (tupS (zc (tupS (zc (cI 0) (zc (cI 0) zk))) zk)) zk)) (zu qN (zc (zq 0) zk))) zk)))
 (zv (zW 2 (zu nH (zc (zu qN (zc (zq 0) zk)) zk)))
 (zv (oB 1000000 [3,4] (y_ (zf 2)) uI)
 (qk 1))))
def mT:List T->Option T:=zZ ["floor","told","fresh","last","following"] 1 eD
def da:Sm:=
 (retS (zb zp (zu mT (zc (zq 0) zk)) (kl (cI 1))))
def sZ:List T->Option T:=zZ ["floor"] 1 da
def eV:Sm:=
 (zv (pW (zu qQ (zc (zq 0) (zc (zq 1) zk))))
 (zv (pW (zu jm (zc (zq 0) (zc (zq 2) zk))))
 (retS (zu jk (zc (zb zp (zu sZ (zc (zq 0) zk)) (zf 1)) (zc (zq 2) zk))))))
def qP:List T->Option T:=zZ ["floor","place","pair"] 3 eV
def mG:Sm:=
 (yV (tB (y_ (zu jj (zc (zq 3) zk)))) kj yU)
def m7:Ev->Option T:=
 xU [none,some 2] (xg (zb zp (zu sZ (zc (zq 0) zk)) (zf 1))) (zD 0) tH (tupS (zc (zu jl (zc (zq 0) (zc (zq 1) zk))) (zc (zq 0) zk)))
def eZ:Sm:=
 (zv (pW (zu qQ (zc (zq 0) (zc (zq 1) zk))))
 (zv (wo [3] (xg (tupS (zc (zb zp (zf 2) (cI 0)) (zc (zb zp (zf 2) (cI 1)) zk)))) (zD 3) mG)
 (retS (zu nF (zc m7 zk)))))
def qR:List T->Option T:=zZ ["floor","place","prices","price"] 3 eZ
def mE:Sm:=
 (zv (zW 8 (zb yi (zb xG (zb zp (zf 3) (cI 0)) (zf 6)) (zb xG (zb zp (zf 3) (cI 1)) (zf 7))))
 (yV (qB (yB (zb (x9 false) (zf 5) (cS .zm))) (yB (zb vh (zf 8) (zb zp (zf 5) (cI 0))))) (zW 5 (tupS (zc (zq 8) (zc (tupS (zc (zq 6) (zc (zq 7) zk))) zk)))) yU))
def Xr:Sm:=
 (zv (zW 4 (zu qR (zc (zq 0) (zc (zq 2) (zc (zq 3) zk)))))
 (zv (zW 5 (cS .zm))
 (zv (wo [6,7,8] (xg (zb zp (zf 1) (zf 2))) (wR 2 (yR (zD 6) (yR (zD 7) vB))) mE)
 (zv (yV (qB (yB (zb (x9 false) (zf 5) (cS .zm))) (yB (zb (x9 false) (zf 4) (cS .zm)))) (retS (sO (zb (x9 false) (zf 5) (cS .zm)) (zb (x9 false) (zf 4) (cS .zm)))) yU)
 (retS (zu (w6 6) (zc (zq 4) (zc (zq 5) zk))))))))
def mX:List T->Option T:=zZ ["_law_floor_here","_law_told","_law_place","_law_prices","_law_found","_law_best","_law_x","_law_y","_law_cost"] 4 Xr
def kR:Sm:=
 (zv (zW 6 (zb yg (zf 5) (zb yi (zb zp (zb zp (zf 0) (cI 0)) (cI 0)) (cI 1))))
 (zv (zW 7 (zb yg (zb xJ (zf 5) (cI 1000)) (zb yi (zb zp (zb zp (zf 0) (cI 0)) (cI 1)) (cI 1))))
 (yV (qB (yB (zb (x9 false) (zf 4) (cS .zm))) (yB (zb vh (zb yi (zb xG (zb zp (zf 2) (cI 0)) (zf 6)) (zb xG (zb zp (zf 2) (cI 1)) (zf 7))) (zb zp (zf 4) (cI 0))))) (yV (y_ (zu qP (zc (zq 0) (zc (zq 1) (zc (tupS (zc (zq 6) (zc (zq 7) zk))) zk))))) (retS (cS (.bl false))) yU) yU)))
def Xs:Sm:=
 (zv (zW 4 (zu qR (zc (zq 0) (zc (zq 1) (zc (zq 2) zk)))))
 (zv (yV (fj (yB (zb (x9 true) (zf 4) (cS .zm))) (tB (y_ (zu qP (zc (zq 0) (zc (zq 1) (zc (zb zp (zf 4) (cI 1)) zk))))))) (retS (cS (.bl false))) yU)
 (zv (wo [5,6,7] (xg (zq 3)) (zD 5) kR)
 (retS (cS (.bl true))))))
def mY:List T->Option T:=zZ ["_law_floor_here","_law_place","_law_prices","_law_numbers","_law_found","_law_number","_law_x","_law_y"] 4 Xs
def oo:Sm:=
 (zv (zW 6 (zu uw (zc (zu vT (zc (zq 0) (zc (zq 5) zk))) (zc (cI 3) zk))))
 (zv (zW 7 (tupS (zc (zu sY (zc (zb zp (zf 6) (cI 1)) zk)) (zc (zu sY (zc (zb zp (zf 6) (cI 2)) zk)) zk))))
 (yV (tB (y_ (zu mX (zc (zq 3) (zc (zq 4) (zc (zb yg (zb zp (zf 6) (cI 0)) (zu xH (zc (zf 4) zk))) (zc (zq 7) zk))))))) (retS (cS (.bl false))) yU)))
def eQ:Sm:=
 (zv (dI (zu mW (zc (zu vT (zc (zq 0) (zc (cI 0) zk))) zk)) (wR 2 (yR (zD 1) (yR (zD 2) vB))))
 (zv (zW 3 (zu oz (zc (zu vT (zc (zq 0) (zc (cI 1) zk))) (zc (zq 1) (zc (zq 2) zk)))))
 (zv (zW 4 (zu sZ (zc (zq 3) zk)))
 (zv (wo [5,6,7] (wJ oX (zc (cI 2) (zc (zu pD (zc (cI 3) (zc (zu nE (zc (zu xH (zc (zf 0) zk)) (zc (cI 56) zk))) zk))) (zc (cI 11) zk)))) (zD 5) oo)
 (zv (zW 6 (zu uw (zc (zu vT (zc (zq 0) (zc (cI 2) zk))) (zc (cI 8) zk))))
 (zv (zW 7 (tupS (zc (zu sY (zc (zb zp (zf 6) (cI 1)) zk)) (zc (zu sY (zc (zb zp (zf 6) (cI 2)) zk)) zk))))
 (retS (zu mY (zc (zq 3) (zc (zb yg (zb zp (zf 6) (cI 0)) (zu xH (zc (zf 4) zk))) (zc (zq 7) (zc (cj (zf 6) (some (cI 3)) none) zk))))))))))))
def o4:List T->Option T:=zZ ["_law_script","_law_most","_law_brim","_law_floor_here","_law_told","_law_k","_law_xs","_law_prices"] 1 eQ
def W0 (ps:List (Int×Int)) (h:ps.length<64):qX [.lst (ps.map zo)]=some (.lst ((tX ps).map zo)):=by
 show (vX (ps.map zo)).bind _=_
 rw[Vh,BD,if_pos ⟨by simpa using h,λ r hr=>by obtain⟨p,_,rfl⟩:=Av.mp hr;simp[v7]⟩,<- dU,AU]
 rfl
def QL {qs p:List (Int×Int)}{x:Int×Int}(hr:∀ r,qs++yC r (qs.getLast?.map (·.2))=yC (p++r) none) (hb:tI (qs.getLast?.map (·.2)) x.2=true) (r:List (Int×Int)):
  (qs++[x])++yC r ((qs++[x]).getLast?.map (·.2))=yC (p++[x]++r) none:=by
 have:=hr (x::r)
 rw[show yC (x::r) (qs.getLast?.map (·.2))=x::yC r (some x.2) by rw[yC,if_pos hb]] at this
 simpa using this
def QM {qs p:List (Int×Int)}{x:Int×Int}(hr:∀ r,qs++yC r (qs.getLast?.map (·.2))=yC (p++r) none) (hb:tI (qs.getLast?.map (·.2)) x.2=false) (r:List (Int×Int)):
  qs++yC r (qs.getLast?.map (·.2))=yC (p++[x]++r) none:=by
 have:=hr (x::r)
 rw[show yC (x::r) (qs.getLast?.map (·.2))=yC r (qs.getLast?.map (·.2)) by rw[yC,if_neg (by rw[hb];nofun)]] at this
 simpa using this
def ji (ps:List (Int×Int)) (hl:ps.length<64):sX [.lst (ps.map zo)]=some (.tup ((wV ps).map zo)):=by
 obtain⟨J',h1,qs,h2,h3,h4⟩:=uA (is:=[2]) (g:=zD 2) (b:=om) zo (λ p J=>∃ qs:List (Int×Int),J=[some (.im (.lst (ps.map zo))),some (.own (.lst (qs.map zo))),none]/\qs.length<=p.length/\
   ∀ r,qs++yC r (qs.getLast?.map (·.2))=yC (p++r) none) (tX ps) [some (.im (.lst (ps.map zo))),some (.own (.lst [])),none] ⟨[],by simp,by simp,λ r=>by simp⟩ (by
  rintro p x q e J ⟨qs,rfl,hq,hr⟩
  have hlen:p.length<64:=by
   have:=congrArg List.length e
   rw[(jI ps).length_eq] at this
   simp at this;lia
  have app:tI (qs.getLast?.map (·.2)) x.2=true->∃ IQ:List (Int×Int),yA [2] [some (.im (.lst (ps.map zo))),some (.own (.lst (qs.map zo++[zo x]))),some (.im (zo x))]=[some (.im (.lst (ps.map zo))),some (.own (.lst (IQ.map zo))),none]/\IQ.length<=(p++[x]).length/\∀ r,IQ++yC r (IQ.getLast?.map (·.2))=yC (p++[x]++r) none:=λ hb=>
   ⟨qs++[x],by simp,by simp;lia,QL hr hb⟩
  rcases List.eq_nil_or_concat qs with rfl | ⟨init,l,rfl⟩
  ·refine⟨_,?_,app (by simp[tI])⟩
   simp[turn,om]
  ·simp only[List.concat_eq_append] at *
   by_cases hb:x.2<l.2
   ·refine⟨_,?_,app (by simp[tI,hb])⟩
    simp at hq
    simp[turn,om,zo,hb,vh]
    lia
   ·refine⟨[some (.im (.lst (ps.map zo))),some (.own (.lst ((init++[l]).map zo))),some (.im (zo x))],?_,init++[l],by simp,by simp at hq ⊢;lia,QM hr (by simp[tI];lia)⟩
    simp[turn,om,zo,hb,vh])
 have h5:=h4 []
 simp[yC] at h5
 unfold sX eJ
 simp[W0 ps hl,h1,h2,h5,wV]
def N3 (b o:List (Int×Int)) (hl:b.length+o.length<64):lb [.tup (b.map zo),.tup (o.map zo)]=some (.tup ((wV (b++o)).map zo)):=by
 have h:=ji (b++o) (by simpa using hl)
 rw[BR] at h
 have:b.length+o.length<=16777216:=by lia
 unfold lb eW
 simp[h,this]
noncomputable def r0 (p:Int×Int):List Int:=[p.1,0,p.2]
noncomputable def r1 (p:Int×Int):List Int:=[p.1,1,p.2]
noncomputable def yQ (l:Option Int) (v:Int):Int:=match l with
 | none=>v
 | some m=>if m<v then m else v
noncomputable def v_ (l:Option Int) (sh:List (Int×Int)) (f:Int->Int×Int):List (Int×Int):=match l with
 | some m=>sh++[f m]
 | none=>sh
structure Sw (b o:List (Int×Int)) (p:List (List Int)) (l0 l1:Option Int) (sh:List (Int×Int)):Prop where
 gp:∀ x,r0 x∈p->∃ m,l0=some m/\m<=x.2
 gm:∀ x,r1 x∈p->∃ m,l1=some m/\m<=x.2
 fL:∀ m,l0=some m->∃ x,r0 x∈p/\x.2=m
 fK:∀ m,l1=some m->∃ x,r1 x∈p/\x.2=m
 len:sh.length<=p.length
 snd:∀ s∈sh,(∃ x,r0 x∈p/\x.1<=s.1/\x.2<=s.2)/\∃ x,r1 x∈p/\x.1<=s.1/\x.2<=s.2
 all:∀ x y,r0 x∈p->r1 y∈p->∃ s∈sh,(s.1<=x.1\/s.1<=y.1)/\(s.2<=x.2\/s.2<=y.2)
def lT {x y:Int×Int}(h:r0 x=r0 y):x=y:=by
 unfold r0 at h;injection h with h1 h2;injection h2 with _ h2;injection h2 with h2 _;exact Prod.ext h1 h2
def lS {x y:Int×Int}(h:r1 x=r1 y):x=y:=by
 unfold r1 at h;injection h with h1 h2;injection h2 with _ h2;injection h2 with h2 _;exact Prod.ext h1 h2
def pd {x y:Int×Int}(h:r0 x=r1 y):False:=by
 unfold r0 r1 at h;injection h with h1 h2;injection h2 with h2 _;lia
def uZ {p:List (List Int)}{a x:List Int}(h:a∈p++[x]):a∈p\/a=x:=by simpa using h
def Sw.Wr {b o:List (Int×Int)}{p:List (List Int)}{l0 l1:Option Int}{sh:List (Int×Int)}(h:Sw b o p l0 l1 sh) (x:Int×Int) (hx:∀ y,r0 y∈p->y.1<=x.1) (hy:∀ y,r1 y∈p->y.1<=x.1):
  Sw b o (p++[r0 x]) (some (yQ l0 x.2)) l1 (v_ l1 sh λ m=>(x.1,if m>yQ l0 x.2 then m else yQ l0 x.2)):=by
 have lo:yQ l0 x.2<=x.2/\∀ m,l0=some m->yQ l0 x.2<=m:=by
  unfold yQ
  cases l0 with
  | none=>exact⟨AG _,nofun⟩
  | some m=>dsimp only;split <;> refine⟨by lia,λ m' e=>?_⟩ <;> cases e <;> lia
 have la:∃ y,r0 y∈p++[r0 x]/\y.2=yQ l0 x.2:=by
  unfold yQ
  cases l0 with
  | none=>exact⟨x,by simp,rfl⟩
  | some m=>
   dsimp only
   split
   ·obtain⟨y,h1,h2⟩:=h.fL m rfl
    exact⟨y,by simp[h1],h2⟩
   ·exact⟨x,by simp,rfl⟩
 have GN:∀ s∈sh,(∃ x',r0 x'∈p++[r0 x]/\x'.1<=s.1/\x'.2<=s.2)/\∃ x',r1 x'∈p++[r0 x]/\x'.1<=s.1/\x'.2<=s.2:=λ s hs=>by
  obtain⟨⟨a,a1,a2⟩,c,c1,c2⟩:=h.snd s hs
  exact⟨⟨a,by simp[a1],a2⟩,c,by simp[c1],c2⟩
 refine⟨λ y hm=>?_,λ y hm=>?_,λ m e=>?_,λ m e=>?_,?_,λ s hs=>?_,λ y z hm hz=>?_⟩
 ·rcases uZ hm with q | q
  ·obtain⟨m,e,q2⟩:=h.gp y q
   exact⟨_,rfl,by have:=lo.2 m e;lia⟩
  ·cases lT q;exact⟨_,rfl,lo.1⟩
 ·rcases uZ hm with q | q
  ·exact h.gm y q
  ·exact (pd q.symm).elim
 ·cases e;exact la
 ·obtain⟨y,q1,q2⟩:=h.fK m e
  exact⟨y,by simp[q1],q2⟩
 ·have:=h.len
  cases l1 <;> simp[v_] <;> lia
 ·cases l1 with
  | none=>exact GN s hs
  | some m=>
   rcases AY.mp hs with q | q
   ·exact GN s q
   ·obtain rfl:s=_:=by simpa using q
    obtain⟨y,y1,y2⟩:=la
    obtain⟨z,z1,z2⟩:=h.fK m rfl
    have D3:=hy z z1
    refine⟨⟨y,y1,?_,by dsimp only;split <;> lia⟩,z,by simp[z1],D3,by dsimp only;split <;> lia⟩
    rcases uZ y1 with w | w
    ·exact hx y w
    ·cases lT w;exact AG _
 ·have IZ:r1 z∈p:=by
   rcases uZ hz with q | q
   ·exact q
   ·exact (pd q.symm).elim
  rcases uZ hm with q | q
  ·obtain⟨s,s1,s2⟩:=h.all y z q IZ
   refine⟨s,?_,s2⟩
   cases l1 <;> simp[v_,s1]
  ·cases lT q
   obtain⟨m,e,hm⟩:=h.gm z IZ
   subst e
   refine⟨_,AX _ Ao,.inl (AG _),?_⟩
   have:=lo.1
   dsimp only
   split <;> lia
def Sw.swap {b o:List (Int×Int)}{p:List (List Int)}{l0 l1:Option Int}{sh:List (Int×Int)}(x:Int×Int) (h:Sw b o p l0 l1 sh) (hx:∀ y,r0 y∈p->y.1<=x.1) (hy:∀ y,r1 y∈p->y.1<=x.1):
  Sw b o (p++[r1 x]) l0 (some (yQ l1 x.2)) (v_ l0 sh λ m=>(x.1,if yQ l1 x.2>m then yQ l1 x.2 else m)):=by
 have lo:yQ l1 x.2<=x.2/\∀ m,l1=some m->yQ l1 x.2<=m:=by
  unfold yQ
  cases l1 with
  | none=>exact⟨AG _,nofun⟩
  | some m=>dsimp only;split <;> refine⟨by lia,λ m' e=>?_⟩ <;> cases e <;> lia
 have la:∃ y,r1 y∈p++[r1 x]/\y.2=yQ l1 x.2:=by
  unfold yQ
  cases l1 with
  | none=>exact⟨x,by simp,rfl⟩
  | some m=>
   dsimp only
   split
   ·obtain⟨y,h1,h2⟩:=h.fK m rfl
    exact⟨y,by simp[h1],h2⟩
   ·exact⟨x,by simp,rfl⟩
 have GN:∀ s∈sh,(∃ x',r0 x'∈p++[r1 x]/\x'.1<=s.1/\x'.2<=s.2)/\∃ x',r1 x'∈p++[r1 x]/\x'.1<=s.1/\x'.2<=s.2:=λ s hs=>by
  obtain⟨⟨a,a1,a2⟩,c,c1,c2⟩:=h.snd s hs
  exact⟨⟨a,by simp[a1],a2⟩,c,by simp[c1],c2⟩
 refine⟨λ y hm=>?_,λ y hm=>?_,λ m e=>?_,λ m e=>?_,?_,λ s hs=>?_,λ y z hm hz=>?_⟩
 ·rcases uZ hm with q | q
  ·exact h.gp y q
  ·exact (pd q).elim
 ·rcases uZ hm with q | q
  ·obtain⟨m,e,q2⟩:=h.gm y q
   exact⟨_,rfl,by have:=lo.2 m e;lia⟩
  ·cases lS q;exact⟨_,rfl,lo.1⟩
 ·obtain⟨y,q1,q2⟩:=h.fL m e
  exact⟨y,by simp[q1],q2⟩
 ·cases e;exact la
 ·have:=h.len
  cases l0 <;> simp[v_] <;> lia
 ·cases l0 with
  | none=>exact GN s hs
  | some m=>
   rcases AY.mp hs with q | q
   ·exact GN s q
   ·obtain rfl:s=_:=by simpa using q
    obtain⟨y,y1,y2⟩:=la
    obtain⟨z,z1,z2⟩:=h.fL m rfl
    have D3:=hx z z1
    refine⟨⟨z,by simp[z1],D3,by dsimp only;split <;> lia⟩,y,y1,?_,by dsimp only;split <;> lia⟩
    rcases uZ y1 with w | w
    ·exact hy y w
    ·cases lS w;exact AG _
 ·have Jb:r0 y∈p:=by
   rcases uZ hm with q | q
   ·exact q
   ·exact (pd q).elim
  rcases uZ hz with q | q
  ·obtain⟨s,s1,s2⟩:=h.all y z Jb q
   refine⟨s,?_,s2⟩
   cases l0 <;> simp[v_,s1]
  ·cases lS q
   obtain⟨m,e,hm⟩:=h.gp y Jb
   subst e
   refine⟨_,AX _ Ao,.inr (AG _),?_⟩
   have:=lo.1
   dsimp only
   split <;> lia
structure Lw (d:List (Key×T)) (l0 l1:Option Int):Prop where
 v0:yZ d (.inl 0)=l0.map T.int
 v1:yZ d (.inl 1)=l1.map T.int
 len:d.length=(if l0.isSome then 1 else 0)+if l1.isSome then 1 else 0
def Lw.V3 {d:List (Key×T)}{l0 l1:Option Int}(h:Lw d l0 l1) (v:Int):Lw (vY d (.inl 0) (.int v)) (some v) l1:=by
 refine⟨by rw[l5];simp,by rw[l5];simpa using h.v1,?_⟩
 rw[az,h.v0,h.len]
 cases l0 <;> cases l1 <;> simp
def Lw.V2 {d:List (Key×T)}{l0 l1:Option Int}(h:Lw d l0 l1) (v:Int):Lw (vY d (.inl 1) (.int v)) l0 (some v):=by
 refine⟨by rw[l5];simpa using h.v0,by rw[l5];simp,?_⟩
 rw[az,h.v1,h.len]
 cases l0 <;> cases l1 <;> simp
def kD {rows p q:List (List Int)}{x:List Int}(e:L4.xw rows=p++x::q) {a:List Int}(ha:a∈p) {i j:Int}{as xs:List Int}(h1:a=i::as) (h2:x=j::xs):i<=j:=by
 have h:=L4.jH rows
 rw[e,List.pairwise_append] at h
 have:=h.2.2 a ha x Ao
 subst h1 h2
 rw[HT.tf] at this
 by_cases c:j=i
 ·lia
 ·rw[if_neg c] at this
  have:=of_decide_eq_false this
  lia
def NB (b o:List (Int×Int)) (hl:b.length+o.length<64):∃ sh:List (Int×Int),lh [.tup (b.map zo),.tup (o.map zo)]=some (.tup ((wV sh).map zo))/\sh.length<64/\∀ q,zV sh q=(zV b q&&zV o q):=by
 let a0:W:=.im (.tup (b.map zo))
 let a1:W:=.im (.tup (o.map zo))
 let rows:=b.map r0++o.map r1
 let a2:W:=.im (.lst (rows.map zR))
 have hlen:rows.length<64:=by simp[rows];exact hl
 have hs:qX [.lst (rows.map zR)]=some (.lst ((L4.xw rows).map zR)):=by
  show ((vX (rows.map zR)).bind λ rs=>_)=_
  rw[i5,BD,if_pos ⟨hlen,λ r hr=>by
   rcases AY.mp hr with h | h <;> obtain⟨_,_,rfl⟩:=Av.mp h <;> simp[r0,r1]⟩]
 have Jl:(L4.xw rows).length=rows.length:=(L4.tW rows).length_eq
 obtain⟨J1,h1,d,l0,l1,sh,e1,w1,s1⟩:=uA (is:=[5,6,7]) (g:=wR 3 (yR (zD 5) (yR (zD 6) (yR (zD 7) vB)))) (b:=mH) zR (λ p J=>∃ d l0 l1 sh,J=[some a0,some a1,some a2,some (.own (.z_ d)),some (.own (.lst (sh.map zo))),none,none,none]/\Lw d l0 l1/\Sw b o p l0 l1 sh) (L4.xw rows) [some a0,some a1,some a2,some (.own (.z_ [])),some (.own (.lst [])),none,none,none]
  ⟨[],none,none,[],by simp,⟨rfl,rfl,rfl⟩,⟨nofun,nofun,nofun,nofun,by simp,nofun,nofun⟩⟩ (by
  rintro p x q e J ⟨d,l0,l1,sh,rfl,hw,Ct⟩
  have hx:x∈rows:=(L4.tW rows).mem_iff.mp (by rw[e];simp)
  have An:p.length<64:=by
   have:=congrArg List.length e
   rw[Jl] at this;simp at this;lia
  have Bp:sh.length<16777216:=by have:=Ct.len;lia
  have Cj:d.length<16777216:=by rw[hw.len];split <;> split <;> lia
  rcases AY.mp hx with hm | hm
  ·obtain⟨y,_,rfl⟩:=Av.mp hm
   have st:=Ct.Wr y (λ z hz=>kD e hz rfl rfl) (λ z hz=>kD e hz rfl rfl)
   have G5:=hw.V3 (yQ l0 y.2)
   refine⟨[some a0,some a1,some a2,some (.own (.z_ (vY d (.inl 0) (.int (yQ l0 y.2))))),some (.own (.lst ((v_ l1 sh λ m=>(y.1,if m>yQ l0 y.2 then m else yQ l0 y.2)).map zo))),some (.im (.int y.1)),some (.im (.int 0)),some (.im (.int y.2))],?_,_,_,_,_,(by simp),G5,st⟩
   have hr:zR (r0 y)=.tup [.int y.1,.int 0,.int y.2]:=rfl
   have v0:=G5.v0
   have v1:=G5.v1
   have ln:=G5.len
   cases l0 <;> cases l1 <;> simp[turn,mH,hr,hw.v0,Cj,Bp,yQ,v_,yt,dep,eqT] at v0 v1 ln ⊢ <;> simp[v0,v1,ln,zo,v_]
  ·obtain⟨y,_,rfl⟩:=Av.mp hm
   have st:=Ct.swap y (λ z hz=>kD e hz rfl rfl) (λ z hz=>kD e hz rfl rfl)
   have G5:=hw.V2 (yQ l1 y.2)
   refine⟨[some a0,some a1,some a2,some (.own (.z_ (vY d (.inl 1) (.int (yQ l1 y.2))))),some (.own (.lst ((v_ l0 sh λ m=>(y.1,if yQ l1 y.2>m then yQ l1 y.2 else m)).map zo))),some (.im (.int y.1)),some (.im (.int 1)),some (.im (.int y.2))],?_,_,_,_,_,(by simp),G5,st⟩
   have hr:zR (r1 y)=.tup [.int y.1,.int 1,.int y.2]:=rfl
   have v0:=G5.v0
   have v1:=G5.v1
   have ln:=G5.len
   cases l0 <;> cases l1 <;> simp[turn,mH,hr,hw.v1,Cj,Bp,yQ,v_,yt,dep,eqT] at v0 v1 ln ⊢ <;> simp[v0,v1,ln,zo,v_])
 have DE:sh.length<64:=by have:=s1.len;lia
 refine⟨sh,?_,DE,λ q=>?_⟩
 ·subst e1
  have Iz:fC [some a0,some a1,none,none,none,none,none,none]=some (.lst ((b.map r0).map zR)):=by
   rw[AU]
   exact sC zo (zR ∘ r0) b (by simp[a0]) (by lia) λ y _=>by simp[zo,zR,r0]
  have FV:fB [some a0,some a1,none,none,none,none,none,none]=some (.lst ((o.map r1).map zR)):=by
   rw[AU]
   exact sC zo (zR ∘ r1) o (by simp[a1]) (by lia) λ y _=>by simp[zo,zR,r1]
  have hF:=ji sh DE
  have z:b.length+o.length<=16777216:=by lia
  simp only[a0,a1,a2,rows,BR] at Iz FV hs h1
  unfold lh e_
  simp[Iz,FV,z,hs,h1,hF] at Iz FV hs h1 ⊢
  simp[Iz,FV,z,hs,h1,hF]
 ·have m0:∀ x,r0 x∈L4.xw rows↔x∈b:=λ x=>by
   rw[(L4.tW rows).mem_iff]
   constructor
   ·intro h
    rcases AY.mp h with h | h <;> obtain⟨y,hy,e⟩:=Av.mp h
    ·cases lT e;exact hy
    ·exact (pd e.symm).elim
   ·exact λ h=>Cr _ (List.mem_map_of_mem h)
  have m1:∀ x,r1 x∈L4.xw rows↔x∈o:=λ x=>by
   rw[(L4.tW rows).mem_iff]
   constructor
   ·intro h
    rcases AY.mp h with h | h <;> obtain⟨y,hy,e⟩:=Av.mp h
    ·exact (pd e).elim
    ·cases lS e;exact hy
   ·exact λ h=>AX _ (List.mem_map_of_mem h)
  rw[Bz,Bw,yT,yT,yT]
  constructor
  ·rintro⟨s,hs,g1,g2⟩
   obtain⟨⟨x,x1,x2,x3⟩,y,y1,y2,y3⟩:=s1.snd s hs
   exact⟨⟨x,(m0 x).mp x1,by lia,by lia⟩,y,(m1 y).mp y1,by lia,by lia⟩
  ·rintro⟨⟨x,x1,x2,x3⟩,y,y1,y2,y3⟩
   obtain⟨s,s1,g1,g2⟩:=s1.all x y ((m0 x).mpr x1) ((m1 y).mpr y1)
   exact⟨s,s1,by lia,by lia⟩
theorem fq {α:Type}(enc:α->T) (n:Nat) (h:∀ x,dep (enc x)<=n):∀ xs:List α,xM (xs.map enc)<=n
 | []=>by simp[xM]
 | x::xs=>by
  have:=h x
  have:=fq enc n h xs
  simp only[Ar,xM]
  lia
def Oa (p:Int×Int):dep (zo p)<=1:=by simp[zo,dep,xM]
def ZM (ps:List (Int×Int)):dep (.tup (ps.map zo))<=60:=by
 have:=fq zo 1 Oa ps
 simp only[dep]
 lia
end yo
namespace yo
open PySem L2 L3 L5 RN
def bT (b:Bd):T:=.tup (b.map zo)
def rT (r:List Bd):T:=.lst (r.map bT)
noncomputable def kt (b:Bool):T:=if b=true then .str "keeper" else .str "taker"
noncomputable def yG (w:Wy):T:=.tup [.int w.f,.int w.t,.int w.a,.int w.b]
noncomputable def vZ (b:Bool):Int:=if b=true then 1 else 0
def xa (s:Sl):T:=.tup [.int s.p,.int (vZ s.pu),.int s.gv,.int s.gt]
def zt (F:zP):T:=.tup [.tup [.int F.A,.int F.B],.tup (F.os.map kt),.tup (F.ws.map yG),.tup (F.ss.map xa)]
def eq_int (i j:Int) (neg:Bool):yt neg (.int i) (.int j)=some (.bl (cond neg (!decide (i=j)) (decide (i=j)))):=by
 simp[yt,dep,eqT];cases neg <;> simp[Bool.beq_eq_decide_eq]
def YM (F:zP):qN [zt F]=some (.int F.os.length):=by
 simp[qN,eE,zt]
def YO (q p:Int×Int):o7 [zo q,zo p]=some (.bl (wL q p)):=by
 by_cases h1:p.1<=q.1 <;> by_cases h2:p.2<=q.2 <;> simp[o7,dh,zo,wL,h1,h2]
def Yp {α:Type}(g:α->Bool) (xs:List α):sM (xs.map λ x=>T.bl (g x))=some (xs.map g):=by
 have:=OW (xs.map g)
 rwa [AU] at this
def Ny (ps:List (Int×Int)) (q:Int×Int) (hl:ps.length<=10000):jk [bT ps,zo q]=some (.bl (zV ps q)):=by
 have hc:m6 [some (.im (bT ps)),some (.im (zo q))]=some (.lst (ps.map λ p=>T.bl (wL q p))):=by
  unfold m6
  refine sC zo _ ps (by simp[bT]) (by lia) λ p _=>?_
  simp[YO]
 unfold jk eU
 generalize m6=cc at hc ⊢
 simp[hc,Yp]
 rfl
def ND (A B:Int) (w:Wy) (bd:Bd) (hl:bd.length<64):lq [.tup [.int A,.int B],yG w,bT bd]=some (bT (mL A B w.a w.b bd)):=by
 have h1:m9 [some (.im (.tup [.int A,.int B])),some (.im (yG w)),some (.im (bT bd)),none]=some (.lst ((bd.map (xN w.a w.b)).map zo)):=by
  rw[AU]
  unfold m9
  refine sC zo _ bd (by simp[bT]) (by lia) λ p _=>?_
  simp[zo,yG,xN,xT,pQ]
 have h2:mr [some (.im (.tup [.int A,.int B])),some (.im (yG w)),some (.im (bT bd)),some (.im (.lst ((bd.map (xN w.a w.b)).map zo)))]=some (.lst (((bd.map (xN w.a w.b)).filter (vK A B)).map zo)):=by
  have:=ky zo (λ p=>if vK A B p=true then some (zo p) else none) (pick:=[none,some 0]) (it:=xg (zf 3)) (g:=zD 0) (c:=y_ (zu o7 (zc (zq 1) (zc (zq 0) zk)))) (f:=zq 0) (J:=[some (.im (.tup [.int A,.int B])),some (.im (yG w)),some (.im (bT bd)),some (.im (.lst ((bd.map (xN w.a w.b)).map zo)))]) (bd.map (xN w.a w.b)) (by simp) (by simp;lia) (λ p _=>by
   have e:T.tup [.int A,.int B]=zo (A,B):=rfl
   have ga:wL (A,B) p=vK A B p:=rfl
   simp only[pG,e]
   simp[YO,ga]
   cases vK A B p <;> simp)
  unfold mr
  rw[this,show ∀ l:List (Int×Int),l.filterMap (λ p=>if vK A B p=true then some (zo p) else none)=(l.filter (vK A B)).map zo from λ l=>by
   induction l with
   | nil=>rfl
   | cons a l ih=>by_cases h:vK A B a=true <;> simp[Cs,h,ih]]
 have h3:=ji ((bd.map (xN w.a w.b)).filter (vK A B)) (Nat.lt_of_le_of_lt (Dk _ _) (by simpa using hl))
 unfold lq dg
 generalize m9=d1 at h1 ⊢
 generalize mr=d2 at h2 ⊢
 generalize sX=ff at h3 ⊢
 generalize (bd.map (xN w.a w.b)).map zo=L1 at h1 h2
 generalize (((bd.map (xN w.a w.b)).filter (vK A B)).map zo)=L2 at h2 h3
 simp[h1,h2,h3]
 rfl
def N2 (b c:Bd) (hl:b.length+c.length<64):lb [bT b,bT c]=some (bT (uj b c)):=N3 b c hl
def NA (b c:Bd) (hl:b.length+c.length<64):lh [bT b,bT c]=some (bT (vO b c)):=by
 obtain⟨sh,h1,_,h2⟩:=NB b c hl
 have:wV sh=vO b c:=wz.eq (gy _) (gy _) λ q=>by
  rw[kx,h2,<- Yl]
 rw[<- this];exact h1
def N1 {A B:Int}(hA:0<=A/\A<=12) (bs:List Bd) (h:∀ b∈bs,Gd A B b):lj [.lst (bs.map bT)]=some (bT (sJ bs)):=by
 obtain⟨J',h1,h2⟩:=uA (is:=[2]) (g:=zD 2) (b:=mI) bT (λ p J=>J=[some (.im (.lst (bs.map bT))),some (.im (bT (p.foldl uj []))),none]) bs [some (.im (.lst (bs.map bT))),some (.im (bT [])),none] rfl (by
  rintro p x q e J rfl
  have g1:Gd A B (p.foldl uj []):=kG p [] Gd.nil λ c hc=>h c (by rw[e];simp[hc])
  have g2:Gd A B x:=h x (by rw[e];simp)
  have l1:=g1.rE hA.1
  have l2:=g2.rE hA.1
  refine⟨[some (.im (.lst (bs.map bT))),some (.im (bT (uj (p.foldl uj []) x))),some (.im (bT x))],?_,by simp⟩
  simp[turn,mI,N2 (p.foldl uj []) x (by lia)])
 subst h2
 unfold lj de
 generalize mI=bb at h1 ⊢
 have e:bT []=.tup []:=rfl
 rw[e] at h1
 simp[h1,sJ]
def N9 {A B:Int}(hA:0<=A/\A<=12) (hB:0<=B) (bs:List Bd) (h:∀ b∈bs,Gd A B b):lp [.lst (bs.map bT)]=some (bT (kP bs)):=by
 obtain⟨J',h1,h2⟩:=uA (is:=[2]) (g:=zD 2) (b:=mJ) bT (λ p J=>J=[some (.im (.lst (bs.map bT))),some (.im (bT (p.foldl vO xO))),none]) bs [some (.im (.lst (bs.map bT))),some (.im (bT xO)),none] rfl (by
  rintro p x q e J rfl
  have g1:Gd A B (p.foldl vO xO):=fD p xO (Gd.xO hA.1 hB) λ c hc=>h c (by rw[e];simp[hc])
  have g2:Gd A B x:=h x (by rw[e];simp)
  have l1:=g1.rE hA.1
  have l2:=g2.rE hA.1
  refine⟨[some (.im (.lst (bs.map bT))),some (.im (bT (vO (p.foldl vO xO) x))),some (.im (bT x))],?_,by simp⟩
  simp[turn,mJ,NA (p.foldl vO xO) x (by lia)])
 subst h2
 unfold lp df
 generalize mJ=bb at h1 ⊢
 have e:bT xO=.tup [.tup [.int 0,.int 0]]:=rfl
 rw[e] at h1
 simp[h1,kP]
theorem aq {α:Type}{is:List Nat}{g:T->Ev->Option Ev}{b:Sm}(enc ret:α->T) (test:α->Bool) (J0:Ev):∀ (xs:List α) (J:Ev),yA is J=J0->
  (∀ x∈xs,∃ J',yA is J'=J0/\turn g b (enc x) J0=some (if test x=true then .rt (ret x) else .nx J'))->
  xy is g b (xs.map enc) J=some (match xs.find? test with | some x=>.rt (ret x) | none=>.nx J0)
 | [],J,h,_=>by rw[A6,List.find?_nil,xy,h]
 | x::xs,J,h,ht=>by
  rw[Ar,gq,h]
  obtain⟨J',h1,h2⟩:=ht x Ao
  rw[h2,Co]
  by_cases c:test x=true
  ·rw[if_pos c,c];rfl
  ·rw[if_neg c]
   rw[Bool.not_eq_true] at c
   rw[c]
   exact aq enc ret test J0 xs J' h1 λ y hy=>ht y (Aw _ hy)
def YK (i a b:Int):mZ [.int i,.int a,.int b]=some (.bl (decide (a<=i)&&decide (i<=b))):=by
 have h:qO [.int i]=some (.bl true):=by simp[qO,ju,wg]
 by_cases h1:a<=i <;> by_cases h2:i<=b <;> simp[mZ,eR,h,h1,h2]
def jn (F:zP) (p:Nat) (h:p<F.os.length):qQ [zt F,.int p]=some .zm:=by
 have h1:=YK p 0 ((F.os.length:Int)-1)
 rw[show decide ((0:Int)<=p)=true from Ki (by lia),show decide ((p:Int)<=(F.os.length:Int)-1)=true from Ki (by lia)] at h1
 have h2:=YM F
 unfold qQ eX
 generalize zt F=fl at *
 simp[h1,h2]
def Ov (pu:Bool) (A B:Int) (sp gv gt:Int) (x y:Int) (hg:1<=gv) (b0 b1:T) (hb:zp b0 (.int (vZ pu))=some (.int (if pu=true then B else A))) (GI:zp b1 (.int 2)=some (.int gv)) (hs3:zp b1 (.int 3)=some (.int gt)) (pr:T):
  ∀ (n m:Nat) (g t:Int) (acc:Bd),(if pu=true then B else A)+1-g<=n->n<m->acc.length+n<=1000->
  ∃ g' t',we [] (yB (zb pE (zf 5) (zb zp (zf 0) (zf 3)))) rW m [some (.im b0),some (.im b1),some (.im pr),some (.im (.int (vZ pu))),some (.own (.lst (acc.map zo))),some (.im (.int g)),some (.im (.int t))]
   = some (.nx [some (.im b0),some (.im b1),some (.im pr),some (.im (.int (vZ pu))),some (.own (.lst ((acc++xX pu (if pu=true then B else A) gv gt n g t).map zo))),some (.im (.int g')),some (.im (.int t'))]):=by
 have Bi:∀ (m:Nat) (g t:Int) (acc:Bd),¬ g<=(if pu=true then B else A)->we [] (yB (zb pE (zf 5) (zb zp (zf 0) (zf 3)))) rW (m+1) [some (.im b0),some (.im b1),some (.im pr),some (.im (.int (vZ pu))),some (.own (.lst (acc.map zo))),some (.im (.int g)),some (.im (.int t))]
   = some (.nx [some (.im b0),some (.im b1),some (.im pr),some (.im (.int (vZ pu))),some (.own (.lst (acc.map zo))),some (.im (.int g)),some (.im (.int t))]):=λ m g t acc hn=>by
  unfold we
  simp only[zp] at hb
  simp[hb,hn]
 intro n
 induction n with
 | zero=>
  intro m g t acc h1 h2 h3
  obtain⟨m,rfl⟩:∃ k,m=k+1:=⟨m-1,by lia⟩
  refine⟨g,t,?_⟩
  rw[Bi m g t acc (by lia)]
  simp[xX]
 | succ n ih=>
  intro m g t acc h1 h2 h3
  obtain⟨m,rfl⟩:∃ k,m=k+1:=⟨m-1,by lia⟩
  by_cases hc:g<=(if pu=true then B else A)
  ·obtain⟨g',t',e⟩:=ih m (g+gv) (xT (t-gt)) (acc++[sa pu g t]) (by lia) (by lia) (by simp;lia)
   refine⟨g',t',?_⟩
   have G8:rW [some (.im b0),some (.im b1),some (.im pr),some (.im (.int (vZ pu))),some (.own (.lst (acc.map zo))),some (.im (.int g)),some (.im (.int t))]=some (.nx [some (.im b0),some (.im b1),some (.im pr),some (.im (.int (vZ pu))),some (.own (.lst ((acc++[sa pu g t]).map zo))),some (.im (.int (g+gv))),some (.im (.int (xT (t-gt))))]):=by
    simp only[zp] at GI hs3
    have hl:acc.length<16777216:=by lia
    unfold rW
    cases pu <;> simp[vZ,eq_int,GI,hs3,hl,pQ,xT,sa,zo]
   unfold we
   simp only[zp] at hb
   generalize rW=bb at *
   have e2:xX pu (if pu=true then B else A) gv gt (n+1) g t=sa pu g t::xX pu (if pu=true then B else A) gv gt n (g+gv) (xT (t-gt)):=by
    rw[xX,if_pos hc]
   rw[e2]
   simp only[List.append_assoc,List.singleton_append] at e
   simp[hb,hc,G8]
   simpa using e
  ·refine⟨g,t,?_⟩
   rw[Bi m g t acc hc,xX,if_neg hc,CZ]
def N6 {F:zP}(ok:F.Ok) (s:Sl) (hs:1<=s.gv/\0<=s.gt) (p:Int×Int) (h0:0<=p.1/\0<=p.2):mU [.tup [.int F.A,.int F.B],xa s,zo p]=some (.lst ((yM F s p).map zo)):=by
 obtain⟨sp,pu,gv,gt⟩:=s
 have a1:=ok.a1
 have b1:=ok.b1
 obtain⟨g',t',h⟩:=Ov pu F.A F.B sp gv gt p.1 p.2 hs.1 (.tup [.int F.A,.int F.B]) (xa ⟨sp,pu,gv,gt⟩) (by cases pu <;> simp[vZ]) (by simp[xa]) (by simp[xa]) (zo p) 100 1000000 (vI pu p) (sF pu p) [] (by cases pu <;> simp[vI] <;> lia) (by decide) (by simp)
 unfold mU eF oB
 generalize hb:rW=bb at h ⊢
 unfold yM zP.zO
 simp only[A6,List.nil_append] at h
 cases pu <;> simp[xa,vZ,zo,vI,sF] at h ⊢ <;> simp[h]
def Nr (F:zP) (p:Nat) (h:p<F.os.length) (hl:F.ss.length<=60):qM [zt F,.int p]=some (match F.FW p with | some s=>xa s | none=>.zm):=by
 have Gp:=aq (is:=[2]) (g:=zD 2) (b:=oj) xa xa (λ s=>decide (s.p=p)) [some (.im (zt F)),some (.im (.int p)),none] F.ss [some (.im (zt F)),some (.im (.int p)),none] (by simp) λ s _=>⟨[some (.im (zt F)),some (.im (.int p)),some (.im (xa s))],by simp,by
  by_cases c:s.p=p
  ·simp[turn,oj,xa,eq_int,c]
  ·have c':¬ ((s.p:Int)=(p:Int)):=by lia
   simp[turn,oj,xa,eq_int,c,c']⟩
 have h1:=jn F p h
 have h2:zp (zt F) (.int 3)=some (.tup (F.ss.map xa)):=by simp[zt]
 unfold qM eC
 generalize oj=bb at *
 generalize zt F=fl at *
 simp only[zp] at h2
 unfold zP.FW
 generalize F.ss.find? _=o at *
 simp[h1,h2,Gp]
 cases o <;> simp
theorem ZA:∀ (ws:List Wy) (k:Nat),rO k (ws.map yG)=(ws.zipIdx k).map λ wi=>T.tup [.int (wi.2:Int),yG wi.1]
 | [],k=>rfl
 | w::ws,k=>by
  rw[Ar,rO,ZA ws (k+1),Dl,Ar]
theorem jw (f:Wy->Bool):∀ (ws:List Wy) (k:Nat),((ws.zipIdx k).filter λ wi=>f wi.1).map (λ wi=>wi.1)=ws.filter f
 | [],k=>rfl
 | w::ws,k=>by
  rw[Dl,List.filter_cons,List.filter_cons]
  by_cases c:f w=true
  ·rw[if_pos (by exact c),if_pos c,Ar,jw f ws]
  ·rw[if_neg (by exact c),if_neg c,jw f ws]
def Nq (F:zP) (p:Nat) (h:p<F.os.length) (hl:F.ws.length<=60):mS [zt F,.int p]=some (.lst (((F.ws.zipIdx).filter λ wi=>decide (wi.1.f=p)).map λ wi=>T.int (wi.2:Int))):=by
 have hc:mv [some (.im (zt F)),some (.im (.int p))]=some (.lst (((F.ws.zipIdx).filter λ wi=>decide (wi.1.f=p)).map λ wi=>T.int (wi.2:Int))):=by
  have:=ky (λ wi:Wy×Nat=>T.tup [.int (wi.2:Int),yG wi.1]) (λ wi=>if wi.1.f=p then some (T.int (wi.2:Int)) else none) (pick:=[none,none,some 1]) (it:=wJ rP (zc (zb zp (zf 0) (cI 2)) zk)) (g:=wR 2 (yR (zD 0) (yR (zD 1) vB))) (c:=yB (zb (yt false) (zb zp (zf 1) (cI 0)) (zf 2))) (f:=zq 0) (J:=[some (.im (zt F)),some (.im (.int p))]) (F.ws.zipIdx) (by
   rw[<- ZA]
   simp[zt]) (by simp;lia) (λ wi _=>by
   by_cases c:wi.1.f=p
   ·simp[yG,eq_int,c]
   ·have c':¬ ((wi.1.f:Int)=(p:Int)):=by lia
    simp[yG,eq_int,c,c'])
  unfold mv
  rw[this]
  congr 2
  induction F.ws.zipIdx with
  | nil=>rfl
  | cons a l ih=>by_cases c:a.1.f=p <;> simp[Cs,c,ih]
 have h1:=jn F p h
 unfold mS eB
 generalize mv=cc at *
 generalize zt F=fl at *
 generalize List.map (λ wi:Wy×Nat=>T.int (wi.2:Int)) _=LL at *
 simp[h1,hc]
theorem Z8:∀ (b c:Bd),xu (b.map zo) (c.map zo)=decide (b=c)
 | [],[]=>by simp[xu]
 | [],_::_=>by simp[xu]
 | _::_,[]=>by simp[xu]
 | p::b,q::c=>by
  have h:=Z8 b c
  have e:eqT (zo p) (zo q)=decide (p=q):=by
   obtain⟨p1,p2⟩:=p
   obtain⟨q1,q2⟩:=q
   by_cases h1:p1=q1 <;> by_cases h2:p2=q2 <;> simp[zo,eqT,xu,h1,h2]
  rw[Ar,Ar,xu,e,h]
  by_cases h1:p=q <;> by_cases h2:b=c <;> simp[h1,h2]
def R6 (b c:Bd):yt true (bT b) (bT c)=some (.bl (decide (b≠c))):=by
 have h1:dep (bT b)<=60:=ZM b
 have h2:dep (bT c)<=60:=ZM c
 unfold yt
 rw[if_pos ⟨h1,h2⟩]
 show some (T.bl (!(xu (b.map zo) (c.map zo))))=_
 rw[Z8]
 by_cases h:b=c <;> simp[h]
def nL (l:List Bd) (p:Nat) (h:p<l.length):zp (rT l) (.int p)=some (bT (l.getD p [])):=by
 show L2.zI (l.map bT) (p:Int)=_
 refine vP ?_
 rw[Az,AL h,AZ,AL h];rfl
def N5 {F:zP}(ok:F.Ok) (p:Nat) (hp:p<F.os.length) (b:Bd) (hb:Gd F.A F.B b):o5 [zt F,.int p,bT b]=some (bT (match F.FW p with | none=>b | some s=>mm F s b)):=by
 have h1:=Nr F p hp ok.s8
 cases hs:F.FW p with
 | none=>
  rw[hs] at h1
  unfold o5 jv
  generalize qM=f1 at h1 ⊢
  generalize zt F=fl at *
  generalize bT b=bb at *
  have is1:x9 false .zm .zm=some (.bl true):=rfl
  simp[h1,is1]
 | some s=>
  rw[hs] at h1
  replace h1:qM [zt F,.int p]=some (xa s):=h1
  have A2:s∈F.ss:=List.mem_of_find?_eq_some hs
  have hsz:=ok.ss s A2
  have F4:(F.A+1)*(F.B+1)<64:=by
   rcases ok.sl with x | x
   ·rw[x] at A2;cases A2
   ·exact x
  have a0:=ok.a0
  have b0:=ok.b0
  have Eg:∀ x∈b,((yM F s x).length:Int)<=F.zO s.pu+1:=λ x hx=>by
   have q:=hb.wj x hx
   have:=Yh s.pu (F.zO s.pu) s.gv s.gt hsz.1 100 (vI s.pu x) (sF s.pu x) (by unfold zP.zO vI;split <;> lia)
   have g0:0<=vI s.pu x:=by unfold vI;split <;> lia
   unfold yM;lia
  have AE:∀ q:Bd,(∀ x∈q,x∈b)->((q.flatMap (yM F s)).length:Int)<=q.length*(F.zO s.pu+1):=λ q=>by
   induction q with
   | nil=>intro _;simp
   | cons x q ih=>
    intro hq
    have i1:=ih λ y hy=>hq y (Aw _ hy)
    have i2:=Eg x (hq x Ao)
    rw[List.flatMap_cons,Cg,AW,Int.natCast_add,Int.natCast_add,Int.add_mul]
    lia
  have hlen:(b.flatMap (yM F s)).length<64:=by
   have h2:=AE b λ _ h=>h
   have l1:=hb.rE a0
   have l2:=hb.RY b0
   have:((b.flatMap (yM F s)).length:Int)<64:=by
    refine CP h2 (CP ?_ F4)
    unfold zP.zO
    split
    ·exact DP l1 (by lia)
    ·rw[Int.mul_comm (F.A+1)]
     exact DP l2 (by lia)
   lia
  have hbr:zp (zt F) (.int 0)=some (.tup [.int F.A,.int F.B]):=by simp[zt]
  obtain⟨J',h2,h3⟩:=uA (is:=[5]) (g:=zD 5) (b:=mK) zo (λ q J=>J=[some (.im (zt F)),some (.im (.int p)),some (.im (bT b)),some (.im (xa s)),some (.own (.lst ((q.flatMap (yM F s)).map zo))),none]) b [some (.im (zt F)),some (.im (.int p)),some (.im (bT b)),some (.im (xa s)),some (.own (.lst [])),none] rfl (by
   rintro q x r e J rfl
   have hx:x∈b:=by rw[e];simp
   have q1:=hb.wj x hx
   have hF:=N6 ok s hsz x ⟨q1.1.1,q1.2.1⟩
   have G2:(q.flatMap (yM F s)).length+(yM F s x).length<=16777216:=by
    have e2:(b.flatMap (yM F s)).length=(q.flatMap (yM F s)).length+((yM F s x).length+(r.flatMap (yM F s)).length):=by rw[e];simp
    lia
   refine⟨[some (.im (zt F)),some (.im (.int p)),some (.im (bT b)),some (.im (xa s)),some (.own (.lst (((q++[x]).flatMap (yM F s)).map zo))),some (.im (zo x))],?_,by simp⟩
   have e3:((q++[x]).flatMap (yM F s)).map zo=(q.flatMap (yM F s)).map zo++(yM F s x).map zo:=by simp
   rw[e3]
   unfold turn mK
   have l3:((q.flatMap (yM F s)).map zo).length+((yM F s x).map zo).length<=16777216:=by simpa using G2
   generalize mU=ff at *
   generalize (q.flatMap (yM F s)).map zo=L1 at *
   generalize (yM F s x).map zo=L2 at *
   generalize zt F=fl at *
   simp only[zp] at hbr
   simp[hbr,hF,l3])
  subst h3
  have hF:=ji (b.flatMap (yM F s)) hlen
  have nn:x9 false (xa s) .zm=some (.bl false):=rfl
  unfold o5 jv
  generalize mK=bb at *
  generalize sX=ff at *
  generalize qM=f1 at *
  generalize (b.flatMap (yM F s)).map zo=L1 at *
  have hbT:xR (bT b)=some (b.map zo):=rfl
  generalize bT b=bt at *
  generalize zt F=fl at *
  generalize xa s=st at *
  simp[h1,nn,hbT,h2,hF]
  rfl
def Nx {F:zP}(ok:F.Ok) (p:Nat) (hp:p<F.os.length) (l:List Bd) (hl:l.length=F.os.length) (hg:∀ b∈l,Gd F.A F.B b):mV [zt F,.int p,rT l]=some (bT (xf F l p)):=by
 have h1:=Nq F p hp ok.oD
 have Ik:zp (zt F) (.int 2)=some (.tup (F.ws.map yG)):=by simp[zt]
 have Il:zp (zt F) (.int 0)=some (.tup [.int F.A,.int F.B]):=by simp[zt]
 have Jy:zp (zt F) (.int 1)=some (.tup (F.os.map kt)):=by simp[zt]
 have c1:my [some (.im (zt F)),some (.im (.int p)),some (.im (rT l)),none,none]=some (.lst ((F.ws.filter λ w=>decide (w.f=p)).map yG)):=by
  rw[<- jw (λ w=>decide (w.f=p)) F.ws 0,AU]
  unfold my
  refine sC (λ wi:Wy×Nat=>T.int (wi.2:Int)) _ ((F.ws.zipIdx).filter λ wi=>decide (wi.1.f=p)) ?_ (Bk (Dk _ _) (by rw[List.length_zipIdx];have:=ok.oD;lia)) λ wi CJ=>?_
  ·generalize mS=ff at *
   simp[h1]
  ·have hm:=(Bm.mp CJ).1
   have hg:=List.mem_zipIdx_iff_getElem?.mp hm
   have:L2.zI (F.ws.map yG) (wi.2:Int)=some (yG wi.1):=by
    exact vP (by rw[Az,hg];rfl)
   generalize zt F=fl at *
   simp only[zp] at Ik
   simp[Ik,this]
 have c2:mq [some (.im (zt F)),some (.im (.int p)),some (.im (rT l)),some (.im (.lst ((F.ws.filter λ w=>decide (w.f=p)).map yG))),none]=some (.lst ((vc F l p).map bT)):=by
  unfold vc
  rw[AU]
  unfold mq
  refine sC yG _ (F.ws.filter λ w=>decide (w.f=p)) (by simp) (Bk (Dk _ _) (by have:=ok.oD;lia)) λ w hw=>?_
  have hm:=(Bm.mp hw).1
  have ht:w.t<l.length:=by rw[hl];exact (ok.ws w hm).2
  have e1:=nL l w.t ht
  have gb:Gd F.A F.B (l.getD w.t []):=by
   rw[AZ,AL ht]
   exact hg _ (BL ht)
  have l13:=gb.rE ok.a0
  have a12:=ok.a1
  have hF:=ND F.A F.B w (l.getD w.t []) (by lia)
  have e2:zp (yG w) (.int 1)=some (.int (w.t:Int)):=by simp[yG]
  obtain⟨bd,hbd⟩:∃ bd,l.getD w.t []=bd:=⟨_,rfl⟩
  rw[hbd] at e1 gb hF
  have ED:(l[w.t]?).getD []=bd:=by rw[<- hbd,AZ]
  generalize lq=ff at *
  generalize zt F=fl at *
  generalize rT l=rt at *
  generalize yG w=wt at *
  simp only[zp] at Il e1 e2
  simp[Il,e1,e2,hF,ED]
 have JT:=fQ F l p
 have c3:=N1 ⟨ok.a0,ok.a1⟩ (vc F l p) JT
 have c4:=N9 ⟨ok.a0,ok.a1⟩ ok.b0 (vc F l p) JT
 have c5:=N5 ok p hp (sJ (vc F l p)) (kG _ _ Gd.nil JT)
 have ho:L2.zI (F.os.map kt) (p:Int)=some (kt (F.os.getD p false)):=by
  refine vP ?_
  rw[Az,AL hp,AZ,AL hp];rfl
 have hk:∀ b:Bool,yt false (kt b) (.str "keeper")=some (.bl b):=λ b=>by cases b <;> rfl
 unfold mV eI
 generalize my=d1 at *
 generalize mq=d2 at *
 generalize lj=f1 at *
 generalize lp=f2 at *
 generalize o5=f3 at *
 generalize ((F.ws.filter λ w=>decide (w.f=p)).map yG)=L1 at *
 generalize zt F=fl at *
 generalize rT l=rt at *
 unfold xf
 have FF:=hk (F.os.getD p false)
 generalize F.os.getD p false=kb at *
 generalize kt kb=ktb at *
 generalize (T.str "keeper")=ks at *
 simp only[zp] at Jy
 cases kb with
 | true=>
  simp[c1,c2,Jy,ho,FF,c3,c5]
  all_goals (cases F.FW p <;> rfl)
 | false=>simp[c1,c2,Jy,ho,FF,c4]
theorem gW {α β:Type}(c:α->Bool) (g:α->β):∀ l:List α,l.filterMap (λ x=>if c x=true then some (g x) else none)=(l.filter c).map g
 | []=>rfl
 | a::l=>by by_cases h:c a=true <;> simp[Cs,h,gW c g l]
def QA (t:Nat) (fr:List Nat):pP false (.int t) (.lst (fr.map λ(k:Nat)=>T.int (k:Int)))=some (.bl (fr.contains t)):=by
 have d1:xM (fr.map λ(k:Nat)=>T.int (k:Int))<=60:=by
  refine fq _ 60 (λ x=>?_) fr
  simp[dep]
 have d0:dep (.int (t:Int))<=60:=by simp[dep]
 unfold pP
 show (if dep (.int (t:Int))<=60/\xM (fr.map λ(k:Nat)=>T.int (k:Int))<=60 then _ else _)=_
 rw[if_pos ⟨d0,d1⟩]
 show some (T.bl ((fr.map λ(k:Nat)=>T.int (k:Int)).any λ x=>eqT x (.int t)))=_
 congr 2
 rw[Bz,A_,List.contains_iff_mem]
 constructor
 ·rintro⟨x,hx,h⟩
  obtain⟨k,hk,rfl⟩:=Av.mp hx
  have:(k:Int)=(t:Int):=by simpa [eqT] using h
  have:k=t:=by lia
  subst this;exact hk
 ·intro h
  exact⟨_,Av.mpr ⟨t,h,rfl⟩,by simp[eqT]⟩
def Nw {F:zP}(ok:F.Ok) (EG:List Bd) (fr:List Nat) (hl:EG.length=F.os.length) (hg:∀ b∈EG,Gd F.A F.B b):
  oy [zt F,rT EG,.lst (fr.map λ(k:Nat)=>T.int (k:Int))]=some (rT (yd F EG fr)):=by
 have Ik:zp (zt F) (.int 2)=some (.tup (F.ws.map yG)):=by simp[zt]
 have c1:mx [some (.im (zt F)),some (.im (rT EG)),some (.im (.lst (fr.map λ(k:Nat)=>T.int (k:Int)))),some (.own (.lst (EG.map bT))),none]=some (.lst (((F.ws.filter λ w=>fr.contains w.t).map λ w=>(w.f:Int)).map T.int)):=by
  have:=ky yG (λ w=>if fr.contains w.t=true then some (T.int (w.f:Int)) else none) (pick:=[none,some 2]) (it:=xg (zb zp (zf 0) (cI 2))) (g:=zD 0) (c:=yB (zb (pP false) (zb zp (zf 0) (cI 1)) (zf 1))) (f:=zb zp (zf 0) (cI 0)) (J:=[some (.im (zt F)),some (.im (rT EG)),some (.im (.lst (fr.map λ(k:Nat)=>T.int (k:Int)))),some (.own (.lst (EG.map bT))),none]) F.ws (by
    generalize zt F=fl at *
    simp only[zp] at Ik
    simp[Ik]) (by have:=ok.oD;lia) (λ w _=>by
   have hi:=QA w.t fr
   generalize (T.lst (fr.map λ(k:Nat)=>T.int (k:Int)))=ft at *
   generalize fr.contains w.t=cb at *
   cases cb <;> simp[yG,hi])
  unfold mx
  rw[this]
  rw[gW (λ w:Wy=>fr.contains w.t) (λ w:Wy=>T.int (w.f:Int)),AU];rfl
 have DD:tV [.lst (((F.ws.filter λ w=>fr.contains w.t).map λ w=>(w.f:Int)).map T.int)]=some (.lst ((w9 ((F.ws.filter λ w=>fr.contains w.t).map λ w=>(w.f:Int))).map T.int)):=by
  show (match vH (((F.ws.filter λ w=>fr.contains w.t).map λ w=>(w.f:Int)).map T.int) with | some ns=>_ | none=>_)=_
  rw[gD]
  refine if_pos ?_
  have:=Dk (λ w:Wy=>fr.contains w.t) F.ws
  have:=ok.oD
  simp only[Ay];lia
 have A2:∀ k∈w9 ((F.ws.filter λ w=>fr.contains w.t).map λ w=>(w.f:Int)),∃ p:Nat,k=(p:Int)/\p<F.os.length/\uC F fr p=true:=λ k hk=>by
  obtain⟨w,hw,rfl⟩:=Av.mp (km.mp hk)
  obtain⟨w1,w2⟩:=Bm.mp hw
  exact⟨w.f,rfl,(ok.ws w w1).1,A_.mpr ⟨w,w1,by simpa using w2⟩⟩
 have D6:∀ p:Nat,uC F fr p=true->(p:Int)∈w9 ((F.ws.filter λ w=>fr.contains w.t).map λ w=>(w.f:Int)):=λ p h=>by
  obtain⟨w,w1,w2⟩:=A_.mp h
  have w3:w.f=p/\fr.contains w.t=true:=by simpa using w2
  exact km.mpr (Av.mpr ⟨w,Bm.mpr ⟨w1,w3.2⟩,by rw[w3.1]⟩)
 generalize w9 ((F.ws.filter λ w=>fr.contains w.t).map λ w=>(w.f:Int))=up at *
 have ft:∃ t,(T.lst (fr.map λ(k:Nat)=>T.int (k:Int)))=t:=⟨_,rfl⟩
 obtain⟨J',h1,h2⟩:=uA (is:=[4]) (g:=zD 4) (b:=mD) T.int (λ pre J=>J=[some (.im (zt F)),some (.im (rT EG)),some (.im (.lst (fr.map λ(k:Nat)=>T.int (k:Int)))),some (.own (.lst (((List.range EG.length).map λ(p:Nat)=>if (p:Int)∈pre then xf F EG p else EG.getD p []).map bT))),none]) up
   [some (.im (zt F)),some (.im (rT EG)),some (.im (.lst (fr.map λ(k:Nat)=>T.int (k:Int)))),some (.own (.lst (EG.map bT))),none] (by
  have e:(List.range EG.length).map (λ(p:Nat)=>if (p:Int)∈([]:List Int) then xf F EG p else EG.getD p [])=EG:=by
   refine BP (by simp) λ i h1 h2=>?_
   simp[h2]
  rw[e];rfl) (by
  rintro pre k q e J rfl
  obtain⟨p,rfl,hp,hw⟩:=A2 k (by rw[e];simp)
  have hF:=Nx ok p hp EG hl hg
  refine⟨[some (.im (zt F)),some (.im (rT EG)),some (.im (.lst (fr.map λ(k:Nat)=>T.int (k:Int)))),some (.own (.lst (((List.range EG.length).map λ(i:Nat)=>if (i:Int)∈pre++[(p:Int)] then xf F EG i else EG.getD i []).map bT))),some (.im (.int p))],?_,by simp⟩
  have Eb:(((List.range EG.length).map λ(i:Nat)=>if (i:Int)∈pre then xf F EG i else EG.getD i []).map bT).set p (bT (xf F EG p))=((List.range EG.length).map λ(i:Nat)=>if (i:Int)∈pre++[(p:Int)] then xf F EG i else EG.getD i []).map bT:=by
   refine BP (by simp) λ i h1 h2=>?_
   rw[List.getElem_set]
   simp only[List.getElem_map,Dw,AY,AQ]
   by_cases c:p=i
   ·subst c;simp
   ·have c':¬ ((i:Int)=(p:Int)):=by lia
    simp[c,c']
  have BG:wW (((List.range EG.length).map λ(i:Nat)=>if (i:Int)∈pre then xf F EG i else EG.getD i []).map bT).length (p:Int)=some p:=by
   unfold wW
   simp only[Ay,BV]
   rw[if_pos (by lia),if_pos (by lia),Cm]
  rw[<- Eb]
  unfold turn mD
  generalize mV=ff at *
  generalize (((List.range EG.length).map λ(i:Nat)=>if (i:Int)∈pre then xf F EG i else EG.getD i []).map bT)=LL at *
  generalize zt F=fl at *
  generalize rT EG=rl at *
  generalize (T.lst (fr.map λ(k:Nat)=>T.int (k:Int)))=ftt at *
  simp[hF,BG])
 subst h2
 have fin:((List.range EG.length).map λ(p:Nat)=>if (p:Int)∈up then xf F EG p else EG.getD p [])=yd F EG fr:=by
  unfold yd
  refine CD λ p hp=>?_
  by_cases c:uC F fr p=true
  ·rw[if_pos c,if_pos (D6 p c)]
  ·rw[if_neg c,if_neg λ h=>c (by obtain⟨p',e,_,h'⟩:=A2 _ h;exact (show p'=p by lia)▸h')]
 rw[fin] at h1
 have Iu:listS [rT EG]=some (.lst (EG.map bT)):=rfl
 unfold oy eG
 generalize mx=cc at *
 generalize mD=bb at *
 generalize (((F.ws.filter λ w=>fr.contains w.t).map λ w=>(w.f:Int)).map T.int)=L1 at *
 generalize hup:up.map T.int=L2 at *
 generalize EG.map bT=L3 at *
 generalize zt F=fl at *
 have Cu:xR (rT EG)=some L3:=by simpa using Iu
 generalize rT EG=rl at *
 generalize (T.lst (fr.map λ(k:Nat)=>T.int (k:Int)))=ftt at *
 simp[Cu,c1,DD,h1,rT]
theorem ZC {α:Type}(enc:α->T) (d:α) (fo:List α):∀ (l:List α) (k:Nat),(∀ i,l.getD i d=fo.getD (k+i) d)->rO k (l.map enc)=(List.range l.length).map λ(p:Nat)=>T.tup [.int ((k+p:Nat):Int),enc (fo.getD (k+p) d)]
 | [],k,_=>rfl
 | b::l,k,h=>by
  have h0:=h 0
  rw[Ar,rO,ZC enc d fo l (k+1) λ i=>by have:=h (i+1);rw[show k+1+i=k+(i+1) from by lia];simpa using this]
  rw[AW,CF,Ar,AU]
  have e:b=fo.getD k d:=by simpa using h0
  congr 1
  ·rw[e];rfl
  ·refine CD λ p _=>?_
   simp only[Function.comp]
   rw[show k+1+p=k+Nat.succ p from by lia]
noncomputable def xh (fr:List Nat):T:=.lst (fr.map λ(k:Nat)=>T.int (k:Int))
def OQ (a:T) (b c:Option L5.W) (EG fo:List Bd) (hl:fo.length=EG.length) (h16:fo.length<=10000):oa [some (.im a),b,c,some (.im (rT EG)),some (.im (rT fo))]=some (xh (xI EG fo)):=by
 have:=ky (λ p:Nat=>T.tup [.int (p:Int),bT (fo.getD p [])]) (λ p=>if decide (fo.getD p []≠EG.getD p [])=true then some (T.int (p:Int)) else none) (pick:=[none,none,some 3]) (it:=wJ rP (zc (zf 4) zk)) (g:=wR 2 (yR (zD 0) (yR (zD 1) vB))) (c:=yB (zb (yt true) (zf 1) (zb zp (zf 2) (zf 0)))) (f:=zq 0) (J:=[some (.im a),b,c,some (.im (rT EG)),some (.im (rT fo))]) (List.range fo.length) (by
   have:=ZC bT [] fo fo 0 λ i=>by rw[Nat.zero_add]
   simp only[Nat.zero_add] at this
   have e:rP [rT fo]=some (rO 0 (fo.map bT)):=rfl
   rw[<- this]
   generalize rP=en at *
   simp[e]) (by simp;lia) (λ p hp=>by
  have Gi:p<EG.length:=by rw[<- hl];exact AK.mp hp
  have h1:=nL EG p Gi
  have h2:=R6 (fo.getD p []) (EG.getD p [])
  generalize fo.getD p []=x at *
  generalize EG.getD p []=y at *
  generalize rT EG=rl at *
  generalize decide (x≠y)=d at *
  simp only[zp] at h1
  cases d <;> simp[h1,h2])
 unfold oa
 rw[this,gW (λ p:Nat=>decide (fo.getD p []≠EG.getD p [])) (λ p:Nat=>T.int (p:Int))]
 rfl
theorem c8 {F:zP}(ok:F.Ok):∀ (n:Nat) (pre:List (List Bd)) (EG:List Bd) (fr:List Nat) (res:List (List Bd)),St F EG fr->oW F n pre EG fr=some res->pre.length+n<=10000->∀ (m:Nat),n<m->∀ x3 x4:Option L5.W,
  ∃ Jd,we [3,4] (y_ (zf 2)) uI m [some (.im (zt F)),some (.own (.lst ((pre++[EG]).map rT))),some (.im (xh fr)),x3,x4]=some (.nx [some (.im (zt F)),some (.own (.lst (res.map rT))),some (.im Jd),none,none])
 | 0,_,_,_,_,_,h,_,_,_,_,_=>by cases h
 | n+1,pre,EG,fr,res,s,h,hn,m,hm,x3,x4=>by
  have Bi:∀ (m:Nat) (FE:List (List Bd)) (x3 x4:Option L5.W),we [3,4] (y_ (zf 2)) uI (m+1) [some (.im (zt F)),some (.own (.lst (FE.map rT))),some (.im (xh [])),x3,x4]=some (.nx [some (.im (zt F)),some (.own (.lst (FE.map rT))),some (.im (xh [])),none,none]):=λ m FE x3 x4=>by
   unfold we
   simp[xh]
  obtain⟨m,rfl⟩:∃ k,m=k+1:=⟨m-1,by lia⟩
  unfold oW at h
  by_cases BN:fr=[]
  ·rw[if_pos BN] at h
   cases h
   subst BN
   exact⟨_,Bi m _ x3 x4⟩
  ·rw[if_neg BN] at h
   dsimp only at h
   have hlen:=s.len
   have n8:=ok.n8
   have hF:=Nw ok EG fr s.len s.gd
   have FZ:zp (.lst ((pre++[EG]).map rT)) (.int (-1))=some (rT EG):=by
    show L2.zI ((pre++[EG]).map rT) (-1)=_
    rw[BR]
    exact fH _ _
   have hc:=λ b c=>OQ (zt F) b c EG (yd F EG fr) (qx ..) (by rw[qx,s.len];lia)
   have Aq:rh (xh fr)=some true:=by
    cases fr with
    | nil=>exact absurd rfl BN
    | cons a l=>rfl
   have hb:∃ Gr,uI [some (.im (zt F)),some (.own (.lst ((pre++[EG]).map rT))),some (.im (xh fr)),none,none]=some (.nx [some (.im (zt F)),some (.own (.lst (Gr.map rT))),some (.im (xh (xI EG (yd F EG fr)))),some (.im (rT EG)),some (.im (rT (yd F EG fr)))])/\Gr=if xI EG (yd F EG fr)=[] then pre++[EG] else pre++[EG]++[yd F EG fr]:=by
    have G2:((pre++[EG]).map rT).length<16777216:=by simp;lia
    by_cases hf:xI EG (yd F EG fr)=[]
    ·refine⟨pre++[EG],?_,by rw[if_pos hf]⟩
     have ht:rh (xh (xI EG (yd F EG fr)))=some false:=by rw[hf];rfl
     unfold uI
     generalize oa=cc at *
     generalize oy=ff at *
     generalize (pre++[EG]).map rT=L1 at *
     generalize xh (xI EG (yd F EG fr))=f2 at *
     unfold xh at *
     simp only[zp] at FZ
     generalize (T.lst (fr.map λ(k:Nat)=>T.int (k:Int)))=f1 at *
     generalize rT (yd F EG fr)=r2 at *
     generalize rT EG=r1 at *
     simp only[xR] at FZ
     simp[-rh,FZ,hF,hc,ht]
    ·refine⟨pre++[EG]++[yd F EG fr],?_,by rw[if_neg hf]⟩
     have ht:rh (xh (xI EG (yd F EG fr)))=some true:=by
      cases e:xI EG (yd F EG fr) with
      | nil=>exact absurd e hf
      | cons a l=>rfl
     have e2:(pre++[EG]++[yd F EG fr]).map rT=(pre++[EG]).map rT++[rT (yd F EG fr)]:=by simp
     rw[e2]
     unfold uI
     generalize oa=cc at *
     generalize oy=ff at *
     generalize (pre++[EG]).map rT=L1 at *
     generalize xh (xI EG (yd F EG fr))=f2 at *
     unfold xh at *
     simp only[zp] at FZ
     generalize (T.lst (fr.map λ(k:Nat)=>T.int (k:Int)))=f1 at *
     generalize rT (yd F EG fr)=r2 at *
     generalize rT EG=r1 at *
     simp only[xR] at FZ
     simp[-rh,FZ,hF,hc,ht,G2]
   obtain⟨Gr,G8,HI⟩:=hb
   have key:∀ R,we [3,4] (y_ (zf 2)) uI m [some (.im (zt F)),some (.own (.lst (Gr.map rT))),some (.im (xh (xI EG (yd F EG fr)))),some (.im (rT EG)),some (.im (rT (yd F EG fr)))]=R->we [3,4] (y_ (zf 2)) uI (m+1) [some (.im (zt F)),some (.own (.lst ((pre++[EG]).map rT))),some (.im (xh fr)),x3,x4]=R:=λ R e=>by
    rw[we]
    generalize hbb:uI=bb at *
    generalize DG:we [3,4] (y_ (zf 2)) bb m=lw at *
    have hf:yA [3,4] [some (.im (zt F)),some (.own (.lst ((pre++[EG]).map rT))),some (.im (xh fr)),x3,x4]=[some (.im (zt F)),some (.own (.lst ((pre++[EG]).map rT))),some (.im (xh fr)),none,none]:=rfl
    rw[hf]
    have ht:y_ (zf 2) [some (.im (zt F)),some (.own (.lst ((pre++[EG]).map rT))),some (.im (xh fr)),none,none]=some true:=by
     generalize xh fr=f1 at *
     simp[-rh,Aq]
    rw[ht,BD,if_pos rfl,G8,BD]
    exact e
   by_cases hf:xI EG (yd F EG fr)=[]
   ·rw[if_pos hf] at h HI
    cases h
    subst HI
    rw[hf] at key
    obtain⟨m,rfl⟩:∃ k,m=k+1:=⟨m-1,by lia⟩
    exact⟨_,key _ (Bi m _ _ _)⟩
   ·rw[if_neg hf] at h HI
    subst HI
    obtain⟨Jd,e⟩:=c8 ok n (pre++[EG]) (yd F EG fr) (xI EG (yd F EG fr)) res (s.next ok) h (by simp;lia) m (by lia) (some (.im (rT EG))) (some (.im (rT (yd F EG fr))))
    exact⟨Jd,key _ e⟩
def Nv {F:zP}(ok:F.Ok):∃ more,mT [zt F]=some (.lst ((RN.start F::more).map rT))/\(∀ r∈RN.start F::more,r.length=F.os.length/\∀ b∈r,Gd F.A F.B b)/\more.length<=2000:=by
 have hmu:=af (RN.start F)
 have Bp:(RN.start F).length=F.os.length:=by unfold RN.start;simp
 have n8:=ok.n8
 have n1:=ok.n1
 obtain⟨more,Gw,e1,e2,_,e4⟩:=c9 ok 2000 [] (RN.start F) (List.range F.os.length) (St.start ok) (by lia)
 obtain⟨Jd,e⟩:=c8 ok 2000 [] (RN.start F) (List.range F.os.length) _ (St.start ok) e1 (by simp) 1000000 (by decide) none none
 refine⟨more,?_,e2,by lia⟩
 have hp:=YM F
 have AV:rT (RN.start F)=.lst (List.replicate F.os.length (.tup [.tup [.int 0,.int 0]])):=by
  unfold rT RN.start
  rw[List.map_replicate];rfl
 have hmul:uY (.lst [.tup [.tup [.int 0,.int 0]]]) (.int F.os.length)=some (rT (RN.start F)):=by
  rw[AV]
  unfold uY
  dsimp only
  rw[if_pos ⟨by simp,by lia,by lia,RU (by simp;lia)⟩]
  have:∀ n:Nat,(List.replicate n [T.tup [.tup [.int 0,.int 0]]]).flatten=List.replicate n (.tup [.tup [.int 0,.int 0]]):=λ n=>by
   induction n with
   | zero=>rfl
   | succ n ih=>rw[BK,BK,Ce,ih];rfl
  rw[Cm,this]
 have BW:nH [.int F.os.length]=some (xh (List.range F.os.length)):=by
  show (if 0<=(F.os.length:Int)/\(F.os.length:Int)<=16777216 then some (T.lst (rangeT 0 (F.os.length:Int).toNat)) else none)=_
  rw[if_pos ⟨by lia,by lia⟩]
  show some (T.lst ((List.range (F.os.length:Int).toNat).map λ(k:Nat)=>T.int (0+(k:Int))))=_
  rw[Cm]
  unfold xh
  simp
 unfold mT eD oB
 generalize uI=bb at *
 generalize qN=ff at *
 generalize nH=lr at *
 simp only[List.nil_append,Ar,A6] at e
 generalize xh (List.range F.os.length)=f1 at *
 rw[Ar]
 generalize rT (RN.start F)=r0 at *
 generalize zt F=fl at *
 generalize DG:we [3,4] (y_ (zf 2)) bb 1000000=lw at *
 generalize uY=mw at *
 simp[hp,hmul,BW,e]
def nD (i j:Int):uY (.int i) (.int j)=if vU i j then some (.int (i*j)) else none:=rfl
def Q8 {r:List Int}{rs:List (List Int)}:vH ((r::rs).map zR)=none:=rfl
def Wu (rs:List (List Int)) (h0:rs≠[]) (hl:rs.length<64) (hn:∀ r∈rs,r≠[]):tV [.lst (rs.map zR)]=some (.lst ((L4.xw (wG rs)).map zR)):=by
 cases rs with
 | nil=>exact absurd rfl h0
 | cons r rs=>
  show (match vH ((r::rs).map zR) with
   | some ns=>if ns.length<64 then some (T.lst ((w9 ns).map T.int)) else none
   | none=>lF [T.lst ((r::rs).map zR)])=_
  rw[Q8]
  show (vX ((r::rs).map zR)).bind _=_
  rw[i5,BD,if_pos ⟨hl,hn⟩]
def bG {f:T->T->Option T}{fa fb:Ev->Option T}{J:Ev}{x y:T}{r:Option T}(h1:fa J=some x) (h2:fb J=some y) (h:f x y=r):zb f fa fb J=r:=by
 show (fa J).bind _=r;rw[h1];show (fb J).bind _=r;rw[h2];exact h
def VJ (n:Nat) (h:n<=1000):xk (.int 10) (.int (n:Int))=some (.int (10 ^ n)):=by
 have hc:rb 10 (n:Int):=⟨by lia,by lia,by decide⟩
 show (if rb 10 (n:Int) then some (T.int (10 ^ (n:Int).toNat)) else none)=_
 rw[if_pos hc,Cm]
def ng (n:Nat) (h:n<=1000) (J:Ev):zb xk (cI 10) (cS (.int (n:Int))) J=some (.int (10 ^ n)):=bG rfl rfl (VJ n h)
def Wq (c:Int) (n:Nat) (hn:n<=100) (o6:Ev->Option T) (q6:Int) (h6:∀ J,o6 J=some (.int q6)) (g6:0<q6/\q6<2 ^ 200) (F7:Int):
  ∃ (v:Int) (xs:List Int),xy [4] (zD 4) (zv (xY 2 (zb yg (zf 3) o6)) (zW 3 (zb xJ (zf 3) o6))) ((List.range n).map λ(k:Nat)=>T.int (0+(k:Int))) [some (.im (.int c)),some (.im (.int n)),some (.own (.lst [])),some (.im (.int F7)),none]
   = some (.nx [some (.im (.int c)),some (.im (.int n)),some (.own (.lst (xs.map T.int))),some (.im (.int v)),none])/\xs.length=n:=by
 obtain⟨J',h1,v,xs,h2,h3⟩:=uA (is:=[4]) (g:=zD 4) (b:=(zv (xY 2 (zb yg (zf 3) o6)) (zW 3 (zb xJ (zf 3) o6)))) (λ k:Nat=>T.int (0+(k:Int))) (λ p J=>∃ (v:Int) (xs:List Int),J=[some (.im (.int c)),some (.im (.int n)),some (.own (.lst (xs.map T.int))),some (.im (.int v)),none]/\xs.length=p.length)
   (List.range n) [some (.im (.int c)),some (.im (.int n)),some (.own (.lst [])),some (.im (.int F7)),none] ⟨F7,[],rfl,rfl⟩ (by
  rintro p k q e J ⟨v,xs,rfl,r1⟩
  have hp:p.length<n:=by have:=congrArg List.length e;simp at this;lia
  have hl:(xs.map T.int).length<16777216:=by simp;lia
  have d6:ux v q6:=g6
  have p6:=g6.1
  refine⟨[some (.im (.int c)),some (.im (.int n)),some (.own (.lst ((xs++[v%q6]).map T.int))),some (.im (.int (v/q6))),some (.im (.int (0+(k:Int))))],?_,v/q6,xs++[v%q6],by simp,by simp[r1]⟩
  have e2:(xs++[v%q6]).map T.int=xs.map T.int++[.int (v%q6)]:=by simp
  rw[e2]
  generalize xs.map T.int=L at *
  generalize (0+(k:Int))=kk at *
  simp[turn,h6,hl,d6,p6])
 subst h2
 exact⟨v,xs,h1,by simpa using h3⟩
def Wo (c:Int) (n:Nat) (hn:n<=100) (oM Ie Ic o9:Ev->Option T) (M Hu Gv q9:Int) (hM:∀ J,oM J=some (.int M)) (ID:∀ J,Ie J=some (.int Hu)) (IC:∀ J,Ic J=some (.int Gv)) (h9:∀ J,o9 J=some (.int q9))
  (gM:0<M/\M<2 ^ 180) (JV:0<Hu/\Hu<2 ^ 200) (JU:0<Gv/\Gv<2 ^ 200) (g9:0<q9/\q9<2 ^ 200) (F7:Int) (El:0<=F7/\F7<2 ^ 181):
  ∃ (v:Int) (xs:List Int),xy [4] (zD 4) (zv (zW 3 (zb yg (zb yi (zb yi (zb xG (zf 3) (cI 52027)) (zb xJ (zf 3) Ie)) (zb xG (cI 13) (zf 4))) oM)) (xY 2 (zb xJ (zb xG (zf 3) (zb yi (zb xJ (zf 3) Ic) (cI 7))) o9))) ((List.range n).map λ(k:Nat)=>T.int (0+(k:Int))) [some (.im (.int c)),some (.im (.int n)),some (.own (.lst [])),some (.im (.int F7)),none]
   = some (.nx [some (.im (.int c)),some (.im (.int n)),some (.own (.lst (xs.map T.int))),some (.im (.int v)),none])/\xs.length=n:=by
 obtain⟨J',h1,v,xs,h2,h3,h4⟩:=uA (is:=[4]) (g:=zD 4) (b:=(zv (zW 3 (zb yg (zb yi (zb yi (zb xG (zf 3) (cI 52027)) (zb xJ (zf 3) Ie)) (zb xG (cI 13) (zf 4))) oM)) (xY 2 (zb xJ (zb xG (zf 3) (zb yi (zb xJ (zf 3) Ic) (cI 7))) o9)))) (λ k:Nat=>T.int (0+(k:Int)))
   (λ p J=>∃ (v:Int) (xs:List Int),J=[some (.im (.int c)),some (.im (.int n)),some (.own (.lst (xs.map T.int))),some (.im (.int v)),none]/\xs.length=p.length/\0<=v/\v<2 ^ 181)
   (List.range n) [some (.im (.int c)),some (.im (.int n)),some (.own (.lst [])),some (.im (.int F7)),none] ⟨F7,[],rfl,rfl,El⟩ (by
  rintro p k q e J ⟨v,xs,rfl,r1,r2,r3⟩
  have hp:p.length<n:=by have:=congrArg List.length e;simp at this;lia
  have hk:k<n:=AK.mp (by rw[e];simp)
  have hl:(xs.map T.int).length<16777216:=by simp;lia
  generalize hu:(v*52027+v/Hu+13*(0+(k:Int)))%M=u
  have u0:0<=u:=by rw[<- hu];exact A8 _ (by lia)
  have u1:u<M:=by rw[<- hu];exact A7 _ gM.1
  have d22:ux v Hu:=JV
  have m1:tQ v 52027:=⟨by lia,by decide⟩
  have m2:tQ 13 (0+(k:Int)):=⟨by decide,by lia⟩
  have pM:=gM.1
  have d23:ux u Gv:=JU
  have w0:0<=u/Gv:=Int.ediv_nonneg u0 (by lia)
  have w1:u/Gv<=u:=Int.ediv_le_self _ u0
  have m3:tQ u (u/Gv+7):=⟨by lia,by lia⟩
  have d9:ux (u*(u/Gv+7)) q9:=g9
  refine⟨[some (.im (.int c)),some (.im (.int n)),some (.own (.lst ((xs++[u*(u/Gv+7)/q9]).map T.int))),some (.im (.int u)),some (.im (.int (0+(k:Int))))],?_,u,xs++[u*(u/Gv+7)/q9],by simp,by simp[r1],u0,by lia⟩
  have e2:(xs++[u*(u/Gv+7)/q9]).map T.int=xs.map T.int++[.int (u*(u/Gv+7)/q9)]:=by simp
  rw[e2]
  generalize xs.map T.int=L at *
  generalize (0+(k:Int))=kk at *
  simp[turn,hM,ID,IC,h9,hl,d22,m1,m2,pM,hu,d23,m3,d9])
 subst h2
 exact⟨v,xs,h1,by simpa using h3⟩
def Nj (i:Int):0<=(if i<0 then -i else i):=by split <;> lia
def f_ (c:Int) (n:Nat) (hn:n<=100):∃ xs:List Int,uw [.int c,.int n]=some (.lst (xs.map T.int))/\xs.length=n:=by
 obtain⟨q6,h6,g6⟩:∃ q:Int,(∀ J,zb xk (cI 10) (cI 6) J=some (.int q))/\0<q/\q<2 ^ 200:=⟨_,ng 6 (by decide),AB⟩
 obtain⟨q9,h9,g9⟩:∃ q:Int,(∀ J,zb xk (cI 10) (cI 9) J=some (.int q))/\0<q/\q<2 ^ 200:=⟨_,ng 9 (by decide),AB⟩
 obtain⟨Hu,ID,JV⟩:∃ q:Int,(∀ J,zb xk (cI 10) (cI 22) J=some (.int q))/\0<q/\q<2 ^ 200:=⟨_,ng 22 (by decide),AB⟩
 obtain⟨Gv,IC,JU⟩:∃ q:Int,(∀ J,zb xk (cI 10) (cI 23) J=some (.int q))/\0<q/\q<2 ^ 200:=⟨_,ng 23 (by decide),AB⟩
 obtain⟨M,hM,gM⟩:∃ q:Int,(∀ J,zb yi (zb xk (cI 10) (cI 45)) (cI 9) J=some (.int q))/\0<q/\q<2 ^ 180:=⟨10 ^ 45+9,fun J=>bG (ng 45 (by decide) J) rfl rfl,AB⟩
 have hr:=oY n (by lia)
 unfold uw Xq Y0 Yz
 have a0:=Nj (c/2)
 generalize ha:(if c/2<0 then -(c/2) else c/2)=num at *
 have hnm0:0<=num%M:=A8 _ (by lia)
 have hnm1:num%M<M:=A7 _ gM.1
 have pM:=gM.1
 have d2:ux c 2:=⟨by decide,by decide⟩
 obtain⟨v1,FG,e1,l1⟩:=Wq c n hn _ q6 h6 g6 num
 obtain⟨v2,G_,e2,l2⟩:=Wo c n hn _ _ _ _ M Hu Gv q9 hM ID IC h9 gM JV JU g9 (num%M+77003) ⟨by lia,by lia⟩
 generalize zb yi (zb xk (cI 10) (cI 45)) (cI 9)=oM at *
 generalize zb xk (cI 10) (cI 6)=o6 at *
 generalize zb xk (cI 10) (cI 9)=o9 at *
 generalize zb xk (cI 10) (cI 22)=Ie at *
 generalize zb xk (cI 10) (cI 23)=Ic at *
 generalize G8:(zv (xY 2 (zb yg (zf 3) o6)) (zW 3 (zb xJ (zf 3) o6)))=b1 at *
 generalize HI:(zv (zW 3 (zb yg (zb yi (zb yi (zb xG (zf 3) (cI 52027)) (zb xJ (zf 3) Ie)) (zb xG (cI 13) (zf 4))) oM)) (xY 2 (zb xJ (zb xG (zf 3) (zb yi (zb xJ (zf 3) Ic) (cI 7))) o9)))=b2 at *
 by_cases h:c%2=1
 ·refine⟨FG,?_,l1⟩
  generalize FG.map T.int=L1 at *
  generalize (List.range n).map (λ(k:Nat)=>T.int (0+(k:Int)))=R at *
  simp[d2,ha,h,hr,e1,eq_int]
 ·refine⟨G_,?_,l2⟩
  generalize G_.map T.int=L2' at *
  generalize (List.range n).map (λ(k:Nat)=>T.int (0+(k:Int)))=R at *
  simp[d2,ha,h,hr,hM,pM,e2,eq_int]
def YN (x:Int) (m:Nat) (h:m<=100):∃ y,o3 [.int x,.int m]=some (.int y):=by
 have m1:vU 2 (m:Int):=.inl ⟨by decide,by decide⟩
 have m2:(0:Int)<2*(m:Int)+1:=by lia
 have d:xQ x 25:=⟨by decide,by decide⟩
 exact⟨_,by simp[o3,eP,nD,m1,m2,d];rfl⟩
def uz (many:Nat) (r:List Int):Prop:=∃ (f t:Nat) (a b:Int),r=[(f:Int),(t:Int),a,b]/\f<many/\t<many
def YL (place many:Nat) (num:Int) (sz:Nat) (hp:place<many) (hs:sz<=100):∃ r,(uz many r/\r.head?=some (place:Int))/\qa [.int place,.int many,.int num,.int sz]=some (zR r):=by
 have d8:xQ num 8:=⟨by decide,by decide⟩
 have J6:xQ num 400:=⟨by decide,by decide⟩
 obtain⟨a,ha⟩:=YN (num/8%50) sz hs
 obtain⟨b,hb⟩:=YN (num/400%50) sz hs
 have C7:(0:Int)<many:=by lia
 have t0:0<=num%8%many:=A8 _ (by lia)
 have t1:num%8%many<many:=A7 _ C7
 have Jb:0<many:=by lia
 refine⟨[(place:Int),((num%8%many).toNat:Int),a,b],⟨⟨place,(num%8%many).toNat,a,b,rfl,hp,by lia⟩,rfl⟩,?_⟩
 rw[C0 t0]
 have hr:zR [(place:Int),num%8%many,a,b]=.tup [.int place,.int (num%8%many),.int a,.int b]:=rfl
 rw[hr]
 unfold qa eK
 generalize o3=fa at *
 simp[d8,J6,ha,hb,Jb]
def nK {xs:List Int}{j:Nat}(h:j<xs.length):∃ v,L2.zI (xs.map T.int) (j:Int)=some (.int v):=⟨xs.getD j 0,vP (by simp[h])⟩
def Qi (b:Bool):yt false (kt b) (.str "keeper")=some (.bl b):=by
 have h:(("taker":Str) == ("keeper":Str))=false:=by decide
 cases b
 ·show yt false (.str "taker") (.str "keeper")=_
  simp[yt,dep,eqT,h]
 ·show yt false (.str "keeper") (.str "keeper")=_
  simp[yt,dep,eqT]
def Y2 (b:Sm) (n many pl:Nat) (E:List T->Option L5.W->Ev) (hE:∀ r x,yA [11] (E r x)=E r none) (hn:n<=100)
  (ht:∀ k<n,∀ rows:List T,rows.length<=1000->∃ r,(uz many r/\r.head?=some (pl:Int))/\turn (zD 11) b (.int (0+(k:Int))) (E rows none)=some (.nx (E (rows++[zR r]) (some (.im (.int (0+(k:Int))))))))
  (rows:List (List Int)) (hl:rows.length<=100) (hr:∀ r∈rows,uz many r):
  ∃ ES:List (List Int),xy [11] (zD 11) b ((List.range n).map λ(k:Nat)=>T.int (0+(k:Int))) (E (rows.map zR) none)=some (.nx (E (ES.map zR) none))/\ES.length=rows.length+n/\(∀ r∈ES,uz many r)/\(∀ r∈rows,r∈ES)/\(0<n->∃ r∈ES,r.head?=some (pl:Int)):=by
 obtain⟨J',h1,ES,h2,h3,h4,h5,h6⟩:=uA (is:=[11]) (g:=zD 11) (b:=b) (λ k:Nat=>T.int (0+(k:Int))) (λ p J=>∃ ES:List (List Int),J=E (ES.map zR) none/\ES.length=rows.length+p.length/\(∀ r∈ES,uz many r)/\(∀ r∈rows,r∈ES)/\(0<p.length->∃ r∈ES,r.head?=some (pl:Int)))
   (List.range n) (E (rows.map zR) none) ⟨rows,hE _ _,rfl,hr,λ _ h=>h,λ h=>absurd h (by simp)⟩ (by
  rintro p k q e J ⟨ES,rfl,u1,u2,u3,u4⟩
  have hp:p.length<n:=by have:=congrArg List.length e;simp at this;lia
  have hk:k<n:=AK.mp (by rw[e];simp)
  obtain⟨r,⟨v1,v3⟩,v2⟩:=ht k hk (ES.map zR) (by simp;lia)
  refine⟨_,v2,ES++[r],by rw[hE];simp,by simp only[Cg,List.length_singleton,u1];lia,λ r' GV=>?_,λ r' h=>Cr _ (u3 r' h),λ _=>⟨r,by simp,v3⟩⟩
  rcases AY.mp GV with h | h
  ·exact u2 r' h
  ·cases AQ.mp h;exact v1)
 subst h2
 exact⟨ES,h1,by simpa using h3,h4,h5,λ h=>h6 (by simpa using h)⟩
def VP (c mo br:T) (xs:List Int) (hx:xs.length=43) (many:Nat) (hm:many<=8) (os:List Bool) (rows:List (List Int)) (F6:List T) (k:Nat) (hk:k<many) (ho:os.length=k) (hrl:rows.length<=3*k) (hr:∀ r∈rows,uz many r) (hs:F6.length<=k):
  ∃ (b:Bool) (ES:List (List Int)) (FU:List T) (nu sz:Int),turn (zD 8) qG (.int (0+(k:Int))) [some (.im c),some (.im mo),some (.im br),some (.im (.lst (xs.map T.int))),some (.im (.int many)),some (.own (.lst (os.map kt))),some (.own (.lst (rows.map zR))),some (.own (.lst F6)),none,none,none,none,none]
   = some (.nx [some (.im c),some (.im mo),some (.im br),some (.im (.lst (xs.map T.int))),some (.im (.int many)),some (.own (.lst ((os++[b]).map kt))),some (.own (.lst (ES.map zR))),some (.own (.lst FU)),some (.im (.int (0+(k:Int)))),some (.im (.int nu)),some (.im (.int sz)),none,none])
   /\ ES.length<=3*(k+1)/\(∀ r∈ES,uz many r)/\(∀ r∈rows,r∈ES)/\(∃ r∈ES,r.head?=some (k:Int))/\FU.length<=k+1/\(FU=F6\/∃ s:RN.Sl,(1<=s.gv/\0<=s.gt)/\FU=F6++[xa s]):=by
 obtain⟨v,hv⟩:=nK (xs:=xs) (j:=2+4*k) (by lia)
 have Gh:L2.zI (xs.map T.int) (2+4*(k:Int))=some (.int v):=hv
 obtain⟨b,hb⟩:∃ b:Bool,L2.zI [T.str "keeper",T.str "taker"] (v%2)=some (kt b):=by
  rcases Int.emod_two_eq v with h | h <;> rw[h]
  ·exact⟨true,rfl⟩
  ·exact⟨false,rfl⟩
 obtain⟨sz,hsz,sz1⟩:∃ sz:Nat,L2.zI [T.int 2,T.int 3,T.int 3,T.int 12] (v/2%4)=some (.int (sz:Int))/\sz<=12:=by
  have h0:0<=v/2%4:=A8 _ (by decide)
  have h1:v/2%4<4:=A7 _ (by decide)
  generalize v/2%4=z at *
  obtain h | h | h | h:z=0\/z=1\/z=2\/z=3:=by lia
  all_goals subst h
  ·exact⟨2,rfl,by decide⟩
  ·exact⟨3,rfl,by decide⟩
  ·exact⟨3,rfl,by decide⟩
  ·exact⟨12,rfl,by decide⟩
 obtain⟨n1,JG,n0,n3⟩:∃ n:Nat,1+v/8%3=(n:Int)/\0<n/\n<=3:=⟨(1+v/8%3).toNat,by lia,by lia,by lia⟩
 obtain⟨ES,g1,g2,g3,g4,g5⟩:=Y2 mF n1 many k (λ rs x=>[some (.im c),some (.im mo),some (.im br),some (.im (.lst (xs.map T.int))),some (.im (.int many)),some (.own (.lst ((os++[b]).map kt))),some (.own (.lst rs)),some (.own (.lst F6)),some (.im (.int (k:Int))),some (.im (.int v)),some (.im (.int sz)),x,none]) (λ _ _=>rfl) (by lia)
  (λ k' FF rs hrs=>by
   obtain⟨v2,Jz⟩:=nK (xs:=xs) (j:=3+4*k+k') (by lia)
   have Hy:L2.zI (xs.map T.int) (3+4*(k:Int)+(0+(k':Int)))=some (.int v2):=by rw[<- Jz];congr 1;lia
   obtain⟨r,JD,JC⟩:=YL k many v2 sz hk (by lia)
   refine⟨r,JD,?_⟩
   have m1:vU 4 (k:Int):=.inl ⟨by decide,by decide⟩
   have Cv:rs.length<16777216:=by lia
   unfold turn mF
   generalize qa=fw at *
   generalize xs.map T.int=XL at *
   generalize (os++[b]).map kt=OL at *
   generalize zR r=rr at *
   generalize (0+(k':Int))=kk at *
   generalize hk4:(k:Int)=kI at *
   simp[nD,m1,Hy,JC,Cv])
  rows (by lia) hr
 have BW:=oY n1 (by lia)
 have BZ:(os.map kt).length<16777216:=by simp;lia
 have BG:L2.zI ((os++[b]).map kt) (k:Int)=some (kt b):=vP (by rw[BR,Cq (by simp;lia)];simp[ho])
 have AV:F6.length<16777216:=by lia
 have Es:=Qi b
 have m1:vU 4 (k:Int):=.inl ⟨by decide,by decide⟩
 have d2:xQ v 2:=⟨by decide,by decide⟩
 have d8:xQ v 8:=⟨by decide,by decide⟩
 have d24:xQ v 24:=⟨by decide,by decide⟩
 have d72:xQ v 72:=⟨by decide,by decide⟩
 have J7:xQ v 144:=⟨by decide,by decide⟩
 have J5:xQ v 576:=⟨by decide,by decide⟩
 have fin:∀ FU:List T,(if b=true/\v/24%3=0 then F6++[.tup [.int k,.int (v/72%2),.int (1+v/144%4),.int (v/576%5)]] else F6)=FU->turn (zD 8) qG (.int (0+(k:Int))) [some (.im c),some (.im mo),some (.im br),some (.im (.lst (xs.map T.int))),some (.im (.int many)),some (.own (.lst (os.map kt))),some (.own (.lst (rows.map zR))),some (.own (.lst F6)),none,none,none,none,none]
   = some (.nx [some (.im c),some (.im mo),some (.im br),some (.im (.lst (xs.map T.int))),some (.im (.int many)),some (.own (.lst ((os++[b]).map kt))),some (.own (.lst (ES.map zR))),some (.own (.lst FU)),some (.im (.int (0+(k:Int)))),some (.im (.int v)),some (.im (.int sz)),none,none]):=λ FU he=>by
  have e2:(os++[b]).map kt=os.map kt++[kt b]:=by simp
  unfold turn qG
  rw[e2] at g1 BG ⊢
  simp only[Int.zero_add] at g1 BW ⊢
  generalize mF=bb at *
  generalize (List.range n1).map (λ(k:Nat)=>T.int (k:Int))=RR at *
  generalize ES.map zR=L2' at *
  generalize rows.map zR=L1' at *
  generalize xs.map T.int=XL at *
  generalize os.map kt=OL at *
  generalize (T.str "taker")=s2 at *
  generalize hs1:(T.str "keeper")=s1 at *
  generalize kt b=kb at *
  generalize hkI:(k:Int)=kI at *
  generalize hee:yt=ee at *
  have HH:ee false (.int (v/24%3)) (.int 0)=some (.bl (decide (v/24%3=0))):=by rw[<- hee];exact eq_int _ _ _
  by_cases G8:b=true
  ·subst G8
   by_cases hz:v/24%3=0
   ·rw[if_pos ⟨rfl,hz⟩] at he
    subst he
    rw[hz] at HH
    simp[nD,m1,Gh,hb,BZ,d2,hsz,d8,JG,BW,g1,BG,Es,d24,HH,hz,AV,d72,J7,J5]
   ·rw[if_neg (λ h=>hz h.2)] at he
    subst he
    simp[nD,m1,Gh,hb,BZ,d2,hsz,d8,JG,BW,g1,BG,Es,d24,HH,hz]
  ·have HI:b=false:=by simpa using G8
   subst HI
   rw[if_neg (λ h=>G8 h.1)] at he
   subst he
   simp[nD,m1,Gh,hb,BZ,d2,hsz,d8,JG,BW,g1,BG,Es]
 refine⟨b,ES,_,v,sz,fin _ rfl,by lia,g3,g4,g5 n0,?_,?_⟩
 ·split
  ·simp;lia
  ·lia
 ·split
  ·have hp:v/72%2=0\/v/72%2=1:=by lia
   refine .inr ⟨⟨k,decide (v/72%2=1),1+v/144%4,v/576%5⟩,⟨by dsimp only;lia,by dsimp only;lia⟩,?_⟩
   rcases hp with h | h <;> simp[xa,vZ,h]
  ·exact .inl rfl
noncomputable def oA (w:Wy):List Int:=[(w.f:Int),(w.t:Int),w.a,w.b]
def Xv {w v:Wy}(h:oA w=oA v):w=v:=by
 obtain⟨f,t,a,b⟩:=w
 obtain⟨f',t',a',b'⟩:=v
 simp only[oA,List.cons.injEq,and_true] at h
 obtain⟨h1,h2,rfl,rfl⟩:=h
 have e1:f=f':=by lia
 have e2:t=t':=by lia
 subst e1 e2;rfl
theorem c7 {many:Nat}:∀ l:List (List Int),(∀ r∈l,uz many r)->∃ ws:List Wy,l=ws.map oA/\∀ w∈ws,w.f<many/\w.t<many
 | [],_=>⟨[],rfl,nofun⟩
 | r::l,h=>by
  obtain⟨ws,e1,e2⟩:=c7 l λ x hx=>h x (Aw _ hx)
  obtain⟨f,t,a,b,rfl,hf,ht⟩:=h r Ao
  refine⟨⟨f,t,a,b⟩::ws,by rw[e1];rfl,λ w hw=>?_⟩
  rcases Ai.mp hw with x | x
  ·subst x;exact⟨hf,ht⟩
  ·exact e2 w x
def Wv {many:Nat}(rs:List (List Int)) (h0:rs≠[]) (hl:rs.length<64) (hw:∀ r∈rs,uz many r):
  ∃ ws:List Wy,tV [.lst (rs.map zR)]=some (.lst (ws.map yG))/\ws.length<=rs.length/\(∀ w∈ws,w.f<many/\w.t<many)/\∀ w:Wy,w∈ws↔oA w∈rs:=by
 have hn:∀ r∈rs,r≠[]:=λ r hr=>by obtain⟨f,t,a,b,rfl,_⟩:=hw r hr;simp
 have hm:∀ r,r∈L4.xw (wG rs)↔r∈rs:=λ r=>by rw[(L4.tW _).mem_iff,nG]
 obtain⟨ws,e1,e2⟩:=c7 (many:=many) (L4.xw (wG rs)) λ r hr=>hw r ((hm r).mp hr)
 refine⟨ws,?_,?_,e2,λ w=>?_⟩
 ·rw[Wu rs h0 hl hn,e1,AU];rfl
 ·have:=congrArg List.length e1
  rw[(L4.tW _).length_eq,Ay] at this
  have:=hX rs
  lia
 ·rw[<- hm,e1]
  constructor
  ·exact λ h=>Av.mpr ⟨w,h,rfl⟩
  ·intro h
   obtain⟨v,hv,e⟩:=Av.mp h
   rw[<- Xv e];exact hv
def N0 (c:Int) (most zO:Nat) (h1:1<=most) (h8:most<=8) (hb:zO<=4):
  ∃ F:zP,oz [.int c,.int most,.int zO]=some (zt F)/\F.Ok:=by
 obtain⟨xs,C1,hx⟩:=f_ c 43 (by decide)
 have Bo:uw [.int c,.int 43]=some (.lst (xs.map T.int)):=C1
 obtain⟨v0,hv0⟩:=nK (xs:=xs) (j:=0) (by lia)
 obtain⟨v1,hv1⟩:=nK (xs:=xs) (j:=1) (by lia)
 have Hz:L2.zI (xs.map T.int) 0=some (.int v0):=hv0
 have Im:L2.zI (xs.map T.int) 1=some (.int v1):=hv1
 have En:(0:Int)<most:=by lia
 have Iq:0<most:=h1
 obtain⟨many,Hg,m1,m8⟩:∃ n:Nat,1+v0%most=(n:Int)/\1<=n/\n<=8:=by
  have:=A8 v0 (b:=(most:Int)) (by lia)
  have:=A7 v0 En
  exact⟨(1+v0%most).toNat,by lia,by lia,by lia⟩
 obtain⟨J',g1,os,rows,F6,g2,g3,g4,g5,g6,g7,ss,DD,hsg⟩:=uA (is:=[8,9,10,11]) (g:=zD 8) (b:=qG) (λ k:Nat=>T.int (0+(k:Int)))
   (λ p J=>∃ (os:List Bool) (rows:List (List Int)) (F6:List T),J=[some (.im (.int c)),some (.im (.int most)),some (.im (.int zO)),some (.im (.lst (xs.map T.int))),some (.im (.int many)),some (.own (.lst (os.map kt))),some (.own (.lst (rows.map zR))),some (.own (.lst F6)),none,none,none,none,none]
    /\ os.length=p.length/\rows.length<=3*p.length/\(∀ r∈rows,uz many r)/\(∀ x∈p,∃ r∈rows,r.head?=some (x:Int))/\F6.length<=p.length/\∃ ss:List Sl,F6=ss.map xa/\∀ s∈ss,1<=s.gv/\0<=s.gt)
   (List.range many) [some (.im (.int c)),some (.im (.int most)),some (.im (.int zO)),some (.im (.lst (xs.map T.int))),some (.im (.int many)),some (.own (.lst [])),some (.own (.lst [])),some (.own (.lst [])),none,none,none,none,none] ⟨[],[],[],rfl,rfl,by simp,nofun,nofun,by simp,[],rfl,nofun⟩ (by
  rintro p k q e J ⟨os,rows,F6,rfl,r1,r2,r3,r4,r5,ss,r6,r7⟩
  have hk:k<many:=AK.mp (by rw[e];simp)
  have hpk:p.length=k:=by
   have h2:=congrArg (λ l=>l[p.length]?) e
   simp only[Cq (Ah _),Nat.sub_self,List.getElem?_cons_zero] at h2
   obtain⟨h3,h4⟩:=AI.mp h2
   simpa using h4
  obtain⟨b,ES,FU,nu,sz,t1,t2,t3,t4,t5,t6,t7⟩:=VP (.int c) (.int most) (.int zO) xs hx many m8 os rows F6 k hk (by lia) (by lia) r3 (by lia)
  refine⟨_,t1,os++[b],ES,FU,rfl,by simp[r1],by simp;lia,t3,λ x hx=>?_,by simp;lia,by
   rcases t7 with rfl | ⟨s,s1,rfl⟩
   ·exact⟨ss,r6,r7⟩
   ·refine⟨ss++[s],by rw[r6];simp,λ z hz=>?_⟩
    rcases AY.mp hz with h | h
    ·exact r7 z h
    ·cases AQ.mp h;exact s1⟩
  rcases AY.mp hx with h | h
  ·obtain⟨r,y1,y2⟩:=r4 x h
   exact⟨r,t4 r y1,y2⟩
  ·cases AQ.mp h
   exact t5)
 subst g2
 rw[BV] at g3 g4 g7
 obtain⟨n9,hn9,n9'⟩:∃ n:Nat,(if 24-(rows.length:Int)<9 then 24-(rows.length:Int) else 9)=(n:Int)/\n<=9:=by
  split
  ·exact⟨24-rows.length,by lia,by lia⟩
  ·exact⟨9,rfl,by lia⟩
 obtain⟨pl,An,pl1⟩:∃ n:Nat,v0/64%8%many=(n:Int)/\n<many:=by
  have:=A8 (v0/64%8) (b:=(many:Int)) (by lia)
  have:=A7 (v0/64%8) (b:=(many:Int)) (by lia)
  exact⟨(v0/64%8%many).toNat,by lia,by lia⟩
 have d64:xQ v0 64:=⟨by decide,by decide⟩
 have C7:0<many:=m1
 obtain⟨GP,k1,k2,k3,k4,_⟩:=Y2 mC n9 many pl (λ rs x=>[some (.im (.int c)),some (.im (.int most)),some (.im (.int zO)),some (.im (.lst (xs.map T.int))),some (.im (.int many)),some (.own (.lst (os.map kt))),some (.own (.lst rs)),some (.own (.lst F6)),none,none,none,x,none]) (λ _ _=>rfl) (by lia)
  (λ k' FF rs hrs=>by
   obtain⟨v2,Jz⟩:=nK (xs:=xs) (j:=34+k') (by lia)
   have Hy:L2.zI (xs.map T.int) (34+(0+(k':Int)))=some (.int v2):=by rw[<- Jz];congr 1;lia
   obtain⟨r,JD,JC⟩:=YL pl many v2 3 pl1 (by lia)
   have JB:qa [.int pl,.int many,.int v2,.int 3]=some (zR r):=JC
   refine⟨r,JD,?_⟩
   have Cv:rs.length<16777216:=by lia
   unfold turn mC
   generalize qa=fw at *
   generalize xs.map T.int=XL at *
   generalize os.map kt=OL at *
   generalize zR r=rr at *
   generalize (0+(k':Int))=kk at *
   simp[Hz,d64,C7,An,Hy,JB,Cv])
  rows (by lia) g5
 have fin:∃ FJ:List (List Int),(if v0/8%8=1 then GP else rows)=FJ/\FJ≠[]/\FJ.length<=60/\(∀ r∈FJ,uz many r)/\∀ x<many,∃ r∈FJ,r.head?=some (x:Int):=by
  refine⟨_,rfl,?_⟩
  have hx:∀ x<many,∃ r∈rows,r.head?=some (x:Int):=λ x hx=>g6 x (AK.mpr hx)
  have hx2:∀ x<many,∃ r∈GP,r.head?=some (x:Int):=λ x hh=>by
   obtain⟨r,y1,y2⟩:=hx x hh
   exact⟨r,k4 r y1,y2⟩
  split
  ·refine⟨λ e=>?_,by lia,k3,hx2⟩
   obtain⟨r,y,_⟩:=hx2 0 C7
   rw[e] at y;cases y
  ·refine⟨λ e=>?_,by lia,g5,hx⟩
   obtain⟨r,y,_⟩:=hx 0 C7
   rw[e] at y;cases y
 obtain⟨FJ,e3,r0,r1,r2,r3⟩:=fin
 obtain⟨ws,w1,w2,w3,w4⟩:=Wv FJ r0 (by lia) r2
 have DM:(0:Int)<(zO:Int)+1:=by lia
 have A0:=A8 v1 (b:=(zO:Int)+1) (by lia)
 have A1:=A7 v1 DM
 have B0:=A8 (v1/13) (b:=(zO:Int)+1) (by lia)
 have B1:=A7 (v1/13) DM
 have Bp:ss.length=F6.length:=by rw[DD,Ay]
 refine⟨⟨v1%((zO:Int)+1),v1/13%((zO:Int)+1),os,ws,ss⟩,?_,⟨A0,by dsimp only;lia,B0,by dsimp only;lia,by dsimp only;lia,by dsimp only;lia,λ w hw=>by dsimp only;rw[g3];exact w3 w hw,by dsimp only;lia,hsg,.inr ?_,by dsimp only;lia⟩⟩
 ·have BW:=oY many (by lia)
  have JA:=oY n9 (by lia)
  have d8:xQ v0 8:=⟨by decide,by decide⟩
  have d13:xQ v1 13:=⟨by decide,by decide⟩
  have hlen:xH [.lst (rows.map zR)]=some (.int rows.length):=by simp
  have Eo:(os.map kt).length<=16777216:=by simp;lia
  have hls:F6.length<=16777216:=by lia
  have DG:(ws.map yG).length<=16777216:=by simp;lia
  have hq:=eq_int (v0/8%8) 1 false
  show oz _=some (.tup [.tup [.int (v1%((zO:Int)+1)),.int (v1/13%((zO:Int)+1))],.tup (os.map kt),.tup (ws.map yG),.tup (ss.map xa)])
  rw[<- DD]
  unfold oz eN
  generalize qG=bb2 at *
  generalize mC=bb3 at *
  generalize uw=fs at *
  generalize xs.map T.int=XL at *
  generalize (List.range many).map (λ(k:Nat)=>T.int (0+(k:Int)))=R1 at *
  generalize (List.range n9).map (λ(k:Nat)=>T.int (0+(k:Int)))=R9 at *
  generalize os.map kt=OL at *
  by_cases h:v0/8%8=1
  ·rw[if_pos h] at e3
   subst e3
   rw[h] at hq
   generalize ws.map yG=WL at *
   generalize hrr:rows.map zR=RR at *
   generalize GP.map zR=RR2 at *
   have BM:RR.length=rows.length:=by rw[<- hrr,Ay]
   generalize yt=ee at *
   generalize tV=sv at *
   simp[Bo,Hz,En,Iq,Hg,BW,g1,d8,hq,h,BM,hn9,JA,k1,Im,DM,d13,w1,Eo,hls,DG]
  ·rw[if_neg h] at e3
   subst e3
   generalize ws.map yG=WL at *
   generalize rows.map zR=RR at *
   generalize yt=ee at *
   generalize tV=sv at *
   simp[Bo,Hz,En,Iq,Hg,BW,g1,d8,hq,h,Im,DM,d13,w1,Eo,hls,DG]
 ·dsimp only
  exact CP (Int.mul_le_mul (c:=5) (by lia) (by lia:_<=(5:Int)) (by lia) (by lia)) (by decide)
end yo
namespace yo
open PySem L2 L3 L5 RN MX
def NC {F:zP}(ok:F.Ok):∃ l:List Bd,sZ [zt F]=some (rT l)/\l.length=F.os.length/\∀ b∈l,Gd F.A F.B b:=by
 obtain⟨more,hr,hn,_⟩:=Nv ok
 obtain⟨pre,lst,e⟩:∃ pre lst,RN.start F::more=pre++[lst]:=⟨_,_,(List.dropLast_concat_getLast (l:=RN.start F::more) (by simp)).symm⟩
 rw[e] at hr hn
 have BG:L2.zI ((pre++[lst]).map rT) (-1)=some (rT lst):=by
  rw[BR]
  exact fH
 refine⟨lst,?_,hn lst (by simp)⟩
 unfold sZ da
 generalize (pre++[lst]).map rT=L at *
 generalize mT=f1 at *
 generalize zt F=fl at *
 simp[hr,BG]
def jo (ns:List Int) (k:Nat):∃ v,vT [wA ns,.int (k:Int)]=some (.int v):=by
 unfold vT eO wA
 by_cases h:k<ns.length
 ·have e:L2.zI (ns.map T.int) (k:Int)=some (.int (ns.getD k 0)):=vP (by simp[h])
  exact⟨_,by simp[h,e,vh];rfl⟩
 ·exact⟨0,by simp[h,vh]⟩
def cY {L:List T}{P:T->Prop}(hP:∀ y∈L,P y) {i:Int}(h0:0<=i) (h1:i<L.length):∃ v,L2.zI L i=some v/\P v:=by
 have hl:i.toNat<L.length:=by lia
 have e:L2.zI L i=some L[i.toNat]:=by
  have:=vP (k:=i.toNat) (AL hl)
  rw[C0 h0] at this
  exact this
 exact⟨_,e,hP _ (BL hl)⟩
def Nt (c:Int):∃ most zO:Nat,mW [.int c]=some (.tup [.int most,.int zO])/\(1<=most/\most<=8)/\zO<=4:=by
 have h0:0<=c%10:=A8 _ (by decide)
 have h1:c%10<10:=A7 _ (by decide)
 obtain⟨v,e,most,zO,rfl,r⟩:=cY (P:=λ v=>∃ most zO:Nat,v=.tup [.int most,.int zO]/\(1<=most/\most<=8)/\zO<=4) (L:=[T.tup [.int 3,.int 2],T.tup [.int 2,.int 3],T.tup [.int 4,.int 1],T.tup [.int 1,.int 4],T.tup [.int 3,.int 2],T.tup [.int 2,.int 3],T.tup [.int 8,.int 1],T.tup [.int 3,.int 2],T.tup [.int 2,.int 3],T.tup [.int 4,.int 1]]) (λ y hy=>by
  simp only[Ai,AR,or_false] at hy
  rcases hy with rfl | rfl | rfl | rfl | rfl | rfl | rfl | rfl | rfl | rfl
  ·exact⟨3,2,rfl,by decide,by decide⟩
  ·exact⟨2,3,rfl,by decide,by decide⟩
  ·exact⟨4,1,rfl,by decide,by decide⟩
  ·exact⟨1,4,rfl,by decide,by decide⟩
  ·exact⟨3,2,rfl,by decide,by decide⟩
  ·exact⟨2,3,rfl,by decide,by decide⟩
  ·exact⟨8,1,rfl,by decide,by decide⟩
  ·exact⟨3,2,rfl,by decide,by decide⟩
  ·exact⟨2,3,rfl,by decide,by decide⟩
  ·exact⟨4,1,rfl,by decide,by decide⟩) h0 h1
 refine⟨most,zO,?_,r⟩
 unfold mW eL
 simp[e]
def Pr (p:Int):Prop:=0<=p/\p<=10 ^ 30
def jh (x:Int):∃ p,sY [.int x]=some (.int p)/\Pr p:=by
 have d7:xQ x 7:=⟨by decide,by decide⟩
 have p30:rb 10 30:=⟨by decide,by decide,by decide⟩
 have q30:(0:Int)<10 ^ 30:=by decide
 have h0:0<=x%7:=A8 _ (by decide)
 have h1:x%7<7:=A7 _ (by decide)
 have b4:Pr (x/7%4):=⟨A8 _ (by decide),Int.le_trans (Int.le_of_lt (A7 _ (by decide:(0:Int)<4))) (by decide)⟩
 have b30:Pr (x/7%30):=⟨A8 _ (by decide),Int.le_trans (Int.le_of_lt (A7 _ (by decide:(0:Int)<30))) (by decide)⟩
 have bb:Pr (x/7%10 ^ 30):=⟨A8 _ (by decide),Int.le_of_lt (A7 _ q30)⟩
 obtain⟨v,e,p,rfl,r⟩:=cY (P:=λ v=>∃ p,v=.int p/\Pr p) (L:=[T.int 0,.int (x/7%4),.int (x/7%4),.int 1,.int (x/7%30),.int (x/7%10 ^ 30),.int (10 ^ 30)]) (λ y hy=>by
  simp only[Ai,AR,or_false] at hy
  rcases hy with rfl | rfl | rfl | rfl | rfl | rfl | rfl
  ·exact⟨_,rfl,by decide,by decide⟩
  ·exact⟨_,rfl,b4⟩
  ·exact⟨_,rfl,b4⟩
  ·exact⟨_,rfl,by decide,by decide⟩
  ·exact⟨_,rfl,b30⟩
  ·exact⟨_,rfl,bb⟩
  ·exact⟨_,rfl,by decide,AG _⟩) h0 h1
 refine⟨p,?_,r⟩
 unfold sY eM
 simp[-Int.reducePow,d7,p30,q30,e]
def og {p x:Int}(hp:Pr p) (hx:0<=x/\x<=12):tQ p x:=by
 obtain⟨a,h⟩:=hp
 have h2:(10:Int) ^ 30<2 ^ 200:=by decide
 have h3:(12:Int)<2 ^ 200:=by decide
 have e:((2 ^ 200:Nat):Int)=2 ^ 200:=by norm_cast
 constructor
 ·have:(p.natAbs:Int)<((2 ^ 200:Nat):Int):=by
   rw[e,Int.natAbs_of_nonneg a]
   exact CP h h2
  exact Int.ofNat_lt.mp this
 ·have:(x.natAbs:Int)<((2 ^ 200:Nat):Int):=by
   rw[e,Int.natAbs_of_nonneg hx.1]
   exact CP hx.2 h3
  exact Int.ofNat_lt.mp this
noncomputable def cost (ps:Int×Int) (q:Int×Int):Int:=ps.1*q.1+ps.2*q.2
noncomputable def y9 (ps:Int×Int):T:=.tup [.int ps.1,.int ps.2]
def ox (q:Int×Int):Prop:=(0<=q.1/\q.1<=12)/\0<=q.2/\q.2<=12
def N4 {ps q:Int×Int}(h1:Pr ps.1) (h2:Pr ps.2) (hq:ox q):jl [zo q,y9 ps]=some (.int (cost ps q)):=by
 have m1:=og h1 hq.1
 have m2:=og h2 hq.2
 unfold jl Xt zo y9 cost
 simp[m1,m2]
def x8 (ps q:Int×Int):Int×List Int:=(cost ps q,[q.1,q.2])
def oh (ps:Int×Int) (b:Bd):Option (Int×Int):=b[uH (b.map (x8 ps)) b.length]?
def Nz {i:Int}(h:0<=i):jj [.int i]=some (.bl true):=by
 have ii:wg "int" "int"=true:=by decide
 have ib:wg "int" "bool"=false:=by decide
 have hw:qO [.int i]=some (.bl true):=by simp[qO,ju,ii,ib]
 unfold jj eT
 simp[hw,h]
def RG (ps:Int×Int) (b:Bd):nF [.lst (b.map λ q=>.tup [.int (cost ps q),zo q])]=some (match oh ps b with | none=>.zm | some q=>.tup [.int (cost ps q),zo q]):=by
 have e:(b.map λ q=>T.tup [.int (cost ps q),zo q])=(b.map (x8 ps)).map tj:=by rw[AU];rfl
 rw[e]
 unfold nF
 simp only[Qk,Option.map_some]
 unfold oh
 rw[Ay,Az]
 cases b[uH (b.map (x8 ps)) b.length]? <;> rfl
def N8 {F:zP}(ok:F.Ok) {l:List Bd}(hB:sZ [zt F]=some (rT l)) (hl:l.length=F.os.length) (hg:∀ b∈l,Gd F.A F.B b) {p:Nat}(hp:p<F.os.length) {ps:Int×Int}(h1:Pr ps.1) (h2:Pr ps.2):
  qR [zt F,.int (p:Int),y9 ps]=some (match oh ps (l.getD p []) with | none=>.zm | some q=>.tup [.int (cost ps q),zo q]):=by
 have hx:=nL l p (by rw[hl];exact hp)
 have hgb:Gd F.A F.B (l.getD p []):=by
  have Gi:p<l.length:=by rw[hl];exact hp
  rw[AZ,AL Gi]
  exact hg _ (BL Gi)
 have hlen:=hgb.rE ok.a0
 have ha1:=ok.a1
 have G8:=ok.b1
 have hc:=jn F p hp
 have hmk:=RG ps (l.getD p [])
 have Dc:∀ q∈l.getD p [],ox q:=λ q hq=>by
  have:=hgb.wj q hq
  unfold ox;lia
 have DL:m7 [some (.im (zt F)),some (.im (.int (p:Int))),some (.im (y9 ps)),none]=some (.lst ((l.getD p []).map λ q=>T.tup [.int (cost ps q),zo q])):=by
  unfold m7
  refine sC zo _ (l.getD p []) ?_ (by lia) λ q hq=>?_
  ·simp only[zp] at hx
   generalize zt F=fl at *
   simp[hB,hx,bT]
  ·have:=N4 h1 h2 (Dc q hq)
   generalize y9 ps=pp at *
   generalize zo q=pq at *
   simp[this]
 have Fe:=ku (is:=[3]) (g:=zD 3) (b:=mG) T.int (λ _=>false) (.bl false) [some (.im (zt F)),some (.im (.int (p:Int))),some (.im (y9 ps)),none] [ps.1,ps.2] [some (.im (zt F)),some (.im (.int (p:Int))),some (.im (y9 ps)),none] (by simp) λ i hi=>by
  have hi0:0<=i:=by
   simp only[Ai,AR,or_false] at hi
   rcases hi with rfl | rfl
   ·exact h1.1
   ·exact h2.1
  have:=Nz hi0
  refine⟨[some (.im (zt F)),some (.im (.int (p:Int))),some (.im (y9 ps)),some (.im (.int i))],by simp,?_⟩
  rw[if_neg (by simp)]
  unfold turn mG
  simp[this]
 have BJ:[ps.1,ps.2].any (λ _=>false)=false:=by simp
 rw[BJ,if_neg (by decide)] at Fe
 have DF:y9 ps=.tup [.int ps.1,.int ps.2]:=rfl
 have g0:zp (y9 ps) (.int 0)=some (.int ps.1):=rfl
 have g1:zp (y9 ps) (.int 1)=some (.int ps.2):=rfl
 simp only[Ar,A6] at Fe
 unfold qR eZ
 generalize m7=cc at *
 generalize mG=bb at *
 generalize (match oh ps (l.getD p []) with | none=>T.zm | some q=>.tup [.int (cost ps q),zo q])=rr at *
 generalize ((l.getD p []).map λ q=>T.tup [.int (cost ps q),zo q])=LL at *
 generalize zt F=fl at *
 generalize y9 ps=pp at *
 simp only[zp] at g0 g1
 simp[hc,g0,g1,Fe,DL,hmk]
def Nu (A B:Int) (q:Int×Int) (h:(0<=q.1/\q.1<=A)/\0<=q.2/\q.2<=B):m_ [zo q,.tup [.tup [.int 0,.int A],.tup [.int 0,.int B]]]=some (.bl true):=by
 have hc:m5 [some (.im (zo q)),some (.im (.tup [.tup [.int 0,.int A],.tup [.int 0,.int B]]))]=some (.lst ([(q.1,A),(q.2,B)].map λ x:Int×Int=>T.bl true)):=by
  unfold m5
  refine sC (λ x:Int×Int=>T.tup [.int x.1,.tup [.int 0,.int x.2]]) _ [(q.1,A),(q.2,B)] (by simp[zo]) (by simp) λ x hx=>?_
  have GH:0<=x.1/\x.1<=x.2:=by
   simp only[Ai,List.mem_nil_iff,or_false] at hx
   rcases hx with rfl | rfl
   ·exact h.1
   ·exact h.2
  simp[YK,GH]
 unfold m_ eS
 have it:wg "tuple" "tuple"=true:=by decide
 generalize m5=cc at *
 simp[zo] at hc
 simp[zo,it,eq_int,hc,sM]
def N7 (F:zP) (q:Int×Int) (h:(0<=q.1/\q.1<=F.A)/\0<=q.2/\q.2<=F.B):jm [zt F,zo q]=some .zm:=by
 have h1:=Nu F.A F.B q h
 have Il:zp (zt F) (.int 0)=some (.tup [.int F.A,.int F.B]):=by simp[zt]
 unfold jm eY
 generalize m_=ff at *
 generalize zt F=fl at *
 generalize zo q=pq at *
 simp only[zp] at Il
 simp[Il,h1]
def xD (ps:Int×Int) (o:Option (Int×Int)) (q:Int×Int):Option (Int×Int):=match o with
 | none=>some q
 | some r=>if cost ps q<cost ps r then some q else some r
def xi (ps:Int×Int) (b:Bd):Option (Int×Int):=b.foldl (xD ps) none
def Zv (ps:Int×Int) (b:Bd) (q:Int×Int):xi ps (b++[q])=xD ps (xi ps b) q:=by
 unfold xi;rw[List.foldl_append];rfl
def OS {ps:Int×Int}{b:Bd}(hb:wz b) {i j:Nat}(hj:j<i) (hi:i<b.length):vD ((b.map (x8 ps)).getD i (0,[])) ((b.map (x8 ps)).getD j (0,[]))=decide (cost ps (b.getD i (0,0))<cost ps (b.getD j (0,0))):=by
 have F_:j<b.length:=by lia
 have h:=(Cc.mp hb) j i F_ hi hj
 have e1:(b.map (x8 ps)).getD i (0,[])=x8 ps b[i]:=by rw[AZ,Az,AL hi];rfl
 have e2:(b.map (x8 ps)).getD j (0,[])=x8 ps b[j]:=by rw[AZ,Az,AL F_];rfl
 have e3:b.getD i (0,0)=b[i]:=by rw[AZ,AL hi];rfl
 have e4:b.getD j (0,0)=b[j]:=by rw[AZ,AL F_];rfl
 rw[e1,e2,e3,e4]
 unfold vD x8
 dsimp only
 by_cases z:cost ps b[i]=cost ps b[j]
 ·rw[if_pos z,HT.tf,if_neg (by lia),z]
  simp;lia
 ·rw[if_neg z]
theorem Yy {ps:Int×Int}{b:Bd}(hb:wz b):∀ k,k<b.length->argBest (λ i j=>vD ((b.map (x8 ps)).getD i (0,[])) ((b.map (x8 ps)).getD j (0,[]))) k<=k/\xi ps (b.take (k+1))=some (b.getD (argBest (λ i j=>vD ((b.map (x8 ps)).getD i (0,[])) ((b.map (x8 ps)).getD j (0,[]))) k) (0,0))
 | 0,h=>by
  rw[argBest.eq_1]
  refine⟨Ah _,?_⟩
  cases b with
  | nil=>simp at h
  | cons q b=>simp[xi,xD]
 | k+1,h=>by
  obtain⟨h1,h2⟩:=Yy (ps:=ps) hb k (by lia)
  have e:b.take (k+1+1)=b.take (k+1)++[b.getD (k+1) (0,0)]:=by
   rw[List.take_succ,AZ,AL h];rfl
  have hbt:=OS (ps:=ps) hb (i:=k+1) (j:=argBest (λ i j=>vD ((b.map (x8 ps)).getD i (0,[])) ((b.map (x8 ps)).getD j (0,[]))) k) (by lia) h
  rw[e,Zv,h2,argBest.eq_2,hbt]
  generalize argBest (λ i j=>vD ((b.map (x8 ps)).getD i (0,[])) ((b.map (x8 ps)).getD j (0,[]))) k=a at *
  unfold xD
  dsimp only
  by_cases z:cost ps (b.getD (k+1) (0,0))<cost ps (b.getD a (0,0))
  ·rw[if_pos z,if_pos (by simpa using z)]
   exact⟨Ah _,rfl⟩
  ·rw[if_neg z,if_neg (by simpa using z)]
   exact⟨by lia,rfl⟩
def OY (ps:Int×Int) {b:Bd}(hb:wz b):oh ps b=xi ps b:=by
 cases hn:b with
 | nil=>rfl
 | cons q r=>
  have hl:0<b.length:=by rw[hn];simp
  obtain⟨h1,h2⟩:=Yy (ps:=ps) hb (b.length-1) (by lia)
  rw[<- hn]
  rw[show b.length-1+1=b.length by lia,List.take_length] at h2
  rw[h2]
  unfold oh uH
  generalize argBest (λ i j=>vD ((b.map (x8 ps)).getD i (0,[])) ((b.map (x8 ps)).getD j (0,[]))) (b.length-1)=a at *
  have ha:a<b.length:=by lia
  rw[AZ,AL ha];rfl
theorem gU (ps:Int×Int):∀ (b:Bd) (o:Option (Int×Int)),(∀ r,o=some r->∃ x,b.foldl (xD ps) o=some x/\cost ps x<=cost ps r)/\∀ q∈b,∃ x,b.foldl (xD ps) o=some x/\cost ps x<=cost ps q
 | [],o=>⟨λ r h=>⟨r,h,AG _⟩,nofun⟩
 | q::b,o=>by
  obtain⟨h1,h2⟩:=gU ps b (xD ps o q)
  have hs:∃ y,xD ps o q=some y/\cost ps y<=cost ps q/\∀ r,o=some r->cost ps y<=cost ps r:=by
   cases o with
   | none=>exact⟨q,rfl,AG _,nofun⟩
   | some r=>
    unfold xD
    dsimp only
    split
    ·exact⟨q,rfl,AG _,λ r' e=>by cases e;lia⟩
    ·exact⟨r,rfl,by lia,λ r' e=>by cases e;exact AG _⟩
  obtain⟨y,e1,e2,e3⟩:=hs
  obtain⟨x,x1,x2⟩:=h1 y e1
  refine⟨λ r hr=>⟨x,x1,Int.le_trans x2 (e3 r hr)⟩,λ z hz=>?_⟩
  rcases Ai.mp hz with rfl | hz
  ·exact⟨x,x1,Int.le_trans x2 e2⟩
  ·exact h2 z hz
theorem Zw (ps:Int×Int):∀ (b:Bd) (o:Option (Int×Int)) {x:Int×Int},b.foldl (xD ps) o=some x->x∈b\/o=some x
 | [],o,x,h=>.inr h
 | q::b,o,x,h=>by
  rcases Zw ps b _ h with h | h
  ·exact .inl (Aw _ h)
  ·cases o with
   | none=>cases h;exact .inl Ao
   | some r=>
    unfold xD at h
    dsimp only at h
    split at h
    ·cases h;exact .inl Ao
    ·exact .inr h
def xl (ps:Int×Int) (o:Option (Int×Int)):T:=match o with
 | none=>.zm
 | some q=>.tup [.int (cost ps q),zo q]
def same_int (n:Nat) (i:Int):w6 (n+1) [.int i,.int i]=some (.bl true):=by
 have ii:wg "int" "int"=true:=by decide
 have ib:wg "int" "bool"=false:=by decide
 have it:wg "int" "tuple"=false:=by decide
 have is:wg "int" "str"=false:=by decide
 unfold w6 jt
 simp[ii,ib,it,is,eq_int]
def cy (n:Nat) (L:List T) (hl:L.length<=100) (h:∀ u∈L,w6 n [u,u]=some (.bl true)):w6 (n+1) [.tup L,.tup L]=some (.bl true):=by
 have hc:mz (w6 n) [some (.im (.tup L)),some (.im (.tup L))]=some (.lst ((List.range L.length).map λ _=>T.bl true)):=by
  have hr:=oY L.length (by lia)
  unfold mz
  refine sC (λ k:Nat=>T.int (k:Int)) _ (List.range L.length) ?_ (by simp;lia) λ k hk=>?_
  ·simp[hr]
  ·have FF:k<L.length:=by simpa using hk
   have ea:L2.zI L (k:Int)=some L[k]:=vP (by simp[FF])
   have h':=h L[k] (BL FF)
   simp[ea,h']
 have b1:sM ((List.range L.length).map λ _=>T.bl true)=some ((List.range L.length).map λ _=>true):=Yp _ _
 have e2:yt true (.int (L.length:Int)) (.int (L.length:Int))=some (.bl false):=by unfold yt;rw[fh];rfl
 have it:wg "tuple" "tuple"=true:=by decide
 unfold w6 jt
 generalize mz (w6 n)=cc at *
 simp[it,e2,hc,b1]
def Vc (ps q:Int×Int):w6 6 [.tup [.int (cost ps q),zo q],.tup [.int (cost ps q),zo q]]=some (.bl true):=by
 refine cy 5 _ (by simp) λ u hu=>?_
 simp only[Ai,AR,or_false] at hu
 rcases hu with rfl | rfl
 ·exact same_int 4 _
 ·refine cy 4 _ (by simp) λ u hu=>?_
  simp only[Ai,AR,or_false] at hu
  rcases hu with rfl | rfl <;> exact same_int 3 _
section
variable {F:zP}{l:List Bd}
structure Kn (F:zP) (l:List Bd):Prop where
 ok:F.Ok
 bo:sZ [zt F]=some (rT l)
 len:l.length=F.os.length
 gd:∀ b∈l,Gd F.A F.B b
def Kn.at (K:Kn F l) {p:Nat}(hp:p<F.os.length):Gd F.A F.B (l.getD p []):=by
 have Gi:p<l.length:=by rw[K.len];exact hp
 rw[AZ,AL Gi]
 exact K.gd _ (BL Gi)
theorem Kn.wj (K:Kn F l) {p:Nat}(hp:p<F.os.length):∀ q∈l.getD p [],ox q:=λ q hq=>by
 have h:=(K.at hp).wj q hq
 have:=K.ok.a1
 have:=K.ok.b1
 unfold ox;lia
def Kn.Yi (K:Kn F l) {p:Nat}(hp:p<F.os.length) {ps:Int×Int}(h1:Pr ps.1) (h2:Pr ps.2):qR [zt F,.int (p:Int),y9 ps]=some (xl ps (xi ps (l.getD p []))):=by
 rw[N8 K.ok K.bo K.len K.gd hp h1 h2,OY ps (K.at hp).nN];rfl
def Kn.G0 (K:Kn F l) {p:Nat}(hp:p<F.os.length) {q:Int×Int}(hq:(0<=q.1/\q.1<=F.A)/\0<=q.2/\q.2<=F.B):qP [zt F,.int (p:Int),zo q]=some (.bl (zV (l.getD p []) q)):=by
 have c1:=jn F p hp
 have c2:=N7 F q hq
 have hx:=nL l p (by rw[K.len];exact hp)
 have hlen:=(K.at hp).rE K.ok.a0
 have ha1:=K.ok.a1
 have hh:=Ny (l.getD p []) q (by lia)
 have hB:=K.bo
 generalize zV (l.getD p []) q=v at *
 generalize bT (l.getD p [])=bt at *
 generalize zt F=fl at *
 generalize rT l=rl at *
 generalize zo q=pq at *
 simp only[zp] at hx
 unfold qP eV
 simp[c1,c2,hB,hx,hh]
def Vk (fl tl fo:T) (p:Int) {ps:Int×Int}(h1:Pr ps.1) (h2:Pr ps.2) (o:Option (Int×Int)) (q:Int×Int) (hq:ox q):
  turn (wR 2 (yR (zD 6) (yR (zD 7) vB))) mE (zo q) [some (.im fl),some (.im tl),some (.im (.int p)),some (.im (y9 ps)),some (.im fo),some (.im (xl ps o)),none,none,none]
   = some (.nx [some (.im fl),some (.im tl),some (.im (.int p)),some (.im (y9 ps)),some (.im fo),some (.im (xl ps (xD ps o q))),some (.im (.int q.1)),some (.im (.int q.2)),some (.im (.int (cost ps q)))]):=by
 have m1:=og h1 hq.1
 have m2:=og h2 hq.2
 have i0:x9 false .zm .zm=some (.bl true):=rfl
 unfold turn mE zo y9
 cases o with
 | none=>simp[xl,xD,m1,m2,i0,cost,zo]
 | some r=>
  have i1:x9 false (.tup [.int (cost ps r),zo r]) .zm=some (.bl false):=rfl
  have g0:L2.zI [T.int (cost ps r),zo r] 0=some (.int (cost ps r)):=rfl
  by_cases z:cost ps q<cost ps r
  ·have e:xD ps (some r) q=some q:=by simp[xD,z]
   rw[e]
   simp only[xl]
   have z2:ps.1*q.1+ps.2*q.2<cost ps r:=z
   clear e z
   generalize zo r=pr at *
   generalize cost ps r=cr at *
   simp[m1,m2,i1,g0,vh,z2,cost,zo]
  ·have e:xD ps (some r) q=some r:=by simp[xD,z]
   rw[e]
   simp only[xl]
   have z2:¬ ps.1*q.1+ps.2*q.2<cost ps r:=z
   clear e z
   generalize zo r=pr at *
   generalize cost ps r=cr at *
   simp[m1,m2,i1,g0,vh,z2,cost]
def Kn.right (K:Kn F l) {p:Nat}(hp:p<F.os.length) {ps:Int×Int}(h1:Pr ps.1) (h2:Pr ps.2):mX [zt F,rT l,.int (p:Int),y9 ps]=some (.bl true):=by
 have hc:=K.Yi hp h1 h2
 have hx:=nL l p (by rw[K.len];exact hp)
 have Dc:=K.wj hp
 obtain⟨J',g1,g2⟩:=uA (is:=[6,7,8]) (g:=wR 2 (yR (zD 6) (yR (zD 7) vB))) (b:=mE) zo (λ pre J=>J=[some (.im (zt F)),some (.im (rT l)),some (.im (.int (p:Int))),some (.im (y9 ps)),some (.im (xl ps (xi ps (l.getD p [])))),some (.im (xl ps (xi ps pre))),none,none,none])
   (l.getD p []) [some (.im (zt F)),some (.im (rT l)),some (.im (.int (p:Int))),some (.im (y9 ps)),some (.im (xl ps (xi ps (l.getD p [])))),some (.im .zm),none,none,none] rfl (by
  rintro pre q suf e J rfl
  have ht:=Vk (zt F) (rT l) (xl ps (xi ps (l.getD p []))) (p:Int) h1 h2 (xi ps pre) q (Dc q (by rw[e];simp))
  exact⟨_,ht,by rw[Zv];rfl⟩)
 subst g2
 have hb:xR (bT (l.getD p []))=some ((l.getD p []).map zo):=rfl
 have i0:x9 false .zm .zm=some (.bl true):=rfl
 have hs:∀ q,xi ps (l.getD p [])=some q->w6 6 [xl ps (xi ps (l.getD p [])),xl ps (xi ps (l.getD p []))]=some (.bl true):=λ q e=>by rw[e];exact Vc ps q
 unfold mX Xr
 generalize w6 6=f6 at *
 generalize mE=bb at *
 generalize qR=f1 at *
 generalize (l.getD p []).map zo=LL at *
 generalize bT (l.getD p [])=bt at *
 generalize zt F=fl at *
 generalize rT l=rl at *
 generalize y9 ps=pp at *
 simp only[zp] at hx
 cases ho:xi ps (l.getD p []) with
 | none=>
  rw[ho] at hc g1 hs
  simp only[xl] at hc g1
  simp[hc,hx,hb,g1,i0]
 | some q=>
  have hq:=hs q ho
  rw[ho] at hc g1 hq
  have i1:x9 false (xl ps (some q)) .zm=some (.bl false):=rfl
  generalize xl ps (some q)=ff at *
  simp[hc,hx,hb,g1,i1,hq]
def Kn.Ry (K:Kn F l) {p:Nat}(hp:p<F.os.length) {ps:Int×Int}(h1:Pr ps.1) (h2:Pr ps.2) (ns:List Int):mY [zt F,.int (p:Int),y9 ps,.lst (ns.map T.int)]=some (.bl true):=by
 have hc:=K.Yi hp h1 h2
 have k0:zp (zt F) (.int 0)=some (.tup [.int F.A,.int F.B]):=rfl
 have a0:=K.ok.a0
 have b0:=K.ok.b0
 have a1:=K.ok.a1
 have b1:=K.ok.b1
 have Fe:=ku (is:=[5,6,7]) (g:=zD 5) (b:=kR) T.int (λ _=>false) (.bl false) [some (.im (zt F)),some (.im (.int (p:Int))),some (.im (y9 ps)),some (.im (.lst (ns.map T.int))),some (.im (xl ps (xi ps (l.getD p [])))),none,none,none] ns [some (.im (zt F)),some (.im (.int (p:Int))),some (.im (y9 ps)),some (.im (.lst (ns.map T.int))),some (.im (xl ps (xi ps (l.getD p [])))),none,none,none] (by simp) λ n _=>by
  have x0:=A8 n (b:=F.A+1) (by lia)
  have x1:=A7 n (b:=F.A+1) (by lia)
  have y0:=A8 (n/1000) (b:=F.B+1) (by lia)
  have y1:=A7 (n/1000) (b:=F.B+1) (by lia)
  have he:=K.G0 hp (q:=(n%(F.A+1),n/1000%(F.B+1))) ⟨⟨x0,by dsimp only;lia⟩,y0,by dsimp only;lia⟩
  have GK:0<F.A+1:=by lia
  have vk:0<F.B+1:=by lia
  have dB:ux n 1000:=⟨by decide,by decide⟩
  refine⟨[some (.im (zt F)),some (.im (.int (p:Int))),some (.im (y9 ps)),some (.im (.lst (ns.map T.int))),some (.im (xl ps (xi ps (l.getD p [])))),some (.im (.int n)),some (.im (.int (n%(F.A+1)))),some (.im (.int (n/1000%(F.B+1))))],by simp,?_⟩
  rw[if_neg (by simp)]
  have m1:=og h1 (x:=n%(F.A+1)) ⟨x0,by lia⟩
  have m2:=og h2 (x:=n/1000%(F.B+1)) ⟨y0,by lia⟩
  have key:∀ r,xi ps (l.getD p [])=some r->cost ps (n%(F.A+1),n/1000%(F.B+1))<cost ps r->zV (l.getD p []) (n%(F.A+1),n/1000%(F.B+1))=false:=λ r er Ak=>by
   cases hv:zV (l.getD p []) (n%(F.A+1),n/1000%(F.B+1)) with
   | false=>rfl
   | true=>
    obtain⟨q,q1,q2,q3⟩:=yT.mp hv
    obtain⟨x,e1,e2⟩:=(gU ps (l.getD p []) none).2 q q1
    rw[show (l.getD p []).foldl (xD ps) none=some r from er] at e1
    cases e1
    have z1:ps.1*q.1<=ps.1*(n%(F.A+1)):=DN q2 h1.1
    have z2:ps.2*q.2<=ps.2*(n/1000%(F.B+1)):=DN q3 h2.1
    unfold cost at Ak e2
    dsimp only at Ak
    lia
  have Hx:xi ps (l.getD p [])=none->zV (l.getD p []) (n%(F.A+1),n/1000%(F.B+1))=false:=λ e=>by
   cases hv:zV (l.getD p []) (n%(F.A+1),n/1000%(F.B+1)) with
   | false=>rfl
   | true=>
    obtain⟨q,q1,_⟩:=yT.mp hv
    obtain⟨x,e1,_⟩:=(gU ps (l.getD p []) none).2 q q1
    rw[show (l.getD p []).foldl (xD ps) none=none from e] at e1
    cases e1
  have g0:zp (y9 ps) (.int 0)=some (.int ps.1):=rfl
  have g1:zp (y9 ps) (.int 1)=some (.int ps.2):=rfl
  have i0:x9 false .zm .zm=some (.bl true):=rfl
  have hq:zo (n%(F.A+1),n/1000%(F.B+1))=.tup [.int (n%(F.A+1)),.int (n/1000%(F.B+1))]:=rfl
  rw[hq] at he
  unfold turn kR
  generalize qP=f1 at *
  generalize zt F=fl at *
  generalize y9 ps=pp at *
  generalize ns.map T.int=NL at *
  simp only[zp] at k0 g0 g1
  cases ho:xi ps (l.getD p []) with
  | none=>
   rw[Hx ho] at he
   simp only[xl]
   simp[k0,GK,vk,dB,i0,he]
  | some r=>
   have i1:x9 false (.tup [.int (cost ps r),zo r]) .zm=some (.bl false):=rfl
   have g2:L2.zI [T.int (cost ps r),zo r] 0=some (.int (cost ps r)):=rfl
   simp only[xl]
   by_cases z:ps.1*(n%(F.A+1))+ps.2*(n/1000%(F.B+1))<cost ps r
   ·rw[key r ho z] at he
    clear key Hx
    generalize zo r=pr at *
    generalize cost ps r=cr at *
    simp[k0,GK,vk,dB,i1,g0,g1,m1,m2,g2,vh,z,he]
   ·clear key Hx
    generalize zo r=pr at *
    generalize cost ps r=cr at *
    simp[k0,GK,vk,dB,i1,g0,g1,m1,m2,g2,vh,z]
 have BJ:ns.any (λ _=>false)=false:=by simp
 rw[BJ,if_neg (by decide)] at Fe
 unfold mY Xs
 generalize kR=bb at *
 cases ho:xi ps (l.getD p []) with
 | none=>
  rw[ho] at hc Fe
  have i0:x9 true .zm .zm=some (.bl false):=rfl
  simp only[xl] at hc Fe
  generalize zt F=fl at *
  generalize y9 ps=pp at *
  generalize ns.map T.int=NL at *
  simp[hc,i0,Fe]
 | some r=>
  have hr:r∈l.getD p []:=by
   rcases Zw ps (l.getD p []) none ho with h | h
   ·exact h
   ·cases h
  have he:=K.G0 hp (q:=r) ((K.at hp).wj r hr)
  rw[yT.mpr ⟨r,hr,AG _,AG _⟩] at he
  rw[ho] at hc Fe
  have i1:x9 true (.tup [.int (cost ps r),zo r]) .zm=some (.bl true):=rfl
  have g2:L2.zI [T.int (cost ps r),zo r] 1=some (zo r):=rfl
  simp only[xl] at hc Fe
  generalize qP=f1 at *
  generalize zt F=fl at *
  generalize y9 ps=pp at *
  generalize ns.map T.int=NL at *
  generalize zo r=pr at *
  simp[hc,i1,g2,he,Fe]
end
def pL {xs:List Int}{j:Nat}(h:j<xs.length):L2.zI (xs.map T.int) (j:Int)=some (.int (xs.getD j 0)):=vP (by simp[h])
def cW (x:Int) {n:Nat}(h:1<=n):∃ p:Nat,x%(n:Int)=(p:Int)/\p<n:=by
 have:=A8 x (b:=(n:Int)) (by lia)
 have:=A7 x (b:=(n:Int)) (by lia)
 exact⟨(x%(n:Int)).toNat,by lia,by lia⟩
def Qe {F:zP}{l:List Bd}(K:Kn F l) (ns:List Int) (mo br:T) (k:Nat):∃ J',yA [5,6,7] J'=[some (.im (wA ns)),some (.im mo),some (.im br),some (.im (zt F)),some (.im (rT l)),none,none,none]/\turn (zD 5) oo (.int (2+(k:Int)*11)) [some (.im (wA ns)),some (.im mo),some (.im br),some (.im (zt F)),some (.im (rT l)),none,none,none]=some (.nx J'):=by
 obtain⟨v,hv⟩:=jo ns (2+k*11)
 have Gh:vT [wA ns,.int (2+(k:Int)*11)]=some (.int v):=by
  rw[<- hv];congr 3
 obtain⟨xs,C1,hx⟩:=f_ v 3 (by decide)
 have Bo:uw [.int v,.int 3]=some (.lst (xs.map T.int)):=C1
 have i0:L2.zI (xs.map T.int) 0=some (.int (xs.getD 0 0)):=pL (j:=0) (by lia)
 have i1:L2.zI (xs.map T.int) 1=some (.int (xs.getD 1 0)):=pL (j:=1) (by lia)
 have i2:L2.zI (xs.map T.int) 2=some (.int (xs.getD 2 0)):=pL (j:=2) (by lia)
 obtain⟨p1,GK,r1⟩:=jh (xs.getD 1 0)
 obtain⟨p2,vk,r2⟩:=jh (xs.getD 2 0)
 obtain⟨p,hp,CK⟩:=cW (xs.getD 0 0) K.ok.n1
 have hR:=K.right CK (ps:=(p1,p2)) r1 r2
 have DF:y9 (p1,p2)=.tup [.int p1,.int p2]:=rfl
 rw[DF] at hR
 have hlen:xH [rT l]=some (.int (F.os.length:Int)):=by simp[rT,K.len]
 have n0:0<F.os.length:=K.ok.n1
 refine⟨[some (.im (wA ns)),some (.im mo),some (.im br),some (.im (zt F)),some (.im (rT l)),some (.im (.int (2+(k:Int)*11))),some (.im (.lst (xs.map T.int))),some (.im (.tup [.int p1,.int p2]))],by simp,?_⟩
 unfold turn oo
 generalize vT=f1 at *
 generalize uw=f2 at *
 generalize sY=f3 at *
 generalize mX=f4 at *
 generalize xH=ll at *
 generalize zt F=fl at *
 generalize rT l=rl at *
 generalize wA ns=sc at *
 generalize (2+(k:Int)*11)=kk at *
 generalize xs.map T.int=XL at *
 generalize xs.getD 0 0=x0 at *
 generalize xs.getD 1 0=x1 at *
 generalize xs.getD 2 0=x2 at *
 simp[Gh,Bo,i0,i1,i2,GK,vk,hlen,n0,hp,hR]
def Qf (ns:List Int) (CA:ns.length<=63):o4 [wA ns]=some (.bl true):=by
 obtain⟨v,hv⟩:=jo ns 0
 have Gh:vT [wA ns,.int 0]=some (.int v):=hv
 obtain⟨c,hc⟩:=jo ns 1
 have IA:vT [wA ns,.int 1]=some (.int c):=hc
 obtain⟨d,hd⟩:=jo ns 2
 have GX:vT [wA ns,.int 2]=some (.int d):=hd
 obtain⟨most,zO,hs,hm,hb⟩:=Nt v
 obtain⟨F,hF,ok⟩:=N0 c most zO hm.1 hm.2 hb
 obtain⟨l,hl,ll,lg⟩:=NC ok
 have K:Kn F l:=⟨ok,hl,ll,lg⟩
 obtain⟨n,hn⟩:∃ n:Nat,oX [.int 2,.int (if (if (56:Int)<ns.length then 56 else (ns.length:Int))>3 then (if (56:Int)<ns.length then 56 else (ns.length:Int)) else 3),.int 11]=some ((List.range n).map λ(k:Nat)=>T.int (2+(k:Int)*11)):=by
  generalize hz:(if (if (56:Int)<ns.length then 56 else (ns.length:Int))>3 then (if (56:Int)<ns.length then 56 else (ns.length:Int)) else 3)=z
  have GB:0<=z/\z<=60:=by rw[<- hz];split <;> split <;> lia
  refine⟨u9 2 z 11,?_⟩
  show (if (rH 2=true/\rH z=true)/\rH 11=true/\(0:Int)<11 then some (lR 2 11 (u9 2 z 11)) else none)=_
  rw[if_pos ⟨⟨by decide,by simp[rH];lia⟩,by decide,by decide⟩]
  rfl
 have Fe:=ku (is:=[5,6,7]) (g:=zD 5) (b:=oo) (λ k:Nat=>T.int (2+(k:Int)*11)) (λ _=>false) (.bl false)
  [some (.im (wA ns)),some (.im (.int most)),some (.im (.int zO)),some (.im (zt F)),some (.im (rT l)),none,none,none] (List.range n)
  [some (.im (wA ns)),some (.im (.int most)),some (.im (.int zO)),some (.im (zt F)),some (.im (rT l)),none,none,none] rfl λ k _=>by
   obtain⟨J',r1,r2⟩:=Qe K ns (.int most) (.int zO) k
   exact⟨J',r1,by rw[if_neg (by decide)];exact r2⟩
 have BJ:(List.range n).any (λ _=>false)=false:=by simp
 rw[BJ,if_neg (by decide)] at Fe
 obtain⟨xs,C1,hx⟩:=f_ d 8 (by decide)
 have Bo:uw [.int d,.int 8]=some (.lst (xs.map T.int)):=C1
 have i0:L2.zI (xs.map T.int) 0=some (.int (xs.getD 0 0)):=pL (j:=0) (by lia)
 have i1:L2.zI (xs.map T.int) 1=some (.int (xs.getD 1 0)):=pL (j:=1) (by lia)
 have i2:L2.zI (xs.map T.int) 2=some (.int (xs.getD 2 0)):=pL (j:=2) (by lia)
 obtain⟨p1,GK,r1⟩:=jh (xs.getD 1 0)
 obtain⟨p2,vk,r2⟩:=jh (xs.getD 2 0)
 obtain⟨p,hp,CK⟩:=cW (xs.getD 0 0) ok.n1
 have hN:=K.Ry CK (ps:=(p1,p2)) r1 r2 (vo xs (some 3) none)
 have DF:y9 (p1,p2)=.tup [.int p1,.int p2]:=rfl
 rw[DF] at hN
 have hlen:xH [rT l]=some (.int (F.os.length:Int)):=by simp[rT,ll]
 have Hh:xH [wA ns]=some (.int (ns.length:Int)):=by simp[wA]
 have n0:0<F.os.length:=ok.n1
 have Dh:vo (xs.map T.int) (some 3) none=(vo xs (some 3) none).map T.int:=by unfold vo;simp
 rw[<- Dh] at hN
 unfold o4 eQ
 generalize oo=bb at *
 generalize vT=f1 at *
 generalize uw=f2 at *
 generalize sY=f3 at *
 generalize mY=f4 at *
 generalize mW=fz at *
 generalize oz=ff at *
 generalize sZ=fb at *
 generalize (List.range n).map (λ(k:Nat)=>T.int (2+(k:Int)*11))=RR at *
 generalize zt F=fl at *
 generalize rT l=rl at *
 generalize wA ns=sc at *
 generalize xH=ll2 at *
 generalize oX=rr at *
 clear Dh
 generalize xs.map T.int=XL at *
 generalize xs.getD 0 0=x0 at *
 generalize xs.getD 1 0=x1 at *
 generalize xs.getD 2 0=x2 at *
 simp[Gh,hs,IA,hF,hl,Hh,hn,Fe,GX,Bo,i0,i1,i2,GK,vk,hlen,n0,hp,fx,hN]
end yo
namespace PySem.W.Fast
def tw12452434218387300492:=0
def te2066548893235158395:=0
def tw6167867797506084375:=0
def tw14643096563334130016:=0
def tw12877898406285987498:=0
def tw4710998122729899804:=0
def tw966843650936202925:=0
def tw12447969581028424366:=0
def tw17816634780672154347:=0
def tw11111290422940354512:=0
def tw6147755613466726397:=0
def tw14878976831843766548:=0
def tw15959026557027408821:=0
def tw2132776342355708071:=0
def tw5646899851532491966:=0
def tw6242918678471932655:=0
def tw11245129727609518894:=0
def tw16871801540226374088:=0
def tw447403602337194938:=0
def tw6105299572198432567:=0
def tw15516684327650710660:=0
def tw14930915115755643910:=0
def tw1427835359782227355:=0
def tw1382586207659217080:=0
def tw3164281857035780982:=0
def tw10906978147630754063:=0
def tw11548763066635923849:=0
def tw305458655357908855:=0
def tw13094633130297166469:=0
def tw5309113241934078924:=0
def tw4432056866808821721:=0
def tw8760369324204889606:=0
def tw456666672689120060:=0
def tw16083255304369900262:=0
def tw5138519661102083861:=0
def tw17680426117916591741:=0
def tw3520741183677875020:=0
def tw4830287260463564626:=0
def tw17755251019901404798:=0
def tw5622240057662709857:=0
def tw14999310407763429383:=0
def tw1841520119084590685:=0
def tw9375191123805884934:=0
def tw13564542734062582180:=0
def tw7983649947630720665:=0
def tw7095932718946842450:=0
def tw17763565166077076354:=0
def tw8020750704584289433:=0
def tw14349332284336963349:=0
def tw17893545664533022488:=0
def tw5694639937628040212:=0
def tw9018373391284351335:=0
def tw2414984609287203831:=0
def tw9261863218980300764:=0
def tw1357020109698857264:=0
def tw6207269764524606066:=0
def tw6817172843081944431:=0
def tw17684942307760664248:=0
def tw14190647398446690552:=0
def tw13934272622971913192:=0
def tw8748280828937232669:=0
def tw11645027713490556663:=0
def tw3815201553887204935:=0
def tw8708875763972929724:=0
def tw1351797126067696802:=0
def tw5767074245343242796:=0
def tw2844547159452188824:=0
def tw5682800508930737803:=0
def tw9359375649964377316:=0
def tw3250428291015786235:=0
def tw7030882063768286849:=0
def tw5915277975281648876:=0
def tw9573194550870373237:=0
def tw17405745259292943430:=0
def tw18097296131772474049:=0
def tw10348926583453280031:=0
def tw4973849500630954397:=0
def tw9217310538643376499:=0
def tw16116883277748380835:=0
def tw18276037245077236880:=0
def tw13312503740371603929:=0
def tw12861490820191199500:=0
def tw12713128128779552248:=0
def tw3679351528008401342:=0
def tw9430547566372719275:=0
def tw13688648155146052328:=0
def tw6867341895585067846:=0
def tw17304166369139816662:=0
def tw1096474638725653951:=0
def tw12841626553945903775:=0
def tw11614544144361295758:=0
def tw5202567208344009829:=0
def tw2092300487140745511:=0
def tw7859762388039235775:=0
def tw10150494758253818108:=0
def tw410615660283664172:=0
def tw4553710835631315754:=0
def tw8258570802899717895:=0
def tw15740409689662907164:=0
def tw16085512333863721776:=0
def tw1046823933704193133:=0
def tw6411337399100129963:=0
def tw4705911229503107159:=0
def tw7270511571067999870:=0
def tw13048883437086415783:=0
def tw14997232053366435848:=0
def tw5808675442034266744:=0
def tw16596718849795596441:=0
def tw3419353085892393423:=0
def tw14927503837563681019:=0
def tw8281348279540168562:=0
def tw3460778439854185582:=0
def tw1059803141581824628:=0
def tw3137440413818563592:=0
def tw14632670459138235275:=0
def tw2272621642627163535:=0
def tw5788869270688057766:=0
def tw7708655211162410294:=0
def tw7950856871659125549:=0
def tw8764581804541074174:=0
def tw3671621452184611880:=0
def tw7433752083764140088:=0
def tw12158328696633928824:=0
def tw7424067502365562901:=0
def tw3251707089160844946:=0
def tw7329120178087785455:=0
def tw7762024036870624968:=0
def tw11569145170156432742:=0
def tw3153089852904544751:=0
def tw11283887392676477175:=0
def tw16680116892459863270:=0
def tw7873711069735204456:=0
def tw6621804766711734115:=0
def tw11928375415957085318:=0
def tw7171780905855811046:=0
def tw12207391666268093395:=0
def tw3155575469718832753:=0
def tw12244947241940076296:=0
def tw2056284040808723510:=0
def tw17722906549915753707:=0
def tw6876833505211811429:=0
def tw12075551819210583659:=0
def tw6516802850533830511:=0
def tw79895449471919900:=0
def tw11163181439775282073:=0
def tw3879819353347907433:=0
def tw633374585723943302:=0
def tw4226273638797592658:=0
def tw2041622871189491573:=0
def tw8399497477540389005:=0
def tw13721225569739837703:=0
def tw3573487218302559866:=0
def tw15780476031472534717:=0
def tw4957720950806999993:=0
def tw2378591977891825956:=0
def tw12329151791201625736:=0
def tw8285160973807952951:=0
def tw1880306937131969751:=0
def tw12479765002668720486:=0
def tw3649250620442375551:=0
def tw3169764977286774087:=0
def tw6206134918146857888:=0
def tw2184406891453193630:=0
def tw15253393902604986519:=0
def tw13041063985984918964:=0
def tw6904380830255719472:=0
def tw5253069563367118212:=0
def tw3226942283653294468:=0
def tw16655168262892064580:=0
def tw15805118676234209524:=0
def tw14695212554728768958:=0
def tw3220320002750613669:=0
def tw15576050074839515535:=0
def tw1321377733872840419:=0
def tw15150368655245660049:=0
def tw15525215924512869129:=0
def tw12588054060301989963:=0
def tw8098724699580317042:=0
def tw261820096889209888:=0
def tw957435326556088193:=0
def tw15181388574296990648:=0
def tw10406166277826185422:=0
def tw10525922176387012405:=0
def tw18113666922343904617:=0
def tw16807435757701215104:=0
def tw6666214818361848615:=0
def tw9428738999903627904:=0
def tw8665208556377598855:=0
def tw1057892904208154299:=0
def tw2751667956448189376:=0
def tw9239108442152742370:=0
def tw7024661956532160191:=0
def tw16196818278973977420:=0
def tw11877098211035604859:=0
def tw5477122048361853402:=0
def tw5011001634843883703:=0
def tw3769438502281718065:=0
def tw15908680739786727418:=0
def tw2150829045808437707:=0
def tw12109947271047083891:=0
def tw12006084428458380019:=0
def tw17565112466970700964:=0
def tw9664242086779022608:=0
def tw4087106196603397955:=0
def tw7763727633857405622:=0
def tw7738905905879085312:=0
def tw6353586393059963093:=0
def tw12088762569164882431:=0
def tw11407726989499797999:=0
def tw1120023574232912098:=0
def tw3234961589195254845:=0
def tw8186679012668786145:=0
def tw16704306663764273523:=0
def tw14517941236481948189:=0
def tw15664224403508823352:=0
def tw11089726354894536455:=0
def tw14067777085364522315:=0
def tw8950325207757536787:=0
def tw6283019153798728457:=0
def tw18175576912376949769:=0
def tw17019910654555193853:=0
def tw17635276208787287378:=0
def tw16845577649987022267:=0
def tw13608084691866015006:=0
def tw14693258437225455053:=0
def tw12042320795992105259:=0
def tw12912355883780701463:=0
def tw5347101551119784242:=0
def tw6133726581447469674:=0
def tw2430328869622798403:=0
def tw13880035024908614790:=0
def tw9928351452603246750:=0
def tw11248670116854664453:=0
def tw10943317166469742661:=0
def tw13679141848821588763:=0
def tw11930276072880424027:=0
def tw10677700060285653057:=0
def tw3018425927971037208:=0
def tw15146682173131241463:=0
def tw16679723792978569926:=0
def tw3175270731197741266:=0
def tw13021227975665870878:=0
def tw6993828655731882744:=0
def tw3337521862729150788:=0
def tw2538610581881660558:=0
def tw4244273331560955704:=0
def tw25646599150446165:=0
def tw12393340253799022406:=0
def tw8932617339710436479:=0
def tw4133543504546749142:=0
def tw14277219562434823133:=0
def tw17148170055608901183:=0
def tw4742153005595396749:=0
def tw15586390297135459054:=0
def tw17747200959040439231:=0
def tw5493132562121868283:=0
def tw16619283088347473469:=0
def tw11302641164775480530:=0
def tw1500996571670792388:=0
def tw15188301684868297631:=0
def tw18377040626281392406:=0
def tw15428857395444475437:=0
def tw16149552479120854866:=0
def tw18413957822512635989:=0
def tw14764791812189392204:=0
def tw15728752710227382546:=0
def tw7936733659966298438:=0
def tw9443778712445972047:=0
def tw7247715451839740754:=0
def tw16721642360950004530:=0
def tw4333265738452157117:=0
def tw10491720116730067037:=0
def tw767644532773183586:=0
def tw11513666089728637804:=0
def tw14296804835068399280:=0
def tw5801994283944217007:=0
def tw5995381176626332926:=0
def tw7869434302554825895:=0
def tw1689789202787453712:=0
def tw5830447139644404189:=0
def tw2544506330873039675:=0
def tw11460185282738832686:=0
def tw4288187058982472088:=0
def tw10485109733585395577:=0
def tw6421997248319506067:=0
def tw720411532149421803:=0
def tw6001098513438991967:=0
def tw8276610726525230650:=0
def tw5662343627891923652:=0
def tw8275184867209178388:=0
def tw1860629160394309393:=0
def tw4020648346809751485:=0
def tw1137466374355112115:=0
def tw17055701079288058385:=0
def tw10713082086230032020:=0
def tw2133521611794537748:=0
end PySem.W.Fast
namespace yo
open PySem L2 L3 L5
open PyProof.Rows hiding St
def top (i:Nat):Stmt:=PySem.Challenge.pw_purseborder_k71_whole_cheapest.main.body.getD i (.Pass ⟨0,0,0,0⟩)
abbrev ie:Stmt:=top 7
abbrev ic:Stmt:=top 8
abbrev ig:Stmt:=top 9
abbrev lN:Stmt:=top 10
abbrev jP:Stmt:=top 11
abbrev ip:Stmt:=top 12
abbrev iq:Stmt:=top 13
abbrev lK:Stmt:=top 14
abbrev jO:Stmt:=top 15
abbrev iz:Stmt:=top 17
abbrev jR:Stmt:=top 18
abbrev lO:Stmt:=top 19
abbrev oS:Stmt:=top 20
abbrev ik:Stmt:=top 21
abbrev oT:Stmt:=top 23
abbrev jQ:Stmt:=top 24
abbrev iy:Stmt:=top 25
abbrev iu:Stmt:=top 26
abbrev iw:Stmt:=top 27
abbrev oP:Stmt:=top 28
abbrev lM:Stmt:=top 29
abbrev lL:Stmt:=top 30
abbrev ir:Stmt:=top 32
abbrev ij:Stmt:=top 33
abbrev il:Stmt:=top 35
abbrev lP:Stmt:=top 36
abbrev jZ:Stmt:=top 38
abbrev jT:Stmt:=top 39
abbrev j_:Stmt:=top 40
abbrev jS:Stmt:=top 41
abbrev jY:Stmt:=top 42
abbrev jU:Stmt:=top 43
abbrev oQ:Stmt:=top 44
abbrev jW:Stmt:=top 45
abbrev jV:Stmt:=top 46
abbrev jX:Stmt:=top 47
abbrev ia:Stmt:=top 48
def WS:zY ["thing"] ["thing"] (zB ie):=ym
def WI:zY ["floor"] ["floor"] (zB jP):=ym
def Vb:zY ["pair","other"] ["pair","other"] (zB iz):=ym
def jN:zY ["pairs","least","pair"] ["pairs"] (zB jR):=ym
def qg:zY ["brims","stall","pair","purse","pairs","given","got"] ["brims","stall","pair"] (zB jQ):=ym
def WY:zY ["pair","prices"] ["pair","prices"] (zB il):=ym
def WO:zY ["_law_script","_law_k"] ["_law_script","_law_k"] (zB jZ):=ym
def rp:zY ["_law_cell","_law_count","_law_found","_law_number","_law_k"] ["_law_cell","_law_count"] (zB jT):=ym
def WQ:zY ["_law_number","_law_most"] ["_law_number","_law_most"] (zB j_):=ym
def WK:zY ["_law_number"] ["_law_number"] (zB jU):=ym
def WN:zY ["_law_number"] ["_law_number"] (zB jW):=ym
def WR:zY ["thing","least","most"] ["thing","least","most"] (zB ic):=ym
def WU:zY ["thing"] ["thing"] (zB ig):=ym
def WV:zY ["border","pair"] ["border","pair"] (zB lO):=ym
def qj:zY ["border","other","steps","lows","shared","first","side","second"] ["border","other"] (zB oS):=ym
def WX:zY ["border","other"] ["border","other"] (zB ik):=ym
def cx:zY ["brims","way","border","pairs"] ["brims","way","border"] (zB oT):=ym
def WJ:zY ["_law_place","_law_many","_law_number","_law_size"] ["_law_place","_law_many","_law_number","_law_size"] (zB jS):=ym
def WT:zY ["thing","bounds"] ["thing","bounds"] (zB lN):=ym
def WZ:zY ["floor","place"] ["floor","place"] (zB ip):=ym
def lH:zY ["borders","joined","border"] ["borders"] (zB iu):=ym
def lI:zY ["borders","joined","border"] ["borders"] (zB iw):=ym
def vW:zY ["_law_cell","_law_most","_law_brim","_law_xs","_law_many","_law_owners","_law_ways","_law_stalls","_law_place","_law_number","_law_size","_law_k","_law_brims"] ["_law_cell","_law_most","_law_brim"] (zB jY):=ym
def W_:zY ["floor","pair"] ["floor","pair"] (zB iq):=ym
def WH:zY ["floor","place"] ["floor","place"] (zB lK):=ym
def cv:zY ["floor","place","stall"] ["floor","place"] (zB jO):=ym
def lJ:zY ["floor","place","border","stall","pairs","pair"] ["floor","place","border"] (zB iy):=ym
def jM:zY ["floor","place","last","ways","ahead"] ["floor","place","last"] (zB oP):=ym
def jL:zY ["floor","last","fresh","following","place"] ["floor","last","fresh"] (zB lM):=ym
def WM:zY ["_law_found","_law_due"] ["_law_found","_law_due"] (zB oQ):=ym
def q_:zY ["floor","told","fresh","last","following"] ["floor"] (zB lL):=ym
def Va:zY ["floor"] ["floor"] (zB ir):=ym
def WW:zY ["floor","place","pair"] ["floor","place","pair"] (zB ij):=ym
def cw:zY ["floor","place","prices","price"] ["floor","place","prices"] (zB lP):=ym
def qh:zY ["_law_floor_here","_law_told","_law_place","_law_prices","_law_found","_law_best","_law_x","_law_y","_law_cost"] ["_law_floor_here","_law_told","_law_place","_law_prices"] (zB jV):=ym
def oO:zY ["_law_floor_here","_law_place","_law_prices","_law_numbers","_law_found","_law_number","_law_x","_law_y"] ["_law_floor_here","_law_place","_law_prices","_law_numbers"] (zB jX):=ym
def uQ:zY ["_law_script","_law_most","_law_brim","_law_floor_here","_law_told","_law_k","_law_xs","_law_prices"] ["_law_script"] (zB ia):=ym
section
variable (P:Program)(w:World)(K:Ac)(mg:AF)(base:Heap)
abbrev et:=FD P w K mg base "is_whole" 1 ["thing"] (zQ zF qO)
abbrev eh:=FD P w K mg base "places_of" 1 ["floor"] (zQ zF qN)
abbrev e9:=FD P w K mg base "at_or_above" 1 ["pair","other"] (zQ zF o7)
abbrev lx:=FD P w K mg base "least_pairs" 1 ["pairs"] (zQ zF sX)
abbrev YT:=FD P w K mg base "pairs_ahead_of_changes" 1 ["brims","stall","pair"] (zQ zF mU)
abbrev Xi:=FD P w K mg base "cost_of" 1 ["pair","prices"] (zQ zF jl)
abbrev Xb:=FD P w K mg base "_law_cell_at" 1 ["_law_script","_law_k"] (zQ xB vT)
abbrev ei:=FD P w K mg base "_law_stirred" 1 ["_law_cell","_law_count"] (zQ zF uw)
abbrev Xc:=FD P w K mg base "_law_amount" 1 ["_law_number","_law_most"] (zQ zF o3)
abbrev YX:=FD P w K mg base "_law_sized" 1 ["_law_number"] (zQ xB mW)
abbrev YZ:=FD P w K mg base "_law_price" 1 ["_law_number"] (zQ xB sY)
abbrev ej:=FD P w K mg base "is_whole_within" 2 ["thing","least","most"] (zQ zF mZ)
abbrev Xe:=FD P w K mg base "is_from_nought_on" 2 ["thing"] (zQ zF jj)
abbrev Xf:=FD P w K mg base "holds" 2 ["border","pair"] (zQ zF jk)
abbrev Xk:=FD P w K mg base "both" 2 ["border","other"] (zQ zF lh)
abbrev Xh:=FD P w K mg base "either" 2 ["border","other"] (zQ zF lb)
abbrev Xn:=FD P w K mg base "border_ahead_of_way" 2 ["brims","way","border"] (zQ zF lq)
abbrev YW:=FD P w K mg base "_law_way" 2 ["_law_place","_law_many","_law_number","_law_size"] (zQ zF qa)
abbrev Xd:=FD P w K mg base "is_row_within" 3 ["thing","bounds"] (zQ zF m_)
abbrev ly:=FD P w K mg base "check_place" 3 ["floor","place"] (zQ zF qQ)
abbrev Xl:=FD P w K mg base "border_of_either" 3 ["borders"] (zQ xB lj)
abbrev Xm:=FD P w K mg base "border_of_all" 3 ["borders"] (zQ xB lp)
abbrev Xa:=FD P w K mg base "_law_floor" 3 ["_law_cell","_law_most","_law_brim"] (zQ zF oz)
abbrev Xj:=FD P w K mg base "check_pair" 4 ["floor","pair"] (zQ zF jm)
abbrev YQ:=FD P w K mg base "ways_from" 4 ["floor","place"] (zQ zF mS)
abbrev YR:=FD P w K mg base "stall_at" 4 ["floor","place"] (zQ xB qM)
abbrev Xo:=FD P w K mg base "border_ahead_of_changes" 5 ["floor","place","border"] (zQ xB o5)
abbrev YV:=FD P w K mg base "next_border" 6 ["floor","place","last"] (zQ xB mV)
abbrev YU:=FD P w K mg base "next_round" 7 ["floor","last","fresh"] (zQ zF oy)
abbrev jr (n:Nat):=FD P w K mg base "_law_same" (n+1) ["_law_found","_law_due"] (zQ zF (w6 n))
abbrev NG:=jr P w K mg base 6
abbrev YS:=FD P w K mg base "rounds" 8 ["floor"] (zQ zF mT)
abbrev js:=FD P w K mg base "borders" 9 ["floor"] (zQ xB sZ)
abbrev Xg:=FD P w K mg base "enough" 10 ["floor","place","pair"] (zQ zF qP)
abbrev ez:=FD P w K mg base "cheapest" 10 ["floor","place","prices"] (zQ zF qR)
abbrev YY:=FD P w K mg base "_law_right" 11 ["_law_floor_here","_law_told","_law_place","_law_prices"] (zQ zF mX)
abbrev Y_:=FD P w K mg base "_law_none_cheaper" 11 ["_law_floor_here","_law_place","_law_prices","_law_numbers"] (zQ zF mY)
variable {K mg}(T:Bt mg)(U:Xp mg)
include T U
theorem SR (F:Fy K mg "is_whole" ie):et P w K mg base:=
 yp (k:=0) F WS rfl (λ _ _ _ _ _ _=>tJ λ _=>rfl) λ f Af A outer s H E hr=>⟨_,
  (zA (zT (rA (bx T (za 0)) (qo (bu (bz T (za 0))))))),
  (by unfold ju;exact yz)⟩
theorem Ss (F:Fy K mg "places_of" jP):eh P w K mg base:=
 yp (k:=0) F WI rfl (λ _ _ _ _ _ _=>tJ λ _=>rfl) λ f Af A outer s H E hr=>⟨_,
  (zA (zT (u7 T.len (ze (zx (za 0) zh) zl)))),
  (by unfold eE;exact yz)⟩
theorem Rr (F:Fy K mg "at_or_above" iz):e9 P w K mg base:=
 yp (k:=0) F Vb rfl (λ _ _ _ _ _ _=>va λ _ _=>rfl) λ f Af A outer s H E hr=>⟨_,
  (zA (zT (rA (iQ (zx (za 0) zh) (zx (za 1) zh)) (qo (iQ (zx (za 0) zh) (zx (za 1) zh)))))),
  (by unfold dh;exact yz)⟩
theorem S8 (F:Fy K mg "least_pairs" jR):lx P w K mg base:=
 yp (k:=0) F jN rfl (λ _ _ _ _ _ _=>tJ λ _=>rfl) λ f Af A outer s H E hr=>⟨_,
  (zy (zU 1 jN.nd (vg zl))
  (zy (wC Ka rfl (xE (bq T.sorted (ze (za 0) zl))) (yk 2 jN.nd) (zA (xc (wO.pt (pk (rq (vf (za 1))) (pj (lV hr (zx (za 2) zh) (zx (zx (za 1) (iM zh)) zh))))) (zA (wD (uU (za 1) (za 2)))) xb)))
  (zA (zT (lY T.tuple (ze (za 1) zl)))))),
  (by unfold eJ om;exact yz)⟩
theorem Su (F:Fy K mg "pairs_ahead_of_changes" jQ):YT P w K mg base:=
 yp (k:=0) F qg rfl (λ _ _ _ _ _ _=>sN λ _ _ _=>rfl) λ f Af A outer s H E hr=>⟨_,
  (zy (zU 3 qg.nd (zx (za 1) zh))
  (zy (zU 4 qg.nd (vg zl))
  (zy (zU 5 qg.nd (zx (za 2) (za 3)))
  (zy (zU 6 qg.nd (zx (za 2) (qm zh (za 3))))
  (zy (bh Ka (U8 (za 5) (zx (za 0) (za 3))) (zy (wD (uU (za 4) (US (sd hr (za 3) zh) (yr (ze (za 5) (ze (za 6) zl))) (yr (ze (za 6) (ze (za 5) zl))))))
  (zy (zU 5 qg.nd (yS (za 5) (zx (za 1) zh)))
  (zA (zU 6 qg.nd (nq T.max (ze zh (ze (qm (za 6) (zx (za 1) zh)) zl))))))))
  (zA (zT (za 4)))))))),
  (by unfold eF rW;exact yz)⟩
theorem Rf (F:Fy K mg "cost_of" il):Xi P w K mg base:=
 yp (k:=0) F WY rfl (λ _ _ _ _ _ _=>va λ _ _=>rfl) λ f Af A outer s H E hr=>⟨_,
  (zA (zT (yS (sg (zx (za 1) zh) (zx (za 0) zh)) (sg (zx (za 1) zh) (zx (za 0) zh))))),
  (qt (zX good_add ((uW ((zX xV (yb 1) ((yc _)).fr)).er ((zX xV (yb 0) ((yc _)).fr)).er)).fr ((uW ((zX xV (yb 1) ((yc _)).fr)).er ((zX xV (yb 0) ((yc _)).fr)).er)).fr))⟩
theorem SK (F:Fy K mg "_law_cell_at" jZ):Xb P w K mg base:=
 yp (k:=0) F WO rfl (λ _ _ _ _ _ _=>va λ _ _=>rfl) λ f Af A outer s H E hr=>⟨_,
  (zy (xc (lV hr (za 1) (u7 T.len (ze (za 0) zl))) (zA (zT (zx (za 0) (za 1)))) xb)
  (zA (zT zh))),
  (by unfold eO;exact yz)⟩
theorem SD (F:Fy K mg "_law_stirred" jT):ei P w K mg base:=
 yp (k:=0) F rp rfl (λ _ _ _ _ _ _=>va λ _ _=>rfl) λ f Af A outer s H E hr=>⟨_,
  (zy (zU 2 rp.nd (vg zl))
  (zy (zU 3 rp.nd (Tc U.abs (ze (p7 (za 0) zh) zl)))
  (zy (xc (sd hr (yw (za 0) zh) zh) (zy (wC Ka rfl (px T.range (ze (za 1) zl)) (yk 4 rp.nd) (zy (wD (uU (za 2) (yw (za 3) (sf zh zh))))
  (zA (zU 3 rp.nd (p7 (za 3) (sf zh zh))))))
  (zA (zT (za 2)))) xb)
  (zy (zU 3 rp.nd (yS (yw (za 3) (yS (sf zh zh) zh)) zh))
  (zy (wC Ka rfl (px T.range (ze (za 1) zl)) (yk 4 rp.nd) (zy (zU 3 rp.nd (yw (yS (yS (sg (za 3) zh) (p7 (za 3) (sf zh zh))) (sg zh (za 4))) (yS (sf zh zh) zh)))
  (zA (wD (uU (za 2) (p7 (sg (za 3) (yS (p7 (za 3) (sf zh zh)) zh)) (sf zh zh)))))))
  (zA (zT (za 2)))))))),
  (xF (bI 2 (bL uV))
  (xF (ud 3 ((bQ Zn (kf ((qw (yb 0) ((yc _)).fr)).fr ke))).fe)
  (xF (qu (sr (zX Zm ((qv (yb 0) ((yc _)).fr)).fr ((yc _)).fr).fr) (xF (nA (iZ (b:=true) (kf (yb 1) ke)) (pB 4) (xF (iX 2 ((qv (yb 3) ((rB ((yc _)).fr ((yc _)).fr)).fr)).fe)
  (ud 3 ((qw (yb 3) ((rB ((yc _)).fr ((yc _)).fr)).fr)).fe)))
  (kd 2)) qq)
  (xF (ud 3 ((zX good_add ((qv (yb 3) ((zX good_add ((rB ((yc _)).fr ((yc _)).fr)).fr ((yc _)).fr)).fr)).fr ((yc _)).fr)).fe)
  (xF (nA (iZ (b:=true) (kf (yb 1) ke)) (pB 4) (xF (ud 3 ((qv ((zX good_add ((zX good_add ((uW (yb 3) ((yc _)).fr)).fr ((qw (yb 3) ((rB ((yc _)).fr ((yc _)).fr)).fr)).fr)).fr ((uW ((yc _)).fr (yb 4))).fr)).fr ((zX good_add ((rB ((yc _)).fr ((yc _)).fr)).fr ((yc _)).fr)).fr)).fe)
  (iX 2 ((qw ((uW (yb 3) ((zX good_add ((qw (yb 3) ((rB ((yc _)).fr ((yc _)).fr)).fr)).fr ((yc _)).fr)).fr)).fr ((rB ((yc _)).fr ((yc _)).fr)).fr)).fe)))
  (kd 2))))))⟩
theorem SM (F:Fy K mg "_law_amount" j_):Xc P w K mg base:=
 yp (k:=0) F WQ rfl (λ _ _ _ _ _ _=>va λ _ _=>rfl) λ f Af A outer s H E hr=>⟨_,
  (zA (zT (l_ T.min (ze zh (ze (yS (qm (yw (yw (za 0) zh) (yS (lZ zh (za 1)) zh)) (za 1)) (yw (wF (za 0) zh) zh)) zl))))),
  (by unfold eP;exact yz)⟩
theorem SE (F:Fy K mg "_law_sized" jU):YX P w K mg base:=
 yp (k:=0) F WK rfl (λ _ _ _ _ _ _=>tJ λ _=>rfl) λ f Af A outer s H E hr=>⟨_,
  (zA (zT (zx (vg (ze (yr (ze zh (ze zh zl))) (ze (yr (ze zh (ze zh zl))) (ze (yr (ze zh (ze zh zl))) (ze (yr (ze zh (ze zh zl))) (ze (yr (ze zh (ze zh zl))) (ze (yr (ze zh (ze zh zl))) (ze (yr (ze zh (ze zh zl))) (ze (yr (ze zh (ze zh zl))) (ze (yr (ze zh (ze zh zl))) (ze (yr (ze zh (ze zh zl))) zl))))))))))) (yw (za 0) zh)))),
  (by unfold eL;exact yz)⟩
theorem SG (F:Fy K mg "_law_price" jW):YZ P w K mg base:=
 yp (k:=0) F WN rfl (λ _ _ _ _ _ _=>tJ λ _=>rfl) λ f Af A outer s H E hr=>⟨_,
  (zA (zT (zx (vg (ze zh (ze (yw (wF (za 0) zh) zh) (ze (yw (wF (za 0) zh) zh) (ze zh (ze (yw (wF (za 0) zh) zh) (ze (yw (wF (za 0) zh) (sf zh zh)) (ze (sf zh zh) zl)))))))) (yw (za 0) zh)))),
  (by unfold eM;exact yz)⟩
theorem SO (F:Fy K mg "is_whole_within" ic) (E7:et P w K mg base):ej P w K mg base:=
 yp (k:=1) F WR rfl (λ _ _ _ _ _ _=>sN λ _ _ _=>rfl) λ f Af A outer s H E hr=>⟨_,
  (zA (zT (rA (zG E7 hr (ze (za 0) zl)) (qo (UZ iU iU fit_le fit_le xK.mo xK.mo (za 1) (za 0) (za 2)))))),
  (by unfold eR;exact yz)⟩
theorem SV (F:Fy K mg "is_from_nought_on" ig) (E7:et P w K mg base):Xe P w K mg base:=
 yp (k:=1) F WU rfl (λ _ _ _ _ _ _=>tJ λ _=>rfl) λ f Af A outer s H E hr=>⟨_,
  (zA (zT (rA (zG E7 hr (ze (za 0) zl)) (qo (iQ (za 0) zh))))),
  (by unfold eT;exact yz)⟩
theorem SY (F:Fy K mg "holds" lO) (EU:e9 P w K mg base):Xf P w K mg base:=
 yp (k:=1) F WV rfl (λ _ _ _ _ _ _=>va λ _ _=>rfl) λ f Af A outer s H E hr=>⟨_,
  (zA (zT (Tb T.any (ze (sj (N':=["own","pair"]) (pick:=[none,some 1]) (vN (N:=["border","pair"]) (esc:=zB lO)) rfl (xE (za 0)) (λ _ _ _ _ _=>(yk 0 (wH ["own","pair"]))) (λ _ _ _ _ _=>se) (λ _ _ _ _ _=>(zG EU hr (ze (za 1) (ze (za 0) zl))))) zl)))),
  (by unfold eU m6;exact yz)⟩
theorem Rl (F:Fy K mg "both" oS) (EI:lx P w K mg base):Xk P w K mg base:=
 yp (k:=1) F qj rfl (λ _ _ _ _ _ _=>va λ _ _=>rfl) λ f Af A outer s H E hr=>⟨_,
  (zy (zU 2 qj.nd (yS (sj (N':=["pair"]) (pick:=[none]) (vN (N:=["border","other","steps","lows","shared","first","side","second"]) (esc:=zB oS)) rfl (xE (za 0)) (λ _ _ _ _ _=>(yk 0 (wH ["pair"]))) (λ _ _ _ _ _=>se) (λ _ _ _ _ _=>(yr (ze (zx (za 0) zh) (ze zh (ze (zx (za 0) zh) zl)))))) (sj (N':=["pair"]) (pick:=[none]) (vN (N:=["border","other","steps","lows","shared","first","side","second"]) (esc:=zB oS)) rfl (xE (za 1)) (λ _ _ _ _ _=>(yk 0 (wH ["pair"]))) (λ _ _ _ _ _=>se) (λ _ _ _ _ _=>(yr (ze (zx (za 0) zh) (ze zh (ze (zx (za 0) zh) zl))))))))
  (zy (zU 3 qj.nd UX)
  (zy (zU 4 qj.nd (vg zl))
  (zy (wC Ka rfl (xE (bq T.sorted (ze (za 2) zl))) (p0 (n:=3) (vA (yk 5 qj.nd) (vA (yk 6 qj.nd) (vA (yk 7 qj.nd) pz)))) (zy (UD hr (za 3) (za 6) (l_ T.min (ze (za 7) (ze (UY hr (za 3) (za 6) (za 7)) zl))))
  (zA (xc (sd hr (UW T.len (ze (za 3) zl)) zh) (zA (wD (uU (za 4) (yr (ze (za 5) (ze (nq T.max (ze (b8 hr (za 3) zh) (ze (b8 hr (za 3) zh) zl))) zl)))))) xb))))
  (zA (zT (zG EI hr (ze (za 4) zl)))))))),
  (by unfold e_ mH fB fC;exact yz)⟩
theorem Rb (F:Fy K mg "either" ik) (EI:lx P w K mg base):Xh P w K mg base:=
 yp (k:=1) F WX rfl (λ _ _ _ _ _ _=>va λ _ _=>rfl) λ f Af A outer s H E hr=>⟨_,
  (zA (zT (zG EI hr (ze (yS (iO T.list (ze (za 0) zl)) (iO T.list (ze (za 1) zl))) zl)))),
  (by unfold eW;exact yz)⟩
theorem Rp (F:Fy K mg "border_ahead_of_way" oT) (EI:lx P w K mg base) (EU:e9 P w K mg base):Xn P w K mg base:=
 yp (k:=1) F cx rfl (λ _ _ _ _ _ _=>sN λ _ _ _=>rfl) λ f Af A outer s H E hr=>⟨_,
  (zy (lW (i:=3) (N':=["pair","way"]) (pick:=[none,some 1]) (vN (N:=["brims","way","border","pairs"]) (esc:=zB oT)) rfl (xE (za 2)) (λ _ _ _ _ _=>(yk 0 (wH ["pair","way"]))) (λ _ _ _ _ _=>se) (λ _ _ _ _ _=>(yr (ze (nq T.max (ze zh (ze (qm (zx (za 0) zh) (zx (za 1) zh)) zl))) (ze (nq T.max (ze zh (ze (qm (zx (za 0) zh) (zx (za 1) zh)) zl))) zl)))) cx.nd rfl (by first | exact Or.inl rfl | exact Or.inr rfl))
  (zA (zT (zG EI hr (ze (sj (N':=["pair","brims"]) (pick:=[none,some 0]) (vN (N:=["brims","way","border","pairs"]) (esc:=zB oT)) rfl (xE (za 3)) (λ _ _ _ _ _=>(yk 0 (wH ["pair","brims"]))) (λ _ _ _ _ _=>lX (vf (zG EU hr (ze (za 1) (ze (za 0) zl))))) (λ _ _ _ _ _=>(za 0))) zl))))),
  (by unfold dg mr m9;exact yz)⟩
theorem SA (F:Fy K mg "_law_way" jS) (Fd:Xc P w K mg base):YW P w K mg base:=
 yp (k:=1) F WJ rfl (λ _ _ _ _ _ _=>fN λ _ _ _ _=>rfl) λ f Af A outer s H E hr=>⟨_,
  (zA (zT (yr (ze (za 0) (ze (yw (yw (za 2) zh) (za 1)) (ze (zG Fd hr (ze (yw (wF (za 2) zh) zh) (ze (za 3) zl))) (ze (zG Fd hr (ze (yw (wF (za 2) zh) zh) (ze (za 3) zl))) zl))))))),
  (by unfold eK;exact yz)⟩
theorem SU (F:Fy K mg "is_row_within" lN) (EL:ej P w K mg base):Xd P w K mg base:=
 yp (k:=2) F WT rfl (λ _ _ _ _ _ _=>va λ _ _=>rfl) λ f Af A outer s H E hr=>⟨_,
  (zy (xc (wO.pt (pk (rq (vf (iP T (za 0)))) (pj (iJ hr (u7 T.len (ze (za 0) zl)) (u7 T.len (ze (za 1) zl)))))) (zA (zT p8)) xb)
  (zA (zT (bA T.all (ze (sj (N':=["number","bound"]) (pick:=[none,none]) (vN (N:=["thing","bounds"]) (esc:=zB lN)) rfl (UI U.zip (ze (za 0) (ze (za 1) zl))) (λ _ _ _ _ _=>(p0 (n:=2) (vA (yk 0 (wH ["number","bound"])) (vA (yk 1 (wH ["number","bound"])) pz)))) (λ _ _ _ _ _=>se) (λ _ _ _ _ _=>(zG EL hr (ze (za 0) (ze (zx (za 1) zh) (ze (zx (za 1) zh) zl)))))) zl))))),
  (by unfold eS m5;exact yz)⟩
theorem Rg (F:Fy K mg "check_place" ip) (EL:ej P w K mg base) (EW:eh P w K mg base):ly P w K mg base:=
 yp (k:=2) F WZ rfl (λ _ _ _ _ _ _=>va λ _ _=>rfl) λ f Af A outer s H E hr=>⟨_,
  (zA (xc (rq (vf (zG EL hr (ze (za 1) (ze zh (ze (qm (zG EW hr (ze (za 0) zl)) zh) zl)))))) (zA iK) xb)),
  (by unfold eX;exact yz)⟩
theorem Rn (F:Fy K mg "border_of_either" iu) (FQ:Xh P w K mg base):Xl P w K mg base:=
 yp (k:=2) F lH rfl (λ _ _ _ _ _ _=>tJ λ _=>rfl) λ f Af A outer s H E hr=>⟨_,
  (zy (zU 1 lH.nd (yr zl))
  (zy (wC Ka rfl (xE (za 0)) (yk 2 lH.nd) (zA (zU 1 lH.nd (zG FQ hr (ze (za 1) (ze (za 2) zl))))))
  (zA (zT (za 1))))),
  (by unfold de mI;exact yz)⟩
theorem Ro (F:Fy K mg "border_of_all" iw) (Gq:Xk P w K mg base):Xm P w K mg base:=
 yp (k:=2) F lI rfl (λ _ _ _ _ _ _=>tJ λ _=>rfl) λ f Af A outer s H E hr=>⟨_,
  (zy (zU 1 lI.nd (yr (ze (yr (ze zh (ze zh zl))) zl)))
  (zy (wC Ka rfl (xE (za 0)) (yk 2 lI.nd) (zA (zU 1 lI.nd (zG Gq hr (ze (za 1) (ze (za 2) zl))))))
  (zA (zT (za 1))))),
  (by unfold df mJ;exact yz)⟩
theorem SJ (F:Fy K mg "_law_floor" jY) (EO:ei P w K mg base) (Ft:YW P w K mg base):Xa P w K mg base:=
 yp (k:=2) F vW rfl (λ _ _ _ _ _ _=>sN λ _ _ _=>rfl) λ f Af A outer s H E hr=>⟨_,
  (zy (zU 3 vW.nd (zG EO hr (ze (za 0) (ze zh zl))))
  (zy (zU 4 vW.nd (yS zh (yw (zx (za 3) zh) (za 1))))
  (zy (zU 5 vW.nd (vg zl))
  (zy (zU 6 vW.nd (vg zl))
  (zy (zU 7 vW.nd (vg zl))
  (zy (wC Ka rfl (px T.range (ze (za 4) zl)) (yk 8 vW.nd) (zy (zU 9 vW.nd (zx (za 3) (yS zh (lZ zh (za 8)))))
  (zy (wD (uU (za 5) (zx (vg (ze iL (ze iL zl))) (yw (za 9) zh))))
  (zy (zU 10 vW.nd (zx (vg (ze zh (ze zh (ze zh (ze zh zl))))) (yw (wF (za 9) zh) zh)))
  (zy (wC Ka rfl (px T.range (ze (yS zh (yw (wF (za 9) zh) zh)) zl)) (yk 11 vW.nd) (zA (wD (uU (za 6) (zG Ft hr (ze (za 8) (ze (za 4) (ze (zx (za 3) (yS (yS zh (lZ zh (za 8))) (za 11))) (ze (za 10) zl)))))))))
  (zA (xc (wO.pt (bg (sd hr (zx (za 5) (za 8)) iL) (bf (sd hr (yw (wF (za 9) zh) zh) zh)))) (zA (wD (uU (za 7) (yr (ze (za 8) (ze (yw (wF (za 9) zh) zh) (ze (yS zh (yw (wF (za 9) zh) zh)) (ze (yw (wF (za 9) zh) zh) zl)))))))) xb)))))))
  (zy (xc (sd hr (yw (wF (zx (za 3) zh) zh) zh) zh) (zA (wC Ka rfl (px T.range (ze (l_ T.min (ze zh (ze (qm zh (u7 T.len (ze (za 6) zl))) zl))) zl)) (yk 11 vW.nd) (zA (wD (uU (za 6) (zG Ft hr (ze (yw (yw (wF (zx (za 3) zh) zh) zh) (za 4)) (ze (za 4) (ze (zx (za 3) (yS zh (za 11))) (ze zh zl)))))))))) xb)
  (zy (zU 12 vW.nd (yr (ze (yw (zx (za 3) zh) (yS (za 2) zh)) (ze (yw (wF (zx (za 3) zh) zh) (yS (za 2) zh)) zl))))
  (zA (zT (yr (ze (za 12) (ze (lY T.tuple (ze (za 5) zl)) (ze (lY T.tuple (ze (bp hr T.sorted U.set (ze (za 6) zl)) zl)) (ze (lY T.tuple (ze (za 7) zl)) zl))))))))))))))),
  (by unfold eN mC qG mF;exact yz)⟩
theorem Rh (F:Fy K mg "check_pair" iq) (E_:Xd P w K mg base):Xj P w K mg base:=
 yp (k:=3) F W_ rfl (λ _ _ _ _ _ _=>va λ _ _=>rfl) λ f Af A outer s H E hr=>⟨_,
  (zA (xc (rq (vf (zG E_ hr (ze (za 1) (ze (yr (ze (yr (ze zh (ze (zx (zx (za 0) zh) zh) zl))) (ze (yr (ze zh (ze (zx (zx (za 0) zh) zh) zl))) zl))) zl))))) (zA iK) xb)),
  (by unfold eY;exact yz)⟩
theorem Sg (F:Fy K mg "ways_from" lK) (EJ:ly P w K mg base):YQ P w K mg base:=
 yp (k:=3) F WH rfl (λ _ _ _ _ _ _=>va λ _ _=>rfl) λ f Af A outer s H E hr=>⟨_,
  (zy (wD (zG EJ hr (ze (za 0) (ze (za 1) zl))))
  (zA (zT (sj (N':=["number","way","place"]) (pick:=[none,none,some 1]) (vN (N:=["floor","place"]) (esc:=zB lK)) rfl (bj U.enumerate (ze (zx (za 0) zh) zl)) (λ _ _ _ _ _=>(p0 (n:=2) (vA (yk 0 (wH ["number","way","place"])) (vA (yk 1 (wH ["number","way","place"])) pz)))) (λ _ _ _ _ _=>lX (sd hr (zx (za 1) zh) (za 2))) (λ _ _ _ _ _=>(za 0)))))),
  (by unfold eB mv;exact yz)⟩
theorem Sk (F:Fy K mg "stall_at" jO) (EJ:ly P w K mg base):YR P w K mg base:=
 yp (k:=3) F cv rfl (λ _ _ _ _ _ _=>va λ _ _=>rfl) λ f Af A outer s H E hr=>⟨_,
  (zy (wD (zG EJ hr (ze (za 0) (ze (za 1) zl))))
  (zy (wC Ka rfl (xE (zx (za 0) zh)) (yk 2 cv.nd) (zA (xc (sd hr (zx (za 2) zh) (za 1)) (zA (zT (za 2))) xb)))
  (zA (zT uT)))),
  (by unfold eC oj;exact yz)⟩
theorem Rq (F:Fy K mg "border_ahead_of_changes" iy) (Fv:YR P w K mg base) (EI:lx P w K mg base) (EN:YT P w K mg base):Xo P w K mg base:=
 yp (k:=4) F lJ rfl (λ _ _ _ _ _ _=>sN λ _ _ _=>rfl) λ f Af A outer s H E hr=>⟨_,
  (zy (zU 3 lJ.nd (zG Fv hr (ze (za 0) (ze (za 1) zl))))
  (zy (xc (nk (za 3) uT) (zA (zT (za 2))) xb)
  (zy (zU 4 lJ.nd (vg zl))
  (zy (wC Ka rfl (xE (za 2)) (yk 5 lJ.nd) (zA (wD (UQ (za 4) (zG EN hr (ze (zx (za 0) zh) (ze (za 3) (ze (za 5) zl))))))))
  (zA (zT (zG EI hr (ze (za 4) zl)))))))),
  (by unfold jv mK;exact yz)⟩
theorem Sz {FH:Value}(F:Fy K mg "next_border" oP) (Fn:mg "KEEPER"=some FH) (FK:L2.RelV (.str "keeper") FH) (Fb:Xm P w K mg base) (EV:Xn P w K mg base) (EM:Xo P w K mg base) (Fo:YQ P w K mg base) (E5:Xl P w K mg base):YV P w K mg base:=
 yp (k:=5) F jM rfl (λ _ _ _ _ _ _=>sN λ _ _ _=>rfl) λ f Af A outer s H E hr=>⟨_,
  (zy (lW (i:=3) (N':=["number","floor"]) (pick:=[none,some 0]) (vN (N:=["floor","place","last","ways","ahead"]) (esc:=zB oP)) rfl (xE (zG Fo hr (ze (za 0) (ze (za 1) zl)))) (λ _ _ _ _ _=>(yk 0 (wH ["number","floor"]))) (λ _ _ _ _ _=>se) (λ _ _ _ _ _=>(zx (zx (za 1) zh) (za 0))) jM.nd rfl (by first | exact Or.inl rfl | exact Or.inr rfl))
  (zy (lW (i:=4) (N':=["way","floor","last"]) (pick:=[none,some 0,some 2]) (vN (N:=["floor","place","last","ways","ahead"]) (esc:=zB oP)) rfl (xE (za 3)) (λ _ _ _ _ _=>(yk 0 (wH ["way","floor","last"]))) (λ _ _ _ _ _=>se) (λ _ _ _ _ _=>(zG EV hr (ze (zx (za 1) zh) (ze (za 0) (ze (zx (za 2) (zx (za 0) zh)) zl))))) jM.nd rfl (by first | exact Or.inl rfl | exact Or.inr rfl))
  (zy (xc (sd hr (zx (zx (za 0) zh) (za 1)) (UT Fn FK)) (zA (zT (zG EM hr (ze (za 0) (ze (za 1) (ze (zG E5 hr (ze (za 4) zl)) zl)))))) xb)
  (zA (zT (zG Fb hr (ze (za 4) zl))))))),
  (by unfold eI mq my;exact yz)⟩
theorem Sy (F:Fy K mg "next_round" lM) (Fg:YV P w K mg base):YU P w K mg base:=
 yp (k:=6) F jL rfl (λ _ _ _ _ _ _=>sN λ _ _ _=>rfl) λ f Af A outer s H E hr=>⟨_,
  (zy (zU 3 jL.nd (iO T.list (ze (za 1) zl)))
  (zy (wC Ka rfl (xE (bp hr T.sorted U.set (ze (sj (N':=["way","fresh"]) (pick:=[none,some 2]) (vN (N:=["floor","last","fresh","following","place"]) (esc:=zB lM)) rfl (xE (zx (za 0) zh)) (λ _ _ _ _ _=>(yk 0 (wH ["way","fresh"]))) (λ _ _ _ _ _=>lX (UA hr (zx (za 0) zh) (za 1))) (λ _ _ _ _ _=>(zx (za 0) zh))) zl))) (yk 4 jL.nd) (zA (UC (za 3) (za 4) (zG Fg hr (ze (za 0) (ze (za 4) (ze (za 1) zl)))))))
  (zA (zT (za 3))))),
  (by unfold eG mD mx;exact yz)⟩
theorem pC {n:Nat}(F:Fy K mg "_law_same" oQ) (EH:jr P w K mg base n):jr P w K mg base (n+1):=by
 have hh:n+1+1=n+1+1:=by lia
 show FD P w K mg base _ (n+1+1) _ _
 rw[hh]
 exact yp (k:=n+1) F WM rfl (λ _ _ _ _ _ _=>va λ _ _=>rfl) λ f Af A outer s H E hr=>⟨_,
  (zy (xc (vf (iP T (za 1))) (zy (xc (wO.pt (pk (rq (vf (iP T (za 0)))) (pj (iJ hr (u7 T.len (ze (za 0) zl)) (u7 T.len (ze (za 1) zl)))))) (zA (zT p8)) xb)
  (zA (zT (bA T.all (ze (sj (N':=["_law_k","_law_found","_law_due"]) (pick:=[none,some 0,some 1]) (vN (N:=["_law_found","_law_due"]) (esc:=zB oQ)) rfl (px T.range (ze (u7 T.len (ze (za 1) zl)) zl)) (λ _ _ _ _ _=>(yk 0 (wH ["_law_k","_law_found","_law_due"]))) (λ _ _ _ _ _=>se) (λ _ _ _ _ _=>(b9 EH hr (ze (zx (za 1) (za 0)) (ze (zx (za 2) (za 0)) zl))))) zl))))) xb)
  (zy (xc (vf (bw T (za 1))) (zA (zT (rA (bw T (za 0)) (qo (b7 hr (za 0) (za 1)))))) xb)
  (zA (zT (rA (bx T (za 0)) (rA (bu (bz T (za 0))) (qo (b7 hr (za 0) (za 1))))))))),
  (by unfold jt mz;exact yz)⟩
theorem Rt (F:Fy K mg "_law_same" oQ):jr P w K mg base 0:=Po F (λ _ _ _ _ _ _=>va λ _ _=>rfl)
theorem Sq (F:Fy K mg "rounds" lL) (Fh:YU P w K mg base) (EW:eh P w K mg base):YS P w K mg base:=
 yp (k:=7) F q_ rfl (λ _ _ _ _ _ _=>tJ λ _=>rfl) λ f Af A outer s H E hr=>⟨_,
  (zy (zU 1 q_.nd (vg (ze (lZ (vg (ze (yr (ze (yr (ze zh (ze zh zl))) zl)) zl)) (zG EW hr (ze (za 0) zl))) zl)))
  (zy (zU 2 q_.nd (UR T.list T.range (ze (zG EW hr (ze (za 0) zl)) zl)))
  (zy (bh Ka (vf (za 2)) (zy (zU 3 q_.nd (zx (za 1) (iM zh)))
  (zy (zU 4 q_.nd (zG Fh hr (ze (za 0) (ze (za 3) (ze (za 2) zl)))))
  (zy (lW (i:=2) (N':=["place","border","last"]) (pick:=[none,none,some 3]) (vN (N:=["floor","told","fresh","last","following"]) (esc:=zB lL)) rfl (bj U.enumerate (ze (za 4) zl)) (λ _ _ _ _ _=>(p0 (n:=2) (vA (yk 0 (wH ["place","border","last"])) (vA (yk 1 (wH ["place","border","last"])) pz)))) (λ _ _ _ _ _=>lX (iJ hr (za 1) (zx (za 2) (za 0)))) (λ _ _ _ _ _=>(za 0)) q_.nd rfl (by first | exact Or.inl rfl | exact Or.inr rfl))
  (zA (xc (vf (za 2)) (zA (wD (uU (za 1) (za 4)))) xb))))))
  (zA (zT (za 1)))))),
  (by unfold eD uI oa;exact yz)⟩
theorem Rm (F:Fy K mg "borders" ir) (FP:YS P w K mg base):js P w K mg base:=
 yp (k:=8) F Va rfl (λ _ _ _ _ _ _=>tJ λ _=>rfl) λ f Af A outer s H E hr=>⟨_,
  (zA (zT (zx (zG FP hr (ze (za 0) zl)) (iM zh)))),
  (by unfold da;exact yz)⟩
theorem Ra (F:Fy K mg "enough" ij) (EJ:ly P w K mg base) (Fi:Xj P w K mg base) (F9:Xf P w K mg base) (EX:js P w K mg base):Xg P w K mg base:=
 yp (k:=9) F WW rfl (λ _ _ _ _ _ _=>sN λ _ _ _=>rfl) λ f Af A outer s H E hr=>⟨_,
  (zy (wD (zG EJ hr (ze (za 0) (ze (za 1) zl))))
  (zy (wD (zG Fi hr (ze (za 0) (ze (za 2) zl))))
  (zA (zT (zG F9 hr (ze (zx (zG EX hr (ze (za 0) zl)) (za 1)) (ze (za 2) zl))))))),
  (by unfold eV;exact yz)⟩
theorem Ri (F:Fy K mg "cheapest" lP) (EJ:ly P w K mg base) (EY:Xe P w K mg base) (FA:Xi P w K mg base) (EX:js P w K mg base):ez P w K mg base:=
 yp (k:=9) F cw rfl (λ _ _ _ _ _ _=>sN λ _ _ _=>rfl) λ f Af A outer s H E hr=>⟨_,
  (zy (wD (zG EJ hr (ze (za 0) (ze (za 1) zl))))
  (zy (wC Ka rfl (xE (yr (ze (zx (za 2) zh) (ze (zx (za 2) zh) zl)))) (yk 3 cw.nd) (zA (xc (rq (vf (zG EY hr (ze (za 3) zl)))) (zA iK) xb)))
  (zA (zT (UP hr T.min (ze (sj (N':=["pair","prices"]) (pick:=[none,some 2]) (vN (N:=["floor","place","prices","price"]) (esc:=zB lP)) rfl (xE (zx (zG EX hr (ze (za 0) zl)) (za 1))) (λ _ _ _ _ _=>(yk 0 (wH ["pair","prices"]))) (λ _ _ _ _ _=>se) (λ _ _ _ _ _=>(yr (ze (zG FA hr (ze (za 0) (ze (za 1) zl))) (ze (za 0) zl))))) zl)))))),
  (by unfold eZ m7 mG;exact yz)⟩
theorem SF (F:Fy K mg "_law_right" jV) (E8:ez P w K mg base) (EH:NG P w K mg base):YY P w K mg base:=
 yp (k:=10) F qh rfl (λ _ _ _ _ _ _=>fN λ _ _ _ _=>rfl) λ f Af A outer s H E hr=>⟨_,
  (zy (zU 4 qh.nd (zG E8 hr (ze (za 0) (ze (za 2) (ze (za 3) zl)))))
  (zy (zU 5 qh.nd uT)
  (zy (wC Ka rfl (xE (zx (za 1) (za 2))) (p0 (n:=2) (vA (yk 6 qh.nd) (vA (yk 7 qh.nd) pz))) (zy (zU 8 qh.nd (yS (sg (zx (za 3) zh) (za 6)) (sg (zx (za 3) zh) (za 7))))
  (zA (xc (wO.pt (pk (nk (za 5) uT) (pj (lV hr (za 8) (zx (za 5) zh))))) (zA (zU 5 qh.nd (yr (ze (za 8) (ze (yr (ze (za 6) (ze (za 7) zl))) zl))))) xb))))
  (zy (xc (wO.pt (pk (nk (za 5) uT) (pj (nk (za 4) uT)))) (zA (zT (rA (b6 (za 5) uT) (qo (b6 (za 4) uT))))) xb)
  (zA (zT (zG EH hr (ze (za 4) (ze (za 5) zl))))))))),
  (xF (ud 4 ((rC (xt (xx 0) (xt (xx 2) (xt (xx 3) uV))))).fe)
  (xF (ud 5 (su).fe)
  (xF (nA (iY (zX xV (yb 1) (yb 2))) (bK (i_ (pB 6) (i_ (pB 7) bJ))) (xF (ud 8 ((zX good_add ((uW ((zX xV (yb 3) ((yc _)).fr)).er (yb 6))).fr ((uW ((zX xV (yb 3) ((yc _)).fr)).er (yb 7))).fr)).fe)
  (qu (kh (sr (zX rJ (yb 5) (su).fr).fr) (sr (zX nQ (yb 8) ((zX xV (yb 5) ((yc _)).fr)).er).fr)) (ud 5 ((kg (xt (xx 8) (xt ((kg (xt (xx 6) (xt (xx 7) uV)))).fe uV)))).fe) qq)))
  (xF (qu (kh (sr (zX rJ (yb 5) (su).fr).fr) (sr (zX rJ (yb 4) (su).fr).fr)) (qt (bR ((zX rJ (yb 5) (su).fr)).fr (zX rJ (yb 4) (su).fr))) qq)
  (qt (rC (xt (xx 4) (xt (xx 5) uV))))))))⟩
theorem SH (F:Fy K mg "_law_none_cheaper" jX) (E8:ez P w K mg base) (Fz:Xg P w K mg base):Y_ P w K mg base:=
 yp (k:=10) F oO rfl (λ _ _ _ _ _ _=>fN λ _ _ _ _=>rfl) λ f Af A outer s H E hr=>⟨_,
  (zy (zU 4 oO.nd (zG E8 hr (ze (za 0) (ze (za 1) (ze (za 2) zl)))))
  (zy (xc (wO.pt (bg (U9 (za 4) uT) (bf (rq (vf (zG Fz hr (ze (za 0) (ze (za 1) (ze (zx (za 4) zh) zl))))))))) (zA (zT p8)) xb)
  (zy (wC Ka rfl (xE (za 3)) (yk 5 oO.nd) (zy (zU 6 oO.nd (yw (za 5) (yS (zx (zx (za 0) zh) zh) zh)))
  (zy (zU 7 oO.nd (yw (p7 (za 5) zh) (yS (zx (zx (za 0) zh) zh) zh)))
  (zA (xc (wO.pt (pk (nk (za 4) uT) (pj (lV hr (yS (sg (zx (za 2) zh) (za 6)) (sg (zx (za 2) zh) (za 7))) (zx (za 4) zh))))) (zA (xc (vf (zG Fz hr (ze (za 0) (ze (za 1) (ze (yr (ze (za 6) (ze (za 7) zl))) zl))))) (zA (zT p8)) xb)) xb)))))
  (zA (zT p8))))),
  (xF (ud 4 ((rC (xt (xx 0) (xt (xx 1) (xt (xx 2) uV))))).fe)
  (xF (qu (bN (sr (zX rJ (yb 4) (su).fr).fr) (bM (hG ((rC (xt (xx 0) (xt (xx 1) (xt (zX xV (yb 4) ((yc _)).fr) uV))))).fr))) (qt (ki _)) qq)
  (xF (nA (iY (xx 3)) (pB 5) (xF (ud 6 ((qv (yb 5) ((zX good_add ((zX xV ((zX xV (yb 0) ((yc _)).fr)).er ((yc _)).fr)).er ((yc _)).fr)).fr)).fe)
  (xF (ud 7 ((qv ((qw (yb 5) ((yc _)).fr)).fr ((zX good_add ((zX xV ((zX xV (yb 0) ((yc _)).fr)).er ((yc _)).fr)).er ((yc _)).fr)).fr)).fe)
  (qu (kh (sr (zX rJ (yb 4) (su).fr).fr) (sr (zX nQ ((zX good_add ((uW ((zX xV (yb 2) ((yc _)).fr)).er (yb 6))).fr ((uW ((zX xV (yb 2) ((yc _)).fr)).er (yb 7))).fr)).fr ((zX xV (yb 4) ((yc _)).fr)).er).fr)) (qu (hG ((rC (xt (xx 0) (xt (xx 1) (xt ((kg (xt (xx 6) (xt (xx 7) uV)))).fe uV))))).fr) (qt (ki _)) qq) qq))))
  (qt (ki _)))))⟩
theorem SN {f:Addr}{fd:FuncData}(F:uL K "law" "law" ia f fd) (Fp:YX P w K mg base) (Fs:Xa P w K mg base) (EX:js P w K mg base) (EO:ei P w K mg base) (E4:Y_ P w K mg base) (ET:Xb P w K mg base) (E6:YZ P w K mg base) (Fq:YY P w K mg base):uu P w K mg base vy 12 f fd ["_law_script"] (tS K (zQ zF o4)):=
 Zx (k:=11) F uQ rfl λ Af A outer s H E hr=>⟨_,
  (zy (UE (zG Fp hr (ze (zG ET hr (ze (za 0) (ze zh zl))) zl)) (p0 (n:=2) (vA (yk 1 uQ.nd) (vA (yk 2 uQ.nd) pz))))
  (zy (zU 3 uQ.nd (zG Fs hr (ze (zG ET hr (ze (za 0) (ze zh zl))) (ze (za 1) (ze (za 2) zl)))))
  (zy (zU 4 uQ.nd (zG EX hr (ze (za 3) zl)))
  (zy (wC Ka rfl (UJ T.range (ze zh (ze (nq T.max (ze zh (ze (l_ T.min (ze (u7 T.len (ze (za 0) zl)) (ze zh zl))) zl))) (ze zh zl)))) (yk 5 uQ.nd) (zy (zU 6 uQ.nd (zG EO hr (ze (zG ET hr (ze (za 0) (ze (za 5) zl))) (ze zh zl))))
  (zy (zU 7 uQ.nd (yr (ze (zG E6 hr (ze (zx (za 6) zh) zl)) (ze (zG E6 hr (ze (zx (za 6) zh) zl)) zl))))
  (zA (xc (rq (vf (zG Fq hr (ze (za 3) (ze (za 4) (ze (yw (zx (za 6) zh) (u7 T.len (ze (za 4) zl))) (ze (za 7) zl))))))) (zA (zT p8)) xb)))))
  (zy (zU 6 uQ.nd (zG EO hr (ze (zG ET hr (ze (za 0) (ze zh zl))) (ze zh zl))))
  (zy (zU 7 uQ.nd (yr (ze (zG E6 hr (ze (zx (za 6) zh) zl)) (ze (zG E6 hr (ze (zx (za 6) zh) zl)) zl))))
  (zA (zT (zG E4 hr (ze (za 3) (ze (yw (zx (za 6) zh) (u7 T.len (ze (za 4) zl))) (ze (za 7) (ze (UO (za 6) (UG zh) UH) zl))))))))))))),
  (by unfold eQ oo;exact yz)⟩
end
def all_mk {l:PySem.W.OpenLaw}{w:World}{K:Ac}{h:Heap}{mg:AF}{fa:Addr}(X:K.In h) (G:h.Ns mainGlobals mg) (Ey:mg "law"=some (.ref fa))
  (h0:Fx K "is_whole" ie) (h1:Fx K "is_whole_within" ic) (h2:Fx K "is_from_nought_on" ig) (h3:Fx K "is_row_within" lN) (h4:Fx K "places_of" jP) (h5:Fx K "check_place" ip) (h6:Fx K "check_pair" iq) (h7:Fx K "ways_from" lK) (h8:Fx K "stall_at" jO) (h9:Fx K "at_or_above" iz) (h10:Fx K "least_pairs" jR) (h11:Fx K "holds" lO) (h12:Fx K "both" oS) (h13:Fx K "either" ik) (h14:Fx K "border_ahead_of_way" oT) (h15:Fx K "pairs_ahead_of_changes" jQ) (h16:Fx K "border_ahead_of_changes" iy) (h17:Fx K "border_of_either" iu) (h18:Fx K "border_of_all" iw) (h19:Fx K "next_border" oP) (h20:Fx K "next_round" lM) (h21:Fx K "rounds" lL) (ID:Fx K "borders" ir) (IC:Fx K "enough" ij) (h24:Fx K "cost_of" il) (h25:Fx K "cheapest" lP) (h26:Fx K "_law_cell_at" jZ) (h27:Fx K "_law_stirred" jT) (h28:Fx K "_law_amount" j_) (h29:Fx K "_law_way" jS) (h30:Fx K "_law_floor" jY) (h31:Fx K "_law_sized" jU) (HJ:Fx K "_law_same" oQ) (h33:Fx K "_law_price" jW) (h34:Fx K "_law_right" jV) (h35:Fx K "_law_none_cheaper" jX) (h36:Fx K "law" ia)
  (Fn:Cn K "KEEPER" (.str "keeper"))
  (y0:PySem.W.nsIn K mainGlobals "set"=some none) (y1:PySem.W.nsIn K mainGlobals "zip"=some none) (y2:PySem.W.nsIn K mainGlobals "enumerate"=some none) (y3:PySem.W.nsIn K mainGlobals "abs"=some none)
  (z0:PySem.W.nsIn K mainGlobals "len"=some none) (z1:PySem.W.nsIn K mainGlobals "range"=some none) (z2:PySem.W.nsIn K mainGlobals "any"=some none) (z3:PySem.W.nsIn K mainGlobals "all"=some none) (z4:PySem.W.nsIn K mainGlobals "sorted"=some none) (z5:PySem.W.nsIn K mainGlobals "isinstance"=some none) (z6:PySem.W.nsIn K mainGlobals "bool"=some none) (z7:PySem.W.nsIn K mainGlobals "int"=some none) (z8:PySem.W.nsIn K mainGlobals "str"=some none) (z9:PySem.W.nsIn K mainGlobals "list"=some none) (z10:PySem.W.nsIn K mainGlobals "tuple"=some none) (z11:PySem.W.nsIn K mainGlobals "max"=some none) (z12:PySem.W.nsIn K mainGlobals "min"=some none):
  ∃ fd:FuncData,(∀ (s:Shared) (v:Value),BindsTo s fd ⟨[v],[]⟩ [("_law_script",v)])/\∀ base:Heap,K.In base->base.Ns mainGlobals mg->uu l.prog w K mg base vy 12 fa fd ["_law_script"] (tS K (zQ zF o4)):=by
 have T:Bt mg:=⟨A9 X G z0,A9 X G z1,A9 X G z2,A9 X G z3,A9 X G z4,A9 X G z5,A9 X G z6,A9 X G z7,A9 X G z8,A9 X G z9,A9 X G z10,A9 X G z11,A9 X G z12⟩
 have U:Xp mg:=⟨⟨A9 X G y0,A9 X G y1,A9 X G y2⟩,A9 X G y3⟩
 obtain⟨FH,Fn,FK⟩:=Fn.mk X G
 obtain⟨fd,Fl,hb⟩:=h36.law X G Ey λ _ _ _ _ _ _ _ _=>.of_eq rfl
 refine⟨fd,hb,λ base _ _=>?_⟩
 have E7:=SR l.prog w base T U (h0.mk X G)
 have EW:=Ss l.prog w base T U (h4.mk X G)
 have EU:=Rr l.prog w base T U (h9.mk X G)
 have EI:=S8 l.prog w base T U (h10.mk X G)
 have EN:=Su l.prog w base T U (h15.mk X G)
 have FA:=Rf l.prog w base T U (h24.mk X G)
 have ET:=SK l.prog w base T U (h26.mk X G)
 have EO:=SD l.prog w base T U (h27.mk X G)
 have Fd:=SM l.prog w base T U (h28.mk X G)
 have Fp:=SE l.prog w base T U (h31.mk X G)
 have E6:=SG l.prog w base T U (h33.mk X G)
 have EL:=SO l.prog w base T U (h1.mk X G) E7
 have EY:=SV l.prog w base T U (h2.mk X G) E7
 have F9:=SY l.prog w base T U (h11.mk X G) EU
 have Gq:=Rl l.prog w base T U (h12.mk X G) EI
 have FQ:=Rb l.prog w base T U (h13.mk X G) EI
 have EV:=Rp l.prog w base T U (h14.mk X G) EI EU
 have Ft:=SA l.prog w base T U (h29.mk X G) Fd
 have E_:=SU l.prog w base T U (h3.mk X G) EL
 have EJ:=Rg l.prog w base T U (h5.mk X G) EL EW
 have E5:=Rn l.prog w base T U (h17.mk X G) FQ
 have Fb:=Ro l.prog w base T U (h18.mk X G) Gq
 have Fs:=SJ l.prog w base T U (h30.mk X G) EO Ft
 have Fi:=Rh l.prog w base T U (h6.mk X G) E_
 have Fo:=Sg l.prog w base T U (h7.mk X G) EJ
 have Fv:=Sk l.prog w base T U (h8.mk X G) EJ
 have EM:=Rq l.prog w base T U (h16.mk X G) Fv EI EN
 have Fg:=Sz l.prog w base T U (h19.mk X G) Fn FK Fb EV EM Fo E5
 have Fh:=Sy l.prog w base T U (h20.mk X G) Fg
 have EH:=Rt l.prog w base T U (HJ.mk X G)
 replace EH:=pC l.prog w base T U (HJ.mk X G) EH
 replace EH:=pC l.prog w base T U (HJ.mk X G) EH
 replace EH:=pC l.prog w base T U (HJ.mk X G) EH
 replace EH:=pC l.prog w base T U (HJ.mk X G) EH
 replace EH:=pC l.prog w base T U (HJ.mk X G) EH
 replace EH:=pC l.prog w base T U (HJ.mk X G) EH
 have FP:=Sq l.prog w base T U (h21.mk X G) Fh EW
 have EX:=Rm l.prog w base T U (ID.mk X G) FP
 have Fz:=Ra l.prog w base T U (IC.mk X G) EJ Fi F9 EX
 have E8:=Ri l.prog w base T U (h25.mk X G) EJ EY FA EX
 have Fq:=SF l.prog w base T U (h34.mk X G) E8 EH
 have E4:=SH l.prog w base T U (h35.mk X G) E8 Fz
 exact SN l.prog w base T U Fl Fp Fs EX EO E4 ET E6 Fq
def walk {l:PySem.W.OpenLaw}{q:Program}{loose:List Str}{XP:(Str->Option Value)->Heap->Prop}{YP:World->Heap->Prop}{d:DefRec}{K:Params->Ac}(hn:l.most=some 63) (Dg:d.params.defaults=[])
  (hY:∀ (w:World) (h:Heap),YP w h->(K w.params).In h)
  (F:∀ (w:World) (mg:AF) (fa:Addr) (h:Heap),(K w.params).In h->h.Ns mainGlobals mg->mg d.name=some (.ref fa)->
   ∃ fd:FuncData,(∀ (s:Shared) (u:Value),BindsTo s fd ⟨[u],[]⟩ [("_law_script",u)])/\∀ base:Heap,(K w.params).In base->base.Ns mainGlobals mg->uu l.prog w (K w.params) mg base vy 12 fa fd ["_law_script"] (tS (K w.params) (zQ zF o4))):
  PySem.W.WalkO q loose XP YP l.row.toRowW d [] (λ f vs=>PySem.call f vs):=
 L2.Xy (n:=63) (k:=12) (x:="_law_script") (CX:=λ _=>vy) (sp:=λ w=>tS (K w.params) (zQ zF o4)) hn (by decide) Dg ⟨rfl,by decide,by decide⟩ hY F (λ _ _ a ns hl hO hS=>Qh Qf hO hS hl) λ _ _ _ _ _ z=>z
end yo
open PySem PySem.W PyProof.Rows
set_option maxHeartbeats 0 in
theorem PySem.Challenge.cw_purseborder_k71_whole_cheapest_holds : PySem.Challenge.rw_purseborder_k71_whole_cheapest.Holds := by
 w_on;o_law;k_head;(case hw=>w_witness2)
 k_fill
 refine yo.walk (l:=PySem.Challenge.rw_purseborder_k71_whole_cheapest) rfl rfl (λ w h Y=>PySem.W.kIn_of Y) ?F
 case F=>
  intro w mg fa h KX G C8
  refine' yo.all_mk KX G C8 ?_ ?_ ?_ ?_ ?_ ?_ ?_ ?_ ?_ ?_ ?_ ?_ ?_ ?_ ?_ ?_ ?_ ?_ ?_ ?_ ?_ ?_ ?_ ?_ ?_ ?_ ?_ ?_ ?_ ?_ ?_ ?_ ?_ ?_ ?_ ?_ ?_ ?_ ?_ ?_ ?_ ?_ ?_ ?_ ?_ ?_ ?_ ?_ ?_ ?_ ?_ ?_ ?_ ?_ ?_
  all_goals first | exact L3.Ei.i (by k_is) (by k_is) (by k_is) (by k_is) (by kernel_rfl) (by k_is) (by k_is) (by k_is) (by k_is) (by k_is) (by k_is) | exact L3.Ec.i (by k_is) (by k_is) (by k_is) (by k_is) (by kernel_rfl) | exact L5.Fx.i (by k_is) (by k_is) (by k_is) (by k_is) | k_is | exact L5.Cn.i (by k_is) (by exact⟨_,rfl⟩)
