import PyProof.Rows.All
import Wide.All
import OpenK.AllK
import Wide.FinOn
import Lean
import PyProof.EqAt
import PyProof.EqKinds
import PyProof.TupleCall
import PySem.SetOps
import PyProof.SetScanFacts
import PyProof.TupleKey
import PyProof.SetKind
import PyProof.SetRoads
import PyProof.IsRules
import PyProof.ZipIter
import PyProof.TupleIter
import PyProof.ListMulRoad
import PyProof.FactsAll.tuple
import PyProof.ListRange
import PyProof.Draws
import PyProof.EnumFor
import PyProof.Rows.ListMul
import PyProof.AutoListH
import PyProof.ExcInit
import PyProof.ExcClass2
import PyProof.InstStore
import PyProof.InstStoreFacts
import PyProof.ExcArgsOwn
import PyProof.IsInstance
import PyProof.IsInstanceH
import PyProof.StationsW
import PyProof.Rows.CatchOwn
import PyProof.FactsAll.dict_1
import PyProof.Rows.Range3
import PyProof.FitsBits
import PyProof.CollectWalk
import PyProof.EqKinds
import PySem.Challenge.RW_purseborder_k62_whole_mirrored_and_renum
set_option Elab.async false
set_option linter.all false
set_option maxRecDepth 100000
set_option genSizeOf false
set_option compiler.extract_closed false
abbrev Af:=PySem.Value->PySem.Shared->Prop
abbrev Ag:=List (PySem.Addr×PySem.Obj)
abbrev Ad:=List PySem.Value
abbrev AI:=PySem.Str->Option PySem.Value
abbrev An:=Array PySem.Value
def AF {p:Prop}[Decidable p](h:decide p=true:=by decide +kernel):p:=of_decide_eq_true h
noncomputable section
def JA:=@PySem.wpAny_bind
def Ky:=@PySem.Heap.get?_push_of_some
def Kz:=@PySem.wpAny_field
def KA:=@decide_eq_false
def KC:=@PySem.wpAny_holding
def KD:=@PySem.wpAny_call_entry
def KG:=@decide_eq_true
def KH:=@PySem.wpAny_mono
def KI:=@PySem.wpAny_newObj_type
def KL:=@PySem.wpAny_seqItems
def KJ:=@PySem.wpAny_setState_of
def KN:=@PySem.wpAny_callSpecial?_slot
def KO:=@PySem.Heap.get?_update_self
def KR:=@PySem.wpAny_truthy_bool
def KQ:=@PySem.wpAny_typeOf
def KP:=@PySem.wpAny_rule
def KY:=@PySem.wpAny_passesOwn
def KW:=@PySem.Heap.get?_update_other
def KU:=@PySem.wpAny_attempt
def KS:=@PySem.wpAny_setField_rec
def KZ:=@PySem.Heap.get?_update_ne
def K5:=@PySem.wpAny_Call_Name_kw
def K4:=@PySem.wpAny_specialOf
def K3:=@PySem.wpAny_askSetting
def K2:=@PySem.wpAny_setField
def K1:=@PySem.wpAny_isInstance
def K0:=@PySem.wpAny_updateSeq
def Ak:=@Option.bind_eq_some_iff
def Ap:=@List.mem_cons_self
def Av:=@List.mem_cons_of_mem
def AJ:=@Option.map_eq_some_iff
def AR:=@List.not_mem_nil
def A4:=@List.pairwise_map
def A9:=@List.lookup_cons
def Be:=@List.nodup_cons
def Bc:=@Nat.lt_or_ge
def Bh:=@List.pairwise_cons
def Bp:=@List.map_nil
def Bw:=@Nat.ne_of_gt
def BC:=@List.any_cons
def BM:=@Bool.false_ne_true
def BK:=@List.replicate_succ
def BJ:=@Nat.lt_trans
def BI:=@List.mem_iff_getElem
def BU:=@List.ext_getElem
def BS:=@List.mem_flatMap
def Cb:=@List.getElem?_append_right
def Ca:=@List.getElem?_append_left
def B_:=@List.flatten_cons
def B9:=@List.find?_cons
def B8:=@Array.getElem_toList
def B7:=@Nat.lt_succ_of_lt
def B6:=@Int.toNat_natCast
def Ck:=@List.filterMap_cons
def Cj:=@List.forIn_cons
def Ci:=@List.pairwise_iff_getElem
def Cg:=@List.map_congr_left
def CH:=@List.mem_append_left
def CG:=@List.getElem?_replicate
def CF:=@Bool.and_false
def CD:=@Array.size_map
def CC:=@Array.getElem?_eq_none
def CB:=@List.map_drop
def CA:=@Nat.le_add_right
def C2:=@List.append_nil
def C1:=@List.of_mem_zip
def C0:=@List.length_take
def CZ:=@List.length_nil
def CY:=@List.forIn_nil
def CW:=@Array.getD_eq_getD_getElem?
def CV:=@Nat.mod_lt
def CU:=@Nat.lt_trichotomy
def CT:=@List.toList_toArray
def CS:=@List.eraseIdx_cons_succ
def CQ:=@List.nodup_nil
def CP:=@List.idxOf_lt_length_iff
def DD:=@Option.isSome_iff_exists
def DC:=@List.length_set
def DB:=@Nat.le_succ
def DA:=@List.append_assoc
def Dz:=@List.pairwise_append
def Dy:=@List.lookup_append
def Dx:=@List.getElem?_set
def Dw:=@List.getElem_range
def Dv:=@Bool.or_eq_true
def Du:=@Bool.and_self
def Dt:=@Nat.mul_comm
def Ds:=@List.nodup_range
def Dr:=@Array.getElem?_setIfInBounds
def Dq:=@List.foldl_cons
def Dp:=@List.map_take
def Dn:=@List.zipIdx_cons
def Dm:=@Int.mul_nonneg
def Dl:=@Array.size_push
def Dk:=@List.length_filter_le
def Ee:=@List.getElem_inj
def Ed:=@List.getElem?_set_ne
def Eb:=@List.mem_filterMap
def Ea:=@List.zip_cons_cons
def D_:=@List.length_drop
def D9:=@List.pairwise_singleton
def D8:=@List.mergeSort_perm
def D7:=@List.pairwise_mergeSort
def D6:=@Nat.eq_zero_or_pos
def D5:=@List.getElem?_cons_succ
def D4:=@List.take_append_drop
def D3:=@List.perm_ext_iff_of_nodup
def D2:=@List.mem_iff_getElem?
def D1:=@List.length_eraseIdx_of_lt
def D0:=@Int.mul_le_mul_of_nonneg_right
def DZ:=@Array.getElem?_push
def DY:=@List.getElem_idxOf
def DX:=@List.mem_of_find?_eq_some
def DW:=@List.mem_reverse
def DV:=@List.range_succ
def DU:=@Int.lt_of_le_of_lt
def DT:=@List.getElem?_cons_zero
def Az:=@List.size_toArray
def Aw:=@List.getElem?_eq_getElem
def AM:=@List.getElem?_eq_some_iff
def AE:=@List.getElem?_map
def Ah:=@Nat.le_refl
def Aj:=@List.mem_cons
def Ax:=@List.map_cons
def AB:=@List.length_map
def Al:=@PySem.Heap.lt_size
def AG:=@PySem.Heap.get?_push_size
def Ai:=@List.mem_map
def Ay:=@List.getD_eq_getElem?_getD
def CJ:=@Bool.not_false
def AA:=@Nat.ne_of_lt
def A2:=@List.mem_append_right
def Cp:=@Bool.not_true
def AW:=@List.mem_singleton
def BA:=@List.mem_of_getElem?
def AV:=@Array.getElem?_eq_getElem
def AZ:=@List.mem_append
def Bg:=@List.length_cons
def AK:=@List.mem_range
def Ba:=@PySem.W.mg_none_of
def A_:=@Nat.lt_of_lt_of_le
def AY:=@Bool.false_eq_true
def Ce:=@List.length_range
def AN:=@Int.le_refl
def Bs:=@Bool.eq_iff_iff
def AU:=@List.mem_filter
def Bf:=@Option.bind_some
def Bk:=@List.any_eq_true
def Ab:=@PySem.wpAny_pure
def Bj:=@Array.length_toList
def Bi:=@Array.getElem?_toList
def AQ:=@Nat.zero_le
def A7:=@Option.some.inj
def Au:=@List.map_map
def Cd:=@List.length_append
def Cc:=@List.getElem_mem
def A6:=@Nat.le_trans
def Bz:=@Nat.lt_irrefl
def Co:=@Nat.lt_succ_self
def A5:=@Nat.le_of_lt
def BD:=@List.all_eq_true
def Br:=@Bool.and_eq_true
def Bo:=@List.map_append
def Bx:=@Int.emod_nonneg
def BN:=@Int.emod_lt_of_pos
def CI:=@Int.toNat_of_nonneg
abbrev Ac:=PySem.W.Frag
namespace L2
open PySem PySem.Spec PyProof.Rows
abbrev Key:=Sum Int Str
noncomputable def qB:Key->Value->Bool
 | .inl k,v=>Value.isInt k v
 | .inr x,v=>Value.isStrOf x v
noncomputable def Pr (w:World):Key->Int
 | .inl k=>hashInt k
 | .inr x=>hashStr w x
theorem tL:∀ {k:Key}{v:Value},qB k v=true->(∃ i t,k=Sum.inl i/\v=Value.int i t)\/(∃ x t,k=Sum.inr x/\v=Value.str x t)
 | .inl i,v,h=>by
  obtain⟨t,e⟩:=Value.isInt_shape (k:=i) (v:=v) h;exact .inl ⟨i,t,rfl,e⟩
 | .inr x,v,h=>by
  obtain⟨t,e⟩:=Value.isStrOf_shape (x:=x) (v:=v) h;exact .inr ⟨x,t,rfl,e⟩
def Pq (i:Int) (t:Tok):qB (.inl i) (.int i t)=true:=by simp[qB,Value.isInt]
def Pp (x:Str) (t:Tok):qB (.inr x) (.str x t)=true:=by simp[qB,Value.isStrOf]
def Po (a b:Int):decide ((Sum.inl a:Key)=Sum.inl b)=(a == b):=by
 by_cases e:a=b
 .subst e;simp
 .have h:¬ (Sum.inl a:Key)=Sum.inl b:=λ q=>e (Sum.inl.inj q);rw[KA h];exact (beq_eq_false_iff_ne.mpr e).symm
def Pl (a b:Str):decide ((Sum.inr a:Key)=Sum.inr b)=decide (a=b):=by
 by_cases e:a=b
 .subst e;simp
 .have h:¬ (Sum.inr a:Key)=Sum.inr b:=λ q=>e (Sum.inr.inj q);rw[KA h,KA e]
def Pn (a:Int) (b:Str):decide ((Sum.inl a:Key)=Sum.inr b)=false:=KA (λ q=>nomatch q)
def Pm (a:Str) (b:Int):decide ((Sum.inr a:Key)=Sum.inl b)=false:=KA (λ q=>nomatch q)
def we (prog:Program) (w:World):PySem.KeyKind prog w Key where
 is:=qB
 hash:=Pr w
 inj:=λ v a b ha hb=>by
  rcases tL ha with ⟨i,t,rfl,rfl⟩ | ⟨x,t,rfl,rfl⟩
  .rcases tL hb with ⟨j,u,rfl,e⟩ | ⟨y,u,rfl,e⟩
   .injection e with e1 _;rw[e1]
   .exact nomatch e
  .rcases tL hb with ⟨j,u,rfl,e⟩ | ⟨y,u,rfl,e⟩
   .exact nomatch e
   .injection e with e1 _;rw[e1]
 byValue:=λ k v h=>by
  rcases tL h with ⟨i,t,rfl,rfl⟩ | ⟨x,t,rfl,rfl⟩ <;> rfl
 pyHash:=λ hv h=>by
  rcases tL hv with ⟨i,t,rfl,rfl⟩ | ⟨x,t,rfl,rfl⟩
  .exact wpAny_pyHash_int h
  .exact wpAny_pyHash_str h
 eqBool:=λ hu hv h=>by
  rcases tL hu with ⟨i,t,rfl,rfl⟩ | ⟨x,t,rfl,rfl⟩
  .rcases tL hv with ⟨j,u,rfl,rfl⟩ | ⟨y,u,rfl,rfl⟩
   .rw[Po] at h;exact wpAny_eqBool_int h
   .rw[Pn] at h;exact SeqAt.EqAt.int_str i t y u _ _ _ _ h
  .rcases tL hv with ⟨j,u,rfl,rfl⟩ | ⟨y,u,rfl,rfl⟩
   .rw[Pm] at h;exact SeqAt.EqAt.str_int x t j u _ _ _ _ h
   .rw[Pl] at h;exact wpAny_eqBool_str h
 «strs»:=λ k x t v h=>by
  rcases tL h with ⟨i,u,rfl,e⟩ | ⟨y,u,rfl,e⟩
  .exact nomatch e
  .injection e with e1 _
   subst e1;cases v <;> rfl
def QM (prog:Program) (w:World) (i:Int) (t:Tok):(we prog w).is (.inl i) (.int i t)=true:=Pq i t
def QL (prog:Program) (w:World) (x:Str) (t:Tok):(we prog w).is (.inr x) (.str x t)=true:=Pp x t
inductive V where
 | zm | bl (b:Bool) | int (i:Int) | str (x:Str) | l_ (b:Array UInt8) | bx (b:UInt64) | ref (a:Addr) | ty (n:String)
 deriving DecidableEq
noncomputable def RelV:V->Value->Prop
 | .zm,u=>u=Value.none
 | .bl b,u=>u=Value.bool b
 | .int i,u=>∃ t,u=Value.int i t
 | .str x,u=>∃ t,u=Value.str x t
 | .l_ b,u=>∃ t,u=Value.bytes b t
 | .bx b,u=>∃ t,u=Value.float b t
 | .ref a,u=>u=Value.ref a
 | .ty n,u=>u=Value.type n
abbrev Vals:List V->List Value->Prop:=Paired RelV
theorem Vals.length {xs:List V}{us:Ad}(r:Vals xs us):xs.length=us.length:=Paired.length r
theorem Vals.get:∀ {xs:List V}{us:Ad}{i:Nat}{x:V},Vals xs us->xs[i]?=some x->∃ u,us[i]?=some u/\RelV x u
 | _,_,_,_,.nil,e=>by simp at e
 | _,_,0,_,.cons r _,e=>by simp at e;subst e;exact⟨_,rfl,r⟩
 | _,_,i+1,x,.cons _ t,e=>by
  obtain⟨u,h1,h2⟩:=Vals.get (i:=i) (x:=x) t (by simpa using e);exact⟨u,by simpa using h1,h2⟩
theorem Vals.set {x:V}{u:Value}(r:RelV x u):∀ {xs:List V}{us:Ad}(i:Nat),Vals xs us->Vals (xs.set i x) (us.set i u)
 | _,_,_,.nil=>.nil
 | _,_,0,.cons _ t=>.cons r t
 | _,_,i+1,.cons q t=>.cons q (Vals.set r i t)
theorem Vals.append:∀ {xs ys:List V}{us ws:Ad},Vals xs us->Vals ys ws->Vals (xs++ys) (us++ws)
 | _,_,_,_,.nil,s=>s
 | _,_,_,_,.cons r t,s=>.cons r (Vals.append t s)
theorem Vals.take:∀ {xs:List V}{us:Ad}(n:Nat),Vals xs us->Vals (xs.take n) (us.take n)
 | _,_,0,_=>.nil
 | _,_,_+1,.nil=>.nil
 | _,_,n+1,.cons r t=>.cons r (Vals.take n t)
theorem Vals.drop:∀ {xs:List V}{us:Ad}(n:Nat),Vals xs us->Vals (xs.drop n) (us.drop n)
 | _,_,0,r=>r
 | _,_,_+1,.nil=>.nil
 | _,_,n+1,.cons _ t=>Vals.drop n t
noncomputable def vN:Option V->Option Value->Prop
 | some v,some u=>RelV v u
 | none,none=>True
 | _,_=>False
def KV {κ:Type}:List (κ × V)->List (κ × Value)->Prop:=Paired λ(p:κ × V) (q:κ × Value)=>p.1=q.1/\RelV p.2 q.2
noncomputable def kV:Key->V
 | .inl i=>.int i
 | .inr x=>.str x
inductive HO where
 /-- a list -/
 | lst (xs:List V)
 /-- a tuple (never changes) -/
 | tup (xs:List V)
 /-- a dict Iu keys are ints and texts;one Iu keys are tuples of ints and texts (Ii empty one is both) -/
 | dK (Aa:List (Key×V)) | dT (Aa:List (List Key×V))
 /-- a set of ints: its members,its size -/
 | set (S:Int->Bool) (n:Nat)
 /-- an instance of Ii class at C,its dict at dx,its attributes -/
 | ins (C dx:Addr) (fs:List (Str×V))
 /-- Ii dict of Ii instance at x -/
 | own (x:Addr)
 /-- Ii dict of an exception -/
 | xd (fs:List (Str×V))
 /-- a bound method,f of x -/
 | met (f x:Addr)
 /-- a range object lo,lo+1,.. below hi -/
 | jd (lo hi:Int)
 /-- a Iy that is known to Ii object (Ii JE;a dict while a loop walks it): read,never written while it is so -/
 | xJ (o:Obj) (u:HO)
 /-- a code IC table -/
 | rq (ps:An)
 /-- any other Iy,by what is true of its one object (a def of one's own: y9 a S n:=HO.ext λ h=>..) -/
 | ext (φ:Heap->Prop)
abbrev Hp:=Addr->Option HO
noncomputable def upd (H:Hp) (a:Addr) (o:HO):Hp:=λ b=>if b=a then some o else H b
def yr {H:Hp}{a:Addr}{o:HO}:upd H a o a=some o:=by unfold upd;rw[if_pos rfl]
def ya {H:Hp}{a b:Addr}{o:HO}(h:b≠a):upd H a o b=H b:=by unfold upd;rw[if_neg h]
def tG {H:Hp}{a b:Addr}{o u:HO}(h:H a=some o) (h':H b=some u) (d:o≠u):a≠b:=by
 intro e;subst e;rw[h] at h';exact d (A7 h')
def u9 {H:Hp}{a b:Addr}{o:HO}(h:H a=some o) (h':H b=none):a≠b:=by
 intro e;subst e;rw[h] at h';cases h'
def hV (h:Heap) (a:Addr):Prop:=∃ o,h.get? a=some o/\o.dict=none
def hV.new (h:Heap) {d:An}{n:Nat}:hV (h.push { cls:=.type "tuple",data:=.seq d n }) h.objs.size:=⟨_,AG _ rfl,rfl⟩
section
variable (P:Program)(w:World)
noncomputable def yE (H:Hp) (h:Heap) (a:Addr):HO->Prop
 | .lst xs=>xs.length<=sizeLine/\∃ (its:Ad) (n:Nat),Vals xs its/\h.get? a=some { cls:=.type "list",data:=.seq its.toArray n }
 | .tup xs=>(xs.length<=sizeLine/\hV h a)/\∃ its:List Value,Vals xs its/\IsTup h a its.toArray
 | .dK Aa=>Aa.length<=sizeLine/\(a == sysModules)=false/\∃ vs,KV Aa vs/\h.DictOf (we P w) a vs
 | .dT Aa=>Aa.length<=sizeLine/\(a == sysModules)=false/\∃ xs:List (List Key×Addr×Value),
   Paired (λ(p:List Key×V) (q:List Key×Addr×Value)=>p.1=q.1/\H q.2.1=some (.tup (p.1.map kV))/\RelV p.2 q.2.2) Aa xs/\
   ∃ o es ep,h.get? a=some o/\o.ExactDict/\o.data=.dict es ep/\es.toList=xs.map (entryOfKey (tupleKind (we P w)))/\(xs.map (·.1)).Nodup
 | .set S n=>h.SetOf (intKind P w) a S n
 | .ins C dx fs=>H dx=some (.own a)/\fs.length<=1000/\dx≠a/\h.get? a=some (PySem.W.instObj C dx)/\
   ∃ mA,h.Ns1 dx mA/\(∀ f,vN (fs.lookup f) (mA f))/\PySem.Within mA (fs.map (·.1))
 | .own _=>∃ o,h.get? a=some o
 | .xd fs=>∃ mA,h.Ns1 a mA/\∀ f,vN (fs.lookup f) (mA f)
 | .jd lo hi=>∃ t u v,h.get? a=some { cls:=.type "range",data:=.fields #[.int lo t,.int hi u,.int 1 v] }
 | .xJ o u=>h.get? a=some o/\yE H h a u
 | .rq ps=>h.get? a=some { cls:=.none,data:=.fields ps }
 | .met f x=>h.get? a=some (PySem.W.methodObj (.ref f) (.ref x))
 | .ext φ=>φ h/\(∃ o,h.get? a=some o)/\∀ h1 h2:Heap,φ h1->(∀ o,h1.get? a=some o->h2.get? a=some o)->φ h2
def yA (H:Hp) (h:Heap):Prop:=∀ a o,H a=some o->yE P w H h a o
end
section
variable {P:Program}{w:World}{H H':Hp}{h h':Heap}{a:Addr}{o:HO}
theorem yE.lt (x:yE P w H h a o):a<h.objs.size:=by
 cases o with
 | lst xs=>obtain⟨_,_,_,_,e⟩:=x;exact Al e
 | tup xs=>obtain⟨_,_,_,p⟩:=x;exact p.lt
 | dK Aa=>obtain⟨_,_,_,_,o,_,_,e,_⟩:=x;exact Al e
 | dT Aa=>obtain⟨_,_,_,_,o,_,_,e,_⟩:=x;exact Al e
 | set S n=>obtain⟨o,_,_,_,e,_⟩:=x;exact Al e
 | ins C dx fs=>obtain⟨_,_,_,e,_⟩:=x;exact Al e
 | own y=>obtain⟨_,e⟩:=x;exact Al e
 | xd fs=>obtain⟨_,⟨_,_,_,e,_⟩,_⟩:=x;exact Al e
 | jd lo hi=>obtain⟨_,_,_,e⟩:=x;exact Al e
 | xJ ob u=>obtain⟨e,_⟩:=x;exact Al e
 | rq ps=>exact Al (show h.get? a=some _ from x)
 | met f y=>exact Al (show h.get? a=some _ from x)
 | ext φ=>obtain⟨_,⟨_,e⟩,_⟩:=x;exact Al e
theorem Paired.mS {α β:Type}{F G:α->β->Prop}:∀ {l₁:List α}{l₂:List β},Paired F l₁ l₂->(∀ a b,F a b->G a b)->Paired G l₁ l₂
 | _,_,.nil,_=>.nil
 | _,_,.cons r t,f=>.cons (f _ _ r) (Paired.mS t f)
def yE.ux (x:yE P w H h a o) (k:∀ b u,(b=a\/H b=some (.own a))->h.get? b=some u->h'.get? b=some u)
  (ho:∀ b,H b=some (.own a)->H' b=some (.own a)) (ht:∀ b xs,H b=some (.tup xs)->H' b=some (.tup xs)):yE P w H' h' a o:=by
 induction o with
 | lst xs=>obtain⟨z,its,n,r,e⟩:=x;exact⟨z,its,n,r,k _ _ (.inl rfl) e⟩
 | tup xs=>obtain⟨⟨z,y,u,v⟩,its,r,ob,e,c⟩:=x;exact⟨⟨z,y,k _ _ (.inl rfl) u,v⟩,its,r,ob,k _ _ (.inl rfl) e,c⟩
 | dK Aa=>obtain⟨z,y,vs,r,ob,es,ep,e,c⟩:=x;exact⟨z,y,vs,r,ob,es,ep,k _ _ (.inl rfl) e,c⟩
 | dT Aa=>
  obtain⟨z,y,xs,r,ob,es,ep,e,c⟩:=x;exact⟨z,y,xs,Paired.mS r λ p q z=>⟨z.1,ht _ _ z.2.1,z.2.2⟩,ob,es,ep,k _ _ (.inl rfl) e,c⟩
 | set S n=>obtain⟨ob,es,ep,t,e,c⟩:=x;exact⟨ob,es,ep,t,k _ _ (.inl rfl) e,c⟩
 | ins C dx fs=>
  obtain⟨d,z,ne,e,mA,⟨od,es,ep,e2,c⟩,r⟩:=x;exact⟨ho _ d,z,ne,k _ _ (.inl rfl) e,mA,⟨od,es,ep,k _ _ (.inr d) e2,c⟩,r⟩
 | own y=>obtain⟨ob,e⟩:=x;exact⟨ob,k _ _ (.inl rfl) e⟩
 | xd fs=>obtain⟨mA,⟨od,es,ep,e,c⟩,r⟩:=x;exact⟨mA,⟨od,es,ep,k _ _ (.inl rfl) e,c⟩,r⟩
 | jd lo hi=>obtain⟨t,u,v,e⟩:=x;exact⟨t,u,v,k _ _ (.inl rfl) e⟩
 | xJ ob u ih=>obtain⟨e,q⟩:=x;exact⟨k _ _ (.inl rfl) e,ih q⟩
 | rq ps=>
  have e:h.get? a=some { cls:=.none,data:=.fields ps }:=x;show h'.get? a=some { cls:=.none,data:=.fields ps };exact k a _ (.inl rfl) e
 | met f y=>
  have e:h.get? a=some (PySem.W.methodObj (.ref f) (.ref y)):=x;show h'.get? a=some (PySem.W.methodObj (.ref f) (.ref y));exact k a _ (.inl rfl) e
 | ext φ=>obtain⟨p,⟨o,e⟩,st⟩:=x;exact⟨st _ _ p λ o q=>k _ _ (.inl rfl) q,⟨o,k _ _ (.inl rfl) e⟩,st⟩
theorem yA.lt (x:yA P w H h) (e:H a=some o):a<h.objs.size:=(x a o e).lt
def yA.fresh (x:yA P w H h) (e:h.objs.size<=a):H a=none:=by
 cases q:H a with
 | none=>rfl
 | some u=>exact absurd (A_ (x.lt q) e) (Bz _)
def yA.kept (x:yA P w H h) (k:∀ b u,h.get? b=some u->h'.get? b=some u):yA P w H h':=λ a o e=>
 (x a o e).ux (λ b u _ q=>k b u q) (λ _ q=>q) λ _ _ q=>q
def yA.laid (x:yA P w H h) (k:∀ b u,h.get? b=some u->h'.get? b=some u) (hp:h.objs.size<=a) (new:yE P w (upd H a o) h' a o):yA P w (upd H a o) h':=λ b u e=>by
 have hn:=x.fresh hp;by_cases hb:b=a
 .subst hb;rw[yr] at e;cases e;exact new
 .rw[ya hb] at e;exact (x b u e).ux (λ c v _ q=>k c v q) (λ c q=>by rw[ya (u9 q hn)];exact q) λ c xs q=>by rw[ya (u9 q hn)];exact q
end
def Rd (H:Hp) (a:Addr) (u:HO):Prop:=H a=some u\/∃ o,H a=some (.xJ o u)
def Rd.ok {P:Program}{w:World}{H:Hp}{h:Heap}{a:Addr}{u:HO}(r:Rd H a u) (x:yA P w H h):yE P w H h a u:=by
 rcases r with r | ⟨o,r⟩
 .exact x a u r
 .obtain⟨_,q⟩:=x a _ r;exact q
noncomputable def ny:Option HO->Prop
 | some (.lst _)=>True
 | some (.dK _)=>True
 | some (.dT _)=>True
 | some (.set _ _)=>True
 | some (.ins _ _ _)=>True
 | some (.ext _)=>True
 | _=>False
section
variable {P:Program}{w:World}{H:Hp}{h h':Heap}{x e:Addr}{o':HO}
def yA.write (ok:yA P w H h) (mu:ny (H x)) (he:e=x\/H e=some (.own x)) (k:∀ b u,b≠e->h.get? b=some u->h'.get? b=some u) (CO:∃ u,h'.get? e=some u)
  (new:yE P w (upd H x o') h' x o'):yA P w (upd H x o') h':=λ b u q=>by
 have IG:∀ c y,H c=some (.own y)->c≠x:=λ c y r z=>by subst z;rw[r] at mu;exact mu
 have JK:∀ c xs,H c=some (.tup xs)->c≠x:=λ c xs r z=>by subst z;rw[r] at mu;exact mu
 by_cases hb:b=x
 .subst hb;rw[yr] at q;cases q;exact new
 .rw[ya hb] at q;by_cases BH:b=e
  .have q':H b=some (.own x):=by
    rcases he with z | z
    .exact absurd (BH.trans z) hb
    .rw[BH];exact z
   rw[q] at q';cases q';obtain⟨v,hv⟩:=CO;exact⟨v,by rw[BH];exact hv⟩
  .refine (ok b u q).ux (λ c v hc r=>k c v ?_ r) (λ c r=>by rw[ya (IG c b r)];exact r) λ c xs r=>by rw[ya (JK c xs r)];exact r
   rcases hc with rfl | hc
   .exact BH
   .rintro rfl;rcases he with z | z
    .exact IG c b hc z
    .rw[hc] at z;cases z;exact hb rfl
end
structure Un (fs ex:List Addr) (H H':Hp) (h h':Heap):Prop where
 keep:∀ b o,h.get? b=some o->H b=none->b∉fs->b∉ex->h'.get? b=some o
 slot:∀ b o,h.get? b=some o->H b=none->b∈fs->b∉ex->∃ sl,h'.get? b=some { o with slots:=sl }
 free:∀ b o,h.get? b=some o->H b=none->b∉ex->H' b=none
 there:∀ b o,h.get? b=some o->b∉ex->∃ o',h'.get? b=some o'
 uw:∀ b xs,H b=some (.tup xs)->H' b=some (.tup xs)
 tN:∀ b o u,H b=some (.xJ o u)->H' b=some (.xJ o u)
 su:∀ b ps,H b=some (.rq ps)->∃ more,H' b=some (.rq (ps++more))
section
variable {fs ex:List Addr}{H H1:Hp}{h h1 h':Heap}{a x e:Addr}{o:HO}
def Un.any (u:Un fs ex H H1 h h1) {b:Addr}{ob:Obj}(q:h.get? b=some ob) (n:H b=none) (hx:b∉ex):∃ sl,h1.get? b=some { ob with slots:=sl }:=by
 by_cases hb:b∈fs
 .exact u.slot b ob q n hb hx
 .exact⟨ob.slots,u.keep b ob q n hb hx⟩
def Un.kept (k:∀ b u,h.get? b=some u->h'.get? b=some u):Un fs ex H H h h':=
 ⟨λ b ob q _ _ _=>k b ob q,λ b ob q _ _ _=>⟨ob.slots,k b ob q⟩,λ _ _ _ n _=>n,λ b ob q _=>⟨ob,k b ob q⟩,λ _ _ q=>q,λ _ _ _ q=>q,λ _ ps q=>⟨#[],by rw[q];simp⟩⟩
def Un.refl:Un fs ex H H h h:=Un.kept λ _ _ q=>q
def Un.laid (k:∀ b u,h.get? b=some u->h'.get? b=some u) (hp:h.objs.size<=a) (hn:H a=none):Un fs ex H (upd H a o) h h' where
 keep:=λ b u q _ _ _=>k b u q
 slot:=λ b u q _ _ _=>⟨u.slots,k b u q⟩
 free:=λ b u q n _=>by rw[ya (AA (A_ (Al q) hp))];exact n
 there:=λ b u q _=>⟨u,k b u q⟩
 uw:=λ b xs q=>by rw[ya (u9 q hn)];exact q
 tN:=λ b u xs q=>by rw[ya (u9 q hn)];exact q
 su:=λ b ps q=>⟨#[],by rw[ya (u9 q hn),q];simp⟩
def Un.write (mu:ny (H x)) (he:e=x\/H e=some (.own x)) (k:∀ b u,b≠e->h.get? b=some u->h'.get? b=some u) (CO:∃ u,h'.get? e=some u):Un fs ex H (upd H x o) h h':=by
 have hx:∀ b,H b=none->b≠x:=λ b n z=>by subst z;rw[n] at mu;exact mu
 have hb:∀ b,H b=none->b≠e:=λ b n z=>by
  subst z;rcases he with r | r
  .exact hx b n r
  .rw[n] at r;cases r
 have hm:∀ b u,H b=some u->¬ ny (some u)->b≠x:=λ b u q nm z=>by subst z;rw[q] at mu;exact nm mu
 refine⟨λ b u q n _ _=>k b u (hb b n) q,λ b u q n _ _=>⟨u.slots,k b u (hb b n) q⟩,λ b u q n _=>by rw[ya (hx b n)];exact n,λ b u q _=>?_,
  λ b xs q=>by rw[ya (hm b _ q λ z=>z)];exact q,λ b u xs q=>by rw[ya (hm b _ q λ z=>z)];exact q,λ b ps q=>⟨#[],by rw[ya (hm b _ q λ z=>z),q];simp⟩⟩
 by_cases BH:b=e
 .subst BH;exact CO
 .exact⟨u,k b u BH q⟩
end
noncomputable def mj (h:Heap) (H:Hp):List Addr:=(List.range h.objs.size).filter λ a=>(H a).isSome
def tM (h:Heap) (H:Hp):Heap:=PySem.W.hideAll h (mj h H)
def Og (h:Heap) (H:Hp):(tM h H).objs.size=h.objs.size:=PySem.W.hideAll_size _ _
def Oh {h:Heap}{H:Hp}{b:Addr}{o:Obj}(e:h.get? b=some o) (n:H b=none):(tM h H).get? b=some o:=
 PySem.W.hideAll_get _ e λ hm=>by
  have q:(H b).isSome=true:=(AU.mp hm).2;rw[n] at q;simp at q
def Qw {h:Heap}{H:Hp}{b:Addr}{o:Obj}(e:(tM h H).get? b=some o):h.get? b=some o/\H b=none:=by
 have e':h.get? b=some o:=PySem.W.of_hideAll (mj h H) e;refine⟨e',?_⟩;cases q:H b with
 | none=>rfl
 | some x=>
  have hm:b∈mj h H:=AU.mpr ⟨AK.mpr (Al e'),by simp[q]⟩;have z:(tM h H).get? b=none:=PySem.W.hideAll_none (mj h H) hm;rw[z] at e;cases e
structure Mod (K:Ac) (mg:AI) (base:Heap):Prop where
 jH:K.In base
 glob:base.Ns mainGlobals mg
 blt:∃ mb,base.Ns builtinsNs mb/\∀ x:Str,x≠"__name__"->mb x=bootBuiltins x
 nolimit:base.NoLimit
structure Cx where
 prog:Program
 w:World
 K:Ac
 mg:Str->Option Value
 base:Heap
 A:Around
 N:List Str
 s₀:Shared
 H₀:Hp
 env:Env
 outer:List Env
 stack:List Env
 ex:List Addr
 fn:Str->Bool
 calm:Bool
 pn:Ag
 xe:Af
noncomputable def vn (l:List Env):List Addr:=l.filterMap (·.frame)
abbrev Cx.fs (X:Cx):List Addr:=vn X.outer
def ko (sc:Scope) (x:Str):Prop:=sc.names.lookup x=some .local\/sc.names.lookup x=some .cell\/sc.names.lookup x=some .free
def Loc (sc:Scope) (x:Str):Prop:=sc.names.lookup x=some .local\/sc.names.lookup x=some .cell
def Look (env:Env) (h:Heap) (m:AI) (x:Str) (u:Value):Prop:=
 (env.kindOf x=some .local/\m x=some u)\/((env.kindOf x=some .cell\/env.kindOf x=some .free)/\∃ c,env.cells.lookup x=some c/\h.IsCell c (some u))
structure Cx.Ok (X:Cx):Prop where
 mod:Mod X.K X.mg X.base
 kind:X.env.scope.kind=.function
 glob:X.env.globals=mainGlobals
 blt:X.env.builtins=builtinsNs
 above:X.s₀.heap.objs.size<=X.env.locals
 inj:∀ x y c,X.env.cells.lookup x=some c->X.env.cells.lookup y=some c->x=y
 has:∀ x,(X.env.kindOf x=some .cell\/X.env.kindOf x=some .free)->∃ c,X.env.cells.lookup x=some c
 nc:∀ x c,X.fn x=true->X.env.cells.lookup x=some c->X.s₀.heap.objs.size<=c
 hd:X.calm=true->X.A.handled=none
 frames:X.A.frames=some X.stack
 mr:X.stack=X.outer\/(X.stack=X.env::X.outer/\X.env.frame=some X.env.locals)
 ig:∀ b∈X.ex,b≠X.env.locals/\∀ x c,X.env.cells.lookup x=some c->c≠b
 bs:∀ b o,X.base.get? b=some o->X.s₀.heap.get? b=some o/\X.H₀ b=none
 rN:X.base.objs.size<=X.s₀.heap.objs.size
 oa:∀ b o,X.base.get? b=some o->b∉X.ex
 oE:∀ b∈X.ex,b∉X.fs
 uc:X.s₀.heap.FunFrames X.base X.outer
 qM:∀ b∈X.fs,X.H₀ b=none
structure Inv (X:Cx) (EV:Ag) (Y:List (Option V)) (H:Hp) (s:Shared):Prop where
 ok:X.Ok
 os:s.os=X.s₀.os
 bare:AllBare s.gens
 base:Un X.fs X.ex X.H₀ H X.s₀.heap s.heap
 loc:∃ m,s.heap.Ns X.env.locals m/\∀ (i:Nat) (x:Str) (v:V),X.N[i]?=some x->Y[i]?=some (some v)->ko X.env.scope x->∃ u,RelV v u/\Look X.env s.heap m x u
 cell:∀ x c,X.env.cells.lookup x=some c->∃ v,s.heap.IsCell c v
 free:H X.env.locals=none
 uG:∀ x c,X.env.cells.lookup x=some c->H c=none
 pin:∀ p∈X.pn++EV,s.heap.get? p.1=some p.2/\H p.1=none/\p.1≠X.env.locals/\p.1∉X.fs/\∀ v,p.2.data≠.cell v
 zr:yA X.prog X.w H s.heap
 len:Y.length=X.N.length
section
variable {X:Cx}{EV:Ag}{Y:List (Option V)}{H H':Hp}{s:Shared}{h':Heap}
def Cx.Ok.Q1 (ok:X.Ok) {b:Addr}{o:Obj}(e:X.base.get? b=some o):b∉X.fs:=λ hb=>by
 have:=(ok.uc.mem hb).1;rw[e] at this;cases this
theorem Inv.bs (I:Inv X EV Y H s):∀ b o,X.base.get? b=some o->s.heap.get? b=some o/\H b=none:=λ b o e=>
 ⟨I.base.keep b o (I.ok.bs b o e).1 (I.ok.bs b o e).2 (I.ok.Q1 e) (I.ok.oa b o e),I.base.free b o (I.ok.bs b o e).1 (I.ok.bs b o e).2 (I.ok.oa b o e)⟩
def Inv.bk (I:Inv X EV Y H s):∀ b o,X.base.get? b=some o->s.heap.get? b=some o:=λ b o e=>(I.bs b o e).1
theorem Inv.mod (I:Inv X EV Y H s):Mod X.K X.mg X.base:=I.ok.mod
def Inv.wR (I:Inv X EV Y H s):X.K.In s.heap:=I.ok.mod.jH.keeps I.bk
theorem Inv.lt (I:Inv X EV Y H s):X.env.locals<s.heap.objs.size:=let ⟨_,hn,_⟩:=I.loc;hn.lt
def Inv.sz (I:Inv X EV Y H s):X.s₀.heap.objs.size<=s.heap.objs.size:=A6 I.ok.above (A5 I.lt)
def Inv.d7 (I:Inv X EV Y H s) {a:Addr}(h:s.heap.objs.size<=a):a∉X.fs:=λ hb=>by
 obtain⟨_,o,ho,_⟩:=I.ok.uc.mem hb;exact absurd (A_ (Al ho) (A6 I.sz h)) (Bz _)
def Inv.rM (I:Inv X EV Y H s):∀ x c,X.env.cells.lookup x=some c->c≠X.env.locals:=λ x c e z=>by
 obtain⟨v,o,ho,hd⟩:=I.cell x c e;obtain⟨m,⟨o',es,ep,FV,Hk,_⟩,_⟩:=I.loc;rw[z,FV] at ho;cases ho;rw[Hk] at hd;cases hd
theorem Inv.uc (I:Inv X EV Y H s):s.heap.FunFrames X.base X.outer:=by
 have all:∀ (l:List Env),(∀ b∈vn l,b∈X.fs)->X.s₀.heap.FunFrames X.base l->s.heap.FunFrames X.base l:=by
  intro l
  induction l with
  | nil=>intro _ _;trivial
  | cons env r ih=>
   intro hs hl;obtain⟨hk,⟨L,o,hf,hn,ho,hd⟩,hr⟩:=hl;have hL:L∈X.fs:=hs L (by unfold vn;rw[Ck,hf];exact Ap);obtain⟨sl,e⟩:=I.base.slot L o ho (I.ok.qM L hL) hL λ z=>I.ok.oE L z hL;exact⟨hk,⟨L,_,hf,hn,e,hd⟩,ih (λ b hb=>hs b (by unfold vn;rw[Ck,hf];exact Av _ hb)) hr⟩
 exact all X.outer (λ _ hb=>hb) I.ok.uc
theorem Inv.stack (I:Inv X EV Y H s):s.heap.FunFrames X.base X.stack:=by
 rcases I.ok.mr with e | ⟨e,hf⟩
 .rw[e];exact I.uc
 .rw[e];obtain⟨m,hn,_⟩:=I.loc;refine .cons (by rw[I.ok.kind];decide) hf hn ?_ I.uc;exact Heap.get?_none_of_le (A6 I.ok.rN I.ok.above)
def Inv.kX (I:Inv X EV Y H s):∀ b∈vn X.stack,b∈X.env.locals::X.fs:=λ b hb=>by
 rcases I.ok.mr with e | ⟨e,hf⟩
 .rw[e] at hb;exact Av _ hb
 .rw[e] at hb;unfold vn at hb;rw[Ck,hf] at hb;exact hb
def Inv.fy (I:Inv X EV Y H s):∀ b∈vn X.stack,H b=none:=λ b hb=>by
 rcases Aj.mp (I.kX b hb) with e | hb
 .rw[e];exact I.free
 .obtain⟨_,o,ho,_⟩:=I.ok.uc.mem hb;exact I.base.free b o ho (I.ok.qM b hb) λ z=>I.ok.oE b z hb
def Inv.step {g':Array GenState}{t':Nat}{d':Drawn}{ch:List Addr}(I:Inv X EV Y H s)
  (BQ:∀ b∈ch,(b∈X.ex\/X.s₀.heap.objs.size<=b)/\b≠X.env.locals/\(∀ x c,X.env.cells.lookup x=some c->c≠b)/\∀ p∈X.pn++EV,p.1≠b)
  (keep:∀ b o,b≠X.env.locals->b∉X.fs->b∉ch->s.heap.get? b=some o->H b=none->h'.get? b=some o)
  (slot:∀ b o,b≠X.env.locals->b∈X.fs->b∉ch->s.heap.get? b=some o->H b=none->∃ sl,h'.get? b=some { o with slots:=sl }) (free:∀ b o,b∉ch->s.heap.get? b=some o->H b=none->H' b=none)
  (there:∀ b o,b∉ch->s.heap.get? b=some o->∃ o',h'.get? b=some o')
  (uw:∀ b xs,H b=some (.tup xs)->H' b=some (.tup xs)) (tN:∀ b o u,H b=some (.xJ o u)->H' b=some (.xJ o u)) (su:∀ b ps,H b=some (.rq ps)->∃ more,H' b=some (.rq (ps++more)))
  (ns:∀ m,s.heap.Ns X.env.locals m->h'.Ns X.env.locals m) (zr:yA X.prog X.w H' h') (hg:AllBare g'):
  Inv X EV Y H' { s with heap:=h',gens:=g',drawn:=d',toks:=t' }:=by
 have neL:∀ b o,X.s₀.heap.get? b=some o->b≠X.env.locals:=λ b o e=>AA (A_ (Al e) I.ok.above);have Jl:∀ b o,X.s₀.heap.get? b=some o->b∉X.ex->b∉ch:=λ b o e hx hb=>by
  rcases (BQ b hb).1 with z | z
  .exact hx z
  .exact absurd (A_ (Al e) z) (Bz _)
 have cellK:∀ x c,X.env.cells.lookup x=some c->∀ v,s.heap.IsCell c v->h'.IsCell c v:=λ x c e v ⟨o,ho,hd⟩=>by
  have IJ:c∉ch:=λ z=>(BQ c z).2.2.1 x c e rfl;by_cases hc:c∈X.fs
  .obtain⟨sl,q⟩:=slot c o (I.rM x c e) hc IJ ho (I.uG x c e);exact⟨_,q,hd⟩
  .exact⟨o,keep c o (I.rM x c e) hc IJ ho (I.uG x c e),hd⟩
 refine⟨I.ok,I.os,hg,⟨λ b o e n hb hx=>?_,λ b o e n hb hx=>?_,λ b o e n hx=>?_,λ b o e hx=>?_,λ b xs e=>uw b xs (I.base.uw b xs e),λ b o xs e=>tN b o xs (I.base.tN b o xs e),λ b ps e=>?_⟩,?_,λ x c e=>?_,?_,λ x c e=>?_,λ p hp=>?_,zr,I.len⟩
 .exact keep b o (neL b o e) hb (Jl b o e hx) (I.base.keep b o e n hb hx) (I.base.free b o e n hx)
 .obtain⟨sl,e1⟩:=I.base.slot b o e n hb hx;obtain⟨sl',e2⟩:=slot b _ (neL b o e) hb (Jl b o e hx) e1 (I.base.free b o e n hx);exact⟨sl',e2⟩
 .obtain⟨o',e1⟩:=I.base.there b o e hx;exact free b o' (Jl b o e hx) e1 (I.base.free b o e n hx)
 .obtain⟨o',e1⟩:=I.base.there b o e hx;exact there b o' (Jl b o e hx) e1
 .obtain⟨m1,e1⟩:=I.base.su b ps e;obtain⟨m2,e2⟩:=su b _ e1;exact⟨m1++m2,by rw[e2,Array.append_assoc]⟩
 .obtain⟨m,hn,hl⟩:=I.loc;refine⟨m,ns m hn,λ i x v e1 e2 e3=>?_⟩;obtain⟨u,r,l⟩:=hl i x v e1 e2 e3;refine⟨u,r,?_⟩;rcases l with l | ⟨k,c,e,z⟩
  .exact .inl l
  .exact .inr ⟨k,c,e,cellK x c e _ z⟩
 .obtain⟨v,z⟩:=I.cell x c e;exact⟨v,cellK x c e v z⟩
 .obtain⟨m,⟨o,_,_,ho,_⟩,_⟩:=I.loc;exact free _ o (λ z=>(BQ _ z).2.1 rfl) ho I.free
 .obtain⟨v,o,ho,hd⟩:=I.cell x c e;exact free c o (λ z=>(BQ c z).2.2.1 x c e rfl) ho (I.uG x c e)
 .obtain⟨e,n,ne,nf,d⟩:=I.pin p hp;have IJ:p.1∉ch:=λ z=>(BQ p.1 z).2.2.2 p hp rfl;exact⟨keep p.1 p.2 ne nf IJ e n,free p.1 p.2 IJ e n,ne,nf,d⟩
def Inv.un {t':Nat}(I:Inv X EV Y H s) (u:Un X.fs [] H H' s.heap h') (zr:yA X.prog X.w H' h'):Inv X EV Y H' { s with heap:=h',toks:=t' }:=by
 obtain⟨m,⟨o,es,ep,ho,r⟩,_⟩:=id I.loc;obtain⟨sl,hL⟩:=u.any ho I.free (by simp);exact I.step (g':=s.gens) (d':=s.drawn) (ch:=[]) (λ _ z=>nomatch z) (λ b o _ hb _ e n=>u.keep b o e n hb (by simp)) (λ b o _ hb _ e n=>u.slot b o e n hb (by simp)) (λ b o _ e n=>u.free b o e n (by simp)) (λ b o _ e=>u.there b o e (by simp)) u.uw u.tN u.su (λ m' hm=>by
  obtain⟨o',FW,Kp,FV,r'⟩:=hm;rw[ho] at FV;cases FV;exact⟨_,FW,Kp,hL,r'⟩) zr I.bare
def Inv.call {g':Array GenState}{t':Nat}{d':Drawn}{ch:List Addr}(I:Inv X EV Y H s) (u:Un (vn X.stack) ch H H' s.heap h') (zr:yA X.prog X.w H' h') (hg:AllBare g')
  (BQ:∀ b∈ch,(b∈X.ex\/X.s₀.heap.objs.size<=b)/\b≠X.env.locals/\(∀ x c,X.env.cells.lookup x=some c->c≠b)/\∀ p∈X.pn++EV,p.1≠b):
  Inv X EV Y H' { s with heap:=h',gens:=g',drawn:=d',toks:=t' }:=by
 obtain⟨m,⟨o,es,ep,ho,r⟩,_⟩:=id I.loc;obtain⟨sl,hL⟩:=u.any ho I.free λ z=>(BQ _ z).2.1 rfl;exact I.step (ch:=ch) BQ (λ b o hL hb hc e n=>u.keep b o e n (λ z=>(Aj.mp (I.kX b z)).elim hL hb) hc) (λ b o _ _ hc e n=>u.any e n hc) (λ b o hc e n=>u.free b o e n hc) (λ b o hc e=>u.there b o e hc) u.uw u.tN u.su (λ m' hm=>by
  obtain⟨o',FW,Kp,FV,r'⟩:=hm;rw[ho] at FV;cases FV;exact⟨_,FW,Kp,hL,r'⟩) zr hg
def Inv.turned {t':Nat}{it:Addr}(I:Inv X EV Y H s) (k:∀ b o,b≠it->s.heap.get? b=some o->h'.get? b=some o) (hn:H it=none) (hL:it≠X.env.locals)
  (h1:it∈X.ex\/X.s₀.heap.objs.size<=it) (h2:∀ x c,X.env.cells.lookup x=some c->c≠it) (h3:∀ p∈X.pn++EV,p.1≠it):Inv X EV Y H { s with heap:=h',toks:=t' }:=by
 have II:∀ b u,H b=some u->b≠it:=λ b u e z=>by rw[z,hn] at e;cases e
 refine I.step (g':=s.gens) (d':=s.drawn) (ch:=[it]) (λ b hb=>?_) (λ b o _ _ hc e _=>k b o (λ z=>hc (by simp[z])) e) (λ b o _ _ hc e _=>⟨o.slots,k b o (λ z=>hc (by simp[z])) e⟩) (λ _ _ _ _ n=>n)
  (λ b o hc e=>⟨o,k b o (λ z=>hc (by simp[z])) e⟩) (λ _ _ e=>e) (λ _ _ _ e=>e) (λ b ps e=>⟨#[],by rw[e];simp⟩) (λ m hm=>?_) (λ b u e=>?_) I.bare
 .have e:b=it:=by simpa using hb
  subst e;exact⟨h1,hL,h2,h3⟩
 .obtain⟨o,es,ep,ho,r⟩:=hm;exact⟨o,es,ep,k _ o (Ne.symm hL) ho,r⟩
 .refine (I.zr b u e).ux (λ c v hc q=>k c v ?_ q) (λ _ q=>q) λ _ _ q=>q;rcases hc with z | z
  .rw[z];exact II b u e
  .exact II c _ z
def Inv.tok (I:Inv X EV Y H s) (t:Nat):Inv X EV Y H { s with toks:=t }:=I.un (h':=s.heap) (t':=t) Un.refl I.zr
theorem Inv.kept {t':Nat}(I:Inv X EV Y H s) (k:∀ b u,s.heap.get? b=some u->h'.get? b=some u):Inv X EV Y H { s with heap:=h',toks:=t' }:=I.un (Un.kept k) (I.zr.kept k)
theorem Inv.laid {a:Addr}{o:HO}{t':Nat}(I:Inv X EV Y H s) (k:∀ b u,s.heap.get? b=some u->h'.get? b=some u) (hp:s.heap.objs.size<=a) (new:yE X.prog X.w (upd H a o) h' a o):
  Inv X EV Y (upd H a o) { s with heap:=h',toks:=t' }:=I.un (Un.laid k hp (I.zr.fresh hp)) (I.zr.laid k hp new)
theorem Inv.write {x e:Addr}{o:HO}{t':Nat}(I:Inv X EV Y H s) (mu:ny (H x)) (he:e=x\/H e=some (.own x)) (k:∀ b u,b≠e->s.heap.get? b=some u->h'.get? b=some u) (CO:∃ u,h'.get? e=some u)
  (new:yE X.prog X.w (upd H x o) h' x o):Inv X EV Y (upd H x o) { s with heap:=h',toks:=t' }:=I.un (Un.write mu he k CO) (I.zr.write mu he k CO new)
def Inv.jm {HH:Ag}(I:Inv X EV Y H s) (h:∀ p∈HH,s.heap.get? p.1=some p.2/\H p.1=none/\p.1≠X.env.locals/\p.1∉X.fs/\∀ v,p.2.data≠.cell v):Inv X HH Y H s:=
 ⟨I.ok,I.os,I.bare,I.base,I.loc,I.cell,I.free,I.uG,λ p hp=>(AZ.mp hp).elim (λ z=>I.pin p (CH _ z)) (h p),I.zr,I.len⟩
def dB {N:List Str}(hN:N.Nodup) {i j:Nat}{x:Str}(a:N[i]?=some x) (b:N[j]?=some x):i=j:=by
 obtain⟨h1,e1⟩:=AM.mp a;obtain⟨h2,e2⟩:=AM.mp b;exact (Ee hN).mp (e1.trans e2.symm)
def X0 {M:Model}{A:Around}{E:Af}{i:Nat}{x:Str}{v:V}{u:Value}{Q:Unit->Shared->Prop}(I:Inv X EV Y H s) (hN:X.N.Nodup) (hi:X.N[i]?=some x) (hx:Loc X.env.scope x) (r:RelV v u)
  (h:∀ s',Inv X EV (Y.set i (some v)) H s'->(∃ a,Heap.SameBut a s.heap s'.heap/\(a=X.env.locals\/X.env.cells.lookup x=some a))->Q () s') (hf:X.fn x=true\/X.env.scope.names.lookup x=some .local:=by first | exact .inl rfl | exact .inr rfl | assumption):wpAny M A (storeName X.env x u) Q E s:=by
 obtain⟨m,hn,hl⟩:=id I.loc;have EN:(X.env.scope.kind == .class||(X.env.scope.kind == .module&&X.env.locals != X.env.globals))=false:=by rw[I.ok.kind];rfl
 have hiσ:i < Y.length:=by rw[I.len];exact (AM.mp hi).1
 have rM:=I.rM;have tracked:∀ {a:Addr}{h':Heap},(∃ o,s.heap.get? a=some o/\H a=none)->Heap.SameBut a s.heap h'->yA X.prog X.w H h':=λ{a h'} ha hs b ob e=>by
  obtain⟨_,_,HL⟩:=ha;refine (I.zr b ob e).ux (λ c w' hc q=>(hs.2 c ?_).trans q) (λ _ q=>q) λ _ _ q=>q;rintro rfl;rcases hc with rfl | hc
  .rw[HL] at e;cases e
  .rw[HL] at hc;cases hc
 rcases hx with hk | hk
 .refine wpAny_storeName_local hk hn (λ h' G2 hs=>?_) EN;obtain⟨oL,_,_,Js,_⟩:=id hn;refine h _ ⟨I.ok,I.os,I.bare,⟨λ b o e n hb hx=>?_,λ b o e n hb hx=>?_,I.base.free,λ b o e hx=>?_,I.base.uw,I.base.tN,I.base.su⟩,⟨_,G2,λ j y v' e1 e2 e3=>?_⟩,λ y c e=>?_,I.free,I.uG,λ p hp=>?_,tracked ⟨oL,Js,I.free⟩ hs,by simpa using I.len⟩ ⟨_,hs,.inl rfl⟩
  .exact (hs.2 b (AA (A_ (Al e) I.ok.above))).trans (I.base.keep b o e n hb hx)
  .obtain⟨sl,e1⟩:=I.base.slot b o e n hb hx;exact⟨sl,(hs.2 b (AA (A_ (Al e) I.ok.above))).trans e1⟩
  .obtain⟨o',e1⟩:=I.base.there b o e hx;exact⟨o',(hs.2 b (AA (A_ (Al e) I.ok.above))).trans e1⟩
  .by_cases hj:j=i
   .subst hj;rw[hi] at e1;cases e1;rw[List.getElem?_set_self hiσ] at e2;cases e2;exact⟨u,r,.inl ⟨hk,by simp⟩⟩
   .rw[Ed (Ne.symm hj)] at e2;obtain⟨u',r',q⟩:=hl j y v' e1 e2 e3;refine⟨u',r',?_⟩;rcases q with ⟨k,e⟩ | ⟨k,c,e,z⟩
    .refine .inl ⟨k,?_⟩;have:y≠x:=λ e=>hj (dB hN e1 (e▸hi));simp[this,e]
    .exact .inr ⟨k,c,e,z.sameBut hs (rM y c e)⟩
  .obtain⟨w',z⟩:=I.cell y c e;exact⟨w',z.sameBut hs (rM y c e)⟩
  .obtain⟨e,n,ne,nf,d⟩:=I.pin p hp;exact⟨(hs.2 p.1 ne).trans e,n,ne,nf,d⟩
 .have B4:X.fn x=true:=by
   rcases hf with z | z
   .exact z
   .rw[z] at hk;cases hk
  obtain⟨c,hc⟩:=I.ok.has x (.inl hk);obtain⟨w',z⟩:=I.cell x c hc;refine wpAny_storeName_cell I.ok.kind hk hc z (λ h' Ka hs=>?_);obtain⟨oc,hoc,Ez⟩:=id z;refine h { s with heap:=h' } ⟨I.ok,I.os,I.bare,⟨λ b o e n hb hx=>?_,λ b o e n hb hx=>?_,I.base.free,λ b o e hx=>?_,I.base.uw,I.base.tN,I.base.su⟩,⟨m,hn.sameBut hs (Ne.symm (rM x c hc)),λ j y v' e1 e2 e3=>?_⟩,λ y c' e=>?_,I.free,I.uG,λ p hp=>?_,tracked ⟨oc,hoc,I.uG x c hc⟩ hs,by simpa using I.len⟩ ⟨c,hs,.inr hc⟩
  .exact (hs.2 b (AA (A_ (Al e) (I.ok.nc x c B4 hc)))).trans (I.base.keep b o e n hb hx)
  .obtain⟨sl,e1⟩:=I.base.slot b o e n hb hx;exact⟨sl,(hs.2 b (AA (A_ (Al e) (I.ok.nc x c B4 hc)))).trans e1⟩
  .obtain⟨o',e1⟩:=I.base.there b o e hx;exact⟨o',(hs.2 b (AA (A_ (Al e) (I.ok.nc x c B4 hc)))).trans e1⟩
  .by_cases hj:j=i
   .subst hj;rw[hi] at e1;cases e1;rw[List.getElem?_set_self hiσ] at e2;cases e2;exact⟨u,r,.inr ⟨.inl hk,c,hc,Ka⟩⟩
   .rw[Ed (Ne.symm hj)] at e2;obtain⟨u',r',q⟩:=hl j y v' e1 e2 e3;refine⟨u',r',?_⟩;rcases q with q | ⟨k,c',e,z'⟩
    .exact .inl q
    .refine .inr ⟨k,c',e,z'.sameBut hs ?_⟩;rintro rfl;exact hj (dB hN e1 (I.ok.inj _ _ _ e hc▸hi))
  .by_cases hcc:c'=c
   .subst hcc;exact⟨_,Ka⟩
   .obtain⟨w2,z2⟩:=I.cell y c' e;exact⟨w2,z2.sameBut hs hcc⟩
  .obtain⟨e,n,ne,nf,d⟩:=I.pin p hp;refine⟨(hs.2 p.1 ?_).trans e,n,ne,nf,d⟩;intro q;rw[q,hoc] at e;have q':oc=p.2:=A7 e;exact d w' (by rw[<- q'];exact Ez)
def kW {M:Model}{A:Around}{E:Af}{i:Nat}{x:Str}{v:V}{u:Value}{Q:Unit->Shared->Prop}(I:Inv X EV Y H s) (hN:X.N.Nodup) (hi:X.N[i]?=some x) (hx:Loc X.env.scope x) (r:RelV v u)
  (h:∀ s',Inv X EV (Y.set i (some v)) H s'->Q () s') (hf:X.fn x=true\/X.env.scope.names.lookup x=some .local:=by first | exact .inl rfl | exact .inr rfl | assumption):wpAny M A (storeName X.env x u) Q E s:=
 X0 I hN hi hx r (λ s' I' _=>h s' I') hf
def Inv.Mb {s':Shared}{ch:List Addr}(I:Inv X EV Y H s) (ho:s'.os=s.os) (u:Un (vn X.stack) ch H H' s.heap s'.heap) (zr:yA X.prog X.w H' s'.heap) (hg:AllBare s'.gens)
  (BQ:∀ b∈ch,(b∈X.ex\/X.s₀.heap.objs.size<=b)/\b≠X.env.locals/\(∀ x c,X.env.cells.lookup x=some c->c≠b)/\∀ p∈X.pn++EV,p.1≠b):Inv X EV Y H' s':=by
 obtain⟨h',g',d',t',o'⟩:=s';have e:o'=s.os:=ho;subst e;exact I.call (g':=g') (t':=t') (d':=d') u zr hg BQ
end
abbrev XK:=Value->Option Addr->Hp->Prop
abbrev St:=List (Option V)
abbrev VK:=V->Hp->Prop
abbrev TE:=St->Hp->VK->Prop
abbrev TT:=St->Hp->(Bool->Hp->Prop)->Prop
abbrev TA:=St->Hp->(List V->Hp->Prop)->Prop
structure Ends where
 nx:St->Hp->Prop
 rt:VK
 bk:St->Hp->Prop:=λ _ _=>False
 ct:St->Hp->Prop:=λ _ _=>False
abbrev TS:=Ends->St->Hp->Prop
def EP (X:Cx) (EV:Ag) (Y:St) (Q:VK) (u:Value) (s':Shared):Prop:=∃ v H',Inv X EV Y H' s'/\RelV v u/\Q v H'
def TP (X:Cx) (EV:Ag) (Y:St) (Q:Bool->Hp->Prop) (b:Bool) (s':Shared):Prop:=∃ H',Inv X EV Y H' s'/\Q b H'
def AP (X:Cx) (EV:Ag) (Y:St) (Q:List V->Hp->Prop) (us:Ad) (s':Shared):Prop:=∃ vs H',Inv X EV Y H' s'/\Vals vs us/\Q vs H'
def SP (X:Cx) (EV:Ag) (D:Ends) (f:Flow) (s':Shared):Prop:=
 match f with
 | .next=>∃ Y' H',Inv X EV Y' H' s'/\D.nx Y' H'
 | .brk=>∃ Y' H',Inv X EV Y' H' s'/\D.bk Y' H'
 | .cont=>∃ Y' H',Inv X EV Y' H' s'/\D.ct Y' H'
 | .ret u=>∃ v Y' H',Inv X EV Y' H' s'/\RelV v u/\D.rt v H'
def PE (X:Cx) (e:Expr) (t:TE):Prop:=
 ∀ (EV:Ag) (s:Shared) (Y:St) (H:Hp) (Q:VK),Inv X EV Y H s->t Y H Q->wpAny (model X.prog X.w) X.A (eval e X.env) (EP X EV Y Q) X.xe s
def PT (X:Cx) (e:Expr) (t:TT):Prop:=
 ∀ (EV:Ag) (s:Shared) (Y:St) (H:Hp) (Q:Bool->Hp->Prop),Inv X EV Y H s->t Y H Q->wpAny (model X.prog X.w) X.A (isTrue e X.env (eval e X.env)) (TP X EV Y Q) X.xe s
def PW (X:Cx) (e:Expr) (t:TT):Prop:=
 ∀ (whole:Sem Value) (EV:Ag) (s:Shared) (Y:St) (H:Hp) (Q:Bool->Hp->Prop),Inv X EV Y H s->t Y H Q->wpAny (model X.prog X.w) X.A (isTrue e X.env whole) (TP X EV Y Q) X.xe s
def PW.pt {X:Cx}{e:Expr}{t:TT}(h:PW X e t):PT X e t:=h _
def PA (X:Cx) (es:List Expr) (t:TA):Prop:=
 ∀ (pos:Pos) (EV:Ag) (s:Shared) (Y:St) (H:Hp) (Q:List V->Hp->Prop),Inv X EV Y H s->t Y H Q->wpAny (model X.prog X.w) X.A (spliced (backTo pos (starEach es X.env))) (AP X EV Y Q) X.xe s
def PS (X:Cx) (st:Stmt) (t:TS):Prop:=
 ∀ (EV:Ag) (s:Shared) (Y:St) (H:Hp) (D:Ends),Inv X EV Y H s->t D Y H->wpAny (model X.prog X.w) X.A (exec st X.env) (SP X EV D) X.xe s
def xF (X:Cx) (st:List Stmt) (t:TS):Prop:=
 ∀ (EV:Ag) (s:Shared) (Y:St) (H:Hp) (D:Ends),Inv X EV Y H s->t D Y H->wpAny (model X.prog X.w) X.A (execs st X.env) (SP X EV D) X.xe s
def zv {α:Type}{t:Sem α}{Q Q':α->Shared->Prop}{M:Model}{A:Around}{E:Af}{s:Shared}(h:wpAny M A t Q E s) (hQ:∀ a s,Q a s->Q' a s):wpAny M A t Q' E s:=KH h hQ λ _ _ x=>x
section
variable {X:Cx}
def kS (i:Nat):TE:=fun Y H Q=>∃ v,Y[i]?=some (some v)/\Q v H
def tC (v:V):TE:=λ _ H Q=>Q v H
def Vf {i:Nat}{x:Str}{pos:Pos}(hN:X.N[i]?=some x) (hv:ko X.env.scope x) (hd:(x == ("__debug__":Str))=false:=by decide) (Bv:(x == ("__classdict__":Str))=false:=by decide):PE X (.Name x pos) (kS i):=by
 intro EV s Y H Q I h;obtain⟨v,e,h⟩:=h;obtain⟨m,hn,hl⟩:=I.loc;obtain⟨u,r,l⟩:=hl i x v hN e hv;have fin:EP X EV Y Q u s:=⟨v,H,I,r,h⟩
 rcases l with ⟨hk,hm⟩ | ⟨hk,c,hc,HN⟩
 .exact wpAny_Name (wpAny_loadName_local I.ok.kind hk hn hm fin) hd
 .rcases hk with hk | hk
  .exact wpAny_Name (wpAny_loadName_cell I.ok.kind hk hc HN fin) hd
  .exact wpAny_Name (wpAny_loadName_free I.ok.kind hk hc HN fin Bv) hd
def Vs {i j pos}:PE X (.Constant (.int i) j pos) (tC (.int i)):=λ _ _ _ H _ I h=>wpAny_Constant_int ⟨.int i,H,I.tok _,⟨_,rfl⟩,h⟩
def V3 {b j pos}:PE X (.Constant (.bool b) j pos) (tC (.bl b)):=λ _ _ _ H _ I h=>Constant_bool ⟨.bl b,H,I,rfl,h⟩
def Vo {j pos}:PE X (.Constant .none j pos) (tC .zm):=λ _ _ _ H _ I h=>Constant_none ⟨.zm,H,I,rfl,h⟩
def Vi {x j pos}:PE X (.Constant (.str x) j pos) (tC (.str x)):=λ _ _ _ H _ I h=>Calls.Constant_str ⟨.str x,H,I.tok _,⟨_,rfl⟩,h⟩
def Gl (X:Cx) (x:Str):Prop:=X.env.kindOf x=some .globalImplicit
def cu {E:Af}{EV:Ag}{s:Shared}{Y:St}{H:Hp}{x:Str}{u:Value}{pos:Pos}{Q:Af}(I:Inv X EV Y H s) (hg:Gl X x) (hm:X.mg x=some u) (h:Q u s)
  (hd:(x == ("__debug__":Str))=false:=by decide):wpAny (model X.prog X.w) X.A (eval (.Name x pos) X.env) Q E s:=
 Calls.Name_function_global I.ok.kind hg (Calls.loadGlobal_global (by rw[I.ok.glob];exact I.mod.glob.keeps I.bk) hm h) hd
def tJ {E:Af}{EV:Ag}{s:Shared}{Y:St}{H:Hp}{x:Str}{u:Value}{pos:Pos}{Q:Af}(I:Inv X EV Y H s) (hg:Gl X x) (hm:X.mg x=none) (hv:bootBuiltins x=some u) (h:Q u s)
  (hn:x≠"__name__":=by decide) (hd:(x == ("__debug__":Str))=false:=by decide):wpAny (model X.prog X.w) X.A (eval (.Name x pos) X.env) Q E s:=by
 obtain⟨mb,h1,h2⟩:=I.mod.blt;exact Calls.Name_function_global I.ok.kind hg (Calls.loadGlobal_builtin (by rw[I.ok.glob];exact I.mod.glob.keeps I.bk) hm (by rw[I.ok.blt];exact h1.keeps I.bk) ((h2 x hn).trans hv) h) hd
def eV {x:Str}{v:V}{u:Value}{pos:Pos}(hg:Gl X x) (hm:X.mg x=some u) (r:RelV v u) (hd:(x == ("__debug__":Str))=false:=by decide):PE X (.Name x pos) (tC v):=
 λ _ _ _ H _ I h=>cu I hg hm ⟨v,H,I,r,h⟩ hd
def V2 {x:Str}{v:V}{u:Value}{pos:Pos}(hg:Gl X x) (hm:X.mg x=none) (hv:bootBuiltins x=some u) (r:RelV v u) (hn:x≠"__name__":=by decide) (hd:(x == ("__debug__":Str))=false:=by decide):PE X (.Name x pos) (tC v):=
 λ _ _ _ H _ I h=>tJ I hg hm hv ⟨v,H,I,r,h⟩ hn hd
variable {a b:Expr}{ta tb:TE}{pos:Pos}
variable {tA Ji:TT}{EX:List Expr}
def Xu (t u:TT):TT:=fun Y H Q=>t Y H λ c H1=>if c=true then u Y H1 Q else Q false H1
def Xf (t u:TT):TT:=fun Y H Q=>t Y H λ c H1=>if c=true then Q true H1 else u Y H1 Q
def Xh (t:TT):TT:=fun Y H Q=>t Y H λ c H1=>Q (!c) H1
def Wt (ha:PT X a tA):PW X (.BoolOp .And [a] pos) tA:=by
 intro wh EV s Y H Q I h;refine isTrue_and (zv (ha EV s Y H Q I h) λ c s1 e=>?_);cases c with
 | true=>exact isTrue_and_nil e
 | false=>exact e
def Wr (ha:PT X a tA):PW X (.BoolOp .Or [a] pos) tA:=by
 intro wh EV s Y H Q I h;refine isTrue_or (zv (ha EV s Y H Q I h) λ c s1 e=>?_);cases c with
 | false=>exact isTrue_or_nil e
 | true=>exact e
def Wu (ha:PT X a tA) (hb:PW X (.BoolOp .And (b::EX) pos) Ji):PW X (.BoolOp .And (a::b::EX) pos) (Xu tA Ji):=by
 intro wh EV s Y H Q I h;refine isTrue_and (zv (ha EV s Y H _ I h) λ c s1 ⟨H1,I1,q1⟩=>?_);cases c with
 | true=>exact hb wh EV s1 Y H1 Q I1 q1
 | false=>exact⟨H1,I1,q1⟩
def Ws (ha:PT X a tA) (hb:PW X (.BoolOp .Or (b::EX) pos) Ji):PW X (.BoolOp .Or (a::b::EX) pos) (Xf tA Ji):=by
 intro wh EV s Y H Q I h;refine isTrue_or (zv (ha EV s Y H _ I h) λ c s1 ⟨H1,I1,q1⟩=>?_);cases c with
 | true=>exact⟨H1,I1,q1⟩
 | false=>exact hb wh EV s1 Y H1 Q I1 q1
def Wz (ha:PT X a tA):PT X (.UnaryOp .Not a pos) (Xh tA):=by
 intro EV s Y H Q I h;exact isTrue_not (ha EV s Y H (λ c H1=>Q (!c) H1) I h)
def Xt (ta tb:TE):TE:=fun Y H Q=>ta Y H λ x H1=>∃ c,x=.bl c/\if c=true then tb Y H1 Q else Q (.bl false) H1
def Xg (ta:TE):TE:=fun Y H Q=>ta Y H λ x H1=>∃ c,x=.bl c/\Q (.bl (!c)) H1
def Vm {op} {t:TE}(h:PE X a t):PE X (.BoolOp op [a] pos) t:=λ EV s Y H Q I hw=>BoolOp_one (h EV s Y H Q I hw)
def V4 (ha:PE X a ta) (hb:PE X (.BoolOp .And (b::EX) pos) tb):PE X (.BoolOp .And (a::b::EX) pos) (Xt ta tb):=by
 intro EV s Y H Q I h;refine BoolOp_and (zv (ha EV s Y H _ I h) λ v s1 ⟨x,H1,I1,r1,q1⟩=>?_);obtain⟨c,rfl,q1⟩:=q1;cases r1;refine KR ?_;cases c with
 | true=>exact hb EV s1 Y H1 Q I1 q1
 | false=>exact⟨.bl false,H1,I1,rfl,q1⟩
def Vn (ha:PE X a ta):PE X (.UnaryOp .Not a pos) (Xg ta):=by
 intro EV s Y H Q I h;refine UnaryOp_ (zv (ha EV s Y H _ I h) λ v s1 ⟨x,H1,I1,r1,q1⟩=>?_);obtain⟨c,rfl,q1⟩:=q1;cases r1;exact not_of (KR ⟨.bl (!c),H1,I1,rfl,q1⟩)
def Xm (t:TT) (ta tb:TE):TE:=fun Y H Q=>t Y H λ c H1=>if c=true then ta Y H1 Q else tb Y H1 Q
def Vu {c:Expr}(hc:PT X c tA) (ha:PE X a ta) (hb:PE X b tb):PE X (.IfExp c a b pos) (Xm tA ta tb):=by
 intro EV s Y H Q I h;refine wpAny_IfExp (zv (hc EV s Y H _ I h) λ d s1 ⟨H1,I1,q1⟩=>?_);cases d with
 | true=>exact ha EV s1 Y H1 Q I1 q1
 | false=>exact hb EV s1 Y H1 Q I1 q1
end
def zJ (K:Ac) (H:Hp) (a:Addr) (xs:List V):Prop:=
 Rd H a (.lst xs)\/
  ∃ (o:Obj) (its:An) (n:Nat),K.lookup a=some o/\o.cls=.type "list"/\o.dict=none/\o.data=.seq its n/\its.size<=sizeLine/\Vals xs its.toList
def zN (K:Ac) (H:Hp) (a:Addr) (xs:List V):Prop:=
 Rd H a (.tup xs)\/
  ∃ (o:Obj) (its:An) (n:Nat),K.lookup a=some o/\(o.cls=.type "tuple"/\o.dict=none)/\o.data=.seq its n/\its.size<=sizeLine/\Vals xs its.toList
noncomputable def M8:Value->Option V
 | .none=>some .zm
 | .bool b=>some (.bl b)
 | .int i _=>some (.int i)
 | .str x _=>some (.str x)
 | .bytes b _=>some (.l_ b)
 | .float b _=>some (.bx b)
 | .ref a=>some (.ref a)
 | .type n=>some (.ty n)
 | _=>none
def RelV.abs {x:V}{u:Value}(r:RelV x u):M8 u=some x:=by
 cases x with
 | zm=>cases r;rfl
 | bl _=>cases r;rfl
 | ref _=>cases r;rfl
 | ty _=>cases r;rfl
 | _=>obtain⟨t,rfl⟩:=r;rfl
theorem RelV.inj {x y:V}{u:Value}(r:RelV x u) (q:RelV y u):x=y:=A7 (r.abs.symm.trans q.abs)
theorem Vals.inj:∀ {xs ys:List V}{us:Ad},Vals xs us->Vals ys us->xs=ys
 | _,_,_,.nil,.nil=>rfl
 | _,_,_,.cons r t,.cons r' t'=>by rw[r.inj r',Vals.inj t t']
section
variable {X:Cx}{EV:Ag}{Y:St}{H:Hp}{s:Shared}{a:Addr}{xs ys:List V}
def zJ.of {K:Ac}(h:H a=some (.lst xs)):zJ K H a xs:=.inl (.inl h)
def zN.of {K:Ac}(h:H a=some (.tup xs)):zN K H a xs:=.inl (.inl h)
def Inv.list (I:Inv X EV Y H s) (h:zJ X.K H a xs):∃ its:List Value,Vals xs its/\PlainL s.heap a its.toArray/\xs.length<=sizeLine:=by
 rcases h with h | ⟨o,its,n,hk,hc,hd,hs,hz,r⟩
 .obtain⟨z,its,n,r,e⟩:=h.ok I.zr;exact⟨its,r,⟨_,n,e,rfl,rfl,rfl⟩,z⟩
 .refine⟨its.toList,r,⟨o,n,I.wR a o hk,hc,hd,by simpa using hs⟩,?_⟩;have e:=r.length;simp only[Bj] at e;lia
def Inv.tuple (I:Inv X EV Y H s) (h:zN X.K H a xs):∃ its:List Value,Vals xs its/\IsTup s.heap a its.toArray/\xs.length<=sizeLine:=by
 rcases h with h | ⟨o,its,n,hk,hc,hs,hz,r⟩
 .obtain⟨z,its,r,p⟩:=h.ok I.zr;exact⟨its,r,p,z.1⟩
 .refine⟨its.toList,r,⟨o,I.wR a o hk,hc.1,n,by simpa using hs⟩,?_⟩;have e:=r.length;simp only[Bj] at e;lia
def Inv.jC (I:Inv X EV Y H s) (h:zJ X.K H a xs) (h':zJ X.K H a ys):xs=ys:=by
 obtain⟨its,r,⟨o,n,e,_,_,d⟩,_⟩:=I.list h;obtain⟨AL,r',⟨o',n',e',_,_,d'⟩,_⟩:=I.list h';rw[e] at e';cases e';rw[d] at d'
 injection d' with d1 _
 have:its=AL:=by simpa using congrArg Array.toList d1
 subst this;exact r.inj r'
def Inv.kQ (I:Inv X EV Y H s) (h:zN X.K H a xs) (h':zN X.K H a ys):xs=ys:=by
 obtain⟨its,r,⟨o,e,_,n,d⟩,_⟩:=I.tuple h;obtain⟨AL,r',⟨o',e',_,n',d'⟩,_⟩:=I.tuple h';rw[e] at e';cases e';rw[d] at d'
 injection d' with d1 _
 have:its=AL:=by simpa using congrArg Array.toList d1
 subst this;exact r.inj r'
end
abbrev Cx.uq (X:Cx) (E:Af):Cx:={ X with xe:=E }
abbrev Cx.wQ (X:Cx):Cx:=X.uq λ _ _=>False
theorem Cx.Ok.uq {X:Cx}(ok:X.Ok) (E:Af):(X.uq E).Ok:=
 ⟨ok.mod,ok.kind,ok.glob,ok.blt,ok.above,ok.inj,ok.has,ok.nc,ok.hd,ok.frames,ok.mr,ok.ig,ok.bs,ok.rN,ok.oa,ok.oE,ok.uc,ok.qM⟩
def Cx.Ok.qh {X:Cx}{E:Af}(ok:(X.uq E).Ok):X.Ok:=
 ⟨ok.mod,ok.kind,ok.glob,ok.blt,ok.above,ok.inj,ok.has,ok.nc,ok.hd,ok.frames,ok.mr,ok.ig,ok.bs,ok.rN,ok.oa,ok.oE,ok.uc,ok.qM⟩
section
variable {X:Cx}{EV:Ag}{Y:St}{H:Hp}{s:Shared}{E:Af}
theorem Inv.uq (I:Inv X EV Y H s) (E:Af):Inv (X.uq E) EV Y H s:=⟨I.ok.uq E,I.os,I.bare,I.base,I.loc,I.cell,I.free,I.uG,I.pin,I.zr,I.len⟩
theorem Inv.qh (I:Inv (X.uq E) EV Y H s):Inv X EV Y H s:=⟨I.ok.qh,I.os,I.bare,I.base,I.loc,I.cell,I.free,I.uG,I.pin,I.zr,I.len⟩
theorem SP.qh {D:Ends}{f:Flow}{s':Shared}(h:SP (X.uq E) EV D f s'):SP X EV D f s':=by
 cases f with
 | ret u=>obtain⟨v,Y',H',I,r,q⟩:=h;exact⟨v,Y',H',I.qh,r,q⟩
 | _=>obtain⟨Y',H',I,q⟩:=h;exact⟨Y',H',I.qh,q⟩
theorem xF.wQ {st:List Stmt}{t:TS}(h:xF X.wQ st t):xF X st t:=λ EV s Y H D I hw=>
 KH (h EV s Y H D (I.uq _) hw) (λ _ _ q=>q.qh) λ _ _ z=>False.elim z
end
section
variable {X:Cx}{st:Stmt}{EX:List Stmt}{t u:TS}{e:Expr}{te:TE}{pos:Pos}
def Xj:TS:=λ D Y H=>D.nx Y H
def Xc (t u:TS):TS:=λ D Y H=>t { D with nx:=u D } Y H
def W4:xF X [] Xj:=λ _ _ Y H _ I h=>wpAny_execs_nil ⟨Y,H,I,h⟩
def W5 (h1:PS X st t) (h2:xF X EX u):xF X (st::EX) (Xc t u):=by
 intro EV s Y H D I h;refine wpAny_execs_cons (zv (h1 EV s Y H { D with nx:=u D } I h) λ f s1 q=>?_);cases f with
 | next=>
  obtain⟨Y',H',I',q⟩:=q;exact h2 EV s1 Y' H' D I' q
 | ret v=>exact q
 | _=>exact q
def W3 (h1:PS X st t):xF X [st] t:=by
 intro EV s Y H D I h;refine wpAny_execs_cons (zv (h1 EV s Y H D I h) λ f s1 q=>?_);cases f with
 | next=>exact wpAny_execs_nil q
 | ret v=>exact q
 | _=>exact q
def Inv.quiet {EV:Ag}{Y:St}{H:Hp}{s:Shared}(I:Inv X EV Y H s):interactive X.env=false:=by simp[interactive,I.ok.kind]
def Xp (te:TE):TS:=λ D Y H=>te Y H λ _ H1=>D.nx Y H1
def WC (he:PE X e te) (hs:swapsWith e none pos.line X.env=pure false:=by rfl):PS X (.Expr e pos) (Xp te):=by
 intro EV s Y H D I h;exact wpAny_Expr_any (zv (he EV s Y H _ I h) λ v s1 ⟨x,H1,I1,r1,q1⟩=>⟨Y,H1,I1,q1⟩) I.quiet hs
def Xd (te:TE):TS:=λ D Y H=>te Y H D.rt
def W9 (he:PE X e te):PS X (.Return (some e) pos) (Xd te):=by
 intro EV s Y H D I h;exact wpAny_Return_some (zv (he EV s Y H _ I h) λ v s1 ⟨x,H1,I1,r1,q1⟩=>⟨x,Y,H1,I1,r1,q1⟩)
def Xl (c:TT) (t u:TS):TS:=λ D Y H=>c Y H λ b H1=>if b=true then t D Y H1 else u D Y H1
def WA {c:Expr}{a b:List Stmt}{tc:TT}(hc:PT X c tc) (ha:xF X a t) (hb:xF X b u):PS X (.If c a b pos) (Xl tc t u):=by
 intro EV s Y H D I h;refine wpAny_If (zv (hc EV s Y H _ I h) λ d s1 ⟨H1,I1,q1⟩=>?_);cases d with
 | true=>exact ha EV s1 Y H1 D I1 q1
 | false=>exact hb EV s1 Y H1 D I1 q1
end
abbrev TG:=V->St->Hp->(St->Hp->Prop)->Prop
abbrev tT:=List V->St->Hp->(St->Hp->Prop)->Prop
def PG (X:Cx) (target:Expr) (t:TG):Prop:=
 ∀ (EV:Ag) (s:Shared) (Y:St) (H:Hp) (v:V) (u:Value) (Q:St->Hp->Prop),Inv X EV Y H s->RelV v u->t v Y H Q->
  wpAny (model X.prog X.w) X.A (assign target X.env u) (λ _ s'=>∃ Y' H',Inv X EV Y' H' s'/\Q Y' H') X.xe s
def uV (X:Cx) (ts:List Expr) (t:tT):Prop:=
 ∀ (EV:Ag) (s:Shared) (Y:St) (H:Hp) (vs:List V) (us:Ad) (Q:St->Hp->Prop),Inv X EV Y H s->Vals vs us->t vs Y H Q->
  wpAny (model X.prog X.w) X.A (assignInOrder ((assignEach ts X.env).map (·.2)) us) (λ _ s'=>∃ Y' H',Inv X EV Y' H' s'/\Q Y' H') X.xe s
abbrev iX:=V->V->V->Hp->(Hp->Prop)->Prop
def Zd (X:Cx) (t:iX):Prop:=
 ∀ (EV:Ag) (s:Shared) (Y:St) (H:Hp) (o i v:V) (ov iv u:Value) (Q:Hp->Prop),Inv X EV Y H s->RelV o ov->RelV i iv->RelV v u->t o i v H Q->
  wpAny (model X.prog X.w) X.A (setItem ov iv u) (λ _ s'=>∃ H',Inv X EV Y H' s'/\Q H') X.xe s
section
variable {X:Cx}{pos:Pos}
noncomputable def qL (i:Nat):TG:=λ v Y H Q=>Q (Y.set i (some v)) H
def W_ {i:Nat}{x:Str}(hN:X.N.Nodup) (hi:X.N[i]?=some x) (hx:Loc X.env.scope x) (hf:X.fn x=true\/X.env.scope.names.lookup x=some .local:=by first | exact .inl rfl | exact .inr rfl | assumption):PG X (.Name x pos) (qL i):=by
 intro EV s Y H v u Q I r h;exact wpAny_assign_Name (kW I hN hi hx r (λ s' I'=>⟨_,H,I',h⟩) hf)
noncomputable def O9:tT:=λ vs Y H Q=>vs=[]/\Q Y H
noncomputable def OA (t:TG) (u:tT):tT:=λ vs Y H Q=>∃ v r,vs=v::r/\t v Y H fun Y' H'=>u r Y' H' Q
def WW:uV X [] O9:=by
 intro EV s Y H vs us Q I r h;obtain⟨e,h⟩:=h;subst e;cases r;exact assignInOrder_nil ⟨Y,H,I,h⟩
def WX {e:Expr}{es:List Expr}{t:TG}{u:tT}(h1:PG X e t) (h2:uV X es u)
  (hs:(assignEach (e::es) X.env).map (·.2)=assign e X.env::(assignEach es X.env).map (·.2):=by rfl):uV X (e::es) (OA t u):=by
 intro EV s Y H vs us Q I r h;obtain⟨v,vr,e1,h⟩:=h;subst e1;cases r with
 | cons r rr=>
  rw[hs];refine assignInOrder_cons (zv (h1 EV s Y H _ _ _ I r h) λ _ s1 ⟨Y1,H1,I1,q1⟩=>?_);exact h2 EV s1 Y1 H1 _ _ Q I1 rr q1
noncomputable def bh (K:Ac) (n:Nat) (t:tT):TG:=λ v Y H Q=>∃ a xs,v=.ref a/\zN K H a xs/\xs.length=n/\t xs Y H Q
def WY {es:List Expr}{k:Nat}{t:tT}{n:Nat}(hc:X.calm=true) (h:uV X es t)
  (hn:(assignEach es X.env).length=n:=by rfl) (AX:(assignEach es X.env).findIdx? (·.1)=none:=by rfl):PG X (.Tuple es k pos) (bh X.K n t):=by
 intro EV s Y H v u Q I r hw;obtain⟨a,xs,e1,hq,hl,hw⟩:=hw;subst e1;cases r;obtain⟨its,rv,ht,hz⟩:=I.tuple hq;refine assign_Tuple_tuple (I.ok.hd hc) ht (by simp[hn,<- hl,rv.length]) AX λ h' hx=>?_;have I1:Inv X EV Y H { s with heap:=h' }:=I.kept (t':=s.toks) λ b o e=>hx b o (AA (Al e)) e;exact h EV _ Y H xs _ Q I1 (by simpa using rv) hw
noncomputable def O8 (to ti:TE) (t:iX):TG:=λ v Y H Q=>to Y H λ o H1=>ti Y H1 λ i H2=>t o i v H2 λ H3=>Q Y H3
def WZ {o i:Expr}{to ti:TE}{t:iX}(ho:PE X o to) (hi:PE X i ti) (hs:Zd X t)
  (ha:∀ v,assign (.Subscript o i pos) X.env v=(do
   let ov <- holding [v] (eval o X.env)
   let iv <- holding [v,ov] (eval i X.env)
   standAt pos
   holding [v,ov,iv] (setItem ov iv v)
   release [v,ov,iv] []):=by intro _;rfl):PG X (.Subscript o i pos) (O8 to ti t):=by
 intro EV s Y H v u Q I r h;rw[ha];refine JA (KC (zv (ho EV s Y H _ I h) λ ov s1 ⟨x,H1,I1,r1,q1⟩=>?_));refine JA (KC (zv (hi EV s1 Y H1 _ I1 q1) λ iv s2 ⟨y,H2,I2,r2,q2⟩=>?_));refine JA (wpAny_standAt (JA (KC (zv (hs EV s2 Y H2 x y v ov iv u _ I2 r1 r2 r q2) λ _ s3 ⟨H3,I3,q3⟩=>?_))));exact wpAny_release ⟨Y,H3,I3,q3⟩
def pJ (te:TE) (g:TG):TS:=λ D Y H=>te Y H λ x H1=>g x Y H1 D.nx
def eQ {tg e:Expr}{te:TE}{g:TG}(he:PE X e te) (hg:PG X tg g) (hs:swapsWithSole [tg] e pos.line X.env=pure false:=by rfl) (hw:swappedStores [tg] e X.env=pure none:=by rfl)
  (h1:(assignEach [tg] X.env).map (·.2)=[assign tg X.env]:=by rfl):PS X (.Assign [tg] e pos) (pJ te g):=by
 intro EV s Y H D I h;refine wpAny_Assign_stores (zv (he EV s Y H _ I h) λ v s1 ⟨x,H1,I1,r1,q1⟩=>?_) hs hw;rw[h1];exact zv (hg EV s1 Y H1 x v _ I1 r1 q1) λ _ s2 q=>q
def W8 {i:Nat}{x:Str}{e:Expr}{te:TE}{pos':Pos}(hN:X.N.Nodup) (hi:X.N[i]?=some x) (hx:Loc X.env.scope x) (he:PE X e te) (hs:swapsWith e (some (.Name x pos')) pos.line X.env=pure false:=by rfl) (hf:X.fn x=true\/X.env.scope.names.lookup x=some .local:=by first | exact .inl rfl | exact .inr rfl | assumption):
  PS X (.Assign [.Name x pos'] e pos) (pJ te (qL i)):=by
 intro EV s Y H D I h;refine wpAny_Assign_Name (zv (he EV s Y H _ I h) λ v s1 ⟨y,H1,I1,r1,q1⟩=>?_) hs;exact kW I1 hN hi hx r1 (λ s2 I2=>⟨_,H1,I2,q1⟩) hf
def YZ (c:TT) (tb:TS):TS:=λ D Y H=>∃ W:Nat->St->Hp->Prop,(∃ m,W m Y H)/\∀ m Y H,W m Y H->
 c Y H λ b H1=>if b=true then ∃ N:St->Hp->Prop,(∀ Y' H',N Y' H'->∃ m',m'<m/\W m' Y' H')/\tb { D with nx:=N,ct:=N,bk:=D.nx } Y H1 else D.nx Y H1
def W6 {c:Expr}{body:List Stmt}{tc:TT}{tb:TS}(hp:PassesOwn (model X.prog X.w) X.A X.env X.xe) (hc:PT X c tc) (hb:xF X body tb):PS X (.While c body [] pos) (YZ tc tb):=by
 intro EV s Y H D I h;obtain⟨W,⟨m0,w0⟩,turn⟩:=h;refine wpAny_While (codeAny_whileLoop (λ n s'=>∃ Y' H',Inv X EV Y' H' s'/\W n Y' H') ?_ m0 ⟨Y,H,I,w0⟩);rintro n s1 ⟨Y1,H1,I1,w1⟩;refine KY hp (zv (hc EV s1 Y1 H1 _ I1 (turn n Y1 H1 w1)) λ b s2 ⟨H2,I2,q2⟩=>?_);cases b with
 | true=>
  obtain⟨N,hN,q2⟩:=q2;rw[if_pos rfl];refine KY hp (zv (hb EV s2 Y1 H2 _ I2 q2) λ f s3 q3=>?_);cases f with
  | next=>
   obtain⟨Y3,H3,I3,n3⟩:=q3;obtain⟨m',hm,w3⟩:=hN Y3 H3 n3;exact⟨m',hm,Y3,H3,I3,w3⟩
  | cont=>
   obtain⟨Y3,H3,I3,n3⟩:=q3;obtain⟨m',hm,w3⟩:=hN Y3 H3 n3;exact⟨m',hm,Y3,H3,I3,w3⟩
  | brk=>exact q3
  | ret v=>exact q3
 | false=>
  rw[if_neg BM];exact wpAny_execs_nil ⟨Y1,H2,I2,q2⟩
end
structure It where
 go:Nat->Hp->Prop
 qg:Nat->Hp->V->Hp->Prop
 stop:Nat->Hp->Prop
def vy (X:Cx) (EV:Ag) (H:Hp) (b:Addr):Prop:=
 H b=none/\b≠X.env.locals/\b∉X.fs/\(b∈X.ex\/X.s₀.heap.objs.size<=b)/\(∀ x c,X.env.cells.lookup x=some c->c≠b)/\∀ p∈X.pn++EV,p.1≠b
def Inv.o8 {X:Cx}{EV:Ag}{Y:St}{H H':Hp}{s:Shared}{b:Addr}(I:Inv X EV Y H s) (hb:s.heap.objs.size<=b) (hn:H' b=none):vy X EV H' b:=by
 refine⟨hn,Bw (A_ I.lt hb),I.d7 hb,.inr (A6 I.sz hb),λ x c e z=>?_,λ p hp z=>?_⟩
 .obtain⟨v,q⟩:=I.cell x c e;exact absurd (A_ q.lt (by rw[z];exact hb)) (Bz _)
 .exact absurd (A_ (Al (I.pin p hp).1) (by rw[z];exact hb)) (Bz _)
structure Turn (P:Program) (w:World) (K:Ac) (tg:Expr) (J:It) (fp:List Addr) (it:Addr) (tn:Nat->Heap->Prop):Prop where
 mem:it∈fp
 obj:∀ i h,tn i h->∀ b∈fp,∃ o,h.get? b=some o/\∀ v,o.data≠.cell v
 keep:∀ i h h',tn i h->(∀ b∈fp,∀ o,h.get? b=some o->h'.get? b=some o)->tn i h'
 item:∀ (X:Cx),X.prog=P->X.w=w->X.K=K->X.calm=true->∀ (i:Nat) (EV:Ag) (s:Shared) (Y:St) (H:Hp) (E:Af),Inv X EV Y H s->(∀ b∈fp,vy X EV H b)->tn i s.heap->J.go i H->
  wpAny (model P w) X.A (pyNext (.ref it)) (λ r s1=>∃ u,r=some u/\
   wpAny (model P w) X.A (letOwnedTupleGo tg (.ref it) u) (λ _ s2=>∃ x H',Inv X EV Y H' s2/\RelV x u/\J.qg i H x H'/\tn (i+1) s2.heap/\∀ b∈fp,H' b=none) E s1) E s
 done:∀ (X:Cx),X.prog=P->X.w=w->X.K=K->X.calm=true->∀ (i:Nat) (EV:Ag) (s:Shared) (Y:St) (H:Hp) (E:Af),Inv X EV Y H s->(∀ b∈fp,vy X EV H b)->tn i s.heap->J.stop i H->
  wpAny (model P w) X.A (pyNext (.ref it)) (λ r s1=>r=none/\Inv X EV Y H s1) E s
 self:∀ (A:Around) (i:Nat) (s:Shared) (Q:Af) (E:Af),tn i s.heap->Q (.ref it) s->wpAny (model P w) A (pyIter (.ref it)) Q E s
abbrev TI:=St->Hp->(It->Hp->Prop)->Prop
def iY (X:Cx) (EV:Ag) (Y:St) (tg:Expr) (R:It->Hp->Prop) (Jm:Value) (s2:Shared):Prop:=
 ∃ (it:Addr) (fp:List Addr) (tn:Nat->Heap->Prop) (J:It) (H':Hp),Jm=.ref it/\Inv X EV Y H' s2/\Turn X.prog X.w X.K tg J fp it tn/\tn 0 s2.heap/\(∀ b∈fp,vy X EV H' b)/\R J H'
def PI (X:Cx) (tg iter:Expr) (wi:TI):Prop:=
 ∀ (EV:Ag) (s:Shared) (Y:St) (H:Hp) (R:It->Hp->Prop),Inv X EV Y H s->wi Y H R->
  wpAny (model X.prog X.w) X.A (eval iter X.env) (λ v s1=>wpAny (model X.prog X.w) X.A (pyIter v) (iY X EV Y tg R) X.xe s1) X.xe s
def lh {M:Model}{A:Around}{E:Af}{s:Shared}{tg:Expr}{it:Addr}{u:Value}{o:Obj}{n:String}{vs:An}{Q:Unit->Shared->Prop}(ho:s.heap.get? it=some o) (hc:o.cls=.type n) (hd:o.data=.fields vs)
  (hn:["enumerate","zip","dict_itemiterator","dict_reverseitemiterator","odict_iterator","itertools.zip_longest","itertools.pairwise"].contains n=false) (hQ:Q () s):wpAny M A (letOwnedTupleGo tg (.ref it) u) Q E s:=by
 unfold letOwnedTupleGo;cases tg <;> first
  | exact Ab hQ
  | (cases u <;> first
    | exact Ab hQ
    | (refine JA (wpAny_load ho ?_)
       rw[hc,hd];show wpAny M A (if (["enumerate","zip","dict_itemiterator","dict_reverseitemiterator","odict_iterator","itertools.zip_longest","itertools.pairwise"].contains n&&vs[0]? == some (rawInt _))=true then _ else _) Q E s;rw[if_neg (by intro h;rw[hn,Bool.false_and] at h;cases h)];exact Ab hQ))
def Zk (K:Ac) (a:Addr):It:=
 ⟨λ i H=>∃ xs x,zJ K H a xs/\xs[i]?=some x,λ i H x H'=>H'=H/\∀ xs,zJ K H a xs->xs[i]?=some x,λ i H=>∃ xs,zJ K H a xs/\xs.length<=i⟩
def Zj (K:Ac) (a:Addr):It:=
 ⟨λ i H=>∃ xs x,zN K H a xs/\xs[i]?=some x,λ i H x H'=>H'=H/\∀ xs,zN K H a xs->xs[i]?=some x,λ i H=>∃ xs,zN K H a xs/\xs.length<=i⟩
def k7 (lo:Int) (n:Nat):It:=⟨λ i _=>i<n,λ i H x H'=>H'=H/\x=.int (lo+i),λ i _=>n<=i⟩
def YS {P:Program}{w:World}{K:Ac}{tg:Expr}(a it:Addr):Turn P w K tg (Zk K a) [it] it (λ i h=>h.IsListIter it a i) where
 mem:=by simp
 obj:=λ i h st b hb=>by
  have e:b=it:=by simpa using hb
  subst e;obtain⟨o,e,c,d⟩:=st;exact⟨o,e,λ v z=>by rw[d] at z;cases z⟩
 keep:=λ i h h' st k=>st.at λ o e=>k it (by simp) o e
 item:=by
  intro X hP hw hK hc i EV s Y H E I hf st hg;subst hP hw hK;obtain⟨xs,x,hq,hx⟩:=hg;obtain⟨its,rv,p,hz⟩:=I.list hq;obtain⟨u,hu,ru⟩:=rv.get hx;obtain⟨f0,f1,f2,f3,f4,f5⟩:=hf it (by simp);refine wpAny_pyNext_list_item st p.isList (x:=u) (by simpa using hu) λ h' GC sb=>?_;have I1:Inv X EV Y H { s with heap:=h' }:=I.turned (t':=s.toks) (λ b o hb e=>(sb.2 b hb).trans e) f0 f1 f3 f4 f5;obtain⟨o,e,c,d⟩:=id GC;exact⟨u,rfl,lh (s:={ s with heap:=h' }) e c d (by decide) ⟨x,H,I1,ru,⟨rfl,λ ys hy=>by rw[I.jC hy hq];exact hx⟩,GC,λ b hb=>(hf b hb).1⟩⟩
 done:=by
  intro X hP hw hK hc i EV s Y H E I hf st hg;subst hP hw hK;obtain⟨xs,hq,hx⟩:=hg;obtain⟨its,rv,p,hz⟩:=I.list hq;obtain⟨f0,f1,f2,f3,f4,f5⟩:=hf it (by simp);have hl:=rv.length;exact wpAny_pyNext_list_end (I.ok.hd hc) st p.isList (by simp;lia) λ h' eb=>⟨rfl,I.turned (t':=s.toks) (λ b o hb e=>eb b o hb e) f0 f1 f3 f4 f5⟩
 self:=λ _ _ _ _ _ st h=>wpAny_pyIter_listiter st h
def YO {P:Program}{w:World}{K:Ac}{tg:Expr}(a it:Addr):Turn P w K tg (Zj K a) [it] it (λ i h=>h.IsTupleIter it a i) where
 mem:=by simp
 obj:=λ i h st b hb=>by
  have e:b=it:=by simpa using hb
  subst e;obtain⟨o,e,c,d⟩:=st;exact⟨o,e,λ v z=>by rw[d] at z;cases z⟩
 keep:=λ i h h' st k=>st.at λ o e=>k it (by simp) o e
 item:=by
  intro X hP hw hK hc i EV s Y H E I hf st hg;subst hP hw hK;obtain⟨xs,x,hq,hx⟩:=hg;obtain⟨its,rv,p,hz⟩:=I.tuple hq;obtain⟨u,hu,ru⟩:=rv.get hx;obtain⟨f0,f1,f2,f3,f4,f5⟩:=hf it (by simp);refine wpAny_pyNext_tuple_item st (show s.heap.IsTuple a its.toArray from p) (x:=u) (by simpa using hu) λ h' GC sb=>?_;have I1:Inv X EV Y H { s with heap:=h' }:=I.turned (t':=s.toks) (λ b o hb e=>(sb.2 b hb).trans e) f0 f1 f3 f4 f5;obtain⟨o,e,c,d⟩:=id GC;exact⟨u,rfl,lh (s:={ s with heap:=h' }) e c d (by decide) ⟨x,H,I1,ru,⟨rfl,λ ys hy=>by rw[I.kQ hy hq];exact hx⟩,GC,λ b hb=>(hf b hb).1⟩⟩
 done:=by
  intro X hP hw hK hc i EV s Y H E I hf st hg;subst hP hw hK;obtain⟨xs,hq,hx⟩:=hg;obtain⟨its,rv,p,hz⟩:=I.tuple hq;obtain⟨f0,f1,f2,f3,f4,f5⟩:=hf it (by simp);have hl:=rv.length;exact wpAny_pyNext_tuple_end (I.ok.hd hc) st (show s.heap.IsTuple a its.toArray from p) (by simp;lia) λ h' eb=>⟨rfl,I.turned (t':=s.toks) (λ b o hb e=>eb b o hb e) f0 f1 f3 f4 f5⟩
 self:=λ _ _ _ _ _ st h=>wpAny_pyIter_tupleiter st h
def YR {P:Program}{w:World}{K:Ac}{tg:Expr}(it:Addr) (lo:Int) (n:Nat):Turn P w K tg (k7 lo n) [it] it (λ i h=>IsRangeIter h it (lo+(i:Nat)*1) ((n:Int)-(i:Nat)) 1) where
 mem:=by simp
 obj:=λ i h st b hb=>by
  have e:b=it:=by simpa using hb
  subst e;exact⟨_,st,λ v z=>by
   have z':Data.fields _=Data.cell v:=z;cases z'⟩
 keep:=λ i h h' st k=>k it (by simp) _ st
 item:=by
  intro X hP hw hK hc i EV s Y H E I hf st hg;subst hP hw hK;obtain⟨f0,f1,f2,f3,f4,f5⟩:=hf it (by simp);have W:=Walks.range (prog:=X.prog) (w:=X.w) (I.ok.hd hc) it lo 1 n;refine W.item i s _ _ hg st λ v h' tk hv GC kk=>?_;obtain⟨t,rfl⟩:=hv;have I1:Inv X EV Y H { s with heap:=h',toks:=tk }:=I.turned (λ b o hb e=>kk b o (by simpa using hb) e) f0 f1 f3 f4 f5;refine⟨_,rfl,lh (s:={ s with heap:=h',toks:=tk }) (n:="range_iterator") GC rfl rfl (by decide) ⟨.int (lo+i),H,I1,⟨t,?_⟩,⟨rfl,rfl⟩,GC,λ b hb=>(hf b hb).1⟩⟩;rw[Int.mul_one]
 done:=by
  intro X hP hw hK hc i EV s Y H E I hf st hg;subst hP hw hK;obtain⟨f0,f1,f2,f3,f4,f5⟩:=hf it (by simp);exact wpAny_pyNext_range_end (I.ok.hd hc) st (by have:n<=i:=hg;lia) λ h' eb=>⟨rfl,I.turned (t':=s.toks) (λ b o hb e=>eb b o hb e) f0 f1 f3 f4 f5⟩
 self:=λ _ _ _ _ _ st h=>wpAny_pyIter_rangeiter st h
section
variable {X:Cx}{tg:Expr}
def Wi {EV:Ag}{Y:St}{H:Hp}{s:Shared}{R:It->Hp->Prop}{E:Af}{lo hi:Int}{t u v:Tok}{tk:Nat}(I:Inv X EV Y H s) (h1:-(2 ^ 62)<=lo) (h2:lo<2 ^ 62) (h3:-(2 ^ 62)<=hi) (h4:hi<2 ^ 62)
  (q:R (k7 lo (hi-lo).toNat) H):wpAny (model X.prog X.w) X.A (pyIter (.ref s.heap.objs.size)) (iY X EV Y tg R) E { s with heap:=s.heap.push { cls:=.type "range",data:=.fields #[.int lo t,.int hi u,.int 1 v] },toks:=tk }:=by
 refine wpAny_pyIter_range (IsRange.new ..) (small_one h1 h2 h3 h4) ?_;have I1:Inv X EV Y H { s with heap:=s.heap.push { cls:=.type "range",data:=.fields #[.int lo t,.int hi u,.int 1 v] },toks:=tk }:=I.kept λ b o e=>Ky _ e;refine⟨(s.heap.push { cls:=.type "range",data:=.fields #[.int lo t,.int hi u,.int 1 v] }).objs.size,[(s.heap.push { cls:=.type "range",data:=.fields #[.int lo t,.int hi u,.int 1 v] }).objs.size],_,_,H,rfl,
  I1.kept (t':=tk) λ b o e=>Ky _ e,YR _ lo (hi-lo).toNat,?_,λ b hb=>?_,q⟩
 .have e1:lo+((0:Nat):Int)*1=lo:=by simp
  have e2:(((hi-lo).toNat:Nat):Int)-((0:Nat):Int)=Builtin.Range.rangeSize lo hi 1:=by rw[rangeSize_one];split <;> lia
  show IsRangeIter _ _ (lo+((0:Nat):Int)*1) ((((hi-lo).toNat:Nat):Int)-((0:Nat):Int)) 1;rw[e1,e2];exact AG _ rfl
 .have e:b=(s.heap.push { cls:=.type "range",data:=.fields #[.int lo t,.int hi u,.int 1 v] }).objs.size:=by simpa using hb
  subst e;exact I1.o8 (Ah _) (I1.zr.fresh (Ah _))
def cX (ta:TA):TI:=fun Y H R=>ta Y H λ vs H1=>∃ j:Int,vs=[.int j]/\-(2 ^ 62)<=j/\j<2 ^ 62/\R (k7 0 j.toNat) H1
def WU {a:Expr}{ta:TA}{p pos:Pos}(hg:Gl X "range") (hm:X.mg "range"=none) (ha:PA X [a] ta) (hs:starEach [a] X.env=[(false,eval a X.env)]:=by rfl):PI X tg (.Call (.Name "range" p) [a] [] pos) (cX ta):=by
 intro EV s Y H R I h;refine Call_ (tJ I hg hm boot_range (PyProof.Rows.callWith_type1 (zv (ha pos EV s Y H _ I h) λ us s1 ⟨vs,H1,I1,r1,q1⟩=>?_) hs rfl));obtain⟨j,e,q1,q2,q⟩:=q1;subst e;cases r1 with
 | cons r rr=>
  cases rr;obtain⟨t,rfl⟩:=r;exact call_range_1 (Wi I1 (by lia) (by lia) q1 q2 (by simpa using q))
def Xo (wi:TI) (g:TG) (tb:TS):TS:=λ D Y H=>wi Y H λ J H1=>∃ W:Nat->Nat->St->Hp->Prop,(∃ m,W 0 m Y H1)/\∀ i m Y H,W i m Y H->
 (J.stop i H/\D.nx Y H)\/(J.go i H/\∃ N:St->Hp->Prop,(∀ Y' H',N Y' H'->∃ m',m'<m/\W (i+1) m' Y' H')/\∀ x H',J.qg i H x H'->g x Y H' fun Y2 H2=>tb { D with nx:=N,ct:=N,bk:=D.nx } Y2 H2)
noncomputable def pV (fp:List Addr) (h:Heap):Ag:=fp.filterMap λ b=>(h.get? b).map λ o=>(b,o)
def mQ {fp:List Addr}{h:Heap}{b:Addr}{o:Obj}(hb:b∈fp) (e:h.get? b=some o):(b,o)∈pV fp h:=Eb.mpr ⟨b,hb,by rw[e];rfl⟩
def Qv {fp:List Addr}{h:Heap}{p:Addr×Obj}(hp:p∈pV fp h):p.1∈fp/\h.get? p.1=some p.2:=by
 obtain⟨b,hb,e⟩:=Eb.mp hp;cases q:h.get? b with
 | none=>rw[q] at e;cases e
 | some o=>
  rw[q] at e;have e':(b,o)=p:=A7 e;subst e';exact⟨hb,q⟩
def Inv.pinned {EV:Ag}{Y:St}{H:Hp}{s:Shared}{fp:List Addr}(I:Inv X EV Y H s) (hf:∀ b∈fp,vy X EV H b) (ho:∀ b∈fp,∃ o,s.heap.get? b=some o/\∀ v,o.data≠.cell v):Inv X (EV++pV fp s.heap) Y H s:=
 I.jm λ p hp=>(AZ.mp hp).elim (λ z=>I.pin p (A2 _ z)) λ z=>by
  obtain⟨hb,e⟩:=Qv z;obtain⟨f0,f1,f2,_⟩:=hf p.1 hb;obtain⟨o,e',d⟩:=ho p.1 hb;rw[e] at e';cases e';exact⟨e,f0,f1,f2,d⟩
def Inv.pF {EV pl:Ag}{Y:St}{H:Hp}{s:Shared}(I:Inv X (EV++pl) Y H s):Inv X EV Y H s:=I.jm λ p hp=>I.pin p (A2 _ (CH _ hp))
def WB {iter:Expr}{body:List Stmt}{wi:TI}{g:TG}{tb:TS}{pos:Pos}(hp:PassesOwn (model X.prog X.w) X.A X.env X.xe) (hc:X.calm=true) (hi:PI X tg iter wi) (hg:PG X tg g) (hb:xF X body tb)
  (hs:∀ x,foldedSetIterable iter X.env x=pure x:=by intro _;rfl):PS X (.For tg iter body [] pos) (Xo wi g tb):=by
 intro EV s Y H D I h;refine wpAny_For (zv (hi EV s Y H _ I h) λ v s1 h1=>zv h1 λ Jm s2 h2=>?_) hs;obtain⟨it,fp,tn,J,H2,e,I2,T,IA,f2,W,⟨m0,w0⟩,turn⟩:=h2;subst e;have GO:∀ {H':Hp},(∀ b∈fp,H' b=none)->∀ b∈fp,vy X EV H' b:=λ hn b hb=>⟨hn b hb,(f2 b hb).2⟩;refine codeAny_forLoop_any (λ n s'=>∃ i Y' H',Inv X EV Y' H' s'/\tn i s'.heap/\(∀ b∈fp,H' b=none)/\W i n Y' H') ?_ m0 ⟨0,Y,H2,I2,IA,λ b hb=>(f2 b hb).1,w0⟩;rintro n s3 ⟨i,Y3,H3,I3,Iz,Je,w3⟩;rcases turn i n Y3 H3 w3 with ⟨stop,qn⟩ | ⟨go,N,hN,step⟩
 .refine KY hp (zv (T.done X rfl rfl rfl hc i EV s3 Y3 H3 X.xe I3 (GO Je) Iz stop) λ r s4 ⟨hr,I4⟩=>?_);subst hr;exact wpAny_execs_nil ⟨Y3,H3,I4,qn⟩
 .refine KY hp (zv (T.item X rfl rfl rfl hc i EV s3 Y3 H3 X.xe I3 (GO Je) Iz go) λ r s4 ⟨u,hr,h4⟩=>?_);subst hr;refine KY hp (zv h4 λ _ s5 ⟨x,H5,I5,r5,y5,HV,Kn⟩=>?_);have Kx:=I5.pinned (GO Kn) (T.obj _ _ HV);refine KY hp (zv (hg _ s5 Y3 H5 x u _ Kx r5 (step x H5 y5)) λ _ s6 ⟨Y6,H6,I6,q6⟩=>?_);refine KY hp (zv (hb _ s6 Y6 H6 _ I6 q6) λ f s7 q7=>?_);have again:∀ {Y7:St}{H7:Hp},Inv X (EV++pV fp s5.heap) Y7 H7 s7->N Y7 H7->∃ m,m<n/\∃ i Y' H',Inv X EV Y' H' s7/\tn i s7.heap/\(∀ b∈fp,H' b=none)/\W i m Y' H':=λ{Y7 H7} I7 n7=>by
   obtain⟨m',hm,w7⟩:=hN Y7 H7 n7;refine⟨m',hm,i+1,Y7,H7,I7.pF,T.keep _ _ _ HV λ b hb o e=>(I7.pin (b,o) (A2 _ (A2 _ (mQ hb e)))).1,λ b hb=>?_,w7⟩;obtain⟨o,e,d⟩:=T.obj _ _ HV b hb;exact (I7.pin (b,o) (A2 _ (A2 _ (mQ hb e)))).2.1
  cases f with
  | brk=>obtain⟨Y7,H7,I7,q7⟩:=q7;exact⟨Y7,H7,I7.pF,q7⟩
  | ret v=>obtain⟨x7,Y7,H7,I7,r7,q7⟩:=q7;exact⟨x7,Y7,H7,I7.pF,r7,q7⟩
  | _=>obtain⟨Y7,H7,I7,n7⟩:=q7;exact again I7 n7
end
abbrev R2:=V->V->Hp->VK->Prop
def zT (X:Cx) (f:Value->Value->Sem Value) (r:R2):Prop:=
 ∀ (EV:Ag) (s:Shared) (Y:St) (H:Hp) (x y:V) (v u:Value) (Q:VK),Inv X EV Y H s->RelV x v->RelV y u->r x y H Q->
  wpAny (model X.prog X.w) X.A (f v u) (EP X EV Y Q) X.xe s
def iV (X:Cx) (f:Value->Sem Value) (r:V->Hp->VK->Prop):Prop:=
 ∀ (EV:Ag) (s:Shared) (Y:St) (H:Hp) (x:V) (v:Value) (Q:VK),Inv X EV Y H s->RelV x v->r x H Q->
  wpAny (model X.prog X.w) X.A (f v) (EP X EV Y Q) X.xe s
def yC (X:Cx) (f:Value) (r:List V->Hp->VK->Prop):Prop:=
 ∀ (EV:Ag) (s:Shared) (Y:St) (H:Hp) (xs:List V) (us:Ad) (Q:VK),Inv X EV Y H s->Vals xs us->r xs H Q->
  wpAny (model X.prog X.w) X.A (call f us) (EP X EV Y Q) X.xe s
def M9 (X:Cx) (r:V->Hp->(Bool->Hp->Prop)->Prop):Prop:=
 ∀ (EV:Ag) (s:Shared) (Y:St) (H:Hp) (x:V) (v:Value) (Q:Bool->Hp->Prop),Inv X EV Y H s->RelV x v->r x H Q->
  wpAny (model X.prog X.w) X.A (truthy v) (TP X EV Y Q) X.xe s
def pG (r:R2) (ta tb:TE):TE:=fun Y H Q=>ta Y H λ x H1=>tb Y H1 λ y H2=>r x y H2 Q
def Y_ (r:V->Hp->VK->Prop) (ta:TE):TE:=fun Y H Q=>ta Y H λ x H1=>r x H1 Q
def rI (C:Int->Int->Prop) (g:Int->Int->V):R2:=λ x y H Q=>∃ i j,x=.int i/\y=.int j/\C i j/\Q (g i j) H
def vg (g:Int->Int->V):R2:=λ x y H Q=>∃ i j,x=.int i/\y=.int j/\Q (g i j) H
def rU (g:Int->V):V->Hp->VK->Prop:=λ x H Q=>∃ i,x=.int i/\Q (g i) H
section
variable {X:Cx}{a b:Expr}{ta tb:TE}{pos:Pos}
def iE (ha:PE X a ta) (hb:PE X b tb) {EV:Ag}{s:Shared}{Y:St}{H:Hp}{R:V->V->Hp->Prop}(I:Inv X EV Y H s)
  (h:ta Y H λ x H1=>tb Y H1 λ y H2=>R x y H2) {Q:Af}{f:Value->Value->Sem Value}
  (hf:∀ v u s2 x y H2,Inv X EV Y H2 s2->RelV x v->RelV y u->R x y H2->wpAny (model X.prog X.w) X.A (f v u) Q X.xe s2):
  wpAny (model X.prog X.w) X.A (eval a X.env) (λ v s₁=>wpAny (model X.prog X.w) X.A (eval b X.env) (λ u s₂=>wpAny (model X.prog X.w) X.A (f v u) Q X.xe s₂) X.xe s₁) X.xe s:=by
 refine zv (ha EV s Y H _ I h) λ v s1 ⟨x,H1,I1,r1,q1⟩=>?_;refine zv (hb EV s1 Y H1 _ I1 q1) λ u s2 ⟨y,H2,I2,r2,q2⟩=>?_;exact hf v u s2 x y H2 I2 r1 r2 q2
def Vl {op:Operator}{r:R2}(ho:zT X (binaryOp op) r) (ha:PE X a ta) (hb:PE X b tb):PE X (.BinOp a op b pos) (pG r ta tb):=by
 intro EV s Y H Q I h;exact wpAny_BinOp (iE ha hb I h λ v u s2 x y H2 I2 rx ry q=>ho EV s2 Y H2 x y v u Q I2 rx ry q)
def Vg {op:UnaryOp}{r:V->Hp->VK->Prop}(ho:iV X (unaryOp op) r) (ha:PE X a ta):PE X (.UnaryOp op a pos) (Y_ r ta):=by
 intro EV s Y H Q I h;exact UnaryOp_ (zv (ha EV s Y H _ I h) λ v s1 ⟨x,H1,I1,r1,q1⟩=>ho EV s1 Y H1 x v Q I1 r1 q1)
def qx {f:Value->Value->Sem Value}{C:Int->Int->Prop}{g:Int->Int->Int}
  (rule:∀ (i j:Int) (t u:Tok) (s:Shared) (Q:Af) (E:Af),C i j->Q (.int (g i j) s.toks) { s with toks:=s.toks+1 }->wpAny (model X.prog X.w) X.A (f (.int i t) (.int j u)) Q E s):
  zT X f (rI C λ i j=>.int (g i j)):=by
 intro EV s Y H x y v u Q I rx ry h;obtain⟨i,j,rfl,rfl,hc,q⟩:=h;obtain⟨t,rfl⟩:=rx;obtain⟨t',rfl⟩:=ry;exact rule i j t t' s _ _ hc ⟨.int (g i j),H,I.tok _,⟨_,rfl⟩,q⟩
def dn {f:Value->Value->Sem Value}{g:Int->Int->Int}
  (rule:∀ (i j:Int) (t u:Tok) (s:Shared) (Q:Af) (E:Af),Q (.int (g i j) s.toks) { s with toks:=s.toks+1 }->wpAny (model X.prog X.w) X.A (f (.int i t) (.int j u)) Q E s):
  zT X f (vg λ i j=>.int (g i j)):=by
 intro EV s Y H x y v u Q I rx ry h;obtain⟨i,j,rfl,rfl,q⟩:=h;obtain⟨t,rfl⟩:=rx;obtain⟨t',rfl⟩:=ry;exact rule i j t t' s _ _ ⟨.int (g i j),H,I.tok _,⟨_,rfl⟩,q⟩
def js {f:Value->Value->Sem Value}{g:Int->Int->Bool}
  (rule:∀ (i j:Int) (t u:Tok) (s:Shared) (Q:Af) (E:Af),Q (.bool (g i j)) s->wpAny (model X.prog X.w) X.A (f (.int i t) (.int j u)) Q E s):
  zT X f (vg λ i j=>.bl (g i j)):=by
 intro EV s Y H x y v u Q I rx ry h;obtain⟨i,j,rfl,rfl,q⟩:=h;obtain⟨t,rfl⟩:=rx;obtain⟨t',rfl⟩:=ry;exact rule i j t t' s _ _ ⟨.bl (g i j),H,I,rfl,q⟩
def xG (i j:Int):Prop:=0<j/\j<1073741824
def rm (i j:Int):Prop:=0<=j/\j<=1000000/\i.natAbs<2 ^ 64
def v5 (i j:Int):Prop:=(-(2 ^ 64)<i/\i<2 ^ 64)\/(-(2 ^ 64)<j/\j<2 ^ 64)
def v5.ok {i j:Int}(h:v5 i j):IntMulOk i j:=by
 rcases h with ⟨h1,h2⟩ | ⟨h1,h2⟩
 .exact .of_left (intBits_le_64 h1 h2)
 .exact .of_right (intBits_le_64 h1 h2)
def TY:zT X (binaryOp .Add) (vg λ i j=>.int (i+j)):=dn λ _ _ _ _ _ _ _ q=>add_int q
def T3:zT X (binaryOp .Sub) (vg λ i j=>.int (i-j)):=dn λ _ _ _ _ _ _ _ q=>sub_int q
def TB:zT X (binaryOp .Mult) (rI v5 λ i j=>.int (i*j)):=qx λ _ _ _ _ _ _ _ hc q=>mul_int q hc.ok
def TQ:zT X (binaryOp .FloorDiv) (rI xG λ i j=>.int (i/j)):=qx λ i j _ _ _ _ _ hc q=>by
 have h1:(0:Int)<j:=hc.1;have h2:j<1073741824:=hc.2;exact floordiv_int (by lia) (by rw[Int.fdiv_eq_ediv_of_nonneg i (by lia)];exact q) (.inl (PyProof.noPylong_small (by lia)))
def TC:zT X (binaryOp .Mod) (rI (λ _ j=>0<j) λ i j=>.int (i%j)):=qx λ i j _ _ _ _ _ hc q=>by
 have h1:(0:Int)<j:=hc;exact mod_int' (by lia) (by rw[Int.fmod_eq_emod_of_nonneg i (by lia)];exact q)
def T4:zT X (binaryOp .Pow) (rI rm λ i j=>.int (i ^ j.toNat)):=qx λ _ _ _ _ _ _ _ hc q=>pow_int_small hc.1 hc.2.1 hc.2.2 q
def YK {f:Value->Sem Value}{g:Int->Int}
  (rule:∀ (i:Int) (t:Tok) (s:Shared) (Q:Af) (E:Af),Q (.int (g i) s.toks) { s with toks:=s.toks+1 }->wpAny (model X.prog X.w) X.A (f (.int i t)) Q E s):
  iV X f (rU λ i=>.int (g i)):=by
 intro EV s Y H x v Q I rx h;obtain⟨i,rfl,q⟩:=h;obtain⟨t,rfl⟩:=rx;exact rule i t s _ _ ⟨.int (g i),H,I.tok _,⟨_,rfl⟩,q⟩
def YJ:iV X (unaryOp .USub) (rU λ i=>.int (-i)):=YK λ _ _ _ _ _ q=>neg_int q
end
section
variable {X:Cx}{a b c:Expr}{ta tb tc:TE}{pos:Pos}
def OM {EV:Ag}{Y:St}{H:Hp}{s:Shared}{Q:VK}{k k':Bool}(I:Inv X EV Y H s) (q:Q (.bl k) H) (e:k=k'):EP X EV Y Q (.bool k') s:=by
 subst e;exact⟨.bl k,H,I,rfl,q⟩
def TH:zT X (compareOp .Lt) (vg λ i j=>.bl (decide (i<j))):=js λ _ _ _ _ _ _ _ q=>lt_int q
def qw:zT X (compareOp .LtE) (vg λ i j=>.bl (decide (i<=j))):=js λ _ _ _ _ _ _ _ q=>le_int q
def TL:zT X (compareOp .GtE) (vg λ i j=>.bl (decide (j<=i))):=js λ _ _ _ _ _ _ _ q=>ge_int q
def TJ:zT X (compareOp .Is) (λ x y H Q=>y=.zm/\Q (.bl (decide (x=.zm))) H):=by
 intro EV s Y H x y v u Q I rx ry h;obtain⟨rfl,q⟩:=h;cases ry;refine is_none_gen (OM I q ?_);cases x <;> first
  | (cases rx;rfl)
  | (obtain⟨t,rfl⟩:=rx;rfl)
def zT.or {f:Value->Value->Sem Value}{r r':R2}(h:zT X f r) (h':zT X f r'):zT X f (λ x y H Q=>r x y H Q\/r' x y H Q):=by
 intro EV s Y H x y v u Q I rx ry q;rcases q with q | q
 .exact h EV s Y H x y v u Q I rx ry q
 .exact h' EV s Y H x y v u Q I rx ry q
def tF (b:Expr) {op:CmpOp}(h:op≠.In:=by decide) (h2:op≠.NotIn:=by decide):behindInMarks op b=false:=by
 have e1:(op == CmpOp.In)=false:=by cases op <;> first | rfl | exact absurd rfl h
 have e2:(op == CmpOp.NotIn)=false:=by cases op <;> first | rfl | exact absurd rfl h2
 cases b <;> simp[behindInMarks,e1,e2]
def Vz {op:CmpOp}{r:R2}(ho:zT X (compareOp op) r) (ha:PE X a ta) (hb:PE X b tb) (hm:behindInMarks op b=false):PE X (.Compare a [op] [b] pos) (pG r ta tb):=by
 intro EV s Y H Q I h;exact wpAny_Compare1 (iE ha hb I h λ v u s2 x y H2 I2 rx ry q=>ho EV s2 Y H2 x y v u Q I2 rx ry q) hm
def fj (t:TE):TT:=fun Y H Q=>t Y H λ x H'=>∃ k,x=.bl k/\Q k H'
def W0 {op:CmpOp}{r:R2}(ho:zT X (compareOp op) r) (ha:PE X a ta) (hb:PE X b tb) (hm:behindInMarks op b=false):PT X (.Compare a [op] [b] pos) (fj (pG r ta tb)):=by
 intro EV s Y H Q I h;refine wpAny_isTrue_Compare1 (zv (ha EV s Y H _ I h) λ v s1 ⟨x,H1,I1,r1,q1⟩=>zv (hb EV s1 Y H1 _ I1 q1) λ u s2 ⟨y,H2,I2,r2,q2⟩=>
  zv (ho EV s2 Y H2 x y v u _ I2 r1 r2 q2) λ c s3 ⟨z,H3,I3,r3,k,e,q3⟩=>?_) hm
 subst e;cases r3;exact KR ⟨H3,I3,q3⟩
def kU (r r':R2) (ta tb tc:TE):TE:=fun Y H Q=>ta Y H λ x H1=>tb Y H1 λ y H2=>r x y H2 λ z H3=>∃ k,z=.bl k/\
 (if k=true then tc Y H3 λ w' H4=>r' y w' H4 Q else Q (.bl false) H3)
def V0 {op GP:CmpOp}{r r':R2}(ho:zT X (compareOp op) r) (FV:zT X (compareOp GP) r') (ha:PE X a ta) (hb:PE X b tb) (hc:PE X c tc)
  (hm:lastMarks [op,GP] [b,c]=false:=by with_unfolding_all rfl):PE X (.Compare a [op,GP] [b,c] pos) (kU r r' ta tb tc):=by
 intro EV s Y H Q I h;refine Compare_chain (zv (ha EV s Y H _ I h) λ v s1 ⟨x,H1,I1,r1,q1⟩=>chain_link (zv (hb EV s1 Y H1 _ I1 q1) λ u s2 ⟨y,H2,I2,r2,q2⟩=>
  zv (ho EV s2 Y H2 x y v u _ I2 r1 r2 q2) λ d s3 ⟨z,H3,I3,r3,k,e,q3⟩=>?_)) hm
 subst e;cases r3;refine KR ?_;cases k with
 | false=>exact ite_ff ⟨.bl false,H3,I3,rfl,q3⟩
 | true=>exact ite_tt (chain_last (zv (hc EV s3 Y H3 _ I3 q3) λ w' s4 ⟨z',H4,I4,r4,q4⟩=>FV EV s4 Y H4 y z' u w' Q I4 r2 r4 q4))
def W2 {op GP:CmpOp}{r r':R2}(ho:zT X (compareOp op) r) (FV:zT X (compareOp GP) r') (ha:PE X a ta) (hb:PE X b tb) (hc:PE X c tc)
  (hm:lastMarks [op,GP] [b,c]=false:=by with_unfolding_all rfl):PT X (.Compare a [op,GP] [b,c] pos) (fj (kU r r' ta tb tc)):=by
 intro EV s Y H Q I h;refine isTrue_chain (zv (ha EV s Y H _ I h) λ v s1 ⟨x,H1,I1,r1,q1⟩=>test_link (zv (hb EV s1 Y H1 _ I1 q1) λ u s2 ⟨y,H2,I2,r2,q2⟩=>
  zv (ho EV s2 Y H2 x y v u _ I2 r1 r2 q2) λ d s3 ⟨z,H3,I3,r3,k,e,q3⟩=>?_)) hm
 subst e;cases r3;refine KR ?_;cases k with
 | false=>
  obtain⟨k',e',q'⟩:=q3;cases e';exact ite_ff ⟨H3,I3,q'⟩
 | true=>
  refine ite_tt (test_last (zv (hc EV s3 Y H3 _ I3 q3) λ w' s4 ⟨z',H4,I4,r4,q4⟩=>zv (FV EV s4 Y H4 y z' u w' _ I4 r2 r4 q4) λ d' s5 ⟨z2,H5,I5,r5,k2,e2,q5⟩=>?_));subst e2;cases r5;exact KR ⟨H5,I5,q5⟩
def iW (K:Ac) (x:V) (H:Hp) (k:Bool):Prop:=
 match x with
 | .zm=>k=false
 | .bl b=>k=b
 | .int i=>k=(i != 0)
 | .str y=>y.length<=sizeLine/\k=((y.length:Int) != 0)
 | .l_ y=>y.size<=sizeLine/\k=((y.size:Int) != 0)
 | .ref p=>(∃ xs,zJ K H p xs/\k=!xs.isEmpty)\/(∃ xs,zN K H p xs/\k=!xs.isEmpty)\/∃ Aa,H p=some (.dK Aa)/\k=!Aa.isEmpty
 | _=>False
def PL {κ:Type}{Aa:List (κ × V)}{vs:List (κ × Value)}(r:KV Aa vs):(!vs.isEmpty)=!Aa.isEmpty:=by
 cases r <;> rfl
def cD {xs:List V}{its:Ad}(r:Vals xs its):(!its.toArray.isEmpty)=!xs.isEmpty:=by
 cases r <;> simp
def rD:(sizeLine:Nat)<2 ^ 63:=by rw[sizeLine_eq];decide
def YX:M9 X (λ x H Q=>∃ k,iW X.K x H k/\Q k H):=by
 intro EV s Y H x v Q I rx h;obtain⟨k,e,q⟩:=h;have hl:=rD;have hs:sizeLine=16777216:=sizeLine_eq;cases x with
 | zm=>
  cases rx;have e':k=false:=e;subst e';exact truthy_none ⟨H,I,q⟩
 | bl b=>
  cases rx;have e':k=b:=e;subst e';exact KR ⟨H,I,q⟩
 | int i=>
  obtain⟨t,rfl⟩:=rx;have e':k=(i != 0):=e;subst e';exact PySem.P.truthy_int ⟨H,I,q⟩
 | str y=>
  obtain⟨t,rfl⟩:=rx;obtain⟨hy,e'⟩:y.length<=sizeLine/\k=((y.length:Int) != 0):=e;subst e';exact PySem.P.truthy_str (by lia) ⟨H,I.tok _,q⟩
 | l_ y=>
  obtain⟨t,rfl⟩:=rx;obtain⟨hy,e'⟩:y.size<=sizeLine/\k=((y.size:Int) != 0):=e;subst e';exact PySem.W.truthy_bytes (by lia) ⟨H,I.tok _,q⟩
 | ref p=>
  cases rx;have e':(∃ xs,zJ X.K H p xs/\k=!xs.isEmpty)\/(∃ xs,zN X.K H p xs/\k=!xs.isEmpty)\/∃ Aa,H p=some (.dK Aa)/\k=!Aa.isEmpty:=e;rcases e' with ⟨xs,hx,e'⟩ | ⟨xs,hx,e'⟩ | ⟨Aa,hx,e'⟩
  .subst e';obtain⟨its,r,pl,hz⟩:=I.list hx;have hlen:=r.length;exact wpAny_truthy_list pl.isList (by simp only[Az];lia) ⟨H,I.tok _,by rw[cD r];exact q⟩
  .subst e';obtain⟨its,r,pl,hz⟩:=I.tuple hx;have hlen:=r.length;exact truthy_tuple pl (by simp only[Az];lia) ⟨H,I.tok _,by rw[cD r];exact q⟩
  .subst e';obtain⟨hz,hS,vs,r,m⟩:Aa.length<=sizeLine/\(p == sysModules)=false/\∃ vs,KV Aa vs/\s.heap.DictOf (we X.prog X.w) p vs:=I.zr p _ hx;have hlen:Aa.length=vs.length:=Paired.length r;exact wpAny_truthy_dict hS m (by lia) ⟨H,I.tok _,by rw[PL r];exact q⟩
 | _=>exact (show False from e).elim
def Wx (ha:PE X a ta) (he:∀ whole,isTrue a X.env whole=(do let v <- whole;standAt a.pos;holding [v] (truthy v))):
  PT X a (fun Y H Q=>ta Y H λ x H'=>∃ k,iW X.K x H' k/\Q k H'):=by
 intro EV s Y H Q I h;exact isTrue_plain (zv (ha EV s Y H _ I h) λ v s1 ⟨x,H1,I1,r1,q1⟩=>YX EV s1 Y H1 x v Q I1 r1 q1) (he _)
def TX:zT X (binaryOp .Add) (λ x y H Q=>∃ i j,x=.str i/\y=.str j/\i.length+j.length<=sizeLine/\Q (.str (i++j)) H):=by
 intro EV s Y H x y v u Q I rx ry h;obtain⟨i,j,rfl,rfl,hz,q⟩:=h;obtain⟨t,rfl⟩:=rx;obtain⟨t',rfl⟩:=ry;exact add_str (λ t' tk=>⟨.str (i++j),H,I.tok _,⟨_,rfl⟩,q⟩) hz
def vals1 {x:V}{us:Ad}(r:Vals [x] us):∃ u,us=[u]/\RelV x u:=by
 cases r with
 | cons r1 r2=>cases r2;exact⟨_,rfl,r1⟩
def vals2 {x y:V}{us:Ad}(r:Vals [x,y] us):∃ u w',us=[u,w']/\RelV x u/\RelV y w':=by
 cases r with
 | cons r1 r2=>
  cases r2 with
  | cons r3 r4=>cases r4;exact⟨_,_,rfl,r1,r3⟩
def Ma:yC X (.builtin "abs") (λ xs H Q=>∃ i,xs=[.int i]/\Q (.int (if i<0 then -i else i)) H):=by
 intro EV s Y H xs us Q I r h;obtain⟨i,rfl,q⟩:=h;obtain⟨u,rfl,t,rfl⟩:=vals1 r;exact call_abs_int λ u tk=>⟨.int (if i<0 then -i else i),H,I.tok _,⟨_,rfl⟩,q⟩
def NT (hc:X.calm=true):yC X (.builtin "max") (λ xs H Q=>∃ i j,xs=[.int i,.int j]/\Q (.int (if j>i then j else i)) H):=by
 intro EV s Y H xs us Q I r h;obtain⟨i,j,rfl,q⟩:=h;obtain⟨u,w',rfl,⟨t,rfl⟩,⟨t',rfl⟩⟩:=vals2 r;refine max_two_ints (I.ok.hd hc) λ h' tk k=>⟨_,H,I.kept k,?_,q⟩;by_cases hj:j>i
 .rw[if_pos hj,if_pos hj];exact⟨_,rfl⟩
 .rw[if_neg hj,if_neg hj];exact⟨_,rfl⟩
def NS (hc:X.calm=true):yC X (.builtin "min") (λ xs H Q=>∃ i j,xs=[.int i,.int j]/\Q (.int (if j<i then j else i)) H):=by
 intro EV s Y H xs us Q I r h;obtain⟨i,j,rfl,q⟩:=h;obtain⟨u,w',rfl,⟨t,rfl⟩,⟨t',rfl⟩⟩:=vals2 r;refine min_two_ints (I.ok.hd hc) λ h' tk k=>⟨_,H,I.kept k,?_,q⟩;by_cases hj:j<i
 .rw[if_pos hj,if_pos hj];exact⟨_,rfl⟩
 .rw[if_neg hj,if_neg hj];exact⟨_,rfl⟩
end
def vN.some_of {v:V}{o:Option Value}(r:vN (some v) o):∃ u,o=some u/\RelV v u:=by
 cases o with
 | none=>exact (show False from r).elim
 | some u=>exact⟨u,rfl,r⟩
structure yd (k:Nat) (A:Around):Prop where
 hd:A.handled=none
 dp:A.depth+3*k+5<recursionLimit
 un:A.units+16*k+200<cLine
def yd.mono {j k:Nat}{A:Around}(r:yd k A) (h:j<=k):yd j A:=⟨r.hd,by have:=r.dp;lia,by have:=r.un;lia⟩
theorem yd.deeper {k:Nat}{A:Around}(r:yd (k+1) A) (env:Env):yd k (A.deeper env):=
 ⟨r.hd,by have:=r.dp;show A.depth+1+3*k+5<_;lia,by have:=r.un;show A.units+3+16*k+200<_;lia⟩
theorem yd.depth {k:Nat}{A:Around}(r:yd k A):A.depth<recursionLimit:=by have:=r.dp;lia
theorem yd.units {k:Nat}{A:Around}(r:yd k A):A.units+64<cLine:=by have:=r.un;lia
def ml:TA:=λ _ H Q=>Q [] H
def mn (ta:TE) (tr:TA):TA:=fun Y H Q=>ta Y H λ x H1=>tr Y H1 λ xs H2=>Q (x::xs) H2
section
variable {X:Cx}{e:Expr}{es:List Expr}{te:TE}{t:TA}{pos:Pos}
def sF:PA X [] ml:=λ _ _ _ _ H Q I h=>Calls.spliced_nil ⟨[],H,I,.nil,h⟩
def tB (ha:PE X e te) (hr:PA X es t) (hs:starEach (e::es) X.env=(false,eval e X.env)::starEach es X.env:=by rfl):PA X (e::es) (mn te t):=by
 intro pos EV s Y H Q I h;rw[hs];show wpAny _ _ (spliced ((false,eval e X.env)::backTo pos (starEach es X.env))) _ _ s;refine Calls.spliced_cons (zv (ha EV s Y H _ I h) λ u s1 ⟨x,H1,I1,r1,q1⟩=>?_);exact zv (hr pos EV s1 Y H1 _ I1 q1) λ us s2 ⟨xs,H2,I2,r2,q2⟩=>⟨x::xs,H2,I2,.cons r1 r2,q2⟩
def Xa (t:TA):TE:=fun Y H Q=>t Y H λ xs H1=>xs.length<=sizeLine/\∀ p,H1 p=none->Q (.ref p) (upd H1 p (.tup xs))
def Xk (t:TA):TE:=fun Y H Q=>t Y H λ xs H1=>xs.length<=sizeLine/\∀ p,H1 p=none->Q (.ref p) (upd H1 p (.lst xs))
def Vh {x1} (h:PA X es t):PE X (.Tuple es x1 pos) (Xa t):=by
 intro EV s Y H Q I hq;refine wpAny_Tuple_spliced (zv (h pos EV s Y H _ I hq) λ us s1 ⟨xs,H1,I1,r,z,q⟩=>⟨by rw[<- r.length];exact z,?_⟩);have hf:H1 s1.heap.objs.size=none:=I1.zr.fresh (Ah _);refine⟨.ref s1.heap.objs.size,upd H1 s1.heap.objs.size (.tup xs),I1.laid (t':=s1.toks) (λ b u e=>Ky _ e) (Ah _) ?_,rfl,q _ hf⟩;exact⟨⟨z,.new _⟩,us,r,⟨_,AG _ rfl,rfl,_,rfl⟩⟩
def Vp (h:PA X es t):PE X (.List es pos) (Xk t):=by
 intro EV s Y H Q I hq;refine wpAny_List_spliced (zv (h pos EV s Y H _ I hq) λ us s1 ⟨xs,H1,I1,r,z,q⟩=>⟨by rw[<- r.length];exact z,?_⟩);have hf:H1 s1.heap.objs.size=none:=I1.zr.fresh (Ah _);refine⟨.ref s1.heap.objs.size,upd H1 s1.heap.objs.size (.lst xs),I1.laid (t':=s1.toks) (λ b u e=>Ky _ e) (Ah _) ?_,rfl,q _ hf⟩;exact⟨z,us,0,r,AG _ rfl⟩
end
abbrev Sp:=List V->Hp->VK->XK->Prop
abbrev um:=List Env->Hp->Shared->XK->Value->Shared->Prop
structure kD (P:Program) (w:World) (K:Ac) (mg:AI) (base:Heap) (A:Around) (outer:List Env) (s:Shared) (H:Hp):Prop where
 frames:A.frames=some outer
 mod:Mod K mg base
 bs:∀ b o,base.get? b=some o->s.heap.get? b=some o/\H b=none
 rN:base.objs.size<=s.heap.objs.size
 uc:s.heap.FunFrames base outer
 qM:∀ b∈vn outer,H b=none
 zr:yA P w H s.heap
 bare:AllBare s.gens
def CE (outer:List Env) (P:Program) (w:World) (H:Hp) (s:Shared) (Q:VK) (u:Value) (s':Shared):Prop:=
 ∃ v H',s'.os=s.os/\AllBare s'.gens/\Un (vn outer) [] H H' s.heap s'.heap/\yA P w H' s'.heap/\RelV v u/\Q v H'
def CR (CX:um) (outer:List Env) (P:Program) (w:World) (H:Hp) (s:Shared) (Q:VK) (E:XK) (r:Result) (s':Shared):Prop:=
 match r with
 | .ok (.ret u)=>CE outer P w H s Q u s'
 | .ok _=>False
 | .error e=>CX outer H s E e s'
structure vz (P:Program) (w:World) (K:Ac) (mg:AI) (base:Heap) (CX:um) (k:Nat) (f:Addr) (fd:FuncData) (ps:List Str) (sp:Sp):Prop where
 len:∀ vs H Q E,sp vs H Q E->vs.length=ps.length
 run:∀ (A:Around) (outer:List Env) (s:Shared) (H:Hp) (args:Args) (us:Ad) (vs:List V) (Q:VK) (E:XK),yd k A->kD P w K mg base A outer s H->BindsTo s fd args (ps.zip us)->Vals vs us->sp vs H Q E->
  codeAny (model P w) A (.call (.ref f) args) (CR CX outer P w H s Q E) s
section
variable {X:Cx}{EV:Ag}{Y:St}{H:Hp}{s s':Shared}
def Inv.OZ (I:Inv X EV Y H s):kD X.prog X.w X.K X.mg X.base X.A X.stack s H:=
 ⟨I.ok.frames,I.ok.mod,I.bs,A6 I.ok.rN I.sz,I.stack,I.fy,I.zr,I.bare⟩
def Inv.after {Q:VK}{u:Value}(I:Inv X EV Y H s) (h:CE X.stack X.prog X.w H s Q u s'):EP X EV Y Q u s':=by
 obtain⟨v,H',os,bare,un,zr,r,q⟩:=h;obtain⟨hh,g,d,t,GB⟩:=s';obtain rfl:GB=s.os:=os;exact⟨v,H',I.call (h':=hh) (g':=g) (d':=d) (t':=t) (ch:=[]) un zr bare (λ b z=>absurd z (by simp)),r,q⟩
end
def fk (sp:Sp) (HR:List V) (E:XK) (t:TA):TE:=fun Y H Q=>t Y H λ vs H1=>sp (vs++HR) H1 Q E
def Binds (K:Ac) (fd:FuncData) (ps:List Str) (ds:Ad):Prop:=
 ∀ (s:Shared) (us:Ad),K.In s.heap->(us++ds).length=ps.length->BindsTo s fd ⟨us,[]⟩ (ps.zip (us++ds))
def Binds.all {K:Ac}{fd:FuncData}{ps:List Str}(h:∀ us:List Value,us.length=ps.length->bindArgs fd ⟨us,[]⟩=pure (ps.zip us)):Binds K fd ps []:=λ s us _ hl=>by
 rw[C2] at hl ⊢;exact .of_eq (h us hl)
def Passes (CX:um) (X:Cx) (E:XK):Prop:=∀ (EV:Ag) (Y:St) (H:Hp) (s:Shared) (e:Value) (s':Shared),Inv X EV Y H s->CX X.stack H s E e s'->X.xe e s'
section
variable {X:Cx}{CX:um}{k:Nat}{f:Addr}{fd:FuncData}{ps:List Str}{sp:Sp}{HR:List V}{ds:Ad}{E:XK}{x:Str}{p pos:Pos}{e:Expr}{es:List Expr}{t:TA}
def XZ {EV:Ag}{Y:St}{H:Hp}{s:Shared}{Q:VK}{us:Ad}{vs:List V}(F:vz X.prog X.w X.K X.mg X.base CX k f fd ps sp) (hr:yd k X.A) (hb:Binds X.K fd ps ds) (hd:Vals HR ds) (hx:Passes CX X E)
  (I:Inv X EV Y H s) (r:Vals vs us) (h:sp (vs++HR) H Q E):wpAny (model X.prog X.w) X.A (call (.ref f) us) (EP X EV Y Q) X.xe s:=by
 have r2:Vals (vs++HR) (us++ds):=r.append hd;have hl:(us++ds).length=ps.length:=by rw[<- r2.length];exact F.len _ _ _ _ h
 refine wpAny_call (codeAny_mono (F.run X.A X.stack s H ⟨us,[]⟩ (us++ds) (vs++HR) Q E hr I.OZ (hb s us I.wR hl) r2 h) λ r s' hq=>?_);cases r with
 | error e=>exact hx EV Y H s e s' I hq
 | ok fl=>
  cases fl with
  | ret u=>exact I.after hq
  | _=>exact False.elim hq
def V1 (F:vz X.prog X.w X.K X.mg X.base CX k f fd ps sp) (hr:yd k X.A) (hg:Gl X x) (hm:X.mg x=some (.ref f)) (hk:PySem.W.keepIn X.K (.ref f)=true) (hb:Binds X.K fd ps ds) (hd:Vals HR ds) (hx:Passes CX X E)
  (ha:PA X (e::es) t) (B5:(x == ("__debug__":Str))=false:=by decide) (he:starEach (e::es) X.env=(false,eval e X.env)::starEach es X.env:=by rfl) (Aq:(backTo pos (starEach es X.env)).any (·.1)=false:=by rfl):
  PE X (.Call (.Name x p) (e::es) [] pos) (fk sp HR E t):=by
 intro EV s Y H Q I h;refine K5 (cu I hg hm ?_ B5);refine PySem.W.callWith_K (h₀:=X.base) I.ok.mod.jH hk (zv (ha pos EV s Y H _ I h) λ us s1 ⟨vs,H1,I1,r,q⟩=>⟨I1.wR,?_⟩) he Aq;exact XZ F hr hb hd hx I1 r q
end
structure uX (N P:List Str) (sc:Scope):Prop where
 kind:sc.kind=.function
 co:sc.isCoroutine=false
 gen:sc.isGenerator=false
 nd:N.Nodup
 pre:N.take P.length=P
 par:∀ x∈P,sc.names.lookup x=some .local\/sc.names.lookup x=some .cell
 Q0:∀ y∈sc.names,y.2≠.free
theorem aK {kindOf:Str->Option NameKind}{x:Str}:∀ {binds:List (Str×Value)}{m:AI},(∀ v,(x,v)∉binds)->bindL kindOf binds m x=m x
 | [],_,_=>rfl
 | (n,v)::r,m,h=>by
  unfold bindL;rw[aK λ w hw=>h w (Av _ hw)];split
  .have:x≠n:=by rintro rfl;exact h v Ap
   simp[this]
  .rfl
theorem aM {kindOf:Str->Option NameKind}{x:Str}:∀ {binds:List (Str×Value)}{m:AI},(∀ v,(x,v)∉binds)->bindC kindOf binds m x=m x
 | [],_,_=>rfl
 | (n,v)::r,m,h=>by
  unfold bindC;rw[aM λ w hw=>h w (Av _ hw)];split
  .rfl
  .have:x≠n:=by rintro rfl;exact h v Ap
   simp[this]
theorem aL {kindOf:Str->Option NameKind}{x:Str}{v:Value}:∀ {P:List Str}{vs:Ad}{i:Nat}{m:AI},P.Nodup->P[i]?=some x->vs[i]?=some v->kindOf x=some .local->
  bindL kindOf (P.zip vs) m x=some v
 | [],_,_,_,_,h,_,_=>by simp at h
 | _::_,[],_,_,_,_,h,_=>by simp at h
 | p::P,w::vs,0,m,nd,h1,h2,hk=>by
  simp at h1 h2;subst h1;subst h2;show bindL kindOf ((p,w)::P.zip vs) m p=_;unfold bindL;rw[aK λ v hv=>(Be.mp nd).1 (C1 hv).1,if_pos hk];simp
 | p::P,w::vs,i+1,m,nd,h1,h2,hk=>by
  show bindL kindOf ((p,w)::P.zip vs) m x=_;unfold bindL;exact aL (i:=i) (Be.mp nd).2 (by simpa using h1) (by simpa using h2) hk
theorem aN {kindOf:Str->Option NameKind}{x:Str}{v:Value}:∀ {P:List Str}{vs:Ad}{i:Nat}{m:AI},P.Nodup->P[i]?=some x->vs[i]?=some v->kindOf x≠some .local->
  bindC kindOf (P.zip vs) m x=some v
 | [],_,_,_,_,h,_,_=>by simp at h
 | _::_,[],_,_,_,_,h,_=>by simp at h
 | p::P,w::vs,0,m,nd,h1,h2,hk=>by
  simp at h1 h2;subst h1;subst h2;show bindC kindOf ((p,w)::P.zip vs) m p=_;unfold bindC;rw[aM λ v hv=>(Be.mp nd).1 (C1 hv).1,if_neg hk];simp
 | p::P,w::vs,i+1,m,nd,h1,h2,hk=>by
  show bindC kindOf ((p,w)::P.zip vs) m x=_;unfold bindC;exact aN (i:=i) (Be.mp nd).2 (by simpa using h1) (by simpa using h2) hk
noncomputable def start (N:List Str) (vs:List V):St:=vs.map some++List.replicate (N.length-vs.length) none
noncomputable def wo (CX:um) (P:Program) (w:World) (K:Ac) (mg:AI) (base:Heap) (N:List Str) (qual:Str) (scope:Scope) (f:Addr) (cd:Value) (A:Around) (outer:List Env) (s:Shared) (H:Hp) (E:XK):Cx where
 prog:=P
 w:=w
 K:=K
 mg:=mg
 base:=base
 A:=A.deeper (envOfC qual scope s.heap.objs.size f cd)
 N:=N
 s₀:=s
 H₀:=H
 env:=envOfC qual scope s.heap.objs.size f cd
 outer:=outer
 stack:=envOfC qual scope s.heap.objs.size f cd::outer
 ex:=[]
 calm:=true
 fn:=λ _=>true
 pn:=[]
 xe:=λ e s'=>wpAny (model P w) (A.deeper (envOfC qual scope s.heap.objs.size f cd)) (leaving (envOfC qual scope s.heap.objs.size f cd) e) (λ _ G6=>CX outer H s E e G6) (λ e' G6=>CX outer H s E e' G6) s'
def aA {sc:Scope}{n:Nat}{x:Str}(h:sc.names.lookup x=some .cell):∃ c,(cellsFrom n sc.names []).lookup x=some c:=by
 have q:=PySem.W.cellsFrom_some sc.names n [] (.inl h);exact DD.mp q
def PQ {CX:um}{P:Program}{w:World}{K:Ac}{mg:AI}{base:Heap}{N ps:List Str}{qual:Str}{scope:Scope}{f:Addr}{cd:Value}{A:Around}{outer:List Env}{s s1:Shared}{H:Hp}{E:XK}{us:Ad}{vs:List V}
  (S:uX N ps scope) (hd:A.handled=none) (e0:kD P w K mg base A outer s H) (hl:vs.length=ps.length) (r:Vals vs us)
  (x:InCallC s s.heap.objs.size (bindL (envOfC qual scope s.heap.objs.size f cd).kindOf (ps.zip us) λ _=>none) (cellsFrom (s.heap.objs.size+1) scope.names []) (bindC (envOfC qual scope s.heap.objs.size f cd).kindOf (ps.zip us) λ _=>none) s1):
  Inv (wo CX P w K mg base N qual scope f cd A outer s H E) [] (start N vs) H s1:=by
 have Aq:ps.length<=N.length:=by have:=congrArg List.length S.pre;rw[C0] at this;lia
 obtain⟨h1,tk,rfl,hk⟩:=x.done;have IH:∀ b:Addr,b∉(wo CX P w K mg base N qual scope f cd A outer s H E).ex:=λ b z=>absurd (show b∈([]:List Addr) from z) (by simp);refine⟨⟨e0.mod,S.kind,rfl,rfl,Ah _,λ y z c h1 h2=>?_,λ y hy=>?_,λ y c _ h=>?_,λ _=>hd,Around.frames_deeper e0.frames,.inr ⟨rfl,rfl⟩,λ b z=>absurd z (IH b),e0.bs,e0.rN,λ b _ _=>IH b,λ b z=>absurd z (IH b),e0.uc,e0.qM⟩,
  rfl,e0.bare,Un.kept hk,⟨_,x.toInCall.ns,λ i y v h1 h2 h3=>?_⟩,λ y c h=>⟨_,x.cell y c h⟩,e0.zr.fresh (Ah _),λ y c h=>?_,λ p hp=>absurd (show p∈([]:Ag) from hp) (by simp),e0.zr.kept hk,?_⟩
 .exact name_of_addr x.apart (PySem.mem_of_lookup h1) (PySem.mem_of_lookup h2)
 .have hy:scope.names.lookup y=some .cell\/scope.names.lookup y=some .free:=hy;rcases hy with hy | hy
  .exact aA hy
  .exact absurd rfl (S.Q0 _ (PySem.mem_of_lookup hy))
 .exact A5 (x.above y c (PySem.mem_of_lookup h))
 .have hi:i<vs.length:=by
   unfold start at h2;by_cases hi:i<vs.length
   .exact hi
   .rw[Cb (by simpa using hi)] at h2;rw[CG] at h2;split at h2 <;> cases h2
  have ha:vs[i]?=some v:=by
   unfold start at h2;rw[Ca (by simpa using hi),AE] at h2;cases e:vs[i]? with
   | none=>rw[e] at h2;cases h2
   | some a=>rw[e] at h2;cases h2;rfl
  obtain⟨u,hu,rv⟩:=r.get ha;have hp:ps[i]?=some y:=by
   rw[<- S.pre,List.getElem?_take_of_lt (by lia)];exact h1
  have ndP:ps.Nodup:=by rw[<- S.pre];exact S.nd.sublist (List.take_sublist _ _)
  refine⟨u,rv,?_⟩;rcases S.par y (BA hp) with k | k
  .exact .inl ⟨k,aL ndP hp hu k⟩
  .obtain⟨c,e⟩:=aA (n:=s.heap.objs.size+1) k;refine .inr ⟨.inl k,c,e,?_⟩;have q:=x.cell y c e;rw[aN ndP hp hu (by show scope.names.lookup y≠_;rw[k];decide)] at q;exact q
 .exact e0.zr.fresh (A5 (x.above y c (PySem.mem_of_lookup h)))
 .unfold start;show _=N.length;rw[Cd,AB,List.length_replicate];lia
def OG {CX:um}{P:Program}{w:World}{K:Ac}{mg:AI}{base:Heap}{k:Nat}{f:Addr}{name qual:Str}{params:Arguments}{body:List Stmt}{scope:Scope}{dV kV doc pm Am ct oc:Value}{an od:Option Addr}
  {HI:Array (Option Value)}{N ps:List Str}{sp:Sp}(lk:K.lookup f=some ⟨oc,od,.func (PySem.W.fnOf name qual params body scope dV kV doc pm an Am ct),HI⟩) (Bv:PySem.W.codeIn K Am qual=true) (S:uX N ps scope)
  (len:∀ vs H Q E,sp vs H Q E->vs.length=ps.length)
  (Fh:∀ (A:Around) (outer:List Env) (s:Shared) (H:Hp) (vs:List V) (Q:VK) (E:XK),yd k (A.deeper (envOfC qual scope s.heap.objs.size f Am))->sp vs H Q E->
   ∃ t,xF (wo CX P w K mg base N qual scope f Am A outer s H E) body t/\t { nx:=λ _ H'=>Q .zm H',rt:=Q } (start N vs) H):
  vz P w K mg base CX (k+1) f (PySem.W.fnOf name qual params body scope dV kV doc pm an Am ct) ps sp:=by
 refine⟨len,λ A outer s H args us vs Q E hr e0 hb r BO=>?_⟩;have hl:=len _ _ _ _ BO;have KX:K.In s.heap:=e0.mod.jH.keeps λ b o e=>(e0.bs b o e).1;have lim:s.heap.NoLimit:=e0.mod.nolimit.keeps λ b o e=>(e0.bs b o e).1;have IW:∀ y∈ps.zip us,scope.names.lookup y.1=some .local\/(scope.names.lookup y.1=some .cell/\((cellsFrom (s.heap.objs.size+1) scope.names []).lookup y.1).isSome=true):=λ⟨n,v⟩ hy=>by
  rcases S.par n (C1 hy).1 with q | q
  .exact .inl q
  .exact .inr ⟨q,PySem.W.cellsFrom_some _ _ _ (.inl q)⟩
 refine codeAny_call_function hr.depth (KX _ _ lk) rfl S.co S.gen rfl (PySem.W.codeRec_of KX Bv) (hb _ _ _ _ ?_);refine wpAny_newFunctionEnv_cells S.kind IW λ env he s1 x=>?_;subst he;refine⟨lim.keeps x.toInCall.keep,codeAny_func ?_⟩;obtain⟨t,ht,hq⟩:=Fh A outer s H vs Q E (hr.deeper _) BO;have I:Inv (wo CX P w K mg base N qual scope f Am A outer s H E) [] (start N vs) H s1:=PQ S hr.hd e0 hl r x;refine KH (ht [] s1 (start N vs) H _ I hq) (λ fl s' hs=>?_) λ e s' hs=>hs;have fin:∀ {Y':St}{H':Hp}{v:V}{u:Value},Inv (wo CX P w K mg base N qual scope f Am A outer s H E) [] Y' H' s'->RelV v u->Q v H'->CE outer P w H s Q u s':=
  λ{Y' H' v u} J rv q=>⟨v,H',J.os,J.bare,J.base,J.zr,rv,q⟩
 cases fl with
 | ret u=>
  obtain⟨v,Y',H',J,rv,q⟩:=hs;exact fin J rv q
 | next=>
  obtain⟨Y',H',J,q⟩:=hs;exact fin (v:=V.zm) (u:=Value.none) J rfl q
 | brk=>
  obtain⟨_,_,_,q⟩:=hs;exact False.elim q
 | cont=>
  obtain⟨_,_,_,q⟩:=hs;exact False.elim q
section
variable {X:Cx}{x:Str}{p pos:Pos}{e:Expr}{es:List Expr}{t:TA}{id T:String}{r:List V->Hp->VK->Prop}
def pH (r:List V->Hp->VK->Prop) (t:TA):TE:=fun Y H Q=>t Y H λ vs H1=>r vs H1 Q
def t9 (hc:yC X (.builtin id) r) (hg:Gl X x) (hm:X.mg x=none) (hv:bootBuiltins x=some (.builtin id)) (ha:PA X (e::es) t) (hn:x≠"__name__":=by decide) (B5:(x == ("__debug__":Str))=false:=by decide)
  (he:starEach (e::es) X.env=(false,eval e X.env)::starEach es X.env:=by rfl) (Aq:(backTo pos (starEach es X.env)).any (·.1)=false:=by rfl):PE X (.Call (.Name x p) (e::es) [] pos) (pH r t):=by
 intro EV s Y H Q I h;refine K5 (tJ I hg hm hv ?_ hn B5);exact PyProof.Rows.callWith_builtin1 (zv (ha pos EV s Y H _ I h) λ us s1 ⟨vs,H1,I1,r1,q1⟩=>hc EV s1 Y H1 vs us Q I1 r1 q1) he Aq
def pX (hc:yC X (.type T) r) (hg:Gl X x) (hm:X.mg x=none) (hv:bootBuiltins x=some (.type T)) (ha:PA X (e::es) t) (hn:x≠"__name__":=by decide) (B5:(x == ("__debug__":Str))=false:=by decide)
  (he:starEach (e::es) X.env=(false,eval e X.env)::starEach es X.env:=by rfl) (Aq:(backTo pos (starEach es X.env)).any (·.1)=false:=by rfl):PE X (.Call (.Name x p) (e::es) [] pos) (pH r t):=by
 intro EV s Y H Q I h;refine K5 (tJ I hg hm hv ?_ hn B5);exact PyProof.Rows.callWith_type1 (zv (ha pos EV s Y H _ I h) λ us s1 ⟨vs,H1,I1,r1,q1⟩=>hc EV s1 Y H1 vs us Q I1 r1 q1) he Aq
end
end L2
namespace HT
open PySem PyProof.Rows
noncomputable def lexLt:List Int->List Int->Bool
 | [],[]=>false
 | [],_::_=>true
 | _::_,[]=>false
 | x::xs,y::ys=>if x=y then lexLt xs ys else decide (x<y)
def uD (x y:Int) (xs ys:List Int):lexLt (x::xs) (y::ys)=if x=y then lexLt xs ys else decide (x<y):=rfl
def QW:lexLt [] []=false:=rfl
def QX (y:Int) (ys:List Int):lexLt [] (y::ys)=true:=rfl
def QY (x:Int) (xs:List Int):lexLt (x::xs) []=false:=rfl
def OY (A:Around) (s:Shared) (a:Int) (t:Tok) (c:Int) (u:Tok):∃ e,SeqAt.EqAt A s (.int a t) (.int c u) e/\(e=true↔a=c):=
 ⟨(a == c),SeqAt.EqAt.int_int a t c u,by simp⟩
def Wg (A:Around) (s:Shared) (a:Int) (t:Tok) (c:Int) (u:Tok) (prog:Program) (w:World) (E:Af) (Q:Af) (h:Q (.bool (decide (a<c))) s):
  wpAny (model prog w) A (richCompare .Lt (.int a t) (.int c u)) Q E s:=
 (PyProof.Rows.lt_int h:wpAny (model prog w) A (compareOp .Lt (.int a t) (.int c u)) Q E s)
section
open PySem.SeqAt
open PySem.AutoSeq1 (wpAny_loadPart')
open PySem.MeetsSeq PySem.MeetsSeq2 PySem.MeetsSeq3
def YU (l b:Addr) (items Fo:An) (n n2:Nat) (dd Hv:Option Addr) (sl Hr:Array (Option Value)) (ns ms:List Int) (hi:IntsAre items.toList ns) (hj:IntsAre Fo.toList ms):
  Meets (Builtin.«tuple.__lt__» ⟨[.ref l,.ref b],[]⟩)
   (λ _ R s=>s.heap.get? l=some { cls:=.type "tuple",dict:=dd,data:=.seq items n,slots:=sl }/\s.heap.get? b=some { cls:=.type "tuple",dict:=Hv,data:=.seq Fo n2,slots:=Hr }/\
    R (.ok (.ret (.bool (lexLt ns ms)))) s):=
 .of_wp λ prog w A R s h=>by
  obtain⟨hp,g,d,tk,os⟩:=s;obtain⟨hl,hb,h⟩:=h;have f2:=AutoSeq1.sub_tuple_tuple;have z1:items.size=ns.length:=by rw[<- hi.length];simp
  have z2:Fo.size=ms.length:=by rw[<- hj.length];simp
  wp_walk using wpAny_loadPart' hl,wpAny_loadPart' hb,wpAny_forIn_list _ (λ EX b s'=>b.1=none/\s'=⟨hp,g,d,tk,os⟩/\∃ (vs ws:Ad) (Gq Gr:List Int),EX=vs.zip ws/\
   IntsAre vs Gq/\IntsAre ws Gr/\Gq.length+Fo.size=Gr.length+items.size/\R (.ok (.ret (.bool (lexLt Gq Gr)))) ⟨hp,g,d,tk,os⟩) _
  case turn=>
   rintro⟨y,x⟩ EX b s' ⟨HQ,rfl,vs,ws,Gq,Gr,hz,En,CK,hlen,hR⟩;cases En with
   | nil=>rw[List.zip_nil_left] at hz;cases hz
   | cons a t Em=>
    cases CK with
    | nil=>rw[List.zip_nil_right] at hz;cases hz
    | cons c u Ej=>
     rw[Ea] at hz
     injection hz with hyx IM
     injection hyx with hy hx
     subst hy hx;rw[uD] at hR;simp only[Bg] at hlen;obtain⟨e,he,Dd⟩:=OY A.in1 ⟨hp,g,d,tk,os⟩ a t c u;refine JA (he prog w _ _ ?_);cases e with
     | true=>
      rw[if_pos (Dd.mp rfl)] at hR
      wp_walk
      exact⟨rfl,rfl,_,_,_,_,IM,Em,Ej,by lia,hR⟩
     | false=>
      rw[if_neg (λ q=>absurd (Dd.mpr q) BM)] at hR;have hri:=Wg A.in1 ⟨hp,g,d,tk,os⟩ a t c u prog w
      wp_walk using hri
      exact⟨_,rfl,by simpa using hR⟩
  case fin=>
   rintro⟨b1,b2⟩ s' ⟨HQ,rfl,vs,ws,Gq,Gr,hz,En,CK,hlen,hR⟩;simp only at HQ;subst HQ;have hv:lexLt Gq Gr=decide (items.size<Fo.size):=by
    cases En with
    | nil=>
     cases CK with
     | nil=>
      simp only[CZ] at hlen;rw[QW];exact (KA (by lia)).symm
     | cons c u hw=>
      simp only[CZ,Bg] at hlen;rw[QX];exact (KG (by lia)).symm
    | cons a t hv=>
     cases CK with
     | nil=>
      simp only[CZ,Bg] at hlen;rw[QY];exact (KA (by lia)).symm
     | cons c u hw=>
      rw[Ea] at hz;cases hz
   rw[hv] at hR
   wp_walk
   exact⟨_,rfl,by simpa [Builtin.Tuple.tupleCompareSizes] using hR⟩
  case h=>
   exact⟨rfl,rfl,items.toList,Fo.toList,ns,ms,rfl,hi,hj,by lia,h⟩
end
section
variable {prog:Program}{w:World}{A:Around}{E:Af}{s:Shared}
def QQ {l b:Addr}{items Fo:An}{ns ms:List Int}{Q:Af}(hl:IsTup s.heap l items) (hb:IsTup s.heap b Fo) (hi:IntsAre items.toList ns) (hj:IntsAre Fo.toList ms)
  (hu:A.units<cLine) (h:Q (.bool (lexLt ns ms)) s):wpAny (model prog w) A (compareOp .Lt (.ref l) (.ref b)) Q E s:=by
 obtain⟨⟨cls,dd,data,sl⟩,ho,hc,n,hd⟩:=id hl;obtain⟨⟨Ig,Hv,data2,Hr⟩,G8,Gi,n2,hd2⟩:=id hb;simp only at hc hd Gi hd2;subst hc hd Gi hd2;exact richCompare_meets_room (op:=.Lt) ⟨_,ho,rfl⟩ ⟨_,G8,rfl⟩ PySem.F.slot_tuple_lt PySem.F.entry_tuple_lt (PySem.F.args_tuple_lt_2 _ _) (YU l b items Fo n n2 dd Hv sl Hr ns ms hi hj)
  ⟨ho,G8,show Value.bool (lexLt ns ms)≠Value.notImplemented/\Q (.bool (lexLt ns ms)) s from ⟨(λ x=>nomatch x),h⟩⟩ hu
def NG {t b:Addr}{vs ws:Ad}{Q:Af}(ht:IsTup s.heap t vs.toArray) (hb:IsTup s.heap b ws.toArray) (hv:vs≠[])
  (h1:ws=[]->Q (.ref t) s) (h2:ws≠[]->Q (.ref s.heap.objs.size) { s with heap:=s.heap.push { cls:=.type "tuple",data:=.seq (vs++ws).toArray } })
  (hsz:vs.length+ws.length<=sizeLine):wpAny (model prog w) A (binaryOp .Add (.ref t) (.ref b)) Q E s:=by
 obtain⟨⟨cls,dd,data,sl⟩,ho,hc,n,hd⟩:=id ht;obtain⟨⟨Ig,Hv,data2,Hr⟩,G8,Gi,n2,hd2⟩:=id hb;simp only at hc hd Gi hd2;subst hc hd Gi hd2;have e:vs.toArray++ws.toArray=(vs++ws).toArray:=by simp
 by_cases hw:ws=[]
 .exact concat_meets ⟨_,ho,rfl⟩ ⟨_,G8,rfl⟩ noFill_tuple_add seq_tuple_add PySem.F.slot_tuple_add PySem.F.entry_tuple_add (PySem.F.args_tuple_add_2 _ _)
   (tuple_addW1 t b vs.toArray ws.toArray n n2 dd Hv sl Hr (by simpa using hv) (by simp[hw])) ⟨ho,G8,h1 hw⟩
 .refine concat_meets ⟨_,ho,rfl⟩ ⟨_,G8,rfl⟩ noFill_tuple_add seq_tuple_add PySem.F.slot_tuple_add PySem.F.entry_tuple_add (PySem.F.args_tuple_add_2 _ _)
   (tuple_addW2 t b vs.toArray ws.toArray n n2 dd Hv sl Hr (by simpa using hv) (by simpa using hw) (by rw[Az,Az];exact hsz)) ⟨ho,G8,?_⟩
  rw[e];exact h2 hw
noncomputable def zy (n d:Nat):Option Int->Nat
 | none=>d
 | some v=>if v<0 then (v+(n:Int)).toNat else min v.toNat n
def XX (n d:Nat) (hd:d<=n) (o:Option Int):zy n d o<=n:=by
 cases o with
 | none=>exact hd
 | some v=>
  show (if v<0 then (v+(n:Int)).toNat else min v.toNat n)<=n;by_cases hv:v<0
  .rw[if_pos hv];lia
  .rw[if_neg hv];exact Nat.min_le_right _ _
def av (v:Int) (n d:Nat):(if v<0 then max (v+(n:Int)) 0 else min v (n:Int))=((zy n d (some v):Nat):Int):=by
 show (if v<0 then max (v+(n:Int)) 0 else min v (n:Int))=(((if v<0 then (v+(n:Int)).toNat else min v.toNat n):Nat):Int)
 by_cases hv:v<0
 .simp only[if_pos hv];lia
 .simp only[if_neg hv];lia
def M5 (lo hi:Option Int) (n:Nat):Builtin.Slice.sliceAdjust lo hi 1 (n:Int)=(((zy n 0 lo:Nat):Int),((zy n n hi:Nat):Int)):=by
 have h1:¬ ((1:Int)<0):=by lia
 unfold Builtin.Slice.sliceAdjust;simp only[h1,if_false];refine Prod.ext ?_ ?_
 .cases lo with
  | none=>rfl
  | some v=>exact av v n 0
 .cases hi with
  | none=>rfl
  | some v=>exact av v n n
def WK (i j:Nat):Builtin.Slice.slicePlaces (i:Int) (j:Int) 1=j-i:=by
 unfold Builtin.Slice.slicePlaces;have h1:(1:Int)>0:=by lia
 simp only[h1,if_true,Int.ediv_one];split <;> lia
def fG {v:Value}{o:Option Int}{Q:Option Int->Shared->Prop}(p:IsPart v o) (h:Q o s):wpAny (model prog w) A (Builtin.Slice.slicePartIndex v) Q E s:=by
 cases p with
 | none=>exact slicePart_none h
 | int i t=>exact slicePart_int h
def fH {sl:Addr}{vl vu:Value}{lo hi:Option Int}{n:Nat}{Q:Int×Int×Nat->Shared->Prop}(hs:s.heap.IsSliceOf sl vl vu .none) (pl:IsPart vl lo) (pu:IsPart vu hi)
  (h:Q (((zy n 0 lo:Nat):Int),1,zy n n hi-zy n 0 lo) s):wpAny (model prog w) A (Builtin.Slice.sliceApplied (.ref sl) (pure (n:Int))) Q E s:=by
 obtain⟨os,B2,hcs,DR⟩:=id hs;unfold Builtin.Slice.sliceApplied Builtin.Slice.sliceFields;refine JA (JA (Kz B2 DR (x:=vl) rfl (JA (Kz B2 DR (x:=vu) rfl (JA (Kz B2 DR (x:=.none) rfl (Ab ?_)))))));refine JA (slicePart_none ?_);show wpAny _ _ (if ((1:Int) == 0)=true then _ else _) _ _ s;rw[if_neg (by decide)];refine JA (fG pl (JA (fG pu (JA (Ab ?_)))));show wpAny _ _ (match Builtin.Slice.sliceAdjust lo hi 1 (n:Int) with | (lo,hi)=>pure (lo,(1:Int),Builtin.Slice.slicePlaces lo hi 1)) _ _ s;rw[M5 lo hi n];show wpAny _ _ (pure (((zy n 0 lo:Nat):Int),(1:Int),Builtin.Slice.slicePlaces ((zy n 0 lo:Nat):Int) ((zy n n hi:Nat):Int) 1)) _ _ s;rw[WK];exact Ab h
def WO (xs:An) (i k:Nat):((List.range k).filterMap λ(m:Nat)=>xs[((i:Int)+(m:Int)*1).toNat]?).toArray=((xs.toList.drop i).take k).toArray:=by
 have e:(λ(m:Nat)=>xs[((i:Int)+(m:Int)*1).toNat]?)=λ m=>xs[i+m]?:=by
  funext m;have:((i:Int)+(m:Int)*1).toNat=i+m:=by lia
  rw[this]
 rw[e];have:=pick_run xs i k;rw[List.filterMap_map] at this;have e2:((λ x=>xs[x]?) ∘ λ x=>i+x)=λ m=>xs[i+m]?:=rfl;rw[e2] at this;rw[this]
def O7 {t sl:Addr}{items:An}{vl vu:Value}{lo hi:Option Int}{Q:Af}(ht:IsTup s.heap t items) (hs:s.heap.IsSliceOf sl vl vu .none) (pl:IsPart vl lo) (pu:IsPart vu hi)
  (hw:¬ (zy items.size 0 lo=0/\zy items.size items.size hi=items.size))
  (h:Q (.ref s.heap.objs.size) { s with heap:=s.heap.push { cls:=.type "tuple",data:=.seq ((items.toList.drop (zy items.size 0 lo)).take (zy items.size items.size hi-zy items.size 0 lo)).toArray } })
  (hsz:items.size<=sizeLine):wpAny (model prog w) A (getItem (.ref t) (.ref sl)) Q E s:=by
 have G1:sizeOk (.seq ((items.toList.drop (zy items.size 0 lo)).take (zy items.size items.size hi-zy items.size 0 lo)).toArray):=by
  show ((items.toList.drop (zy items.size 0 lo)).take (zy items.size items.size hi-zy items.size 0 lo)).toArray.size<=sizeLine;rw[Az,C0,D_,Bj];lia
 have hj:zy items.size items.size hi<=items.size:=XX _ _ (Ah _) hi;obtain⟨os,B2,hcs,DR⟩:=id hs;have hTs:s.TypeIs (.ref sl) "slice":=⟨os,B2,hcs⟩
 unfold getItem
 try with_reducible refine KC ?_
 first | refine JA (Ab ?_) | skip
 refine JA (wpAny_sequenceKey ht.typeIs (by decide) ?_);refine JA (KN (name:=Str.ofString "__getitem__") ht.typeIs PyProof.Rows.slot_tuple_getitem
  (KD PyProof.Rows.slot_tuple_getitem ht.typeIs entry_tuple_getitem ?_ (args_tuple_getitem _ _)))
 show wpAny _ _ (Builtin.Tuple.tupleItemsOf (.ref t) >>= _) _ _ s;refine JA (tupleItemsOf_ ht ?_);refine JA (KQ hTs ?_);rw[if_pos (by decide)];refine JA (fH hs pl pu ?_);have hno:¬ ((((zy items.size 0 lo:Nat):Int) == 0&&(1:Int) == 1&&(zy items.size items.size hi-zy items.size 0 lo) == items.size)=true):=by
  intro q;rw[Br,Br] at q;have q1:((zy items.size 0 lo:Nat):Int)=0:=eq_of_beq q.1.1;have q2:zy items.size items.size hi-zy items.size 0 lo=items.size:=eq_of_beq q.2;exact hw ⟨by lia,by lia⟩
 show wpAny _ _ (if (((zy items.size 0 lo:Nat):Int) == 0&&(1:Int) == 1&&(zy items.size items.size hi-zy items.size 0 lo) == items.size)=true then _ else _) _ _ s;rw[if_neg hno,WO]
 first
  | exact JA (m:=Builtin.Tuple.tupleExact _) (KI (Ab ⟨_,rfl,Ab h⟩) G1)
  | exact JA (m:=Builtin.Tuple.tupleExact _) (KI (JA (Ab (Ab ⟨_,rfl,Ab h⟩))) G1)
  | exact JA (JA (m:=Builtin.Tuple.tupleExact _) (KI (Ab (Ab ⟨_,rfl,Ab h⟩)) G1))
  | exact JA (JA (m:=Builtin.Tuple.tupleExact _) (KI (Ab ⟨_,rfl,Ab h⟩) G1))
end
end HT
namespace L2
open PySem PySem.Spec PyProof.Rows
abbrev TO:=St->Hp->(Option Int->Hp->Prop)->Prop
def PO (X:Cx) (e:Option Expr) (t:TO):Prop:=
 ∀ (EV:Ag) (s:Shared) (Y:St) (H:Hp) (Q:Option Int->Hp->Prop),Inv X EV Y H s->t Y H Q->
  wpAny (model X.prog X.w) X.A (evalPart e X.env) (λ u s'=>∃ o H',Inv X EV Y H' s'/\IsPart u o/\Q o H') X.xe s
noncomputable def Xi:TO:=λ _ H Q=>Q none H
noncomputable def Xe (t:TE):TO:=fun Y H Q=>t Y H λ x H1=>∃ i,x=.int i/\Q (some i) H1
def intsAre_of {ns:List Int}:∀ {us:Ad},Vals (ns.map V.int) us->IntsAre us ns:=by
 induction ns with
 | nil=>intro us r;rw[Bp] at r;cases r;exact .nil
 | cons n ns ih=>
  intro us r;rw[Ax] at r;cases r with
  | cons r1 r2=>
   obtain⟨t,e⟩:=r1;subst e;exact .cons n t (ih r2)
section
variable {X:Cx}{e:Expr}{te:TE}{lo hi:Option Expr}{tl th:TO}{pos p2:Pos}
def WJ:PO X none Xi:=by
 intro EV s Y H Q I h;rw[evalPart_none];exact Ab ⟨none,H,I,.none,h⟩
def WI (h:PE X e te):PO X (some e) (Xe te):=by
 intro EV s Y H Q I hw;rw[evalPart_some];refine zv (h EV s Y H _ I hw) λ u s1 ⟨x,H1,I1,r1,q1⟩=>?_;obtain⟨i,rfl,q⟩:=q1;obtain⟨t,rfl⟩:=r1;exact⟨some i,H1,I1,.int i t,q⟩
def sW (X:Cx) (r:V->Option Int->Option Int->Hp->VK->Prop):Prop:=
 ∀ (EV:Ag) (s:Shared) (Y:St) (H:Hp) (x:V) (v vl vu:Value) (lo hi:Option Int) (sl:Addr) (Q:VK),Inv X EV Y H s->RelV x v->s.heap.IsSliceOf sl vl vu .none->IsPart vl lo->IsPart vu hi->r x lo hi H Q->
  ∃ T id,typeLookup (.type T) "__getitem__"=pure (some (.builtin id))/\s.TypeIs v T/\wpAny (model X.prog X.w) X.A (getItem v (.ref sl)) (EP X EV Y Q) X.xe s
def sW.or {r r':V->Option Int->Option Int->Hp->VK->Prop}(h:sW X r) (h':sW X r'):sW X (λ x lo hi H Q=>r x lo hi H Q\/r' x lo hi H Q):=by
 intro EV s Y H x v vl vu lo hi sl Q I rx hs pl pu q;rcases q with q | q
 .exact h EV s Y H x v vl vu lo hi sl Q I rx hs pl pu q
 .exact h' EV s Y H x v vl vu lo hi sl Q I rx hs pl pu q
def Xb (r:V->Option Int->Option Int->Hp->VK->Prop) (te:TE) (tl th:TO):TE:=fun Y H Q=>te Y H λ x H1=>tl Y H1 λ l H2=>th Y H2 λ u H3=>r x l u H3 Q
def Vk {r:V->Option Int->Option Int->Hp->VK->Prop}(hr:sW X r) (he:PE X e te) (hl:PO X lo tl) (hu:PO X hi th):PE X (.Subscript e (.Slice lo hi none p2) pos) (Xb r te tl th):=by
 intro EV s Y H Q I h;refine Subscript_ (zv (he EV s Y H _ I h) λ v s1 ⟨x,H1,I1,r1,q1⟩=>?_);refine wpAny_Slice (zv (hl EV s1 Y H1 _ I1 q1) λ vl s2 ⟨l,H2,I2,pl,q2⟩=>zv (hu EV s2 Y H2 _ I2 q2) λ vu s3 ⟨u,H3,I3,pu,q3⟩=>?_);rw[evalPart_none];refine Ab ?_;have I4:Inv X EV Y H3 { s3 with heap:=s3.heap.push { cls:=.type "slice",data:=.fields #[vl,vu,.none] } }:=I3.kept (t':=s3.toks) λ b ob q=>Ky _ q;obtain⟨T,id,hT,ht,hg⟩:=hr EV { s3 with heap:=s3.heap.push { cls:=.type "slice",data:=.fields #[vl,vu,.none] } } Y H3 x v vl vu l u s3.heap.objs.size Q I4 r1 (Heap.IsSliceOf.new ..) pl pu q3;show wpAny (model X.prog X.w) X.A (subscriptTail e (.Slice lo hi none p2) v (.ref s3.heap.objs.size)) (EP X EV Y Q) X.xe { s3 with heap:=s3.heap.push { cls:=.type "slice",data:=.fields #[vl,vu,.none] } };exact tail_any (ops:=[.ref s3.heap.objs.size,v]) ht hT hg (by with_unfolding_all rfl)
def uN (xs:List V) (lo hi:Option Int):List V:=(xs.drop (HT.zy xs.length 0 lo)).take (HT.zy xs.length xs.length hi-HT.zy xs.length 0 lo)
def ak (xs:List V) (lo hi:Option Int):(uN xs lo hi).length<=xs.length:=by
 unfold uN;rw[C0,D_];lia
def ej (K:Ac):V->Option Int->Option Int->Hp->VK->Prop:=λ x lo hi H Q=>∃ a xs,x=.ref a/\zN K H a xs/\
 ¬ (HT.zy xs.length 0 lo=0/\HT.zy xs.length xs.length hi=xs.length)/\∀ p,H p=none->Q (.ref p) (upd H p (.tup (uN xs lo hi)))
def XJ:sW X (ej X.K):=by
 intro EV s Y H x v vl vu lo hi sl Q I rx hs pl pu h;obtain⟨a,xs,rfl,hx,hw,q⟩:=h;cases rx;obtain⟨its,r,ht,hz⟩:=I.tuple hx;have hlen:its.toArray.size=xs.length:=by rw[Az];exact r.length.symm
 refine⟨"tuple",_,PyProof.Rows.slot_tuple_getitem.lookup,ht.typeIs,?_⟩;refine HT.O7 ht hs pl pu (by rw[hlen];exact hw) ?_ (by rw[hlen];exact hz);rw[hlen];refine⟨.ref s.heap.objs.size,_,I.laid (t':=s.toks) (o:=.tup (uN xs lo hi)) (λ b ob q=>Ky _ q) (Ah _) ?_,rfl,q _ (I.zr.fresh (Ah _))⟩;exact⟨⟨A6 (ak xs lo hi) hz,.new _⟩,_,(r.drop (HT.zy xs.length 0 lo)).take (HT.zy xs.length xs.length hi-HT.zy xs.length 0 lo),IsTup.new _ _⟩
def jj (K:Ac):R2:=λ x y H Q=>∃ a b ns ms,x=.ref a/\y=.ref b/\zN K H a (ns.map V.int)/\zN K H b (ms.map V.int)/\Q (.bl (HT.lexLt ns ms)) H
def TF (hu:X.A.units<cLine):zT X (compareOp .Lt) (jj X.K):=by
 intro EV s Y H x y v u Q I rx ry h;obtain⟨a,b,ns,ms,rfl,rfl,ha,hb,q⟩:=h;cases rx;cases ry;obtain⟨its,r1,p1,_⟩:=I.tuple ha;obtain⟨Fw,r2,p2,_⟩:=I.tuple hb;have i1:IntsAre its.toArray.toList ns:=intsAre_of r1;have i2:IntsAre Fw.toArray.toList ms:=intsAre_of r2;exact HT.QQ p1 p2 i1 i2 hu ⟨.bl (HT.lexLt ns ms),H,I,rfl,q⟩
def eL (K:Ac):R2:=λ x y H Q=>∃ a b xs ys,x=.ref a/\y=.ref b/\zN K H a xs/\zN K H b ys/\xs≠[]/\xs.length+ys.length<=sizeLine/\
 (ys=[]->Q (.ref a) H)/\(ys≠[]->∀ p,H p=none->Q (.ref p) (upd H p (.tup (xs++ys))))
def Vals.og {xs:List V}{us:Ad}(r:Vals xs us):us=[]↔xs=[]:=by
 cases r with
 | _=>simp
def TU:zT X (binaryOp .Add) (eL X.K):=by
 intro EV s Y H x y v u Q I rx ry h;obtain⟨a,b,xs,ys,rfl,rfl,ha,hb,hx,hz,q1,q2⟩:=h;cases rx;cases ry;obtain⟨its,r1,p1,_⟩:=I.tuple ha;obtain⟨Fw,r2,p2,_⟩:=I.tuple hb;refine HT.NG p1 p2 (λ z=>hx (r1.og.mp z)) (λ z=>⟨.ref a,H,I,rfl,q1 (r2.og.mp z)⟩) (λ z=>?_) (by rw[<- r1.length,<- r2.length];exact hz);refine⟨.ref s.heap.objs.size,_,I.laid (t':=s.toks) (o:=.tup (xs++ys)) (λ b ob q=>Ky _ q) (Ah _) ?_,rfl,q2 (λ w=>z (r2.og.mpr w)) _ (I.zr.fresh (Ah _))⟩;exact⟨⟨by rw[Cd];exact hz,.new _⟩,_,r1.append r2,IsTup.new _ _⟩
end
noncomputable def wA (n:Nat) (i:Int):Option Nat:=if 0<=i then (if i<n then some i.toNat else none) else if -(n:Int)<=i then some (i+n).toNat else none
def zL {α:Type}(xs:List α) (i:Int):Option α:=(wA xs.length i).bind λ j=>xs[j]?
def c9 {n:Nat}{i:Int}{j:Nat}(h:wA n i=some j):seqIndex? i n=some j/\j<n/\-(n:Int)<=i/\i<n:=by
 unfold wA at h;by_cases h0:0<=i
 .rw[if_pos h0] at h;by_cases h1:i<n
  .rw[if_pos h1] at h;have e:i.toNat=j:=A7 h;exact⟨by rw[seqIndex_of h0 h1,e],by lia,by lia,h1⟩
  .rw[if_neg h1] at h;cases h
 .rw[if_neg h0] at h;by_cases h1:-(n:Int)<=i
  .rw[if_pos h1] at h;have e:(i+n).toNat=j:=A7 h;exact⟨by rw[seqIndex_neg (by lia) h1,e],by lia,h1,by lia⟩
  .rw[if_neg h1] at h;cases h
def iH {α:Type}{xs:List α}{i:Int}{v:α}(h:zL xs i=some v):∃ j,seqIndex? i xs.length=some j/\xs[j]?=some v/\j<xs.length/\-(xs.length:Int)<=i/\i<xs.length:=by
 unfold zL at h;cases e:wA xs.length i with
 | none=>rw[e] at h;cases h
 | some j=>
  rw[e] at h;obtain⟨h1,h2,h3,h4⟩:=c9 e;exact⟨j,h1,h,h2,h3,h4⟩
def kl {α:Type}(xs:List α) (v:α):zL (xs++[v]) (-1)=some v:=by
 have hl:(xs++[v]).length=xs.length+1:=by simp
 have e:wA (xs++[v]).length (-1)=some xs.length:=by
  unfold wA;rw[hl,if_neg (by decide),if_pos (by lia)];congr 1;lia
 unfold zL;rw[e];show (xs++[v])[xs.length]?=some v;simp
def Zc (b:Expr):Prop:=∀ o i,subscripted b false o i=operate [o,i] (getItem o i)
def tX (X:Cx) (r:R2):Prop:=
 ∀ (value slice:Expr) (EV:Ag) (s:Shared) (Y:St) (H:Hp) (x y:V) (v u:Value) (Q:VK),Inv X EV Y H s->RelV x v->RelV y u->r x y H Q->
  subscripted slice false v u=operate [v,u] (getItem v u)->wpAny (model X.prog X.w) X.A (subscriptTail value slice v u) (EP X EV Y Q) X.xe s
def Zf (X:Cx) (id:String) (r:V->List V->Hp->VK->Prop):Prop:=
 ∀ (EV:Ag) (s:Shared) (Y:St) (H:Hp) (x:V) (xs:List V) (v:Value) (us:Ad) (Q:VK),Inv X EV Y H s->RelV x v->Vals xs us->r x xs H Q->
  wpAny (model X.prog X.w) X.A (call (.builtin id) (v::us)) (EP X EV Y Q) X.xe s
section
variable {X:Cx}{a b:Expr}{ta tb:TE}{pos:Pos}
def tX.or {r r':R2}(h:tX X r) (h':tX X r'):tX X (λ x y H Q=>r x y H Q\/r' x y H Q):=by
 intro value slice EV s Y H x y v u Q I rx ry q hs;rcases q with q | q
 .exact h value slice EV s Y H x y v u Q I rx ry q hs
 .exact h' value slice EV s Y H x y v u Q I rx ry q hs
def Vr {r:R2}(hr:tX X r) (ha:PE X a ta) (hb:PE X b tb) (hs:Zc b):PE X (.Subscript a b pos) (pG r ta tb):=by
 intro EV s Y H Q I h;exact Subscript_ (iE ha hb I h λ v u s2 x y H2 I2 rx ry q=>hr a b EV s2 Y H2 x y v u Q I2 rx ry q (hs _ _))
def eD (K:Ac):R2:=λ x y H Q=>∃ p xs i v,x=.ref p/\y=.int i/\zJ K H p xs/\zL xs i=some v/\Q v H
def eB (K:Ac):R2:=λ x y H Q=>∃ p xs i v,x=.ref p/\y=.int i/\zN K H p xs/\zL xs i=some v/\Q v H
def eC:R2:=λ x y H Q=>∃ z i c,x=.str z/\y=.int i/\z.length<=sizeLine/\zL z.cps.toList i=some c/\Q (.str ⟨#[c]⟩) H
def Pz:tX X (eD X.K):=by
 intro value slice EV s Y H x y v u Q I rx ry h hs;obtain⟨p,xs,i,z,rfl,rfl,hq,he,q⟩:=h;cases rx;obtain⟨t,rfl⟩:=ry;obtain⟨its,r,pl,hz⟩:=I.list hq;obtain⟨j,h1,h2,h3,h4,h5⟩:=iH he;obtain⟨w,ew,G7⟩:=r.get h2;have hl:=r.length;have hn:=rD;have fin:EP X EV Y Q w s:=⟨z,H,I,G7,q⟩
 by_cases h0:0<=i
 .have hj:i.toNat=j:=by
   rw[seqIndex_of h0 h5] at h1;exact A7 h1
  exact item_listR pl.isList h0 (by lia) (by rw[hj];simpa using ew) fin hs
 .have hj:(i+(its.toArray.size:Int)).toNat=j:=by
   rw[seqIndex_neg (by lia) h4] at h1;rw[Az,<- hl];exact A7 h1
  exact subscriptTail_builtinR (x:=w) pl.isList.typeIs slot_list_getitem.lookup
   (wpAny_getItem_list_neg (Q:=λ r s'=>r=w/\EP X EV Y Q r s') pl.isList (by lia) (by rw[Az] <;> lia) (by lia) (by rw[hj];simpa using ew) ⟨rfl,fin⟩) hs
def Pw:tX X (eB X.K):=by
 intro value slice EV s Y H x y v u Q I rx ry h hs;obtain⟨p,xs,i,z,rfl,rfl,hq,he,q⟩:=h;cases rx;obtain⟨t,rfl⟩:=ry;obtain⟨its,r,pl,hz⟩:=I.tuple hq;obtain⟨j,h1,h2,h3,h4,h5⟩:=iH he;obtain⟨w,ew,G7⟩:=r.get h2;have hl:=r.length;have hn:=rD;have fin:EP X EV Y Q w s:=⟨z,H,I,G7,q⟩
 exact subscriptTail_builtinR (x:=w) pl.typeIs slot_tuple_getitem.lookup
  (getItem_tuple (j:=j) (Q:=λ r s'=>r=w/\EP X EV Y Q r s') pl (by lia) (by lia) (by rw[Az,<- hl];exact h1) (by simpa using ew) ⟨rfl,fin⟩) hs
def Px:tX X eC:=by
 intro value slice EV s Y H x y v u Q I rx ry h hs;obtain⟨z,i,c,rfl,rfl,hz,he,q⟩:=h;obtain⟨t,rfl⟩:=rx;obtain⟨t',rfl⟩:=ry;obtain⟨j,h1,h2,h3,h4,h5⟩:=iH he;have hl:z.cps.toList.length=z.length:=by simp[Str.length]
 rw[hl] at h1 h4 h5;have hn:=rD;exact tail_any (typeIs_str s z t) slot_str_getitem.lookup (getItem_str (c:=c) (by
  have e1:decide (i < -(2 ^ 63:Int))=false:=KA (by lia);have e2:decide (i≥2 ^ 63)=false:=KA (by lia);rw[e1,e2,Bool.or_false]) (by rw[h1];simpa using h2) ⟨.str ⟨#[c]⟩,H,I.tok _,⟨_,rfl⟩,q⟩) hs
def eF (K:Ac):R2:=λ x y H Q=>eD K x y H Q\/eB K x y H Q\/eC x y H Q
def Py:tX X (eF X.K):=Pz.or (Pw.or Px)
def QP (its:Ad) (n j:Nat) (u:Value):Obj.mapSeq (·.setIfInBounds j u) { cls:=.type "list",data:=.seq its.toArray n }={ cls:=.type "list",data:=.seq (its.set j u).toArray n }:=by
 simp[Obj.mapSeq]
theorem Inv.lst {EV:Ag}{Y:St}{H:Hp}{s:Shared}{p:Addr}{xs:List V}(I:Inv X EV Y H s) (h:H p=some (.lst xs)):
  ∃ (its:Ad) (n:Nat),Vals xs its/\s.heap.get? p=some { cls:=.type "list",data:=.seq its.toArray n }/\xs.length<=sizeLine:=by
 obtain⟨z,its,n,r,e⟩:=I.zr p _ h;exact⟨its,n,r,e,z⟩
def Inv.QR {EV:Ag}{Y:St}{H:Hp}{s:Shared}{p:Addr}{xs ys:List V}{its AL:Ad}{n n':Nat}{f:Obj->Obj}(I:Inv X EV Y H s) (h:H p=some (.lst xs))
  (ho:s.heap.get? p=some { cls:=.type "list",data:=.seq its.toArray n }) (hf:f { cls:=.type "list",data:=.seq its.toArray n }={ cls:=.type "list",data:=.seq AL.toArray n' }) (r:Vals ys AL) (hz:ys.length<=sizeLine) (t:Nat):
  Inv X EV Y (upd H p (.lst ys)) { s with heap:=s.heap.update p f,toks:=t }:=by
 have e:(s.heap.update p f).get? p=some { cls:=.type "list",data:=.seq AL.toArray n' }:=by
  rw[KO f ho (by rw[hf] <;> rfl),hf]
 refine I.write (x:=p) (e:=p) (by rw[h];trivial) (.inl rfl) (λ b u hb q=>(KW _ _ (Ne.symm hb)).trans q) ⟨_,e⟩ ?_;exact⟨hz,AL,n',r,e⟩
def Wo:V->V->V->Hp->(Hp->Prop)->Prop:=λ o i v H Q=>∃ p xs k j,o=.ref p/\i=.int k/\H p=some (.lst xs)/\wA xs.length k=some j/\Q (upd H p (.lst (xs.set j v)))
def set_list:Zd X Wo:=by
 intro EV s Y H o i v ov iv u Q I ro ri rv h;obtain⟨p,xs,k,j,rfl,rfl,hp,hj,q⟩:=h;cases ro;obtain⟨t,rfl⟩:=ri;obtain⟨its,n,r,ho,hz⟩:=I.lst hp;obtain⟨h1,h2,h3,h4⟩:=c9 hj;have hl:=r.length;have hn:=rD;have I':Inv X EV Y (upd H p (.lst (xs.set j v))) { s with heap:=s.heap.update p (Obj.mapSeq (·.setIfInBounds j u)) }:=
  I.QR hp ho (QP its n j u) (r.set rv j) (by rw[DC];exact hz) s.toks
 by_cases h0:0<=k
 .have hk:k.toNat=j:=by
   rw[seqIndex_of h0 h4] at h1;exact A7 h1
  exact PySem.W.ki_setAt ho h0 (by lia) (by rw[Az,<- hl];exact h4) (by rw[hk];exact⟨_,I',q⟩)
 .have hk:(k+(its.toArray.size:Int)).toNat=j:=by
   rw[seqIndex_neg (by lia) h3] at h1;rw[Az,<- hl];exact A7 h1
  exact PySem.W.ki_setBack ho (by lia) (by rw[Az,<- hl];exact h3) (by lia) (by rw[hk];exact⟨_,I',q⟩)
def XG (lo hi:Option Int) (n:Nat):(sliceBounds lo hi none n).1=((HT.zy n 0 lo:Nat):Int)/\(sliceBounds lo hi none n).2.1=((HT.zy n n hi:Nat):Int)/\(sliceBounds lo hi none n).2.2=1:=by
 refine⟨?_,?_,rfl⟩
 .cases lo with
  | none=>simp[sliceBounds,HT.zy]
  | some i=>
   simp only[sliceBounds,HT.zy,Option.getD_none,show (1:Int)>0 by decide,if_true];by_cases h:i<0
   .simp only[h,if_true] <;> lia
   .simp only[h,if_false] <;> lia
 .cases hi with
  | none=>simp[sliceBounds,HT.zy]
  | some i=>
   simp only[sliceBounds,HT.zy,Option.getD_none,show (1:Int)>0 by decide,if_true];by_cases h:i<0
   .simp only[h,if_true] <;> lia
   .simp only[h,if_false] <;> lia
def XH (its:Ad) (lo hi:Option Int):slicePick its.toArray lo hi none=((its.drop (HT.zy its.length 0 lo)).take (HT.zy its.length its.length hi-HT.zy its.length 0 lo)).toArray:=by
 obtain⟨h1,h2,h3⟩:=XG lo hi its.toArray.size;unfold slicePick;rw[h1,h2,h3];simp only[sliceRange_one,pick_run,Az] <;> rfl
def ez (K:Ac):V->Option Int->Option Int->Hp->VK->Prop:=λ x lo hi H Q=>∃ a xs,x=.ref a/\zJ K H a xs/\∀ p,H p=none->Q (.ref p) (upd H p (.lst (uN xs lo hi)))
def XN:sW X (ez X.K):=by
 intro EV s Y H x v vl vu lo hi sl Q I rx hs pl pu h;obtain⟨a,xs,rfl,hx,q⟩:=h;cases rx;obtain⟨its,r,ht,hz⟩:=I.list hx;have hlen:=r.length;refine⟨"list",_,slot_list_getitem.lookup,ht.isList.typeIs,?_⟩;refine wpAny_getItem_list_slice ht.isList hs pl pu .none (by simp) ?_ (by rw[Az] <;> lia);rw[XH,<- hlen];refine⟨.ref s.heap.objs.size,_,I.laid (t':=s.toks) (o:=.lst (uN xs lo hi)) (λ b ob q=>Ky _ q) (Ah _) ?_,rfl,q _ (I.zr.fresh (Ah _))⟩;exact⟨A6 (ak xs lo hi) hz,_,0,(r.drop (HT.zy xs.length 0 lo)).take (HT.zy xs.length xs.length hi-HT.zy xs.length 0 lo),AG _ rfl⟩
def NX:yC X (.builtin "len") (λ xs H Q=>∃ p ys,xs=[.ref p]/\(zJ X.K H p ys\/zN X.K H p ys)/\Q (.int ys.length) H):=by
 intro EV s Y H xs us Q I r h;obtain⟨p,ys,rfl,hq,q⟩:=h;obtain⟨u,rfl,rx⟩:=vals1 r;cases rx;have hn:=rD;rcases hq with hq | hq
 .obtain⟨its,r',pl,hz⟩:=I.list hq;have hlen:=r'.length;exact Calls.call_len_list pl.isList (by simp only[Az] <;> lia) ⟨.int ys.length,H,I.tok _,⟨s.toks+1,by rw[Az,hlen]⟩,q⟩
 .obtain⟨its,r',pl,hz⟩:=I.tuple hq;have hlen:=r'.length;exact len_tuple pl (by simp only[Az] <;> lia) ⟨.int ys.length,H,I.tok _,⟨s.toks+1,by rw[Az,hlen]⟩,q⟩
def NW:yC X (.builtin "len") (λ xs H Q=>∃ z,xs=[.str z]/\z.length<=sizeLine/\Q (.int z.length) H):=by
 intro EV s Y H xs us Q I r h;obtain⟨z,rfl,hz,q⟩:=h;obtain⟨u,rfl,t,rfl⟩:=vals1 r;have hn:=rD;exact len_str (by lia) ⟨.int z.length,H,I.tok _,⟨_,rfl⟩,q⟩
def yC.or {f:Value}{r r':List V->Hp->VK->Prop}(h:yC X f r) (h':yC X f r'):yC X f (λ xs H Q=>r xs H Q\/r' xs H Q):=by
 intro EV s Y H xs us Q I rs q;rcases q with q | q
 .exact h EV s Y H xs us Q I rs q
 .exact h' EV s Y H xs us Q I rs q
def NU:yC X (.type "list") (λ xs H Q=>∃ p ys,xs=[.ref p]/\(zJ X.K H p ys\/zN X.K H p ys)/\∀ l,H l=none->Q (.ref l) (upd H l (.lst ys))):=by
 intro EV s Y H xs us Q I r h;obtain⟨p,ys,rfl,hq,q⟩:=h;obtain⟨u,rfl,rx⟩:=vals1 r;cases rx;have fin:∀ (its:Ad),Vals ys its->ys.length<=sizeLine->∀ (h':Heap) (c':Nat),(∀ b o',s.heap.get? b=some o'->h'.get? b=some o')->
   h'.get? s.heap.objs.size=some { cls:=.type "list",dict:=none,data:=.seq its.toArray c',slots:=#[] }->EP X EV Y Q (.ref s.heap.objs.size) { s with heap:=h' }:=λ its r' hz h' c' kp e=>
  ⟨.ref s.heap.objs.size,_,I.laid (t':=s.toks) kp (Ah _) (show yE X.prog X.w _ h' _ (.lst ys) from ⟨hz,its,c',r',e⟩),rfl,q _ (I.zr.fresh (Ah _))⟩
 rcases hq with hq | hq
 .obtain⟨its,r',pl,hz⟩:=I.list hq;have hlen:=r'.length;obtain⟨o,ho,hc,n,hd⟩:=pl.isList;exact call_list_seq p (.inl rfl) ho hc hd (λ h' c' kp e=>fin its r' hz h' c' kp e) (by simp only[Az] <;> lia)
 .obtain⟨its,r',pl,hz⟩:=I.tuple hq;have hlen:=r'.length;obtain⟨o,ho,hc,n,hd⟩:=pl;exact call_list_seq p (.inr rfl) ho hc hd (λ h' c' kp e=>fin its r' hz h' c' kp e) (by simp only[Az] <;> lia)
def NH:yC X (.type "tuple") (λ xs H Q=>∃ p ys,xs=[.ref p]/\((zJ X.K H p ys/\∀ l,H l=none->Q (.ref l) (upd H l (.tup ys)))\/(zN X.K H p ys/\Q (.ref p) H))):=by
 intro EV s Y H xs us Q I r h;obtain⟨p,ys,rfl,h⟩:=h;obtain⟨u,rfl,rx⟩:=vals1 r;cases rx;rcases h with ⟨hq,q⟩ | ⟨hq,q⟩
 .obtain⟨its,r',pl,hz⟩:=I.list hq;have hlen:=r'.length;refine call_tuple_list pl.isList (λ h' kp=>?_) (by simp only[Az] <;> lia);have I1:Inv X EV Y H { s with heap:=h' }:=I.kept (t':=s.toks) kp;have I2:Inv X EV Y (upd H h'.objs.size (.tup ys)) { s with heap:=h'.push { cls:=.type "tuple",data:=.seq its.toArray } }:=
   I1.laid (t':=s.toks) (λ b o e=>Ky _ e) (Ah _) (show yE X.prog X.w _ _ _ (.tup ys) from ⟨⟨hz,.new _⟩,its,r',IsTup.new _ _⟩)
  exact⟨.ref h'.objs.size,_,I2,rfl,q _ (I1.zr.fresh (Ah _))⟩
 .obtain⟨its,r',pl,hz⟩:=I.tuple hq;exact call_tuple_same pl ⟨.ref p,H,I,rfl,q⟩
def gY (K:Ac) (T:String) (x:V) (H:Hp):Prop:=match x with
 | .str _=>T="str"
 | .int _=>T="int"
 | .ref p=>(T="list"/\∃ xs,zJ K H p xs)\/(T="tuple"/\∃ o,K.lookup p=some o/\o.cls=.type "tuple"/\o.dict=none)\/
   (T="dict"/\((∃ Aa,H p=some (.dK Aa))\/∃ Aa,H p=some (.dT Aa)))\/(T="set"/\∃ S n,H p=some (.set S n))
 | _=>False
def YL {EV:Ag}{Y:St}{H:Hp}{s:Shared}{T:String}{x:V}{v:Value}(I:Inv X EV Y H s) (r:RelV x v) (ty:gY X.K T x H):
  s.TypeIs v T/\∀ a,v=.ref a->∃ ob,s.heap.get? a=some ob/\ob.dict=none:=by
 cases x with
 | str z=>
  obtain⟨t,rfl⟩:=r;cases (show T="str" from ty);exact⟨typeIs_str s z t,λ _ e=>nomatch e⟩
 | int i=>
  obtain⟨t,rfl⟩:=r;cases (show T="int" from ty);exact⟨typeIs_int s i t,λ _ e=>nomatch e⟩
 | ref p=>
  cases r;rcases ty with ⟨rfl,xs,hq⟩ | ⟨rfl,o,hk,hc,hd⟩ | ⟨rfl,hk⟩ | ⟨rfl,S,n,hk⟩
  .obtain⟨its,_,pl,_⟩:=I.list hq;refine⟨pl.isList.typeIs,λ a e=>?_⟩;cases e;obtain⟨o,n,e,c,hd,_⟩:=pl;exact⟨o,e,hd⟩
  .refine⟨⟨o,I.wR p o hk,hc⟩,λ a e=>?_⟩;cases e;exact⟨o,I.wR _ o hk,hd⟩
  .have z:∃ o,s.heap.get? p=some o/\o.ExactDict:=by
    rcases hk with ⟨Aa,hk⟩ | ⟨Aa,hk⟩
    .obtain⟨_,_,_,_,o,_,_,e,ex,_⟩:=I.zr p _ hk;exact⟨o,e,ex⟩
    .obtain⟨_,_,_,_,o,_,_,e,ex,_⟩:=I.zr p _ hk;exact⟨o,e,ex⟩
   obtain⟨o,e,ex⟩:=z;refine⟨⟨o,e,ex.1⟩,λ a e2=>?_⟩;cases e2;exact⟨o,e,ex.2.1⟩
  .obtain⟨o,_,_,_,e,ex,_⟩:=I.zr p _ hk;refine⟨⟨o,e,ex.1⟩,λ a e2=>?_⟩;cases e2;exact⟨o,e,ex.2.1⟩
 | _=>exact False.elim ty
def mq (K:Ac) (T:String) (r:V->List V->Hp->VK->Prop) (to:TE) (t:TA):TE:=fun Y H Q=>to Y H λ x H1=>gY K T x H1/\t Y H1 λ xs H2=>r x xs H2 Q
variable {o e:Expr}{es:List Expr}{to:TE}{t:TA}{name:Str}{apos Ae:Pos}{T id:String}{r:V->List V->Hp->VK->Prop}
def jo (pa:PlainAttrs T) (slot:Slot T name id) (hty:typeOf (.builtin id)=pure (.type "method_descriptor")) (hm:Zf X id r) (ho:PE X o to) (ha:PA X (e::es) t)
  (FC:attributeBase o name X.env (eval o X.env)=eval o X.env:=by rfl)
  (AD:((backTo Ae (starEach (e::es) X.env)).all (λ x=>!x.1)&&(backToKw Ae (keywordEach [] X.env)).all (λ x=>x.1.isSome)
   && decide ((e::es).length+([]:List Keyword).length+(if ([]:List Keyword).isEmpty then 0 else 1)<30))=true:=by rfl)
  (Fz:(apos.endLine == Ae.line)=true:=by rfl) (hs:starEach (e::es) X.env=(false,eval e X.env)::starEach es X.env:=by rfl) (Fg:(backTo Ae (starEach es X.env)).any (·.1)=false:=by rfl):
  PE X (.Call (.Attribute o name apos) (e::es) [] Ae) (mq X.K T r to t):=by
 intro EV s Y H Q I h;refine wpAny_Call_method_late FC AD Fz rfl (zv (ho EV s Y H _ I h) λ v s1 ⟨x,H1,I1,r1,ty,q1⟩=>?_);obtain⟨h1,h2⟩:=YL I1 r1 ty;refine⟨T,id,pa,slot,hty,h1,h2,?_⟩;have hA:=ha Ae EV s1 Y H1 _ I1 q1;rw[hs] at hA ⊢;refine Calls.callWith_builtin (by show (false||(backTo Ae (starEach es X.env)).any (·.1))=false;rw[Fg] <;> rfl) (Calls.evalArgs_plain ?_);exact zv hA λ us s2 ⟨vs,H2,I2,r2,q2⟩=>hm EV s2 Y H2 x vs v us Q I2 r1 r2 q2
end
def hX (X:Cx) (id:String) (r:V->List V->Hp->VK->Prop):Prop:=
 ∀ (EV:Ag) (s:Shared) (Y:St) (H:Hp) (x:V) (xs:List V) (v:Value) (us:Ad) (Q:VK),Inv X EV Y H s->RelV x v->Vals xs us->r x xs H Q->
  wpAny (model X.prog X.w) X.A (call (.builtin id) (v::us)) (EP X EV Y Q) X.xe s
theorem Vals.one:∀ {x:V}{us:Ad},Vals [x] us->∃ u,us=[u]/\RelV x u
 | _,_,.cons r .nil=>⟨_,rfl,r⟩
theorem Vals.eraseIdx:∀ {xs:List V}{us:Ad}(i:Nat),Vals xs us->Vals (xs.eraseIdx i) (us.eraseIdx i)
 | _,_,_,.nil=>.nil
 | _,_,0,.cons _ t=>t
 | _,_,i+1,.cons r t=>.cons r (Vals.eraseIdx i t)
theorem Vals.rep {xs:List V}{us:Ad}(h:Vals xs us):∀ k:Nat,Vals (List.replicate k xs).flatten (List.replicate k us).flatten
 | 0=>.nil
 | k+1=>by
  rw[BK,BK,B_,B_];exact Vals.append h (Vals.rep h k)
theorem cm {α:Type}:∀ (l:List α) (i:Nat),(l.eraseIdx i).length<=l.length
 | [],_=>Ah _
 | _::_,0=>DB _
 | _::r,i+1=>Nat.succ_le_succ (cm r i)
section
variable {X:Cx}{EV:Ag}{Y:St}{H:Hp}{s:Shared}{l:Addr}{xs ys:List V}
def Inv.j8 {its AL:Ad}{n:Nat}{f:Array Value->Array Value}{t':Nat}(I:Inv X EV Y H s) (hH:H l=some (.lst xs))
  (e:s.heap.get? l=some { cls:=.type "list",data:=.seq its.toArray n }) (hf:f its.toArray=AL.toArray) (hv:Vals ys AL) (hz:ys.length<=sizeLine):
  Inv X EV Y (upd H l (.lst ys)) { s with heap:=s.heap.update l (Obj.mapSeq f),toks:=t' }:=by
 have q:=PySem.IsL.update e f;rw[hf] at q;refine I.write (x:=l) (e:=l) (by rw[hH];exact trivial) (.inl rfl) (λ b' u hb hu=>(KW s.heap (Obj.mapSeq f) (Ne.symm hb)).trans hu) ⟨_,q⟩ ?_;exact⟨hz,AL,_,hv,q⟩
def Inv.QT {its:Ad}{t':Nat}(I:Inv X EV Y H s) (hv:Vals ys its) (hz:ys.length<=sizeLine):
  Inv X EV Y (upd H s.heap.objs.size (.lst ys)) { s with heap:=s.heap.push { cls:=.type "list",data:=.seq its.toArray },toks:=t' }:=
 I.laid (λ _ _ q=>Ky _ q) (Ah _) ⟨hz,its,0,hv,AG _ rfl⟩
theorem Inv.fresh (I:Inv X EV Y H s):H s.heap.objs.size=none:=I.zr.fresh (Ah _)
def Inv.mT (I:Inv X EV Y H s) (hH:H l=some (.lst xs)):xs.length<=sizeLine/\∃ (its:Ad) (n:Nat),Vals xs its/\xs.length=its.length/\s.heap.get? l=some { cls:=.type "list",data:=.seq its.toArray n }:=by
 obtain⟨z,its,n,r,e⟩:=I.zr l _ hH;exact⟨z,its,n,r,r.length,e⟩
def Qy {n:Nat}(h:n<=sizeLine):Builtin.List.listTooLong n=false:=by
 unfold Builtin.List.listTooLong;exact KA (by lia)
def eN:V->List V->Hp->VK->Prop:=λ x vs H Q=>∃ l xs y,x=.ref l/\vs=[y]/\H l=some (.lst xs)/\xs.length<sizeLine/\Q .zm (upd H l (.lst (xs++[y])))
def dN:hX X "list.append" eN:=by
 intro EV s Y H x vs v us Q I rx rv h;obtain⟨l,xs,y,rfl,rfl,hH,hz,q⟩:=h;cases rx;obtain⟨u,rfl,ru⟩:=rv.one;obtain⟨z,its,n,r,hl,e⟩:=I.mT hH;refine call_meets F.slot_list_append ⟨_,e,rfl⟩ F.entry_list_append (F.args_list_append_2 _ _) (PySem.list_append l its.toArray n u (by rw[Az];lia)) ⟨e,?_⟩;refine⟨.zm,_,I.j8 (AL:=its++[u]) hH e (by simp) (r.append (.cons ru .nil)) ?_,rfl,q⟩;rw[Cd,List.length_singleton];lia
def eJ:V->List V->Hp->VK->Prop:=λ x vs H Q=>∃ l b xs zs,x=.ref l/\vs=[.ref b]/\H l=some (.lst xs)/\H b=some (.lst zs)/\xs.length+zs.length<=sizeLine/\Q .zm (upd H l (.lst (xs++zs)))
def QJ:hX X "list.extend" eJ:=by
 intro EV s Y H x vs v us Q I rx rv h;obtain⟨l,b,xs,zs,rfl,rfl,hH,hB,hz,q⟩:=h;cases rx;obtain⟨u,rfl,ru⟩:=rv.one;cases ru;obtain⟨z,its,n,r,hl,e⟩:=I.mT hH;obtain⟨z2,Fw,n2,r2,Im,e2⟩:=I.mT hB;have hsz:its.toArray.size+Fw.toArray.size<=sizeLine:=by rw[Az,Az];lia
 have IU:¬ (!its.toArray.isEmpty&&Builtin.List.listTooLong (its.toArray.size+Fw.toArray.size))=true:=by
  rw[Qy hsz,CF];exact BM
 refine call_meets F.slot_list_extend ⟨_,e,rfl⟩ F.entry_list_extend (F.args_list_extend_2 _ _)
  (AutoSeq1.list_extend_list_list_0 l its.toArray n b Fw.toArray n2 IU (by rw[Az];lia) (by lia)) ⟨e,e2,?_⟩
 refine⟨.zm,_,I.j8 (AL:=its++Fw) hH e (by simp) (r.append r2) ?_,rfl,q⟩;rw[Cd];lia
def eA:V->List V->Hp->VK->Prop:=λ x vs H Q=>∃ l xs i k y,x=.ref l/\vs=[.int i]/\H l=some (.lst xs)/\-(2 ^ 63)<=i/\i<2 ^ 63/\seqIndex? i xs.length=some k/\xs[k]?=some y/\Q y (upd H l (.lst (xs.eraseIdx k)))
def QH:hX X "list.pop" eA:=by
 intro EV s Y H x vs v us Q I rx rv h;obtain⟨l,xs,i,k,y,rfl,rfl,hH,h1,h2,hk,hy,q⟩:=h;cases rx;obtain⟨u,rfl,ru⟩:=rv.one;obtain⟨t,rfl⟩:=ru;obtain⟨z,its,n,r,hl,e⟩:=I.mT hH;obtain⟨w,hw,G7⟩:=r.get hy;refine call_meets F.slot_list_pop ⟨_,e,rfl⟩ F.entry_list_pop (F.args_list_pop_2 _ _)
  (MeetsSeq.list_pop_at l its.toArray n i t k w (fitsIndex_both h1 h2) (by rw[Az,<- hl];exact hk) (by rw[<- Bi];exact hw) (by rw[Az];lia)) ⟨e,?_⟩
 refine⟨y,_,I.j8 (AL:=its.eraseIdx k) hH e ?_ (r.eraseIdx k) ?_,G7,q⟩
 .show its.toArray.eraseIdxIfInBounds k=(its.eraseIdx k).toArray;rw[List.eraseIdxIfInBounds_toArray]
 .have:=cm xs k;lia
end
end L2
namespace Y6
open PySem PySem.W PySem.Calls PyProof.Rows
def PV {P:Params}{h:Heap}:∀ (ns:List Int) (vs:Ad),WellAll P h vs (ns.map WData.int)->IntsAre vs ns:=by
 intro ns
 induction ns with
 | nil=>
  intro vs w;rw[Bp] at w;cases w;exact .nil
 | cons n ns ih=>
  intro vs w;rw[Ax] at w;cases w with
  | cons a b=>
   cases a;exact .cons _ _ (ih _ b)
def XW {l:OpenLaw}{n:Nat}(hn:l.most=some n) {P:Params}{h:Heap}{args:List WData}{vals:Ad}
  (BZ:l.row.toRowW.claim.pre args=true) (Eh:WellAll P h vals args):
  ∃ a vs ns,vals=[Value.ref a]/\args=[WData.list (ns.map WData.int)]/\h.get? a=some { cls:=.type "list",data:=.seq vs.toArray }/\IntsAre vs ns/\ns.length<=n:=by
 have DI:WShape.hasAll [] args [.list .int]=true:=(pre_splitW BZ).1;have hc:l.pre.holds [] { args:=args }=true:=(pre_splitW BZ).2;obtain⟨d,r,rfl,h1,h2⟩:=hasAllW_cons DI;obtain rfl:=hasAllW_nil h2;obtain⟨xs,rfl,h3⟩:=hasW_list h1;obtain⟨ns,rfl⟩:=items_int h3;have hlen:ns.length<=n:=by
  unfold OpenLaw.pre at hc;have h4:(WTm.not (.lt (.lit (.int (n:Int))) (.len (.arg 0)))).holds [] { args:=[.list (ns.map .int)] }=true:=by
   have h4:=(holds_andW hc).1;rw[hn] at h4;exact h4
  have h5:=condW_of h4 (w_not (w_lt w_lit (w_len_list (w_arg rfl))));rw[AB] at h5;refine Nat.le_of_not_lt λ q=>?_;have q':(n:Int)<((ns.length:Nat):Int):=by lia
  first
   | (rw[KG q'] at h5;exact absurd h5 (by decide))
   | (simp at h5;lia)
 cases Eh with
 | cons w1 w2=>
  cases w2;cases w1 with
  | list ho AH=>exact⟨_,_,ns,rfl,rfl,ho,PV ns _ AH,hlen⟩
def WH (l:OpenLaw) (args:List WData):l.row.toRowW.claim.post args (.bool true) args=true:=
 postW_of (r:=l.row.toRowW) (X:=(true == true))
  (show WShape.has [] (.bool true) .bool=true by first | rfl | decide | simp[WShape.has,WShape.arms,WShape.armsAll])
  (show (WTm.eq .res (.lit (.bool true))).value [] { args:=args,res:=some (.bool true),after:=args }=some (.bool (true == true)) from w_eq_bool (w_res rfl) w_lit) rfl
def Mu {l:OpenLaw}{n:Nat}{q:Program}{loose:List Str}{XP:(Str->Option Value)->Heap->Prop}{YP:World->Heap->Prop}{d:DefRec}
  (hn:l.most=some n) (Di:d.params.defaults=[])
  (call:∀ (w:World) (s₀ s₁:Shared) (mg mb:AI) (fa:Addr) (o:Obj) (pm cd doc:Value) (a:Addr) (vs:Ad) (ns:List Int),
   Ground q loose [] XP w s₀ mg mb s₁.heap->YP w s₁.heap->
   s₁.heap.get? fa=some o->o.data=.func (docDef d.name d.params d.body d.scope pm cd doc)->s₁.heap.CodeRec cd d.name->mg d.name=some (.ref fa)->
   s₁.heap.get? a=some { cls:=.type "list",data:=.seq vs.toArray }->IntsAre vs ns->ns.length<=n->s₁.gens=#[]->
   codeAny (model l.prog w) callerA (.call (.ref fa) ⟨[.ref a],[]⟩) (λ r s'=>r=.ok (.ret (.bool true))/\OldK s₁.heap s'.heap/\s'.os=s₁.os/\AllBare s'.gens) s₁):
  WalkO q loose XP YP l.row.toRowW d [] (λ f vs=>PySem.call f vs):=by
 intro w s₀ s₁ mg mb G Y fa o pm cd doc dV kV ho hd Bv hD C9 hg args vals as BZ C_ hrd Eh ED;obtain rfl:dV=.none:=Dflts.none hD Di;obtain rfl:kV=.none:=Dflts.noKw hD;obtain⟨a,vs,ns,rfl,rfl,Ct,hints,hlen⟩:=XW hn BZ Eh;refine enter_call (codeAny_mono (call w s₀ s₁ mg mb fa o pm cd doc a vs ns G Y ho (fd_plain hd) Bv C9 Ct hints hlen hg) λ r s' hq=>?_);obtain⟨rfl,h2,h3,h4⟩:=hq;exact⟨.inl ⟨.bool true,.bool true,[],rfl,λ _=>rfl,.bool true,WH l _,λ _=>⟨List.Pairwise.nil,λ _ hm=>(nomatch hm)⟩⟩,h2,h3,h4⟩
end Y6
namespace L2
open PySem PySem.Spec PyProof.Rows
theorem gK:∀ {vs:Ad}{ns:List Int},IntsAre vs ns->Vals (ns.map V.int) vs
 | _,_,.nil=>.nil
 | _,_,.cons n t h=>.cons ⟨t,rfl⟩ (gK h)
def kr (H:Hp):Prop:=∀ b,H b=none\/∃ o xs,H b=some (.xJ o (.lst xs))
def Ph {P:Program}{w:World}{K:Ac}{mg mb:AI}{CX:um}{k:Nat}{fa a:Addr}{fd:FuncData}{x:Str}{sp:Sp}{s₁:Shared}{vs:Ad}{ns:List Int}
  (KX:K.In s₁.heap) (Cu:s₁.heap.Ns mainGlobals mg) (hb:s₁.heap.Ns builtinsNs mb) (hbb:∀ x:Str,x≠"__name__"->mb x=bootBuiltins x) (EE:s₁.heap.NoLimit) (hg:s₁.gens=#[])
  (ha:s₁.heap.get? a=some { cls:=.type "list",data:=.seq vs.toArray }) (hi:IntsAre vs ns) (hl:ns.length<=sizeLine) (hr:yd k callerA)
  (F:∀ base:Heap,K.In base->base.Ns mainGlobals mg->vz P w K mg base CX k fa fd [x] sp) (IZ:∀ (s:Shared) (u:Value),BindsTo s fd ⟨[u],[]⟩ [(x,u)])
  (BO:∀ H:Hp,kr H->zJ K H a (ns.map V.int)->sp [.ref a] H (λ v _=>v=.bl true) λ _ _ _=>False)
  (Kg:∀ H e s',CX [] H s₁ (λ _ _ _=>False) e s'->False):
  codeAny (model P w) callerA (.call (.ref fa) ⟨[.ref a],[]⟩) (λ r s'=>r=.ok (.ret (.bool true))/\OldK s₁.heap s'.heap/\s'.os=s₁.os/\AllBare s'.gens) s₁:=by
 have rv:=gK hi;have JM:=hi.length;have core:∀ H:Hp,kr H->zJ K H a (ns.map V.int)->yA P w H s₁.heap->(∀ b,H b≠none->b=a)->(H a≠none->K.lookup a=none)->
   codeAny (model P w) callerA (.call (.ref fa) ⟨[.ref a],[]⟩) (λ r s'=>r=.ok (.ret (.bool true))/\OldK s₁.heap s'.heap/\s'.os=s₁.os/\AllBare s'.gens) s₁:=by
  intro H hO hS zr hA hK;have G5:∀ {b:Addr}{o:Obj},s₁.heap.get? b=some o->H b=none->(tM s₁.heap H).get? b=some o:=λ e n=>Oh e n;have IH:∀ {b:Addr}{o:Obj}{es:Array DictEntry}{ep:Nat},s₁.heap.get? b=some o->o.data=.dict es ep->H b=none:=λ{b o es ep} e d=>by
   cases q:H b with
   | none=>rfl
   | some u=>
    have e':b=a:=hA b (by rw[q];simp);subst e';rw[ha] at e;cases e;have d':Data.seq vs.toArray _=Data.dict es ep:=d;cases d'
  have Jk:∀ {b:Addr}{m:AI},s₁.heap.Ns b m->(tM s₁.heap H).Ns b m:=λ{b m} ⟨o,es,ep,e,d,r⟩=>⟨o,es,ep,G5 e (IH e d),d,r⟩;have hKb:K.In (tM s₁.heap H):=λ b o e=>G5 (KX b o e) (by
   cases q:H b with
   | none=>rfl
   | some u=>
    have e':b=a:=hA b (by rw[q];simp);subst e';rw[hK (by rw[q];simp)] at e;cases e)
  have hM:Mod K mg (tM s₁.heap H):=⟨hKb,Jk Cu,⟨mb,Jk hb,hbb⟩,let ⟨mc,h1,h2⟩:=EE;⟨mc,Jk h1,h2⟩⟩
  have e0:kD P w K mg (tM s₁.heap H) callerA [] s₁ H:=⟨rfl,hM,λ b o e=>Qw e,Nat.le_of_eq (Og _ _),trivial,λ b hb=>absurd (show b∈([]:List Addr) from hb) (by simp),zr,.of_eq hg⟩
  refine codeAny_mono ((F _ hKb (Jk Cu)).run callerA [] s₁ H ⟨[.ref a],[]⟩ [.ref a] [.ref a] _ _ hr e0 (IZ s₁ (.ref a)) (.cons rfl .nil) (BO H hO hS)) λ r s' h=>?_;cases r with
  | error e=>exact (Kg H e s' h).elim
  | ok fl=>
   cases fl with
   | ret u=>
    obtain⟨v,H',os,bare,un,Ex,r',q⟩:=h;have q':v=.bl true:=q;subst q';obtain rfl:u=Value.bool true:=r';refine⟨rfl,OldK.of_keep λ b o e=>?_,os,bare⟩;cases q:H b with
    | none=>exact un.keep b o e q (by intro z;exact absurd (show b∈([]:List Addr) from z) (by simp)) (by simp)
    | some u=>
     rcases hO b with z | ⟨ob,xs,z⟩
     .rw[q] at z;cases z
     .have z2:=un.tN b ob _ z;obtain⟨e1,_⟩:=zr b _ z;obtain⟨e2,_⟩:=Ex b _ z2;rw[e] at e1;cases e1;exact e2
   | _=>exact False.elim h
 cases hk:K.lookup a with
 | some o=>
  have e:=KX a o hk;rw[ha] at e;cases e;refine core (λ _=>none) (λ _=>.inl rfl) (.inr ⟨_,vs.toArray,_,hk,rfl,rfl,rfl,by rw[Az,JM];exact hl,by simpa using rv⟩) (λ b u z=>by have z':(none:Option HO)=some u:=z;cases z') (λ b z=>absurd rfl z) λ z=>absurd rfl z
 | none=>
  refine core (λ b=>if b=a then some (.xJ { cls:=.type "list",data:=.seq vs.toArray } (.lst (ns.map V.int))) else none) (λ b=>?_) (.inl (.inr ⟨{ cls:=.type "list",data:=.seq vs.toArray },if_pos rfl⟩)) (λ b u z=>?_) (λ b z=>?_) λ _=>hk
  .by_cases hb:b=a
   .exact .inr ⟨_,_,if_pos hb⟩
   .exact .inl (if_neg hb)
  .by_cases hb:b=a
   .have z':=(if_pos hb).symm.trans z;cases z';subst hb;exact⟨ha,by rw[AB];exact hl,vs,_,rv,ha⟩
   .have z':=(if_neg hb).symm.trans z;cases z'
  .by_cases hb:b=a
   .exact hb
   .exact absurd (if_neg hb) z
def YB {l:PySem.W.OpenLaw}{n k:Nat}{q:Program}{loose:List Str}{XP:(Str->Option Value)->Heap->Prop}{YP:World->Heap->Prop}{d:DefRec}{K:Params->Ac}{CX:World->um}{sp:World->Sp}{x:Str}
  (hn:l.most=some n) (hn2:n<=sizeLine) (Di:d.params.defaults=[]) (hr:yd k callerA)
  (hY:∀ (w:World) (h:Heap),YP w h->(K w.params).In h)
  (F:∀ (w:World) (mg:AI) (fa:Addr) (h:Heap),(K w.params).In h->h.Ns mainGlobals mg->mg d.name=some (.ref fa)->
   ∃ fd:FuncData,(∀ (s:Shared) (u:Value),BindsTo s fd ⟨[u],[]⟩ [(x,u)])/\
    ∀ base:Heap,(K w.params).In base->base.Ns mainGlobals mg->vz l.prog w (K w.params) mg base (CX w) k fa fd [x] (sp w))
  (BO:∀ (w:World) (H:Hp) (a:Addr) (ns:List Int),ns.length<=n->kr H->zJ (K w.params) H a (ns.map V.int)->sp w [.ref a] H (λ v _=>v=.bl true) λ _ _ _=>False)
  (Kg:∀ (w:World) (H:Hp) (s:Shared) (e:Value) (s':Shared),CX w [] H s (λ _ _ _=>False) e s'->False):
  PySem.W.WalkO q loose XP YP l.row.toRowW d [] (λ f vs=>PySem.call f vs):=by
 refine Y6.Mu hn Di λ w s₀ s₁ mg mb fa o pm cd doc a vs ns G Y ho hd Bv C9 Ct hints hlen hg=>?_;have KX:=hY w _ Y;obtain⟨fd,hb,hF⟩:=F w mg fa _ KX G.T.g C9;exact Ph KX G.T.g G.T.b G.T.builtins G.T.nolimit hg Ct hints (A6 hlen hn2) hr hF hb (λ H hO hS=>BO w H a ns hlen hO hS) λ H e s'=>Kg w H s₁ e s'
noncomputable def uM (s:Stmt):Arguments:=match s with
 | .FunctionDef _ a _ _ _ _ _ _ _ _=>a
 | _=>{ posonlyargs:=[],args:=[],vararg:=none,kwonlyargs:=[],kw_defaults:=[],kwarg:=none,defaults:=[] }
noncomputable def xZ (s:Stmt):List Stmt:=match s with
 | .FunctionDef _ _ b _ _ _ _ _ _ _=>b
 | _=>[]
noncomputable def yg (s:Stmt):Scope:=match s with
 | .FunctionDef _ _ _ _ _ _ sc _ _ _=>sc
 | _=>{ kind:=.function,names:=[],isGenerator:=false,isCoroutine:=false }
abbrev xx:um:=λ _ _ _ _ _ _=>False
abbrev E0:XK:=λ _ _ _=>False
def Tx {X:Cx}:Passes xx X E0:=λ _ _ _ _ _ _ _ h=>h.elim
structure vQ (K:Ac) (x qual:Str) (st:Stmt) (f:Addr) (fd:FuncData):Prop where
 ex:∃ (oc:Value) (od:Option Addr) (kV doc pm:Value) (an:Option Addr) (Am ct:Value) (HI:Array (Option Value)),
  fd=PySem.W.fnOf x qual (uM st) (xZ st) (yg st) .none kV doc pm an Am ct/\K.lookup f=some ⟨oc,od,.func fd,HI⟩/\PySem.W.codeIn K Am qual=true
 kp:PySem.W.keepIn K (.ref f)=true
section
variable {P:Program}{w:World}{K:Ac}{mg:AI}{base:Heap}
def vQ.ok {x qual:Str}{st:Stmt}{f:Addr}{fd:FuncData}{N ps:List Str}{k:Nat}{sp:Sp}(F:vQ K x qual st f fd) (S:uX N ps (yg st)) (len:∀ vs H Q E,sp vs H Q E->vs.length=ps.length)
  (Fh:∀ (Am:Value) (A:Around) (outer:List Env) (s:Shared) (H:Hp) (vs:List V) (Q:VK) (E:XK),yd k (A.deeper (envOfC qual (yg st) s.heap.objs.size f Am))->sp vs H Q E->
   ∃ t,xF (wo xx P w K mg base N qual (yg st) f Am A outer s H E).wQ (xZ st) t/\t { nx:=λ _ H'=>Q .zm H',rt:=Q } (start N vs) H):vz P w K mg base xx (k+1) f fd ps sp:=by
 obtain⟨oc,od,kV,doc,pm,an,Am,ct,HI,rfl,lk,Bv⟩:=F.ex;refine OG lk Bv S len λ A outer s H vs Q E hr BO=>?_;obtain⟨t,h,q⟩:=Fh Am A outer s H vs Q E hr BO;exact⟨t,h.wQ,q⟩
def vQ.binds {x qual:Str}{st:Stmt}{f:Addr}{fd:FuncData}{ps:List Str}(F:vQ K x qual st f fd)
  (h:∀ (kV doc pm:Value) (an:Option Addr) (Am ct:Value) (us:Ad),us.length=ps.length->bindArgs (PySem.W.fnOf x qual (uM st) (xZ st) (yg st) .none kV doc pm an Am ct) ⟨us,[]⟩=pure (ps.zip us)):Binds K fd ps []:=by
 obtain⟨oc,od,kV,doc,pm,an,Am,ct,HI,rfl,lk,Bv⟩:=F.ex;exact .all (h kV doc pm an Am ct)
def bj {x qual:Str}{st:Stmt}{f:Addr}{oc:Value}{od an:Option Addr}{HI:Array (Option Value)}{kV doc pm Am ct:Value}(l:K.lookup f=some ⟨oc,od,.func (PySem.W.fnOf x qual (uM st) (xZ st) (yg st) .none kV doc pm an Am ct),HI⟩)
  (c:PySem.W.codeIn K Am qual=true) (k:PySem.W.keepIn K (.ref f)=true):vQ K x qual st f (PySem.W.fnOf x qual (uM st) (xZ st) (yg st) .none kV doc pm an Am ct):=⟨⟨oc,od,kV,doc,pm,an,Am,ct,HI,rfl,l,c⟩,k⟩
end
def jL {A:Around}{k:Nat}(hr:yd k A):A.units+1<cLine:=Nat.lt_of_le_of_lt (Nat.add_le_add_left (by decide:1<=64) _) hr.units
section
variable {X:Cx}
def pv (i:Nat) {x:Str}{pos:Pos}(hN:X.N[i]?=some x:=by rfl) (hv:ko X.env.scope x:=by first | exact Or.inl rfl | exact Or.inr (Or.inl rfl) | exact Or.inr (Or.inr rfl)) (hd:(x == ("__debug__":Str))=false:=by decide)
  (Bv:(x == ("__classdict__":Str))=false:=by decide):PE X (.Name x pos) (kS i):=Vf hN hv hd Bv
end
end L2
namespace PySem
theorem i4 {env:Env}:∀ (l:List (Str×NameKind)) (acc:List (Str×Addr)),(∀ y∈l,y.2=.free->∃ c,env.cells.lookup y.1=some c)->
  ∃ cl,(forIn l acc (λ(x:Str×NameKind) r=>if (x.2 == NameKind.free)=true then do let a <- cellOf env x.1;pure (ForInStep.yield ((x.1,a)::r)) else pure (ForInStep.yield r)):Sem (List (Str×Addr)))=pure cl/\
   (∀ x c,cl.lookup x=some c->acc.lookup x=some c\/((x,NameKind.free)∈l/\env.cells.lookup x=some c))/\(∀ x,(x,NameKind.free)∈l\/(acc.lookup x).isSome->(cl.lookup x).isSome)
 | [],acc,_=>⟨acc,rfl,λ x c h=>.inl h,λ x h=>by simpa using h⟩
 | (n,k)::l,acc,h=>by
  by_cases hk:k=.free
  .subst hk;obtain⟨c,hc⟩:=h (n,.free) Ap rfl;obtain⟨cl,e1,e2,e3⟩:=i4 l ((n,c)::acc) λ y hy=>h y (Av _ hy);refine⟨cl,?_,λ x d hx=>?_,λ x hx=>?_⟩
   .rw[Cj];simp only[beq_self_eq_true,if_true,cellOf,hc];exact e1
   .rcases e2 x d hx with q | ⟨q1,q2⟩
    .rw[A9] at q;cases C4:x == n with
     | true=>
      rw[C4] at q;have:x=n:=by simpa using C4
      subst this;refine .inr ⟨Ap,?_⟩;rw[hc];exact q
     | false=>rw[C4] at q;exact .inl q
    .exact .inr ⟨Av _ q1,q2⟩
   .refine e3 x ?_;rcases hx with hx | hx
    .rcases Aj.mp hx with q | q
     .have:x=n:=congrArg Prod.fst q;subst this;exact .inr (by simp[A9])
     .exact .inl q
    .refine .inr ?_;rw[A9];cases x == n <;> simp[hx]
  .have hb:(k == NameKind.free)=false:=by simpa using hk
   obtain⟨cl,e1,e2,e3⟩:=i4 l acc λ y hy=>h y (Av _ hy);refine⟨cl,?_,λ x d hx=>?_,λ x hx=>?_⟩
   .rw[Cj];simp only[hb,AY,if_false];exact e1
   .rcases e2 x d hx with q | ⟨q1,q2⟩
    .exact .inl q
    .exact .inr ⟨Av _ q1,q2⟩
   .refine e3 x ?_;rcases hx with hx | hx
    .rcases Aj.mp hx with q | q
     .exact absurd (congrArg Prod.snd q).symm hk
     .exact .inl q
    .exact .inr hx
def au {scope:Scope}{env:Env}(h:∀ y∈scope.names,y.2=.free->∃ c,env.cells.lookup y.1=some c):
  ∃ cl,closureFor scope env=pure cl/\(∀ x c,cl.lookup x=some c->(x,NameKind.free)∈scope.names/\env.cells.lookup x=some c)/\∀ x,(x,NameKind.free)∈scope.names->(cl.lookup x).isSome:=by
 obtain⟨cl,e1,e2,e3⟩:=i4 (env:=env) scope.names [] h;refine⟨cl,?_,λ x c hx=>?_,λ x hx=>e3 x (.inl hx)⟩
 .simp only[closureFor];rw[e1];rfl
 .rcases e2 x c hx with q | q
  .simp at q
  .exact q
theorem jB {env:Env}:∀ {names:List (Str×NameKind)}{x:Str},names.lookup x=some .free->
  (names.map λ(n,k)=>if (k == NameKind.free&&env.scope.kind == .function&&env.kindOf n == some .cell) then (n,NameKind.cell) else (n,k)).lookup x=some .cell\/
  (names.map λ(n,k)=>if (k == NameKind.free&&env.scope.kind == .function&&env.kindOf n == some .cell) then (n,NameKind.cell) else (n,k)).lookup x=some .free
 | [],_,h=>by simp at h
 | (n,k)::r,x,h=>by
  have ih:=@jB env r x;show List.lookup x ((if (k == NameKind.free&&env.scope.kind == .function&&env.kindOf n == some .cell)=true then (n,NameKind.cell) else (n,k))::_)=_\/List.lookup x ((if (k == NameKind.free&&env.scope.kind == .function&&env.kindOf n == some .cell)=true then (n,NameKind.cell) else (n,k))::_)=_;cases hx:x == n with
  | true=>
   simp only[A9,hx] at h;cases h;by_cases hc:(NameKind.free == NameKind.free&&env.scope.kind == .function&&env.kindOf n == some .cell)=true
   .rw[if_pos hc];simp[A9,hx]
   .rw[if_neg hc];simp[A9,hx]
  | false=>
   simp only[A9,hx] at h;by_cases hc:(k == NameKind.free&&env.scope.kind == .function&&env.kindOf n == some .cell)=true
   .rw[if_pos hc];simp only[A9,hx];exact ih h
   .rw[if_neg hc];simp only[A9,hx];exact ih h
theorem dY {env:Env}:∀ {names:List (Str×NameKind)}{x:Str},names.lookup x=some .cell->
  (names.map λ(n,k)=>if (k == NameKind.free&&env.scope.kind == .function&&env.kindOf n == some .cell) then (n,NameKind.cell) else (n,k)).lookup x=some .cell
 | [],_,h=>by simp at h
 | (n,k)::r,x,h=>by
  have ih:=@dY env r x;show List.lookup x ((if (k == NameKind.free&&env.scope.kind == .function&&env.kindOf n == some .cell)=true then (n,NameKind.cell) else (n,k))::_)=_;cases hx:x == n with
  | true=>
   simp only[A9,hx] at h;cases h;rw[if_neg (by simp)];simp[A9,hx]
  | false=>
   simp only[A9,hx] at h;by_cases hc:(k == NameKind.free&&env.scope.kind == .function&&env.kindOf n == some .cell)=true
   .rw[if_pos hc];simp only[A9,hx];exact ih h
   .rw[if_neg hc];simp only[A9,hx];exact ih h
theorem f_ {env:Env}:∀ {names:List (Str×NameKind)}{x:Str},
  ((names.map λ(n,k)=>if (k == NameKind.free&&env.scope.kind == .function&&env.kindOf n == some .cell) then (n,NameKind.cell) else (n,k)).lookup x=some .cell\/
  (names.map λ(n,k)=>if (k == NameKind.free&&env.scope.kind == .function&&env.kindOf n == some .cell) then (n,NameKind.cell) else (n,k)).lookup x=some .free)->(x,NameKind.free)∈names\/(x,NameKind.cell)∈names
 | [],_,h=>by simp at h
 | (n,k)::r,x,h=>by
  have ih:=@f_ env r x;have h':List.lookup x ((if (k == NameKind.free&&env.scope.kind == .function&&env.kindOf n == some .cell)=true then (n,NameKind.cell) else (n,k))::_)=some .cell\/List.lookup x ((if (k == NameKind.free&&env.scope.kind == .function&&env.kindOf n == some .cell)=true then (n,NameKind.cell) else (n,k))::_)=some .free:=h;cases hx:x == n with
  | true=>
   have C4:x=n:=by simpa using hx
   subst C4;by_cases hc:(k == NameKind.free&&env.scope.kind == .function&&env.kindOf x == some .cell)=true
   .simp only[Br] at hc;have:k=.free:=by simpa using hc.1.1
    subst this;exact .inl Ap
   .rw[if_neg hc] at h';simp only[A9,beq_self_eq_true] at h';rcases h' with q | q
    .cases A7 q;exact .inr Ap
    .cases A7 q;exact .inl Ap
  | false=>
   refine (ih ?_).imp (Av _) (Av _);by_cases hc:(k == NameKind.free&&env.scope.kind == .function&&env.kindOf n == some .cell)=true
   .rw[if_pos hc] at h';simp only[A9,hx] at h';exact h'
   .rw[if_neg hc] at h';simp only[A9,hx] at h';exact h'
theorem i9:∀ (names:List (Str×NameKind)) (h:Heap) (acc:List (Str×Addr)),∃ own,cellsFrom h.objs.size names acc=own++acc/\(∀ p∈own,(p.1,NameKind.cell)∈names/\h.objs.size<=p.2/\(pushCells h names).IsCell p.2 none)/\
  (own.Pairwise λ x y=>x.2≠y.2)/\∀ x,(x,NameKind.cell)∈names->(own.lookup x).isSome
 | [],h,acc=>⟨[],rfl,λ _ hp=>(by cases hp),.nil,λ _ hx=>(by cases hx)⟩
 | (n,k)::r,h,acc=>by
  unfold cellsFrom pushCells;split
  .rename_i hk;have G9:k=.cell:=by simpa using hk
   subst G9;obtain⟨own,e1,e2,e3,e4⟩:=i9 r (h.push { cls:=.type "cell",data:=.cell none }) ((n,h.objs.size)::acc);rw[Heap.size_push] at e1 e2;refine⟨own++[(n,h.objs.size)],by rw[e1,DA];rfl,λ p hp=>?_,?_,λ x hx=>?_⟩
   .rcases AZ.mp hp with q | q
    .obtain⟨f1,f2,f3⟩:=e2 p q;exact⟨Av _ f1,by lia,f3⟩
    .cases AW.mp q;exact⟨Ap,Ah _,_,pushCells_keeps _ _ _ _ (AG _ rfl),rfl⟩
   .refine Dz.mpr ⟨e3,D9 _ _,λ a ha b hb=>?_⟩;cases AW.mp hb;exact Bw (e2 a ha).2.1
   .rw[Dy,Option.isSome_or];rcases Aj.mp hx with q | q
    .cases q;simp[A9]
    .rw[e4 x q];rfl
  .rename_i hk;obtain⟨own,e1,e2,e3,e4⟩:=i9 r h acc;refine⟨own,e1,λ p hp=>⟨Av _ (e2 p hp).1,(e2 p hp).2⟩,e3,λ x hx=>?_⟩;rcases Aj.mp hx with q | q
   .cases q;simp at hk
   .exact e4 x q
def Q9 {M:Model}{A:Around}{E:Af}{s:Shared}{scope:Scope}{globals:Addr}{closure:List (Str×Addr)}{qual:Str}{env:Env}{Q:Env->Shared->Prop}
  (hQ:∀ h',h'=pushCells (s.heap.push { cls:=.type "dict",data:=.dict #[] }) scope.names->Q (newEnv scope s.heap.objs.size globals (cellsFrom (s.heap.objs.size+1) scope.names closure) qual none .none (some env) builtinsNs) { s with heap:=h' }):
  wpAny M A (newFunctionEnv scope globals closure [] qual none .none (some env)) Q E s:=by
 simp only[newFunctionEnv,Option.isSome_some,if_true];refine JA (wpAny_alloc ?_);refine JA (wpAny_layCells _ (λ name kind cells=>by cases hkc:kind == NameKind.cell <;> simp[hkc]) _ _ _ _ ?_);rw[show ({ s with heap:=s.heap.push { cls:=.type "dict",data:=.dict #[] } }:Shared).heap.objs.size=s.heap.objs.size+1 from Heap.size_push ..];simp only[CY];exact JA (Ab (Ab (hQ _ rfl)))
end PySem
namespace L2
open PySem PySem.Spec PyProof.Rows
noncomputable def vC (pick:List (Option Nat)) (Y:St):St:=pick.map λ o=>o.bind λ i=>(Y[i]?).join
noncomputable def yi (X:Cx) (N':List Str) (scope:Scope) (cl:List (Str×Addr)) (C:Addr) (s:Shared) (H:Hp) (ex:List Addr):Cx:=
 { X with N:=N',s₀:=s,H₀:=H,env:=compEnvC scope cl C X.env,outer:=X.stack,stack:=X.stack,ex:=ex,fn:=λ x=>decide (scope.names.lookup x=some .cell),pn:=[],xe:=λ _ _=>False }
noncomputable def rA (N N':List Str) (pick:List (Option Nat)) (scope:Scope):Bool:=(N'.zip pick).all λ p=>match p.2 with
 | none=>true
 | some j=>decide (N[j]?=some p.1)&&decide (scope.names.lookup p.1=some .free)
structure tf (X:Cx) (N':List Str) (pick:List (Option Nat)) (scope:Scope):Prop where
 kind:scope.kind=.function
 uniq:∀ y∈scope.names,scope.names.lookup y.1=some y.2
 free:∀ y∈scope.names,y.2=.free->X.env.scope.names.lookup y.1=some .cell\/X.env.scope.names.lookup y.1=some .free
 len:pick.length=N'.length
 ok:rA X.N N' pick scope=true
def rA.get {N N':List Str}{pick:List (Option Nat)}{scope:Scope}(h:rA N N' pick scope=true) {i j:Nat}{x:Str}(h1:N'[i]?=some x) (h2:pick[i]?=some (some j)):N[j]?=some x/\scope.names.lookup x=some .free:=by
 unfold rA at h;have hm:(x,some j)∈N'.zip pick:=by
  refine BA (i:=i) ?_;rw[List.getElem?_zip_eq_some];exact⟨h1,h2⟩
 have q:=BD.mp h _ hm;simp only[Br,decide_eq_true_eq] at q;exact q
def vC.get {pick:List (Option Nat)}{Y:St}{i:Nat}{v:V}(h:(vC pick Y)[i]?=some (some v)):∃ j,pick[i]?=some (some j)/\Y[j]?=some (some v):=by
 unfold vC at h;rw[AE] at h;cases e:pick[i]? with
 | none=>rw[e] at h;cases h
 | some o=>
  rw[e] at h;cases o with
  | none=>simp at h
  | some j=>
   refine⟨j,rfl,?_⟩;simp only[Option.map_some,Option.some.injEq,Bf] at h;cases q:Y[j]? with
   | none=>rw[q] at h;simp at h
   | some w=>rw[q] at h;simp at h;rw[h]
def PF (X:Cx) (ifs:List Expr) (t:TT):Prop:=∀ (EV:Ag) (s:Shared) (Y:St) (H:Hp) (Q:Bool->Hp->Prop),Inv X EV Y H s->t Y H Q->
 wpAny (model X.prog X.w) X.A (forIn ifs true λ c r=>if r=true then do let ok <- isTrue c X.env (eval c X.env);pure (ForInStep.yield ok) else pure (ForInStep.yield r)) (TP X EV Y Q) X.xe s
def Vd {X:Cx}:PF X [] (λ _ H Q=>Q true H):=λ _ _ _ H _ I h=>wpAny_tests_nil ⟨H,I,h⟩
def Vc {X:Cx}{c:Expr}{t:TT}(h:PT X c t):PF X [c] t:=λ EV s Y H Q I q=>wpAny_tests_one (h EV s Y H Q I q)
def kT (pick:List (Option Nat)) (wi:TI) (g:TG) (tc:TT) (te:TE):TE:=fun Y H Q=>wi Y H λ J H1=>∀ D,H1 D=none->∃ W:Nat->Nat->St->Hp->Prop,(∃ m,W 0 m (vC pick Y) (upd H1 D (.lst [])))/\
 ∀ i m Y H,W i m Y H->(J.stop i H/\Q (.ref D) H)\/(J.go i H/\∀ x H',J.qg i H x H'->g x Y H' fun Y2 H2=>tc Y2 H2 λ b H3=>
  if b=true then te Y2 H3 λ y H4=>∃ ys m',H4 D=some (.lst ys)/\ys.length<sizeLine/\m'<m/\W (i+1) m' Y2 (upd H4 D (.lst (ys++[y]))) else ∃ m',m'<m/\W (i+1) m' Y2 H3)
section
variable {X:Cx}{EV:Ag}{Y:St}{H:Hp}{s:Shared}{N':List Str}{pick:List (Option Nat)}{scope:Scope}{cl:List (Str×Addr)}{C:Addr}{fp:List Addr}
def PU (S:tf X N' pick scope) (I:Inv X EV Y H s) (Bm:∀ b∈fp,vy X EV H b) (Ao:∀ b∈fp,b<s.heap.objs.size)
  {h1:Heap}(c1:∀ x c,cl.lookup x=some c->((x,NameKind.free)∈scope.names/\X.env.cells.lookup x=some c)\/((x,NameKind.cell)∈scope.names/\C<c/\h1.IsCell c none)) (c2:∀ x,(x,NameKind.free)∈scope.names\/(x,NameKind.cell)∈scope.names->(cl.lookup x).isSome) (c3:∀ x y c,cl.lookup x=some c->cl.lookup y=some c->x=y)
  {m1:AI}{t':Nat}(hC:s.heap.objs.size<C) (old:∀ b o,s.heap.get? b=some o->h1.get? b=some o) (Cu:h1.Ns C m1)
  (hD:h1.get? s.heap.objs.size=some { cls:=.type "list",data:=.seq #[] 0 }):
  Inv (yi X N' scope cl C s H fp) [] (vC pick Y) (upd H s.heap.objs.size (.lst [])) { s with heap:=h1,toks:=t' }:=by
 have Kf:H s.heap.objs.size=none:=I.zr.fresh (Ah _);have hCn:H C=none:=I.zr.fresh (A5 hC);have cf:∀ x c,cl.lookup x=some c->(∃ v,h1.IsCell c v)/\(c<s.heap.objs.size\/C<c)/\upd H s.heap.objs.size (.lst []) c=none:=λ x c e=>by
  rcases c1 x c e with ⟨_,q⟩ | ⟨_,q1,q2⟩
  .obtain⟨v,o,z1,z2⟩:=I.cell x c q;have hl:=Al z1;exact⟨⟨v,o,old _ _ z1,z2⟩,.inl hl,by rw[ya (AA hl)];exact I.uG x c q⟩
  .exact⟨⟨_,q2⟩,.inr q1,by rw[ya (Bw (BJ hC q1))];exact I.zr.fresh (A5 (BJ hC q1))⟩
 refine⟨⟨I.ok.mod,S.kind,I.ok.glob,I.ok.blt,A5 hC,c3,λ x hx=>?_,λ x c hf e=>?_,I.ok.hd,I.ok.frames,.inl rfl,
  λ b hb=>⟨AA (BJ (Ao b hb) hC),λ x c e=>?_⟩,I.bs,A6 I.ok.rN I.sz,λ b o e hb=>?_,λ b hb z=>?_,I.stack,I.fy⟩,
  rfl,I.bare,Un.laid old (Ah _) Kf,⟨m1,Cu,λ i x v e1 e2 e3=>?_⟩,λ x c e=>?_,?_,λ x c e=>?_,λ p hp=>absurd (show p∈([]:Ag) from hp) (by simp),I.zr.laid old (Ah _) ?_,?_⟩
 .exact DD.mp (c2 x (f_ hx))
 .have GL:=of_decide_eq_true (show decide (scope.names.lookup x=some .cell)=true from hf);rcases c1 x c e with ⟨q,_⟩ | ⟨_,q,_⟩
  .rw[S.uniq _ q] at GL;cases GL
  .exact A5 (BJ hC q)
 .rcases c1 x c e with ⟨_,q⟩ | ⟨_,q,_⟩
  .exact (Bm b hb).2.2.2.2.1 x c q
  .exact Bw (BJ (BJ (Ao b hb) hC) q)
 .rcases (Bm b hb).2.2.2.1 with z | z
  .exact I.ok.oa b o e z
  .exact absurd (A_ (Al (I.ok.bs b o e).1) z) (Bz _)
 .rcases Aj.mp (I.kX b z) with q | q
  .exact (Bm b hb).2.1 q
  .exact (Bm b hb).2.2.1 q
 .obtain⟨j,p1,p2⟩:=vC.get e2;obtain⟨q1,q2⟩:=rA.get S.ok e1 p1;obtain⟨m0,n0,l0⟩:=I.loc;have hm:(x,NameKind.free)∈scope.names:=PySem.mem_of_lookup q2;have hk:X.env.scope.names.lookup x=some .cell\/X.env.scope.names.lookup x=some .free:=S.free _ hm rfl;obtain⟨u,r,l⟩:=l0 j x v q1 p2 (.inr hk);refine⟨u,r,.inr ⟨jB q2,?_⟩⟩;rcases l with ⟨k,_⟩ | ⟨_,c,e,z⟩
  .have k':X.env.scope.names.lookup x=some .local:=k;rcases hk with hk | hk <;> (rw[k'] at hk;cases hk)
  .obtain⟨c',e'⟩:=DD.mp (c2 x (.inl hm));have e'':X.env.cells.lookup x=some c':=by
    rcases c1 x c' e' with ⟨_,q⟩ | ⟨q,_⟩
    .exact q
    .have:=S.uniq _ q;rw[q2] at this;cases this
   rw[e] at e'';cases e'';obtain⟨o,z1,z2⟩:=z;exact⟨c,e',o,old _ _ z1,z2⟩
 .exact (cf x c e).1
 .show upd H s.heap.objs.size (.lst []) C=none;rw[ya (Bw hC)];exact hCn
 .exact (cf x c e).2.2
 .exact⟨AQ _,[],0,.nil,hD⟩
 .show (vC pick Y).length=N'.length;unfold vC;rw[AB];exact S.len
def PN {Y':St}{H':Hp}{s':Shared}{oC:Obj}(I:Inv X EV Y H s) (Bm:∀ b∈fp,vy X EV H b) (hC:s.heap.objs.size<C)
  (I':Inv (yi X N' scope cl C s H fp) [] Y' H' s') (hoC:s'.heap.get? C=some oC):Inv X (EV++[(C,oC)]) Y H' s':=by
 have J:Inv X EV Y H' s':=I.Mb (ch:=fp) I'.os I'.base I'.zr I'.bare λ b hb=>⟨(Bm b hb).2.2.2.1,(Bm b hb).2.1,(Bm b hb).2.2.2.2.1,(Bm b hb).2.2.2.2.2⟩;refine J.jm λ p hp=>(AZ.mp hp).elim (λ z=>J.pin p (A2 _ z)) λ z=>?_;obtain rfl:p=(C,oC):=AW.mp z;refine⟨hoC,I'.free,Bw (BJ I.lt hC),I.d7 (A5 hC),λ v hv=>?_⟩;obtain⟨m,⟨o,es,ep,ho,hd,_⟩,_⟩:=I'.loc;have FV:s'.heap.get? C=some o:=ho;rw[hoC] at FV;cases FV;rw[hd] at hv;cases hv
def cK {Y':St}{H':Hp}{s':Shared}{oC:Obj}{h':Heap}(I:Inv X EV Y H s) (hC:s.heap.objs.size<C) (J:Inv X (EV++[(C,oC)]) Y' H' s') (hs:Heap.SameBut C s'.heap h'):Inv X EV Y' H' { s' with heap:=h' }:=by
 have J':=J.pF;have hp:=J.pin (C,oC) (A2 _ (A2 _ (AW.mpr rfl)));have lt:∀ c,c<s.heap.objs.size->c≠C:=λ c h=>AA (BJ h hC);refine J'.turned (t':=s'.toks) (it:=C) (λ b o hb e=>hs.extBut b o hb e) hp.2.1 hp.2.2.1 (.inr (A6 I.sz (A5 hC))) (λ x c e z=>?_) (λ p hq z=>?_)
 .obtain⟨v,q⟩:=I.cell x c e;exact lt c q.lt z
 .exact lt p.1 (Al (I.pin p hq).1) z
end
section
variable {X:Cx}{N':List Str}{pick:List (Option Nat)}{scope:Scope}{elt iter tg:Expr}{ifs:List Expr}{pos:Pos}{wi:TI}{g:TG}{tc:TT}{te:TE}
def Pc {EV:Ag}{Y:St}{H:Hp}{s:Shared}{it C:Addr}{fp:List Addr}{tn:Nat->Heap->Prop}{J:It}{cl:List (Str×Addr)}{W:Nat->Nat->St->Hp->Prop}{Q:V->Hp->Prop}{R:Result->Shared->Prop}{D:Addr}
  (hc:X.calm=true) (hg:PG (yi X N' scope cl C s H fp) tg g) (hf:PF (yi X N' scope cl C s H fp) ifs tc) (he:PE (yi X N' scope cl C s H fp) elt te)
  (T:Turn X.prog X.w X.K tg J fp it tn) (Bm:∀ b∈fp,vy X EV H b) (Hh:∀ b∈fp,b≠C/\b∉vn X.stack/\∀ x c,cl.lookup x=some c->c≠b)
  (turn:∀ i m Y H,W i m Y H->(J.stop i H/\Q (.ref D) H)\/(J.go i H/\∀ x H',J.qg i H x H'->g x Y H' fun Y2 H2=>tc Y2 H2 λ b H3=>
   if b=true then te Y2 H3 λ y H4=>∃ ys m',H4 D=some (.lst ys)/\ys.length<sizeLine/\m'<m/\W (i+1) m' Y2 (upd H4 D (.lst (ys++[y]))) else ∃ m',m'<m/\W (i+1) m' Y2 H3))
  (fin:∀ Y' H' s',Inv (yi X N' scope cl C s H fp) [] Y' H' s'->Q (.ref D) H'->R (.ok .next) s')
  {m0:Nat}{Y0:St}{H0:Hp}{s0:Shared}(I0:Inv (yi X N' scope cl C s H fp) [] Y0 H0 s0) (t0:tn 0 s0.heap) (f0:∀ b∈fp,H0 b=none) (w0:W 0 m0 Y0 H0):
  codeAny (model X.prog X.w) X.A (.compLoop (.ListComp elt [⟨tg,iter,ifs,0⟩] scope pos) 0 (.ref it) (.ref D) (compEnvC scope cl C X.env)) R s0:=by
 have GO:∀ {H':Hp},(∀ b∈fp,H' b=none)->∀ b∈fp,vy (yi X N' scope cl C s H fp) [] H' b:=λ hn b hb=>⟨hn b hb,(Hh b hb).1,(Hh b hb).2.1,.inl hb,(Hh b hb).2.2,λ p hp=>absurd (show p∈([]:Ag) from hp) (by simp)⟩;refine codeAny_loop rfl (λ n s'=>∃ i Y' H',Inv (yi X N' scope cl C s H fp) [] Y' H' s'/\tn i s'.heap/\(∀ b∈fp,H' b=none)/\W i n Y' H') (λ n s3 hI=>?_) m0 ⟨0,Y0,H0,I0,t0,f0,w0⟩;obtain⟨i,Y3,H3,I3,Iz,Je,w3⟩:=hI;show wpAny _ X.A ((compTurn (.ListComp elt [⟨tg,iter,ifs,0⟩] scope pos) 0 (.ref it) (.ref D) (compEnvC scope cl C X.env)).onRaise (λ x=>do noteFrame x (compEnvC scope cl C X.env);theTreesLotGoes x)) _ _ s3;refine wpAny_noted ?_;rw[compTurn_list];refine JA (wpAny_standAt (JA ?_));rcases turn i n Y3 H3 w3 with ⟨stop,qn⟩ | ⟨go,step⟩
 .refine zv (T.done (yi X N' scope cl C s H fp) rfl rfl rfl hc i [] s3 Y3 H3 _ I3 (GO Je) Iz stop) λ r s4 ⟨hr,I4⟩=>?_;subst hr;exact Ab (fin Y3 H3 s4 I4 qn)
 .refine zv (T.item (yi X N' scope cl C s H fp) rfl rfl rfl hc i [] s3 Y3 H3 _ I3 (GO Je) Iz go) λ r s4 ⟨u,hr,h4⟩=>?_;subst hr;refine JA (zv h4 λ _ s5 ⟨x,H5,I5,r5,y5,HV,Kn⟩=>?_);have Kx:=I5.pinned (GO Kn) (T.obj _ _ HV);refine JA (KH (hg _ s5 Y3 H5 x u _ Kx r5 (step x H5 y5)) (λ _ s6 ⟨Y6,H6,I6,q6⟩=>?_) λ _ _ z=>False.elim z);refine JA (KH (hf _ s6 Y6 H6 _ I6 q6) (λ ok s7 ⟨H7,I7,q7⟩=>?_) λ _ _ z=>False.elim z);have back:∀ {H8:Hp}{s8:Shared},Inv (yi X N' scope cl C s H fp) ([]++pV fp s5.heap) Y6 H8 s8->(∃ m',m'<n/\W (i+1) m' Y6 H8)->∃ m,m<n/\∃ i Y' H',Inv (yi X N' scope cl C s H fp) [] Y' H' s8/\tn i s8.heap/\(∀ b∈fp,H' b=none)/\W i m Y' H':=λ{H8 s8} I8 ⟨m',hm,w8⟩=>by
   refine⟨m',hm,i+1,Y6,H8,I8.pF,T.keep _ _ _ HV λ b hb o e=>(I8.pin (b,o) (A2 _ (A2 _ (mQ hb e)))).1,λ b hb=>?_,w8⟩;obtain⟨o,e,d⟩:=T.obj _ _ HV b hb;exact (I8.pin (b,o) (A2 _ (A2 _ (mQ hb e)))).2.1
  cases ok with
  | false=>
   rw[if_neg BM] at q7;exact Ab ⟨rfl,back I7 q7⟩
  | true=>
   rw[if_pos rfl] at q7;refine JA (JA (KH (he _ s7 Y6 H7 _ I7 q7) (λ uy s8 ⟨y,H8,I8,r8,ys,m',e8,z8,hm,w8⟩=>?_) λ _ _ z=>False.elim z));refine JA (KH (dN (X:=yi X N' scope cl C s H fp) _ s8 Y6 H8 (.ref D) [y] (.ref D) [uy] (λ _ H9=>W (i+1) m' Y6 H9) I8 rfl (.cons r8 .nil) ⟨D,ys,y,rfl,rfl,e8,z8,w8⟩) (λ _ s9 ⟨_,H9,I9,_,q9⟩=>?_) λ _ _ z=>False.elim z);exact Ab (Ab ⟨rfl,back I9 ⟨m',hm,q9⟩⟩)
def cv {EV:Ag}{Y:St}{H:Hp}{s:Shared}{it:Addr}{fp:List Addr}{tn:Nat->Heap->Prop}{J:It}{cl:List (Str×Addr)}{Q:V->Hp->Prop}{E:Af}{RR:Value->Addr->Result->Shared->Prop}
  (S:tf X N' pick scope) (hc:X.calm=true) (hg:∀ cl C s H fp,PG (yi X N' scope cl C s H fp) tg g) (hf:∀ cl C s H fp,PF (yi X N' scope cl C s H fp) ifs tc) (he:∀ cl C s H fp,PE (yi X N' scope cl C s H fp) elt te)
  (c1:∀ x c,cl.lookup x=some c->(x,NameKind.free)∈scope.names/\X.env.cells.lookup x=some c) (c2:∀ x,(x,NameKind.free)∈scope.names->(cl.lookup x).isSome)
  (I:Inv X EV Y H s) (T:Turn X.prog X.w X.K tg J fp it tn) (t0:tn 0 s.heap) (Bm:∀ b∈fp,vy X EV H b)
  (rd:∀ D,H D=none->∃ W:Nat->Nat->St->Hp->Prop,(∃ m,W 0 m (vC pick Y) (upd H D (.lst [])))/\
   ∀ i m Y H,W i m Y H->(J.stop i H/\Q (.ref D) H)\/(J.go i H/\∀ x H',J.qg i H x H'->g x Y H' fun Y2 H2=>tc Y2 H2 λ b H3=>
    if b=true then te Y2 H3 λ y H4=>∃ ys m',H4 D=some (.lst ys)/\ys.length<sizeLine/\m'<m/\W (i+1) m' Y2 (upd H4 D (.lst (ys++[y]))) else ∃ m',m'<m/\W (i+1) m' Y2 H3))
  (fin:∀ C D oC H' s',s.heap.objs.size<C->Inv X (EV++[(C,oC)]) Y H' s'->s'.heap.get? C=some oC->(∃ m,s'.heap.Ns C m)->Q (.ref D) H'->RR (.ref D) C (.ok .next) s'):
  wpAny (model X.prog X.w) X.A (newList []) (λ acc s₃=>wpAny (model X.prog X.w) X.A (newFunctionEnv scope X.env.globals cl [] X.env.qual none .none (some X.env)) (λ Jg s₄=>
   codeAny (model X.prog X.w) X.A (.compStart (.ListComp elt [⟨tg,iter,ifs,0⟩] scope pos) 0 (.ref it) acc { Jg with scope:=relabel scope X.env }) (RR acc Jg.locals) s₄) E s₃) E s:=by
 refine KI (Q9 λ h₁ eh=>?_);dsimp only at eh ⊢;generalize Ke:s.heap.push { cls:=.type "list",dict:=none,data:=.seq ([]:Ad).toArray }=H2 at eh ⊢;have hC:H2.objs.size=s.heap.objs.size+1:=by rw[<- Ke,Heap.size_push]
 have Ao:s.heap.objs.size<H2.objs.size:=by rw[hC];exact Co _
 have up:∀ b o,H2.get? b=some o->h₁.get? b=some o:=λ b o e=>by rw[eh];exact pushCells_keeps _ _ _ _ (Ky _ e)
 have old:∀ b o,s.heap.get? b=some o->h₁.get? b=some o:=λ b o e=>up b o (Ke▸Ky _ e);have AO:h₁.get? s.heap.objs.size=some { cls:=.type "list",data:=.seq #[] 0 }:=up _ _ (Ke▸AG _ rfl);have J5:h₁.Ns H2.objs.size λ _=>none:=by rw[eh];exact (Heap.Ns.new H2 (.type "dict")).keeps (pushCells_keeps _ _)
 obtain⟨own,o1,o2,o3,o4⟩:=i9 scope.names (H2.push { cls:=.type "dict",data:=.dict #[] }) cl;rw[Heap.size_push] at o1 o2;rw[<- eh] at o2;rw[o1];have d1:∀ x c,(own++cl).lookup x=some c->((x,NameKind.free)∈scope.names/\X.env.cells.lookup x=some c)\/((x,NameKind.cell)∈scope.names/\H2.objs.size<c/\h₁.IsCell c none):=λ x c e=>by
  rw[Dy] at e;cases q:own.lookup x with
  | some c'=>
   rw[q] at e;cases e;exact .inr (o2 _ (PySem.mem_of_lookup q))
  | none=>rw[q] at e;exact .inl (c1 x c e)
 have d2:∀ x,(x,NameKind.free)∈scope.names\/(x,NameKind.cell)∈scope.names->((own++cl).lookup x).isSome:=λ x hx=>by
  rw[Dy,Option.isSome_or];rcases hx with hx | hx
  .rw[c2 x hx,Bool.or_true]
  .rw[o4 x hx];rfl
 have d3:∀ x y c,(own++cl).lookup x=some c->(own++cl).lookup y=some c->x=y:=λ x y c e1 e2=>by
  rw[Dy] at e1 e2;have low:∀ x c,cl.lookup x=some c->c<H2.objs.size:=λ x c e=>by
   obtain⟨v,q⟩:=I.cell x c (c1 x c e).2;exact BJ q.lt Ao
  have hi:∀ x c,own.lookup x=some c->H2.objs.size<c:=λ x c e=>(o2 _ (PySem.mem_of_lookup e)).2.1;cases q1:own.lookup x with
  | some c1'=>
   rw[q1] at e1;cases e1;cases q2:own.lookup y with
   | some c2'=>rw[q2] at e2;cases e2;exact PySem.name_of_addr o3 (PySem.mem_of_lookup q1) (PySem.mem_of_lookup q2)
   | none=>rw[q2] at e2;exact absurd (low y _ e2) (Nat.lt_asymm (hi x _ q1))
  | none=>
   rw[q1] at e1;cases q2:own.lookup y with
   | some c2'=>rw[q2] at e2;cases e2;exact absurd (low x _ e1) (Nat.lt_asymm (hi y _ q2))
   | none=>rw[q2] at e2;exact I.ok.inj x y c (c1 x c e1).2 (c1 y c e2).2
 have Df:∀ b∈fp,b<s.heap.objs.size:=λ b hb=>by
  obtain⟨o,e,_⟩:=T.obj _ _ t0 b hb;exact Al e
 have Kf:H s.heap.objs.size=none:=I.zr.fresh (Ah _);obtain⟨W,⟨m0,w0⟩,turn⟩:=rd s.heap.objs.size Kf;have I0:=PU (t':=s.toks) S I Bm Df d1 d2 d3 Ao old J5 AO;have t1:tn 0 h₁:=T.keep _ _ _ t0 λ b _ o e=>old b o e;have AX:∀ b∈fp,b≠H2.objs.size/\b∉vn X.stack/\∀ x c,(own++cl).lookup x=some c->c≠b:=λ b hb=>I0.ok.ig b hb |> λ q=>⟨q.1,I0.ok.oE b hb,q.2⟩
 have loop:codeAny (model X.prog X.w) X.A (.compLoop (.ListComp elt [⟨tg,iter,ifs,0⟩] scope pos) 0 (.ref it) (.ref s.heap.objs.size) (compEnvC scope (own++cl) H2.objs.size X.env)) (RR (.ref s.heap.objs.size) H2.objs.size) { s with heap:=h₁ }:=by
  refine Pc (Y:=Y) hc (hg _ _ _ _ _) (hf _ _ _ _ _) (he _ _ _ _ _) T Bm AX turn (fun Y' H' s' I' q=>?_) I0 t1 (λ b hb=>?_) w0
  .obtain⟨m,hn,_⟩:=I'.loc;have G2:s'.heap.Ns H2.objs.size m:=hn;obtain⟨oC,es,ep,ho,hr⟩:=id G2;exact fin _ _ oC H' s' Ao (PN I Bm Ao I' ho) ho ⟨m,G2⟩ q
  .show upd H s.heap.objs.size (.lst []) b=none;rw[ya (AA (Df b hb))];exact (Bm b hb).1
 exact codeAny_compStart_list loop (T.self _ 0 _ _ _ t1 loop)
def Vq (S:tf X N' pick scope) (hc:X.calm=true) (hi:PI X tg iter wi) (hg:∀ cl C s H fp,PG (yi X N' scope cl C s H fp) tg g) (hf:∀ cl C s H fp,PF (yi X N' scope cl C s H fp) ifs tc) (he:∀ cl C s H fp,PE (yi X N' scope cl C s H fp) elt te)
  (hs:∀ x,foldedSetIterable iter X.env x=pure x:=by intro _;rfl):PE X (.ListComp elt [⟨tg,iter,ifs,0⟩] scope pos) (kT pick wi g tc te):=by
 intro EV s Y H Q I h;obtain⟨cl,Hm,c1,c2⟩:=au (scope:=scope) (env:=X.env) λ y hy hk=>I.ok.has y.1 (S.free y hy hk);rw[eval_ListComp];refine wpAny_comprehension_free (use:=none) rfl hs Hm S.kind (λ y hy e=>e▸S.uniq y hy) (zv (hi EV s Y H _ I h) λ v s1 h1=>zv h1 λ Jm s2 h2=>?_);obtain⟨it,fp,tn,J,H2,e,I2,T,IA,f2,rd⟩:=h2;subst e;refine cv (RR:=λ acc C=>compPost (model X.prog X.w) X.A X.xe none (EP X EV Y Q) acc C) S hc hg hf he c1 c2 I2 T IA f2 rd λ C D oC H' s' hC J' ho hn q=>?_;obtain⟨m,hn⟩:=hn;exact⟨m,hn,λ h' GJ=>⟨.ref D,H',cK I2 hC J' GJ,rfl,q⟩⟩
def W7 {i:Nat}{y:Str}{py Bb:Pos}(S:tf X N' pick scope) (hc:X.calm=true) (hi:PI X tg iter wi) (hg:∀ cl C s H fp,PG (yi X N' scope cl C s H fp) tg g) (hf:∀ cl C s H fp,PF (yi X N' scope cl C s H fp) ifs tc) (he:∀ cl C s H fp,PE (yi X N' scope cl C s H fp) elt te)
  (hN:X.N.Nodup) (hy:X.N[i]?=some y) (hx:Loc X.env.scope y)
  (BW:swapsWith (.ListComp elt [⟨tg,iter,ifs,0⟩] scope pos) (some (.Name y py)) Bb.line X.env=pure true:=by rfl)
  (B4:X.fn y=true\/X.env.scope.names.lookup y=some .local:=by first | exact .inl rfl | exact .inr rfl | assumption)
  (hs:∀ x,foldedSetIterable iter X.env x=pure x:=by intro _;rfl):PS X (.Assign [.Name y py] (.ListComp elt [⟨tg,iter,ifs,0⟩] scope pos) Bb) (pJ (kT pick wi g tc te) (qL i)):=by
 intro EV s Y H Q I h;obtain⟨cl,Hm,c1,c2⟩:=au (scope:=scope) (env:=X.env) λ y hy hk=>I.ok.has y.1 (S.free y hy hk);rw[exec_Assign_Name_used _ _ _ _ BW];refine JA (wpAny_standAt (JA ?_));show wpAny _ X.A (do let _ <- comprehension (.ListComp elt [⟨tg,iter,ifs,0⟩] scope pos) scope X.env _ (newList []) false (eval iter X.env) (some (assign (.Name y py) X.env))) _ _ s;refine JA (KH (wpAny_comprehension_free (use:=some (assign (.Name y py) X.env)) (Q:=λ _ s'=>SP X EV Q .next s') rfl hs Hm S.kind (λ y hy e=>e▸S.uniq y hy)
  (zv (hi EV s Y H _ I h) λ v s1 h1=>zv h1 λ Jm s2 h2=>?_)) (λ _ s' hq=>Ab (Ab hq)) λ _ _ e=>e)
 obtain⟨it,fp,tn,J,H2,e,I2,T,IA,f2,rd⟩:=h2;subst e;refine cv (Q:=λ x H1=>qL i x Y H1 Q.nx) (RR:=λ acc C=>compPost (model X.prog X.w) X.A X.xe (some (assign (.Name y py) X.env)) (λ _ s'=>SP X EV Q .next s') acc C) S hc hg hf he c1 c2 I2 T IA f2 rd λ C D oC H' s' hC J' ho hn q=>?_;show wpAny _ X.A (assign (.Name y py) X.env (.ref D)) _ _ _;refine wpAny_assign_Name (kW J' hN hy hx (v:=.ref D) rfl (λ s3 J3=>?_) B4);have hp:=(J3.pin (C,oC) (A2 _ (A2 _ (AW.mpr rfl)))).1;obtain⟨m,o,es,ep,FV,hr⟩:=hn;have:o=oC:=A7 (FV.symm.trans ho);subst this;exact⟨m,⟨o,es,ep,hp,hr⟩,λ h' GJ=>⟨_,H',cK I2 hC J3 GJ,q⟩⟩
end
end L2
namespace L3
open PySem PySem.Spec L2
open PyProof.Rows hiding St
inductive D where
 | zm | bl (b:Bool) | int (i:Int) | str (x:Str) | tup (ds:List D) | xy (ds:List D) | ref (a:Addr) | err (c f:Str) (d:D)
def qX (K:Ac) (H:Hp) (a:Addr) (xs:List V):Prop:=
 (∃ o,H a=some (.xJ o (.lst xs)))\/
  ∃ (o:Obj) (its:An) (n:Nat),K.lookup a=some o/\o.cls=.type "list"/\o.dict=none/\o.data=.seq its n/\its.size<=sizeLine/\Vals xs its.toList
def qX.sq {K:Ac}{H:Hp}{a:Addr}{xs:List V}(h:qX K H a xs):zJ K H a xs:=by
 rcases h with h | h
 .exact .inl (.inr h)
 .exact .inr h
abbrev aF:List Value:=[.type "ValueError",.type "Exception",.type "BaseException",.type "object"]
abbrev dD:List Str:=["__getattribute__","__getattr__","__class__","__setattr__","place","pair","way","times","told","name","row"]
def Ze (K:Ac) (c:Str) (C:Addr) (bm:Ad) (N:Addr):Prop:=
 (∃ (q:Str) (bs:Ad) (sn:List Str) (sub:Ad) (ab:Bool) (col:Option Bool) (dd:Option Addr) (k0 k1 k2 k3 k5:Option Value),K.lookup C=some (excClassObj c q C N bs bm true sn sub ab col dd k0 k1 k2 k3 k5 "ValueError.__new__"))/\
 PySem.W.nsOkIn K N=true/\∀ n∈dD,PySem.W.nsIn K N n=some none
structure Ld (K:Ac) (c:Str) (C P N NP:Addr):Prop where
 own:Ze K c C (.ref P::aF) N
 par:Ze K "PurseError" P aF NP
 top:PySem.W.nsIn K mainGlobals c=some (some (.ref C))
 zab:PySem.W.nsIn K mainGlobals "PurseError"=some (some (.ref P))
 zac:PySem.W.nsIn K NP "__init__"=some none
def nX (K:Ac) (c:Str) (C:Addr):Prop:=∃ P N NP,Ld K c C P N NP
noncomputable def ownIn (K:Ac) (c:Str) (C:Addr) (bm:Ad):Option Addr:=match K.lookup C with
 | some ⟨.type "type",_,.cls cd,sl⟩=>(match cd.mro,sl.toList with
  | .ref C'::bm',[_,_,_,_,some (.builtin n),_]=>if C' == C&&n == "ValueError.__new__"&&!cd.hasDel&&bm' == bm&&cd.hasDict&&cd.name == c&&PySem.W.nsOkIn K cd.ns&&dD.all (λ n=>PySem.W.nsIn K cd.ns n == some none) then some cd.ns else none
  | _,_=>none)
 | _=>none
noncomputable def sd (e C dx:Addr):HO:=.ext λ h=>∃ oe vs,h.get? e=some oe/\oe.cls=.ref C/\oe.dict=some dx/\oe.data=.fields vs
mutual
noncomputable def ze (K:Ac) (H:Hp):D->V->Prop
 | .zm,v=>v=.zm
 | .bl b,v=>v=.bl b
 | .int i,v=>v=.int i
 | .str x,v=>v=.str x
 | .tup ds,v=>∃ a xs,v=.ref a/\zN K H a xs/\zh K H ds xs
 | .xy ds,v=>∃ a xs,v=.ref a/\qX K H a xs/\zh K H ds xs
 | .ref a,v=>v=.ref a
 | .err c f d,v=>∃ e C dx w,v=.ref e/\(nX K c C/\H e=some (sd e C dx)/\H dx=some (.xd [(f,w)]))/\ze K H d w
noncomputable def zh (K:Ac) (H:Hp):List D->List V->Prop
 | [],xs=>xs=[]
 | d::ds,xs=>∃ x r,xs=x::r/\ze K H d x/\zh K H ds r
end
structure Ext (H H':Hp):Prop where
 tup:∀ b xs,H b=some (.tup xs)->H' b=some (.tup xs)
 xJ:∀ b o u,H b=some (.xJ o u)->H' b=some (.xJ o u)
 ext:∀ b φ,H b=some (.ext φ)->H' b=some (.ext φ)
 xd:∀ b fs,H b=some (.xd fs)->H' b=some (.xd fs)
def Ext.refl (H:Hp):Ext H H:=⟨λ _ _ h=>h,λ _ _ _ h=>h,λ _ _ h=>h,λ _ _ h=>h⟩
def Ext.trans {H H1 H2:Hp}(a:Ext H H1) (b:Ext H1 H2):Ext H H2:=⟨λ c xs h=>b.tup c xs (a.tup c xs h),λ c o u h=>b.xJ c o u (a.xJ c o u h),λ c u h=>b.ext c u (a.ext c u h),λ c u h=>b.xd c u (a.xd c u h)⟩
def Ext.new {H:Hp}{p:Addr}(h:H p=none) (o:HO):Ext H (upd H p o):=
 ⟨λ b xs q=>by rw[ya (u9 q h)];exact q,λ b ob u q=>by rw[ya (u9 q h)];exact q,λ b u q=>by rw[ya (u9 q h)];exact q,λ b u q=>by rw[ya (u9 q h)];exact q⟩
theorem Ext.lst {H:Hp}{p:Addr}{xs:List V}(h:H p=some (.lst xs)) (o:HO):Ext H (upd H p o):=
 ⟨λ b ys q=>by rw[ya (tG q h (by intro z;cases z))];exact q,λ b ob u q=>by rw[ya (tG q h (by intro z;cases z))];exact q,λ b u q=>by rw[ya (tG q h (by intro z;cases z))];exact q,λ b u q=>by rw[ya (tG q h (by intro z;cases z))];exact q⟩
def Ext.my {K:Ac}{H H':Hp}{a:Addr}{xs:List V}(e:Ext H H') (h:zN K H a xs):zN K H' a xs:=by
 rcases h with (h | ⟨o,h⟩) | h
 .exact .inl (.inl (e.tup _ _ h))
 .exact .inl (.inr ⟨o,e.xJ _ _ _ h⟩)
 .exact .inr h
def Ext.mz {K:Ac}{H H':Hp}{a:Addr}{xs:List V}(e:Ext H H') (h:qX K H a xs):qX K H' a xs:=by
 rcases h with ⟨o,h⟩ | h
 .exact .inl ⟨o,e.xJ _ _ _ h⟩
 .exact .inr h
section
variable {K:Ac}{H H':Hp}
mutual
theorem ze.ext (e:Ext H H'):∀ (d:D) {v:V},ze K H d v->ze K H' d v
 | .zm,v,h=>by simpa only [ze] using h
 | .bl b,v,h=>by simpa only [ze] using h
 | .int i,v,h=>by simpa only [ze] using h
 | .str x,v,h=>by simpa only [ze] using h
 | .ref a,v,h=>by simpa only [ze] using h
 | .err c f d,v,h=>by
  simp only[ze] at h ⊢;obtain⟨a,C,dx,w,h1,⟨h2,h3,h4⟩,h5⟩:=h;exact⟨a,C,dx,w,h1,⟨h2,e.ext _ _ h3,e.xd _ _ h4⟩,ze.ext e d h5⟩
 | .tup ds,v,h=>by
  simp only[ze] at h ⊢;obtain⟨a,xs,h1,h2,h3⟩:=h;exact⟨a,xs,h1,e.my h2,zh.ext e ds h3⟩
 | .xy ds,v,h=>by
  simp only[ze] at h ⊢;obtain⟨a,xs,h1,h2,h3⟩:=h;exact⟨a,xs,h1,e.mz h2,zh.ext e ds h3⟩
theorem zh.ext (e:Ext H H'):∀ (ds:List D) {xs:List V},zh K H ds xs->zh K H' ds xs
 | [],xs,h=>by simpa only [zh] using h
 | d::ds,xs,h=>by
  simp only[zh] at h ⊢;obtain⟨x,r,h1,h2,h3⟩:=h;exact⟨x,r,h1,ze.ext e d h2,zh.ext e ds h3⟩
end
theorem zh.length:∀ {ds:List D}{xs:List V},zh K H ds xs->ds.length=xs.length
 | [],xs,h=>by simp only[zh] at h;subst h;rfl
 | d::ds,xs,h=>by
  simp only[zh] at h;obtain⟨x,r,h1,_,h3⟩:=h;subst h1;simp[zh.length h3]
theorem zh.get:∀ {ds:List D}{xs:List V}{i:Nat}{d:D},zh K H ds xs->ds[i]?=some d->∃ x,xs[i]?=some x/\ze K H d x
 | [],_,i,d,_,e=>by simp at e
 | c::ds,xs,i,d,h,e=>by
  simp only[zh] at h;obtain⟨x,r,h1,h2,h3⟩:=h;subst h1;cases i with
  | zero=>simp at e;subst e;exact⟨x,rfl,h2⟩
  | succ i=>
   obtain⟨y,e1,e2⟩:=zh.get (i:=i) h3 (by simpa using e);exact⟨y,by simpa using e1,e2⟩
theorem zh.append:∀ {ds es:List D}{xs ys:List V},zh K H ds xs->zh K H es ys->zh K H (ds++es) (xs++ys)
 | [],es,xs,ys,h,h'=>by simp only[zh] at h;subst h;simpa using h'
 | d::ds,es,xs,ys,h,h'=>by
  simp only[zh] at h;obtain⟨x,r,h1,h2,h3⟩:=h;subst h1;show zh K H (d::(ds++es)) (x::(r++ys));simp only[zh];exact⟨x,r++ys,rfl,h2,zh.append h3 h'⟩
def zh.nil:zh K H [] []:=by simp only[zh]
def zh.cons {d:D}{ds:List D}{x:V}{xs:List V}(h:ze K H d x) (h':zh K H ds xs):zh K H (d::ds) (x::xs):=by
 simp only[zh];exact⟨x,xs,rfl,h,h'⟩
def zh.snoc {d:D}{ds:List D}{x:V}{xs:List V}(h':zh K H ds xs) (h:ze K H d x):zh K H (ds++[d]) (xs++[x]):=h'.append (.cons h .nil)
theorem zh.ints:∀ {ns:List Int}{xs:List V},zh K H (ns.map D.int) xs->xs=ns.map V.int
 | [],xs,h=>by simpa only [Bp,zh] using h
 | n::ns,xs,h=>by
  rw[Ax] at h;simp only[zh,ze] at h;obtain⟨x,r,h1,h2,h3⟩:=h;subst h1 h2;rw[Ax,zh.ints h3]
theorem zh.jw:∀ (ns:List Int),zh K H (ns.map D.int) (ns.map V.int)
 | []=>.nil
 | n::ns=>.cons (by simp only[ze]) (zh.jw ns)
theorem zh.bools:∀ {ns:List Bool}{xs:List V},zh K H (ns.map D.bl) xs->xs=ns.map V.bl
 | [],xs,h=>by simpa only [Bp,zh] using h
 | n::ns,xs,h=>by
  rw[Ax] at h;simp only[zh,ze] at h;obtain⟨x,r,h1,h2,h3⟩:=h;subst h1 h2;rw[Ax,zh.bools h3]
end
inductive O where
 | lst (ds:List D)
 | zS (Aa:List (Key×D))
abbrev SS:=Addr->Option O
def yJ (K:Ac) (H:Hp):List (Key×D)->List (Key×V)->Prop:=Paired λ p q=>p.1=q.1/\ze K H p.2 q.2
noncomputable def rX (K:Ac) (H:Hp) (a:Addr):O->Prop
 | .lst ds=>∃ xs,H a=some (.lst xs)/\zh K H ds xs
 | .zS Aa=>∃ vs,H a=some (.dK vs)/\yJ K H Aa vs
def zE (K:Ac) (H:Hp) (S:SS):Prop:=∀ a o,S a=some o->rX K H a o
noncomputable def ups (S:SS) (a:Addr) (o:O):SS:=λ b=>if b=a then some o else S b
def tj {S:SS}{a:Addr}{o:O}:ups S a o a=some o:=by unfold ups;rw[if_pos rfl]
def ur {S:SS}{a b:Addr}{o:O}(h:b≠a):ups S a o b=S b:=by unfold ups;rw[if_neg h]
def Sx (S S':SS):Prop:=∀ b o,S b=some o->S' b=some o
def Sx.refl (S:SS):Sx S S:=λ _ _ h=>h
def Sx.trans {S S1 S2:SS}(a:Sx S S1) (b:Sx S1 S2):Sx S S2:=λ c o h=>b c o (a c o h)
def Sx.new {S:SS}{p:Addr}(h:S p=none) (o:O):Sx S (ups S p o):=λ b u q=>by
 rw[ur (by intro z;subst z;rw[h] at q;cases q)];exact q
theorem Sx.none {S S':SS}(e:Sx S S') {p:Addr}(h:S' p=Option.none):S p=Option.none:=by
 cases q:S p with
 | none=>rfl
 | some o=>rw[e p o q] at h;cases h
section
variable {K:Ac}{H H':Hp}{S:SS}
def rX.has {a:Addr}{o:O}(h:rX K H a o):H a≠none:=by
 cases o with
 | lst ds=>obtain⟨xs,h,_⟩:=h;rw[h];simp
 | zS Aa=>obtain⟨xs,h,_⟩:=h;rw[h];simp
theorem zE.none (r:zE K H S) {p:Addr}(h:H p=Option.none):S p=Option.none:=by
 cases q:S p with
 | none=>rfl
 | some o=>exact absurd h (r p o q).has
theorem yJ.ext (e:Ext H H') {Aa:List (Key×D)}{vs:List (Key×V)}(h:yJ K H Aa vs):yJ K H' Aa vs:=
 Paired.mS h λ p q z=>⟨z.1,ze.ext e p.2 z.2⟩
def rX.keep {a:Addr}{o:O}(e:Ext H H') (k:∀ u,H a=some u->H' a=some u) (h:rX K H a o):rX K H' a o:=by
 cases o with
 | lst ds=>obtain⟨xs,h1,h2⟩:=h;exact⟨xs,k _ h1,zh.ext e ds h2⟩
 | zS Aa=>obtain⟨xs,h1,h2⟩:=h;exact⟨xs,k _ h1,h2.ext e⟩
theorem zE.keep (e:Ext H H') (k:∀ a u o,S a=some o->H a=some u->H' a=some u) (r:zE K H S):zE K H' S:=λ a o h=>(r a o h).keep e λ u q=>k a u o h q
theorem zE.new {p:Addr}{u:HO}(hp:H p=Option.none) (r:zE K H S):zE K (upd H p u) S:=
 r.keep (Ext.new hp u) λ a v o _ q=>by rw[ya (u9 q hp)];exact q
theorem zE.ups {p:Addr}{u:HO}{o:O}(e:Ext H (upd H p u)) (hn:rX K (upd H p u) p o) (r:zE K H S):zE K (upd H p u) (ups S p o):=λ a o' h=>by
 by_cases ha:a=p
 .subst ha;rw[tj] at h;cases h;exact hn
 .rw[ur ha] at h;exact (r a o' h).keep e λ v q=>by rw[ya ha];exact q
end
abbrev zY:=List (Option D)
def y6 (K:Ac) (H:Hp) (L:zY) (Y:St):Prop:=L.length=Y.length/\∀ (i:Nat) (d:D),L[i]?=some (some d)->∃ v,Y[i]?=some (some v)/\ze K H d v
theorem y6.ext {K:Ac}{H H':Hp}{L:zY}{Y:St}(e:Ext H H') (r:y6 K H L Y):y6 K H' L Y:=⟨r.1,λ i d h=>by
 obtain⟨v,h1,h2⟩:=r.2 i d h;exact⟨v,h1,ze.ext e d h2⟩⟩
theorem y6.set {K:Ac}{H:Hp}{L:zY}{Y:St}(i:Nat) {d:D}{v:V}(r:y6 K H L Y) (h:ze K H d v):y6 K H (L.set i (some d)) (Y.set i (some v)):=by
 refine⟨by rw[DC,DC];exact r.1,λ j c hc=>?_⟩;rw[Dx] at hc ⊢;by_cases hj:i=j
 .subst hj;rw[if_pos rfl] at hc ⊢;by_cases hl:i < L.length
  .rw[if_pos hl] at hc;rw[if_pos (by rw[<- r.1];exact hl)];cases hc;exact⟨v,rfl,h⟩
  .rw[if_neg hl] at hc;cases hc
 .rw[if_neg hj] at hc ⊢;exact r.2 j c hc
abbrev DK:=D->SS->Prop
abbrev zo:=zY->SS->DK->Prop
abbrev yt:=zY->SS->(Bool->SS->Prop)->Prop
abbrev z_:=zY->SS->(List D->SS->Prop)->Prop
def zV (t:zo):Prop:=∀ L S (Q Q':DK),(∀ d S',Q d S'->Q' d S')->t L S Q->t L S Q'
def wu (t:yt):Prop:=∀ L S (Q Q':Bool->SS->Prop),(∀ d S',Q d S'->Q' d S')->t L S Q->t L S Q'
def tW (t:z_):Prop:=∀ L S (Q Q':List D->SS->Prop),(∀ d S',Q d S'->Q' d S')->t L S Q->t L S Q'
def xY (K:Ac) (H:Hp) (Q:VK):DK:=λ d S'=>∀ v H',ze K H' d v->Ext H H'->zE K H' S'->Q v H'
def oO (K:Ac) (H:Hp) (Q:Bool->Hp->Prop):Bool->SS->Prop:=λ b S'=>∀ H',Ext H H'->zE K H' S'->Q b H'
def Nk (K:Ac) (H:Hp) (Q:List V->Hp->Prop):List D->SS->Prop:=λ ds S'=>∀ vs H',zh K H' ds vs->Ext H H'->zE K H' S'->Q vs H'
def wG (K:Ac) (H:Hp) (Q:St->Hp->Prop):zY->SS->Prop:=fun L S'=>∀ Y H',y6 K H' L Y->Ext H H'->zE K H' S'->Q Y H'
def xY.ext {K:Ac}{H H':Hp}{Q:VK}(e:Ext H H') {d:D}{S:SS}(h:xY K H Q d S):xY K H' Q d S:=λ v H2 r x q=>h v H2 r (e.trans x) q
def oO.ext {K:Ac}{H H':Hp}{Q:Bool->Hp->Prop}(e:Ext H H') {d:Bool}{S:SS}(h:oO K H Q d S):oO K H' Q d S:=λ H2 x q=>h H2 (e.trans x) q
def wG.ext {K:Ac}{H H':Hp}{Q:St->Hp->Prop}(e:Ext H H') {d:zY}{S:SS}(h:wG K H Q d S):wG K H' Q d S:=λ v H2 r x q=>h v H2 r (e.trans x) q
def zC (K:Ac) (t:zo):TE:=fun Y H Q=>∃ L S,y6 K H L Y/\zE K H S/\t L S (xY K H Q)
def xS (K:Ac) (t:yt):TT:=fun Y H Q=>∃ L S,y6 K H L Y/\zE K H S/\t L S (oO K H Q)
def xT (K:Ac) (t:z_):TA:=fun Y H Q=>∃ L S,y6 K H L Y/\zE K H S/\t L S (Nk K H Q)
structure PD (X:Cx) (e:Expr) (t:zo):Prop where
 mo:zV t
 pe:PE X e (zC X.K t)
structure xo (X:Cx) (e:Expr) (t:yt):Prop where
 mo:wu t
 pt:PT X e (xS X.K t)
structure yZ (X:Cx) (es:List Expr) (t:z_):Prop where
 mo:tW t
 pa:PA X es (xT X.K t)
def PE.imp {X:Cx}{e:Expr}{t t':TE}(h:PE X e t) (hi:∀ Y H Q,t' Y H Q->t Y H Q):PE X e t':=λ EV s Y H Q I q=>h EV s Y H Q I (hi Y H Q q)
def PT.imp {X:Cx}{e:Expr}{t t':TT}(h:PT X e t) (hi:∀ Y H Q,t' Y H Q->t Y H Q):PT X e t':=λ EV s Y H Q I q=>h EV s Y H Q I (hi Y H Q q)
def PA.imp {X:Cx}{e:List Expr}{t t':TA}(h:PA X e t) (hi:∀ Y H Q,t' Y H Q->t Y H Q):PA X e t':=λ pos EV s Y H Q I q=>h pos EV s Y H Q I (hi Y H Q q)
def PS.imp {X:Cx}{e:Stmt}{t t':TS}(h:PS X e t) (hi:∀ D Y H,t' D Y H->t D Y H):PS X e t':=λ EV s Y H Q I q=>h EV s Y H Q I (hi Q Y H q)
def xF.imp {X:Cx}{e:List Stmt}{t t':TS}(h:xF X e t) (hi:∀ D Y H,t' D Y H->t D Y H):xF X e t':=λ EV s Y H Q I q=>h EV s Y H Q I (hi Q Y H q)
section
variable {X:Cx}{K:Ac}
def zC.go {t:zo}{Y:St}{H:Hp}{Q:VK}{L:zY}{S:SS}{R:DK}(mo:zV t) (r1:y6 K H L Y) (r2:zE K H S) (h:t L S R) (k:∀ d S' v H',R d S'->ze K H' d v->Ext H H'->zE K H' S'->Q v H'):zC K t Y H Q:=
 ⟨L,S,r1,r2,mo L S _ _ (λ d S' q v H' a b c=>k d S' v H' q a b c) h⟩
def xS.go {t:yt}{Y:St}{H:Hp}{Q:Bool->Hp->Prop}{L:zY}{S:SS}{R:Bool->SS->Prop}(mo:wu t) (r1:y6 K H L Y) (r2:zE K H S) (h:t L S R) (k:∀ d S' H',R d S'->Ext H H'->zE K H' S'->Q d H'):xS K t Y H Q:=
 ⟨L,S,r1,r2,mo L S _ _ (λ d S' q H' b c=>k d S' H' q b c) h⟩
def xT.go {t:z_}{Y:St}{H:Hp}{Q:List V->Hp->Prop}{L:zY}{S:SS}{R:List D->SS->Prop}(mo:tW t) (r1:y6 K H L Y) (r2:zE K H S) (h:t L S R) (k:∀ d S' v H',R d S'->zh K H' d v->Ext H H'->zE K H' S'->Q v H'):xT K t Y H Q:=
 ⟨L,S,r1,r2,mo L S _ _ (λ d S' q v H' a b c=>k d S' v H' q a b c) h⟩
def yb (i:Nat):zo:=fun L S Q=>match L[i]? with
 | some (some d)=>Q d S
 | _=>False
def dC (d:D):zo:=λ _ S Q=>Q d S
def Uq (i:Nat) {x:Str}{pos:Pos}(h:PE X (.Name x pos) (kS i)):PD X (.Name x pos) (yb i):=by
 refine⟨fun L S Q Q' hq h=>?_,PE.imp h fun Y H Q hu=>?_⟩
 .unfold yb at h ⊢;split at h
  .exact hq _ _ h
  .exact h
 .obtain⟨L,S,r1,r2,h⟩:=hu;unfold yb at h;split at h
  .rename_i d e;obtain⟨v,h1,h2⟩:=r1.2 i d e;exact⟨v,h1,h v H h2 (Ext.refl H) r2⟩
  .exact h.elim
def dC.mo (d:D):zV (dC d):=λ _ _ _ _ hq h=>hq _ _ h
def qv {e:Expr}{d:D}{v:V}(h:PE X e (tC v)) (r:∀ H,ze X.K H d v):PD X e (dC d):=
 ⟨dC.mo d,PE.imp h λ _ H _ ⟨_,_,_,r2,h⟩=>h v H (r H) (Ext.refl H) r2⟩
def UR {i j pos}:PD X (.Constant (.int i) j pos) (dC (.int i)):=qv Vs λ _=>by simp only[ze]
def Tr {i j pos}:PD X (.Constant (.bool i) j pos) (dC (.bl i)):=qv V3 λ _=>by simp only[ze]
def U4 {j pos}:PD X (.Constant .none j pos) (dC .zm):=qv Vo λ _=>by simp only[ze]
def Uu {x j pos}:PD X (.Constant (.str x) j pos) (dC (.str x)):=qv Vi λ _=>by simp only[ze]
abbrev y7:=D->D->SS->DK->Prop
def xi (f:y7):Prop:=∀ x y S (Q Q':DK),(∀ d S',Q d S'->Q' d S')->f x y S Q->f x y S Q'
def xj (K:Ac) (f:y7) (r:R2):Prop:=∀ x y d e H S Q,ze K H d x->ze K H e y->zE K H S->f d e S (xY K H Q)->r x y H Q
def yc (f:y7) (ta tb:zo):zo:=fun L S Q=>ta L S λ x S1=>tb L S1 λ y S2=>f x y S2 Q
def yc.mo {f:y7}{ta tb:zo}(hf:xi f) (ha:zV ta) (hb:zV tb):zV (yc f ta tb):=fun L S Q Q' hq h=>
 ha L S _ _ (λ x S1 h=>hb L S1 _ _ (λ y S2 h=>hf x y S2 _ _ hq h) h) h
def me {f:y7}{r:R2}{ta tb:zo}(hr:xj K f r) (hf:xi f) (ha:zV ta) (hb:zV tb) {Y:St}{H:Hp}{Q:VK}(h:zC K (yc f ta tb) Y H Q):pG r (zC K ta) (zC K tb) Y H Q:=by
 obtain⟨L,S,r1,r2,h⟩:=h;refine zC.go ha r1 r2 h λ x S1 v H1 h1 q1 e1 p1=>?_;refine zC.go hb (r1.ext e1) p1 h1 λ y S2 w H2 h2 q2 e2 p2=>?_;exact hr v w x y H2 S2 Q (ze.ext e2 x q1) q2 p2 (hf x y S2 _ _ (λ d S' z=>z.ext (e1.trans e2)) h2)
def sE {a b:Expr}{op:Operator}{pos:Pos}{f:y7}{r:R2}{ta tb:zo}(ho:zT X (binaryOp op) r) (hr:xj X.K f r) (hf:xi f) (ha:PD X a ta) (hb:PD X b tb):PD X (.BinOp a op b pos) (yc f ta tb):=
 ⟨yc.mo hf ha.mo hb.mo,PE.imp (Vl ho ha.pe hb.pe) λ _ _ _ h=>me hr hf ha.mo hb.mo h⟩
def pY {a b:Expr}{op:CmpOp}{pos:Pos}{f:y7}{r:R2}{ta tb:zo}(ho:zT X (compareOp op) r) (hr:xj X.K f r) (hf:xi f) (ha:PD X a ta) (hb:PD X b tb) (hm:behindInMarks op b=false):PD X (.Compare a [op] [b] pos) (yc f ta tb):=
 ⟨yc.mo hf ha.mo hb.mo,PE.imp (Vz ho ha.pe hb.pe hm) λ _ _ _ h=>me hr hf ha.mo hb.mo h⟩
def vq (t:zo):yt:=fun L S Q=>t L S λ x S1=>match x with
 | .bl b=>Q b S1
 | _=>False
def vq.mo {t:zo}(h:zV t):wu (vq t):=fun L S Q Q' hq q=>h L S _ _ (λ d S' z=>by
 cases d <;> first
  | exact hq _ _ z
  | exact z) q
def qu {a b:Expr}{op:CmpOp}{pos:Pos}{f:y7}{r:R2}{ta tb:zo}(ho:zT X (compareOp op) r) (hr:xj X.K f r) (hf:xi f) (ha:PD X a ta) (hb:PD X b tb) (hm:behindInMarks op b=false):xo X (.Compare a [op] [b] pos) (vq (yc f ta tb)):=by
 refine⟨vq.mo (yc.mo hf ha.mo hb.mo),PT.imp (W0 ho ha.pe hb.pe hm) fun Y H Q h=>?_⟩;obtain⟨L,S,r1,r2,h⟩:=h;refine me hr hf ha.mo hb.mo ⟨L,S,r1,r2,yc.mo hf ha.mo hb.mo L S _ _ (λ d S' z v H' a b c=>?_) h⟩;cases d with
 | bl k=>simp only[ze] at a;exact⟨k,a,z H' b c⟩
 | _=>exact z.elim
def fI (C:Int->Int->Prop) (g:Int->Int->D):y7:=λ x y S Q=>match x,y with
 | .int i,.int j=>C i j/\Q (g i j) S
 | _,_=>False
def fI.mo {C:Int->Int->Prop}{g:Int->Int->D}:xi (fI C g):=λ x y S Q Q' hq h=>by
 unfold fI at h ⊢;split at h
 .exact⟨h.1,hq _ _ h.2⟩
 .exact h.elim
def xl (g:Int->Int->D):y7:=λ x y S Q=>match x,y with
 | .int i,.int j=>Q (g i j) S
 | _,_=>False
def xl.mo {g:Int->Int->D}:xi (xl g):=λ x y S Q Q' hq h=>by
 unfold xl at h ⊢;split at h
 .exact hq _ _ h
 .exact h.elim
def fI.fits {C:Int->Int->Prop}{g:Int->Int->D}{g':Int->Int->V}(hg:∀ i j H,ze K H (g i j) (g' i j)):xj K (fI C g) (rI C g'):=λ x y d e H S Q h1 h2 h3 h=>by
 unfold fI at h;split at h
 .simp only[ze] at h1 h2;exact⟨_,_,h1,h2,h.1,h.2 _ H (hg _ _ H) (Ext.refl H) h3⟩
 .exact h.elim
def xl.fits {g:Int->Int->D}{g':Int->Int->V}(hg:∀ i j H,ze K H (g i j) (g' i j)):xj K (xl g) (vg g'):=λ x y d e H S Q h1 h2 h3 h=>by
 unfold xl at h;split at h
 .simp only[ze] at h1 h2;exact⟨_,_,h1,h2,h _ H (hg _ _ H) (Ext.refl H) h3⟩
 .exact h.elim
variable {a b:Expr}{ta tb:zo}{pos:Pos}
def Ut (ha:PD X a ta) (hb:PD X b tb):PD X (.BinOp a .Sub b pos) (yc (xl λ i j=>.int (i-j)) ta tb):=sE T3 (xl.fits λ _ _ _=>by simp only[ze]) xl.mo ha hb
def U8 (ha:PD X a ta) (hb:PD X b tb):PD X (.BinOp a .Mod b pos) (yc (fI (λ _ j=>0<j) λ i j=>.int (i%j)) ta tb):=sE TC (fI.fits λ _ _ _=>by simp only[ze]) fI.mo ha hb
def Tb (ha:PD X a ta) (hb:PD X b tb):PD X (.BinOp a .FloorDiv b pos) (yc (fI xG λ i j=>.int (i/j)) ta tb):=sE TQ (fI.fits λ _ _ _=>by simp only[ze]) fI.mo ha hb
def Uz (ha:PD X a ta) (hb:PD X b tb):PD X (.BinOp a .Pow b pos) (yc (fI rm λ i j=>.int (i ^ j.toNat)) ta tb):=sE T4 (fI.fits λ _ _ _=>by simp only[ze]) fI.mo ha hb
abbrev lu:y7:=xl λ i j=>.bl (decide (i<=j))
abbrev ic:y7:=xl λ i j=>.bl (decide (j<=i))
def fit_le:xj K lu (vg λ i j=>.bl (decide (i<=j))):=xl.fits λ _ _ _=>by simp only[ze]
def OJ:xj K ic (vg λ i j=>.bl (decide (j<=i))):=xl.fits λ _ _ _=>by simp only[ze]
def UL (ha:PD X a ta) (hb:PD X b tb):PD X (.Compare a [.LtE] [b] pos) (yc lu ta tb):=pY qw fit_le xl.mo ha hb (tF _)
def U_ (ha:PD X a ta) (hb:PD X b tb):PD X (.Compare a [.GtE] [b] pos) (yc ic ta tb):=pY TL OJ xl.mo ha hb (tF _)
def VB (ha:PD X a ta) (hb:PD X b tb):xo X (.Compare a [.LtE] [b] pos) (vq (yc lu ta tb)):=qu qw fit_le xl.mo ha hb (tF _)
end
section
variable {X:Cx}{K:Ac}{a b c:Expr}{ta tb:zo}{pos:Pos}
def oY (ta tb:zo):zo:=fun L S Q=>ta L S λ x S1=>match x with
 | .bl k=>if k=true then tb L S1 Q else Q (.bl false) S1
 | _=>False
def oU (ta:zo):zo:=fun L S Q=>ta L S λ x S1=>match x with
 | .bl k=>Q (.bl (!k)) S1
 | _=>False
def wB {c:Prop} [Decidable c] {A B A' B':Prop}(h1:A->A') (h2:B->B') (h:if c then A else B):if c then A' else B':=by
 by_cases q:c
 .rw[if_pos q] at h ⊢;exact h1 h
 .rw[if_neg q] at h ⊢;exact h2 h
def oY.mo (ha:zV ta) (hb:zV tb):zV (oY ta tb):=fun L S Q Q' hq h=>ha L S _ _ (λ x S1 z=>by
 cases x <;> first
  | exact wB (hb L S1 _ _ hq) (hq _ _) z
  | exact z) h
def oU.mo (ha:zV ta):zV (oU ta):=fun L S Q Q' hq h=>ha L S _ _ (λ x S1 z=>by
 cases x <;> first
  | exact hq _ _ z
  | exact z) h
def U1 {op} {t:zo}(h:PD X a t):PD X (.BoolOp op [a] pos) t:=⟨h.mo,Vm h.pe⟩
variable {EX:List Expr}
def Tt (ha:PD X a ta) (hb:PD X (.BoolOp .And (b::EX) pos) tb):PD X (.BoolOp .And (a::b::EX) pos) (oY ta tb):=by
 refine⟨oY.mo ha.mo hb.mo,PE.imp (V4 ha.pe hb.pe) fun Y H Q hu=>?_⟩;obtain⟨L,S,r1,r2,h⟩:=hu;refine zC.go ha.mo r1 r2 h λ x S1 v H1 h1 q1 e1 p1=>?_;cases x with
 | bl k=>
  simp only[ze] at q1;refine⟨k,q1,wB (λ z=>?_) (λ z=>?_) h1⟩
  .exact zC.go hb.mo (r1.ext e1) p1 z λ y S2 w H2 h2 q2 e2 p2=>h2 w H2 q2 (e1.trans e2) p2
  .exact z _ H1 (by simp only[ze]) e1 p1
 | _=>exact h1.elim
def U3 (ha:PD X a ta):PD X (.UnaryOp .Not a pos) (oU ta):=by
 refine⟨oU.mo ha.mo,PE.imp (Vn ha.pe) fun Y H Q hu=>?_⟩;obtain⟨L,S,r1,r2,h⟩:=hu;refine zC.go ha.mo r1 r2 h λ x S1 v H1 h1 q1 e1 p1=>?_;cases x with
 | bl k=>
  simp only[ze] at q1;exact⟨k,q1,h1 _ H1 (by simp only[ze]) e1 p1⟩
 | _=>exact h1.elim
def oI (t u:yt):yt:=fun L S Q=>t L S λ k S1=>if k=true then u L S1 Q else Q false S1
def oG (t u:yt):yt:=fun L S Q=>t L S λ k S1=>if k=true then Q true S1 else u L S1 Q
def oH (t:yt):yt:=fun L S Q=>t L S λ k S1=>Q (!k) S1
variable {t u:yt}
def oI.mo (h:wu t) (h':wu u):wu (oI t u):=fun L S _ _ hq z=>h L S _ _ (λ k S1 z=>wB (h' L S1 _ _ hq) (hq _ _) z) z
def oG.mo (h:wu t) (h':wu u):wu (oG t u):=fun L S _ _ hq z=>h L S _ _ (λ k S1 z=>wB (hq _ _) (h' L S1 _ _ hq) z) z
def oH.mo (h:wu t):wu (oH t):=fun L S _ _ hq z=>h L S _ _ (λ k S1 z=>hq _ _ z) z
structure tV (X:Cx) (e:Expr) (t:yt):Prop where
 mo:wu t
 pw:PW X e (xS X.K t)
def PW.imp {e:Expr}{t t':TT}(h:PW X e t) (hi:∀ Y H Q,t' Y H Q->t Y H Q):PW X e t':=λ whole EV s Y H Q I q=>h whole EV s Y H Q I (hi Y H Q q)
theorem tV.pt {e:Expr}{t:yt}(h:tV X e t):xo X e t:=⟨h.mo,PW.pt h.pw⟩
def V6 (h:xo X a t):tV X (.BoolOp .And [a] pos) t:=⟨h.mo,Wt h.pt⟩
def V5 (h:xo X a t):tV X (.BoolOp .Or [a] pos) t:=⟨h.mo,Wr h.pt⟩
def eX (ha:xo X a t) (hb:tV X (.BoolOp .And (b::EX) pos) u):tV X (.BoolOp .And (a::b::EX) pos) (oI t u):=by
 refine⟨oI.mo ha.mo hb.mo,PW.imp (Wu ha.pt hb.pw) fun Y H Q hu=>?_⟩;obtain⟨L,S,r1,r2,h⟩:=hu;refine xS.go ha.mo r1 r2 h λ k S1 H1 h1 e1 p1=>wB (λ z=>?_) (λ z=>z H1 e1 p1) h1;exact xS.go hb.mo (r1.ext e1) p1 z λ y S2 H2 h2 e2 p2=>h2 H2 (e1.trans e2) p2
def eW (ha:xo X a t) (hb:tV X (.BoolOp .Or (b::EX) pos) u):tV X (.BoolOp .Or (a::b::EX) pos) (oG t u):=by
 refine⟨oG.mo ha.mo hb.mo,PW.imp (Ws ha.pt hb.pw) fun Y H Q hu=>?_⟩;obtain⟨L,S,r1,r2,h⟩:=hu;refine xS.go ha.mo r1 r2 h λ k S1 H1 h1 e1 p1=>wB (λ z=>z H1 e1 p1) (λ z=>?_) h1;exact xS.go hb.mo (r1.ext e1) p1 z λ y S2 H2 h2 e2 p2=>h2 H2 (e1.trans e2) p2
def V8 (ha:xo X a t):xo X (.UnaryOp .Not a pos) (oH t):=by
 refine⟨oH.mo ha.mo,PT.imp (Wz ha.pt) fun Y H Q hu=>?_⟩;obtain⟨L,S,r1,r2,h⟩:=hu;exact xS.go ha.mo r1 r2 h λ k S1 H1 h1 e1 p1=>h1 H1 e1 p1
def oV (t:yt) (ta tb:zo):zo:=fun L S Q=>t L S λ k S1=>if k=true then ta L S1 Q else tb L S1 Q
def oV.mo (h:wu t) (ha:zV ta) (hb:zV tb):zV (oV t ta tb):=fun L S _ _ hq z=>h L S _ _ (λ k S1 z=>wB (ha L S1 _ _ hq) (hb L S1 _ _ hq) z) z
def UU (hc:xo X c t) (ha:PD X a ta) (hb:PD X b tb):PD X (.IfExp c a b pos) (oV t ta tb):=by
 refine⟨oV.mo hc.mo ha.mo hb.mo,PE.imp (Vu hc.pt ha.pe hb.pe) fun Y H Q hu=>?_⟩;obtain⟨L,S,r1,r2,h⟩:=hu;refine xS.go hc.mo r1 r2 h λ k S1 H1 h1 e1 p1=>wB (λ z=>?_) (λ z=>?_) h1
 .exact zC.go ha.mo (r1.ext e1) p1 z λ y S2 w H2 h2 q2 e2 p2=>h2 w H2 q2 (e1.trans e2) p2
 .exact zC.go hb.mo (r1.ext e1) p1 z λ y S2 w H2 h2 q2 e2 p2=>h2 w H2 q2 (e1.trans e2) p2
def vd (d:D) (S:SS) (Q:Bool->SS->Prop):Prop:=match d with
 | .zm=>Q false S
 | .bl k=>Q k S
 | .int i=>Q (i != 0) S
 | .str x=>x.length<=sizeLine/\Q ((x.length:Int) != 0) S
 | .tup ds=>Q (!ds.isEmpty) S
 | .xy ds=>Q (!ds.isEmpty) S
 | .ref p=>match S p with
  | some (.lst ds)=>Q (!ds.isEmpty) S
  | some (.zS Aa)=>Q (!Aa.isEmpty) S
  | none=>False
 | .err _ _ _=>False
def bH (ta:zo):yt:=fun L S Q=>ta L S λ x S1=>vd x S1 Q
def vd.mo {d:D}{S:SS}{Q Q':Bool->SS->Prop}(hq:∀ k S',Q k S'->Q' k S') (h:vd d S Q):vd d S Q':=by
 cases d with
 | str x=>exact⟨h.1,hq _ _ h.2⟩
 | err _ _ _=>exact h.elim
 | ref p=>
  unfold vd at h ⊢;dsimp only at h ⊢;split at h
  .exact hq _ _ h
  .exact hq _ _ h
  .exact h
 | _=>exact hq _ _ h
theorem zh.isEmpty {H:Hp}{ds:List D}{xs:List V}(h:zh K H ds xs):ds.isEmpty=xs.isEmpty:=by
 have:=h.length;cases ds <;> cases xs <;> simp_all
def MB {α β:Type}{F:α->β->Prop}{xs:List α}{ys:List β}(h:Paired F xs ys):xs.isEmpty=ys.isEmpty:=by cases h <;> rfl
def vd.fits {H:Hp}{d:D}{v:V}{S:SS}{Q:Bool->Hp->Prop}(r:ze K H d v) (p:zE K H S) (h:vd d S (oO K H Q)):∃ k,iW K v H k/\Q k H:=by
 cases d with
 | zm=>simp only[ze] at r;subst r;exact⟨false,rfl,h H (.refl H) p⟩
 | bl k=>simp only[ze] at r;subst r;exact⟨k,rfl,h H (.refl H) p⟩
 | int i=>simp only[ze] at r;subst r;exact⟨_,rfl,h H (.refl H) p⟩
 | str x=>simp only[ze] at r;subst r;exact⟨_,⟨h.1,rfl⟩,h.2 H (.refl H) p⟩
 | err _ _ _=>exact h.elim
 | tup ds=>
  simp only[ze] at r;obtain⟨a,xs,rfl,r1,r2⟩:=r;exact⟨_,.inr (.inl ⟨xs,r1,by rw[r2.isEmpty]⟩),h H (.refl H) p⟩
 | xy ds=>
  simp only[ze] at r;obtain⟨a,xs,rfl,r1,r2⟩:=r;exact⟨_,.inl ⟨xs,r1.sq,by rw[r2.isEmpty]⟩,h H (.refl H) p⟩
 | ref a=>
  simp only[ze] at r;subst r;unfold vd at h;dsimp only at h;split at h
  .rename_i ds e;obtain⟨xs,e1,r2⟩:=p a _ e;exact⟨_,.inl ⟨xs,zJ.of e1,by rw[r2.isEmpty]⟩,h H (.refl H) p⟩
  .rename_i Aa e;obtain⟨xs,e1,r2⟩:=p a _ e;exact⟨_,.inr (.inr ⟨xs,e1,by rw[MB r2]⟩),h H (.refl H) p⟩
  .exact h.elim
def V7 (ha:PD X a ta) (he:∀ whole,isTrue a X.env whole=(do let v <- whole;standAt a.pos;holding [v] (truthy v))):xo X a (bH ta):=by
 refine⟨fun L S Q Q' hq h=>ha.mo L S _ _ (λ x S1 z=>vd.mo hq z) h,PT.imp (Wx ha.pe he) fun Y H Q hu=>?_⟩;obtain⟨L,S,r1,r2,h⟩:=hu;refine zC.go ha.mo r1 r2 h λ x S1 v H1 h1 q1 e1 p1=>?_;exact vd.fits q1 p1 (vd.mo (λ k S' z=>z.ext e1) h1)
def l7:z_:=λ _ S Q=>Q [] S
def rK (te:zo) (tr:z_):z_:=fun L S Q=>te L S λ x S1=>tr L S1 λ xs S2=>Q (x::xs) S2
variable {e:Expr}{es:List Expr}{te:zo}{tA:z_}
def rK.mo (h:zV te) (h':tW tA):tW (rK te tA):=fun L S _ _ hq z=>h L S _ _ (λ x S1 z=>h' L S1 _ _ (λ xs S2 z=>hq _ _ z) z) z
def Um:yZ X [] l7:=⟨λ _ _ _ _ hq h=>hq _ _ h,PA.imp sF fun Y H Q ⟨_,_,_,r2,h⟩=>h [] H .nil (.refl H) r2⟩
def Uo (ha:PD X e te) (hr:yZ X es tA) (hs:starEach (e::es) X.env=(false,eval e X.env)::starEach es X.env):yZ X (e::es) (rK te tA):=by
 refine⟨rK.mo ha.mo hr.mo,PA.imp (tB ha.pe hr.pa hs) fun Y H Q hu=>?_⟩;obtain⟨L,S,r1,r2,h⟩:=hu;refine zC.go ha.mo r1 r2 h λ x S1 v H1 h1 q1 e1 p1=>?_;refine xT.go hr.mo (r1.ext e1) p1 h1 λ xs S2 w H2 h2 q2 e2 p2=>?_;exact h2 (v::w) H2 (.cons (ze.ext e2 x q1) q2) (e1.trans e2) p2
def bS (t:z_):zo:=fun L S Q=>t L S λ ds S1=>ds.length<=sizeLine/\Q (.tup ds) S1
def bZ (t:z_):zo:=fun L S Q=>t L S λ ds S1=>ds.length<=sizeLine/\∀ p,S1 p=none->Q (.ref p) (ups S1 p (.lst ds))
def Us {k} (h:yZ X es tA):PD X (.Tuple es k pos) (bS tA):=by
 refine⟨fun L S _ _ hq z=>h.mo L S _ _ (λ ds S1 z=>⟨z.1,hq _ _ z.2⟩) z,PE.imp (Vh h.pa) fun Y H Q hu=>?_⟩;obtain⟨L,S,r1,r2,h'⟩:=hu;refine xT.go h.mo r1 r2 h' λ ds S1 xs H1 h1 q1 e1 p1=>⟨by rw[<- q1.length];exact h1.1,λ p hp=>?_⟩;refine h1.2 _ _ ?_ (e1.trans (.new hp _)) (p1.new hp);simp only[ze];exact⟨p,xs,rfl,zN.of yr,zh.ext (.new hp _) ds q1⟩
def UH (h:yZ X es tA):PD X (.List es pos) (bZ tA):=by
 refine⟨fun L S _ _ hq z=>h.mo L S _ _ (λ ds S1 z=>⟨z.1,λ p hp=>hq _ _ (z.2 p hp)⟩) z,PE.imp (Vp h.pa) fun Y H Q hu=>?_⟩;obtain⟨L,S,r1,r2,h'⟩:=hu;refine xT.go h.mo r1 r2 h' λ ds S1 xs H1 h1 q1 e1 p1=>⟨by rw[<- q1.length];exact h1.1,λ p hp=>?_⟩;refine h1.2 p (p1.none hp) _ _ (by simp only[ze]) (e1.trans (.new hp _)) ?_;exact p1.ups (.new hp _) ⟨xs,yr,zh.ext (.new hp _) ds q1⟩
def xX:y7:=λ x y S Q=>match x,y with
 | .tup ds,.int i=>match zL ds i with
  | some d=>Q d S
  | none=>False
 | .xy ds,.int i=>match zL ds i with
  | some d=>Q d S
  | none=>False
 | .ref p,.int i=>match S p with
  | some (.lst ds)=>match zL ds i with
   | some d=>Q d S
   | none=>False
  | _=>False
 | _,_=>False
def xX.mo:xi xX:=λ x y S Q Q' hq h=>by
 unfold xX at h ⊢;split at h
 .skip
  split at h
  .exact hq _ _ h
  .exact h
 .skip
  split at h
  .exact hq _ _ h
  .exact h
 .skip
  split at h
  .skip
   split at h
   .exact hq _ _ h
   .exact h
  .exact h.elim
 .exact h.elim
theorem zh.zL {H:Hp}{ds:List D}{xs:List V}{i:Int}{d:D}(h:zh K H ds xs) (e:L2.zL ds i=some d):∃ x,L2.zL xs i=some x/\ze K H d x:=by
 unfold L2.zL at e ⊢;rw[h.length] at e;cases q:wA xs.length i with
 | none=>rw[q] at e;cases e
 | some j=>
  rw[q] at e;exact h.get e
def xX.fits:xj K xX (eF K):=λ x y d e H S Q h1 h2 h3 h=>by
 unfold xX at h;split at h
 .split at h
  .rename_i q;simp only[ze] at h1 h2;obtain⟨a,xs,rfl,r1,r2⟩:=h1;obtain⟨x',e1,e2⟩:=r2.zL q;exact .inr (.inl ⟨a,xs,_,x',rfl,h2,r1,e1,h x' H e2 (.refl H) h3⟩)
  .exact h.elim
 .split at h
  .rename_i q;simp only[ze] at h1 h2;obtain⟨a,xs,rfl,r1,r2⟩:=h1;obtain⟨x',e1,e2⟩:=r2.zL q;exact .inl ⟨a,xs,_,x',rfl,h2,r1.sq,e1,h x' H e2 (.refl H) h3⟩
  .exact h.elim
 .split at h
  .rename_i q0;split at h
   .rename_i q;simp only[ze] at h1 h2;subst h1;obtain⟨xs,r1,r2⟩:=h3 _ _ q0;obtain⟨x',e1,e2⟩:=r2.zL q;exact .inl ⟨_,xs,_,x',rfl,h2,zJ.of r1,e1,h x' H e2 (.refl H) h3⟩
   .exact h.elim
  .exact h.elim
 .exact h.elim
def UM (ha:PD X a ta) (hb:PD X b tb) (hs:Zc b):PD X (.Subscript a b pos) (yc xX ta tb):=
 ⟨yc.mo xX.mo ha.mo hb.mo,PE.imp (Vr Py ha.pe hb.pe hs) λ _ _ _ h=>me xX.fits xX.mo ha.mo hb.mo h⟩
abbrev xn:=List D->SS->DK->Prop
def va (f:xn):Prop:=∀ ds S (Q Q':DK),(∀ d S',Q d S'->Q' d S')->f ds S Q->f ds S Q'
def vR (K:Ac) (f:xn) (r:List V->Hp->VK->Prop):Prop:=∀ xs ds H S Q,zh K H ds xs->zE K H S->f ds S (xY K H Q)->r xs H Q
def xv (f:xn) (t:z_):zo:=fun L S Q=>t L S λ ds S1=>f ds S1 Q
def xv.mo {f:xn}(hf:va f) (h:tW tA):zV (xv f tA):=fun L S _ _ hq z=>h L S _ _ (λ ds S1 z=>hf ds S1 _ _ hq z) z
def gW {f:xn}{r:List V->Hp->VK->Prop}(hf:va f) (hr:vR K f r) (h:tW tA) {Y:St}{H:Hp}{Q:VK}(hu:zC K (xv f tA) Y H Q):pH r (xT K tA) Y H Q:=by
 obtain⟨L,S,r1,r2,h'⟩:=hu;refine xT.go h r1 r2 h' λ ds S1 xs H1 h1 q1 e1 p1=>?_;exact hr xs ds H1 S1 Q q1 p1 (hf ds S1 _ _ (λ d S' z=>z.ext e1) h1)
def u6 {f:xn}{r:List V->Hp->VK->Prop}{e:Expr}(h:PE X e (pH r (xT X.K tA))) (hf:va f) (hr:vR X.K f r) (ha:tW tA):PD X e (xv f tA):=
 ⟨xv.mo hf ha,PE.imp h λ _ _ _ hu=>gW hf hr ha hu⟩
noncomputable def zH (d:D) (S:SS):Option (List D):=match d with
 | .tup ds=>some ds
 | .xy ds=>some ds
 | .ref p=>match S p with
  | some (.lst ds)=>some ds
  | _=>none
 | _=>none
theorem zH.sq {H:Hp}{S:SS}{d:D}{v:V}{ds:List D}(r:ze K H d v) (p:zE K H S) (e:zH d S=some ds):∃ a xs,v=.ref a/\(zJ K H a xs\/zN K H a xs)/\zh K H ds xs:=by
 unfold zH at e;split at e
 .cases e;simp only[ze] at r;obtain⟨a,xs,h1,h2,h3⟩:=r;exact⟨a,xs,h1,.inr h2,h3⟩
 .cases e;simp only[ze] at r;obtain⟨a,xs,h1,h2,h3⟩:=r;exact⟨a,xs,h1,.inl h2.sq,h3⟩
 .split at e
  .rename_i q;cases e;simp only[ze] at r;subst r;obtain⟨xs,h1,h2⟩:=p _ _ q;exact⟨_,xs,rfl,.inl (zJ.of h1),h2⟩
  .cases e
 .cases e
def zh.one {H:Hp}{d:D}{xs:List V}(h:zh K H [d] xs):∃ x,xs=[x]/\ze K H d x:=by
 simp only[zh] at h;obtain⟨x,r,rfl,h2,rfl⟩:=h;exact⟨x,rfl,h2⟩
def zh.two {H:Hp}{d d':D}{xs:List V}(h:zh K H [d,d'] xs):∃ x y,xs=[x,y]/\ze K H d x/\ze K H d' y:=by
 simp only[zh] at h;obtain⟨x,r,rfl,h2,y,r',rfl,h3,rfl⟩:=h;exact⟨x,y,rfl,h2,h3⟩
def vH:xn:=λ ds S Q=>match ds with
 | [d]=>match zH d S with
  | some ds=>Q (.int ds.length) S
  | none=>match d with
   | .str z=>z.length<=sizeLine/\Q (.int z.length) S
   | _=>False
 | _=>False
def vH.mo:va vH:=λ ds S Q Q' hq h=>by
 unfold vH at h ⊢;split at h
 .skip
  split at h
  .exact hq _ _ h
  .split at h
   .exact⟨h.1,hq _ _ h.2⟩
   .exact h.elim
 .exact h.elim
abbrev Wq (K:Ac):List V->Hp->VK->Prop:=λ xs H Q=>(∃ p ys,xs=[.ref p]/\(zJ K H p ys\/zN K H p ys)/\Q (.int ys.length) H)\/(∃ z,xs=[.str z]/\z.length<=sizeLine/\Q (.int z.length) H)
def vH.fits:vR K vH (Wq K):=λ xs ds H S Q h0 h2 h=>by
 unfold vH at h;split at h
 .obtain⟨x,hx,h1⟩:=h0.one;subst hx;split at h
  .rename_i e;obtain⟨a,ys,rfl,q,r⟩:=zH.sq h1 h2 e;refine .inl ⟨a,ys,rfl,q,?_⟩;rw[<- r.length];exact h _ H (by simp only[ze]) (.refl H) h2
  .split at h
   .simp only[ze] at h1;subst h1;exact .inr ⟨_,rfl,h.1,h.2 _ H (by simp only[ze]) (.refl H) h2⟩
   .exact h.elim
 .exact h.elim
def vG:xn:=λ ds S Q=>match ds with
 | [d]=>match zH d S with
  | some ds=>∀ p,S p=none->Q (.ref p) (ups S p (.lst ds))
  | none=>False
 | _=>False
def vG.mo:va vG:=λ ds S Q Q' hq h=>by
 unfold vG at h ⊢;split at h
 .skip
  split at h
  .exact λ p hp=>hq _ _ (h p hp)
  .exact h.elim
 .exact h.elim
def vG.fits:vR K vG (λ xs H Q=>∃ p ys,xs=[.ref p]/\(zJ K H p ys\/zN K H p ys)/\∀ l,H l=none->Q (.ref l) (upd H l (.lst ys))):=λ xs ds H S Q h0 h2 h=>by
 unfold vG at h;split at h
 .obtain⟨x,hx,h1⟩:=h0.one;subst hx;split at h
  .rename_i e;obtain⟨a,ys,rfl,q,r⟩:=zH.sq h1 h2 e;refine⟨a,ys,rfl,q,λ l hl=>?_⟩;exact h l (h2.none hl) _ _ (by simp only[ze]) (.new hl _) (h2.ups (.new hl _) ⟨ys,yr,zh.ext (.new hl _) _ r⟩)
  .exact h.elim
 .exact h.elim
def vF:xn:=λ ds S Q=>match ds with
 | [.tup ds]=>Q (.tup ds) S
 | [.xy ds]=>Q (.tup ds) S
 | [.ref p]=>match S p with
  | some (.lst ds)=>Q (.tup ds) S
  | _=>False
 | _=>False
def vF.mo:va vF:=λ ds S Q Q' hq h=>by
 unfold vF at h ⊢;split at h
 .exact hq _ _ h
 .exact hq _ _ h
 .skip
  split at h
  .exact hq _ _ h
  .exact h.elim
 .exact h.elim
def vF.fits:vR K vF (λ xs H Q=>∃ p ys,xs=[.ref p]/\((zJ K H p ys/\∀ l,H l=none->Q (.ref l) (upd H l (.tup ys)))\/(zN K H p ys/\Q (.ref p) H))):=λ xs ds H S Q h0 h2 h=>by
 unfold vF at h;split at h
 .obtain⟨x,hx,h1⟩:=h0.one;subst hx;have Jd:=h1;simp only[ze] at h1;obtain⟨a,xs,rfl,r1,r2⟩:=h1;exact⟨a,xs,rfl,.inr ⟨r1,h _ H Jd (.refl H) h2⟩⟩
 .obtain⟨x,hx,h1⟩:=h0.one;subst hx;simp only[ze] at h1;obtain⟨a,xs,rfl,r1,r2⟩:=h1;refine⟨a,xs,rfl,.inl ⟨r1.sq,λ l hl=>h _ _ ?_ (.new hl _) (h2.new hl)⟩⟩;simp only[ze];exact⟨l,xs,rfl,zN.of yr,zh.ext (.new hl _) _ r2⟩
 .obtain⟨x,hx,h1⟩:=h0.one;subst hx;split at h
  .rename_i e;simp only[ze] at h1;subst h1;obtain⟨xs,r1,r2⟩:=h2 _ _ e;refine⟨_,xs,rfl,.inl ⟨zJ.of r1,λ l hl=>h _ _ ?_ (.new hl _) (h2.new hl)⟩⟩;simp only[ze];exact⟨l,xs,rfl,zN.of yr,zh.ext (.new hl _) _ r2⟩
  .exact h.elim
 .exact h.elim
def vp (g:Int->Int->D):xn:=λ ds S Q=>match ds with
 | [.int i,.int j]=>Q (g i j) S
 | _=>False
def vp.mo {g:Int->Int->D}:va (vp g):=λ ds S Q Q' hq h=>by
 unfold vp at h ⊢;split at h
 .exact hq _ _ h
 .exact h.elim
def vp.fits {g:Int->Int->D}{g':Int->Int->V}(hg:∀ i j H,ze K H (g i j) (g' i j)):vR K (vp g) (λ xs H Q=>∃ i j,xs=[.int i,.int j]/\Q (g' i j) H):=λ xs ds H S Q h0 h2 h=>by
 unfold vp at h;split at h
 .obtain⟨x,y,hx,h1,h3⟩:=h0.two;subst hx;simp only[ze] at h1 h3;subst h1 h3;exact⟨_,_,rfl,h _ H (hg _ _ H) (.refl H) h2⟩
 .exact h.elim
def zal:y7:=λ x y S Q=>match x,y with
 | .ref p,.ref q=>match S p,S q with
  | some (.lst ds),some (.lst es)=>ds.length+es.length<=sizeLine/\∀ r,S r=none->Q (.ref r) (ups S r (.lst (ds++es)))
  | _,_=>False
 | _,_=>False
def uj (to te:zo):zo:=fun L S Q=>to L S λ x S1=>match x with
 | .ref p=>(∃ ds,S1 p=some (.lst ds))/\te L S1 λ y S2=>match S2 p with
  | some (.lst ds)=>ds.length<sizeLine/\Q .zm (ups S2 p (.lst (ds++[y])))
  | _=>False
 | _=>False
def uj.mo {to te:zo}(h:zV to) (h':zV te):zV (uj to te):=fun L S Q Q' hq z=>h L S _ _ (λ x S1 z=>by
 cases x with
 | ref p=>
  refine⟨z.1,h' L S1 _ _ (λ y S2 w=>?_) z.2⟩;split at w
  .exact⟨w.1,hq _ _ w.2⟩
  .exact w.elim
 | _=>exact z) z
def Ts {o e:Expr}{to te:zo}{e0:Expr}(C6:PE X e0 (mq X.K "list" eN (zC X.K to) (mn (zC X.K te) ml))) (h:zV to) (h':zV te):PD X e0 (uj to te):=by
 refine⟨uj.mo h h',PE.imp C6 fun Y H Q hu=>?_⟩;obtain⟨L,S,r1,r2,z⟩:=hu;refine zC.go h r1 r2 z λ x S1 v H1 h1 q1 e1 p1=>?_;cases x with
 | ref p=>
  obtain⟨⟨ds,hd⟩,h1⟩:=h1;simp only[ze] at q1;subst q1;obtain⟨xs,g1,g2⟩:=p1 _ _ hd;refine⟨.inl ⟨rfl,xs,zJ.of g1⟩,?_⟩;refine zC.go h' (r1.ext e1) p1 h1 λ y S2 w H2 h2 q2 e2 p2=>?_;split at h2
  .rename_i G4 e3;obtain⟨Fd,g3,g4⟩:=p2 _ _ e3;refine⟨p,Fd,w,rfl,rfl,g3,by rw[<- g4.length];exact h2.1,?_⟩;have e4:Ext H2 (upd H2 p (.lst (Fd++[w]))):=.lst g3 _;exact h2.2 _ _ (by simp only[ze]) ((e1.trans e2).trans e4) (p2.ups e4 ⟨_,yr,zh.ext e4 _ (g4.snoc q2)⟩)
  .exact h2.elim
 | _=>exact h1.elim
end
structure rh where
 nx:zY->SS->Prop
 rt:DK
 bk:zY->SS->Prop:=λ _ _=>False
 ct:zY->SS->Prop:=λ _ _=>False
abbrev y4:=rh->zY->SS->Prop
structure rh.Le (E E':rh):Prop where
 nx:∀ L S,E.nx L S->E'.nx L S
 rt:∀ d S,E.rt d S->E'.rt d S
 bk:∀ L S,E.bk L S->E'.bk L S
 ct:∀ L S,E.ct L S->E'.ct L S
def uW (t:y4):Prop:=∀ E E' L S,rh.Le E E'->t E L S->t E' L S
def uL (K:Ac) (H:Hp) (D:Ends):rh:=⟨wG K H D.nx,xY K H D.rt,wG K H D.bk,wG K H D.ct⟩
theorem uL.ext {K:Ac}{H H':Hp}{D:Ends}(e:Ext H H'):(uL K H D).Le (uL K H' D):=⟨λ _ _ h=>wG.ext e h,λ _ _ h=>xY.ext e h,λ _ _ h=>wG.ext e h,λ _ _ h=>wG.ext e h⟩
def kN (K:Ac) (t:y4):TS:=λ D Y H=>∃ L S,y6 K H L Y/\zE K H S/\t (uL K H D) L S
structure xQ (X:Cx) (st:Stmt) (t:y4):Prop where
 mo:uW t
 ps:PS X st (kN X.K t)
structure wJ (X:Cx) (st:List Stmt) (t:y4):Prop where
 mo:uW t
 ps:xF X st (kN X.K t)
section
variable {X:Cx}{K:Ac}{st:Stmt}{EX:List Stmt}{t u:y4}{pos:Pos}{e:Expr}{te:zo}
def bV:y4:=λ E L S=>E.nx L S
def oQ (t u:y4):y4:=λ E L S=>t { E with nx:=u E } L S
def oQ.mo (h:uW t) (h':uW u):uW (oQ t u):=λ E E' L S hE z=>h { E with nx:=u E } { E' with nx:=u E' } L S ⟨fun L S q=>h' E E' L S hE q,hE.rt,hE.bk,hE.ct⟩ z
def VH:wJ X [] bV:=⟨λ _ _ _ _ hE h=>hE.nx _ _ h,xF.imp W4 λ D Y H ⟨L,S,r1,r2,h⟩=>h Y H r1 (.refl H) r2⟩
def VG (h:xQ X st t):wJ X [st] t:=⟨h.mo,W3 h.ps⟩
def VI (h:xQ X st t) (h':wJ X EX u):wJ X (st::EX) (oQ t u):=by
 refine⟨oQ.mo h.mo h'.mo,xF.imp (W5 h.ps h'.ps) λ D Y H hu=>?_⟩;obtain⟨L,S,r1,r2,z⟩:=hu;refine⟨L,S,r1,r2,h.mo { uL X.K H D with nx:=u (uL X.K H D) } _ L S ⟨fun L' S' q Y' H' q1 q2 q3=>?_,λ _ _ q=>q,λ _ _ q=>q,λ _ _ q=>q⟩ z⟩;exact⟨L',S',q1,q3,h'.mo _ _ L' S' (uL.ext q2) q⟩
def oX (te:zo):y4:=λ E L S=>te L S λ _ S1=>E.nx L S1
def VU (he:PD X e te) (hs:swapsWith e none pos.line X.env=pure false):xQ X (.Expr e pos) (oX te):=by
 refine⟨λ E E' L S hE z=>he.mo L S _ _ (λ _ _ q=>hE.nx _ _ q) z,PS.imp (WC he.pe hs) λ D Y H hu=>?_⟩;obtain⟨L,S,r1,r2,z⟩:=hu;exact zC.go he.mo r1 r2 z λ x S1 v H1 h1 q1 e1 p1=>h1 Y H1 (r1.ext e1) e1 p1
def i0 (te:zo):y4:=λ E L S=>te L S E.rt
def VN (he:PD X e te):xQ X (.Return (some e) pos) (i0 te):=by
 refine⟨λ E E' L S hE z=>he.mo L S _ _ (λ _ _ q=>hE.rt _ _ q) z,PS.imp (W9 he.pe) λ D Y H hu=>?_⟩;obtain⟨L,S,r1,r2,z⟩:=hu;exact zC.go he.mo r1 r2 z λ x S1 v H1 h1 q1 e1 p1=>h1 v H1 q1 e1 p1
def af (c:yt) (t u:y4):y4:=λ E L S=>c L S λ k S1=>if k=true then t E L S1 else u E L S1
def VS {c:Expr}{p q:List Stmt}{tc:yt}(hc:xo X c tc) (h:wJ X p t) (h':wJ X q u):xQ X (.If c p q pos) (af tc t u):=by
 refine⟨λ E E' L S hE z=>hc.mo L S _ _ (λ k S1 z=>wB (h.mo _ _ L S1 hE) (h'.mo _ _ L S1 hE) z) z,PS.imp (WA hc.pt h.ps h'.ps) λ D Y H hu=>?_⟩;obtain⟨L,S,r1,r2,z⟩:=hu;refine xS.go hc.mo r1 r2 z λ k S1 H1 h1 e1 p1=>wB (λ z=>?_) (λ z=>?_) h1
 .exact⟨L,S1,r1.ext e1,p1,h.mo _ _ L S1 (uL.ext e1) z⟩
 .exact⟨L,S1,r1.ext e1,p1,h'.mo _ _ L S1 (uL.ext e1) z⟩
abbrev yT:=D->zY->SS->(zY->SS->Prop)->Prop
abbrev xP:=List D->zY->SS->(zY->SS->Prop)->Prop
def nA (t:yT):Prop:=∀ d L S (Q Q':zY->SS->Prop),(∀ L S,Q L S->Q' L S)->t d L S Q->t d L S Q'
def Zh (t:xP):Prop:=∀ d L S (Q Q':zY->SS->Prop),(∀ L S,Q L S->Q' L S)->t d L S Q->t d L S Q'
def pE (K:Ac) (t:yT):TG:=λ v Y H Q=>∃ d L S,ze K H d v/\y6 K H L Y/\zE K H S/\t d L S (wG K H Q)
def gT (K:Ac) (t:xP):tT:=λ v Y H Q=>∃ d L S,zh K H d v/\y6 K H L Y/\zE K H S/\t d L S (wG K H Q)
structure vx (X:Cx) (e:Expr) (t:yT):Prop where
 mo:nA t
 pg:PG X e (pE X.K t)
structure qY (X:Cx) (es:List Expr) (t:xP):Prop where
 mo:Zh t
 pg:uV X es (gT X.K t)
def PG.imp {e:Expr}{t t':TG}(h:PG X e t) (hi:∀ v Y H Q,t' v Y H Q->t v Y H Q):PG X e t':=λ EV s Y H v w Q I r q=>h EV s Y H v w Q I r (hi v Y H Q q)
def uV.imp {e:List Expr}{t t':tT}(h:uV X e t) (hi:∀ v Y H Q,t' v Y H Q->t v Y H Q):uV X e t':=λ EV s Y H v w Q I r q=>h EV s Y H v w Q I r (hi v Y H Q q)
def hName (i:Nat):yT:=λ d L S Q=>Q (L.set i (some d)) S
def Uj {e:Expr}{i:Nat}(h:PG X e (qL i)):vx X e (hName i):=
 ⟨λ _ _ _ _ _ hq z=>hq _ _ z,PG.imp h λ v Y H Q ⟨d,L,S,r1,r2,r3,z⟩=>z _ H (r2.set i r1) (.refl H) r3⟩
def jN:xP:=λ ds L S Q=>ds=[]/\Q L S
def jO (t:yT) (u:xP):xP:=λ ds L S Q=>match ds with
 | d::r=>t d L S fun L' S'=>u r L' S' Q
 | []=>False
def Ue:qY X [] jN:=by
 refine⟨λ _ _ _ _ _ hq z=>⟨z.1,hq _ _ z.2⟩,uV.imp WW λ v Y H Q hu=>?_⟩;obtain⟨d,L,S,r1,r2,r3,z1,z2⟩:=hu;subst z1;simp only[zh] at r1;exact⟨r1,z2 Y H r2 (.refl H) r3⟩
def Ug {e:Expr}{es:List Expr}{t:yT}{u:xP}(h:vx X e t) (h':qY X es u) (hs:(assignEach (e::es) X.env).map (·.2)=assign e X.env::(assignEach es X.env).map (·.2)):qY X (e::es) (jO t u):=by
 refine⟨λ ds L S Q Q' hq z=>?_,uV.imp (WX h.pg h'.pg hs) λ v Y H Q hu=>?_⟩
 .cases ds with
  | nil=>exact z
  | cons d r=>exact h.mo d L S _ _ (fun L' S' z=>h'.mo r L' S' _ _ hq z) z
 .obtain⟨ds,L,S,r1,r2,r3,z⟩:=hu;cases ds with
  | nil=>exact z.elim
  | cons d r=>
   simp only[zh] at r1;obtain⟨x,xs,rfl,q1,q2⟩:=r1;refine⟨x,xs,rfl,d,L,S,q1,r2,r3,h.mo d L S _ _ (fun L' S' z Y' H' g1 g2 g3=>?_) z⟩;exact⟨r,L',S',zh.ext g2 r q2,g1,g3,h'.mo r L' S' _ _ (fun L2 S2 z2=>wG.ext g2 z2) z⟩
def qI (n:Nat) (t:xP):yT:=λ d L S Q=>match d with
 | .tup ds=>ds.length=n/\t ds L S Q
 | _=>False
def Uh {e:Expr}{n:Nat}{t:xP}(h:PG X e (bh X.K n (gT X.K t))) (hm:Zh t):vx X e (qI n t):=by
 refine⟨λ d L S Q Q' hq z=>?_,PG.imp h λ v Y H Q hu=>?_⟩
 .cases d with
  | tup ds=>exact⟨z.1,hm ds L S _ _ hq z.2⟩
  | _=>exact z
 .obtain⟨d,L,S,r1,r2,r3,z⟩:=hu;cases d with
  | tup ds=>
   simp only[ze] at r1;obtain⟨a,xs,rfl,q1,q2⟩:=r1;exact⟨a,xs,rfl,q1,by rw[<- q2.length];exact z.1,ds,L,S,q2,r2,r3,z.2⟩
  | _=>exact z.elim
def wH (te:zo) (g:yT):y4:=λ E L S=>te L S λ x S1=>g x L S1 E.nx
def wH.mo {g:yT}(h:zV te) (h':nA g):uW (wH te g):=λ E E' L S hE z=>h L S _ _ (λ x S1 q=>h' x L S1 _ _ (fun L S q=>hE.nx _ _ q) q) z
def YH {g:yT}(h:zV te) (h':nA g) {D:Ends}{Y:St}{H:Hp}(hu:kN K (wH te g) D Y H):pJ (zC K te) (pE K g) D Y H:=by
 obtain⟨L,S,r1,r2,z⟩:=hu;refine zC.go h r1 r2 z λ x S1 v H1 h1 q1 e1 p1=>?_;exact⟨x,L,S1,q1,r1.ext e1,p1,h' x L S1 _ _ (fun L S q=>wG.ext e1 q) h1⟩
def VW {tg e:Expr}{g:yT}(he:PD X e te) (hg:vx X tg g) (hs:swapsWithSole [tg] e pos.line X.env=pure false) (hw:swappedStores [tg] e X.env=pure none)
  (h1:(assignEach [tg] X.env).map (·.2)=[assign tg X.env]):xQ X (.Assign [tg] e pos) (wH te g):=
 ⟨wH.mo he.mo hg.mo,PS.imp (eQ he.pe hg.pg hs hw h1) λ _ _ _ hu=>YH he.mo hg.mo hu⟩
def VM {e0:Stmt}{i:Nat}(h:PS X e0 (pJ (zC X.K te) (qL i))) (hm:zV te):xQ X e0 (wH te (hName i)):=by
 refine⟨wH.mo hm λ _ _ _ _ _ hq z=>hq _ _ z,PS.imp h λ D Y H hu=>?_⟩;obtain⟨L,S,r1,r2,z⟩:=hu;refine zC.go hm r1 r2 z λ x S1 v H1 h1 q1 e1 p1=>?_;exact h1 _ H1 ((r1.ext e1).set i q1) e1 p1
end
structure p8 where
 items:List D
 keep:SS->Prop
abbrev xO:=zY->SS->(p8->SS->Prop)->Prop
def k6 (t:xO):Prop:=∀ L S (Q Q':p8->SS->Prop),(∀ I S',Q I S'->Q' I S')->t L S Q->t L S Q'
def nB (K:Ac) (H1:Hp) (J:It) (I:p8):Prop:=∀ (i:Nat) (H:Hp) (S:SS),Ext H1 H->zE K H S->I.keep S->
 (∀ d,I.items[i]?=some d->J.go i H/\∀ x H',J.qg i H x H'->Ext H H'/\zE K H' S/\ze K H' d x)/\(I.items.length<=i->J.stop i H)
def Nl (K:Ac) (H:Hp) (R:It->Hp->Prop):p8->SS->Prop:=λ I S1=>∀ J H1,Ext H H1->zE K H1 S1->nB K H1 J I->R J H1
def x_ (K:Ac) (t:xO):TI:=fun Y H R=>∃ L S,y6 K H L Y/\zE K H S/\t L S (Nl K H R)
structure vP (X:Cx) (tg iter:Expr) (t:xO):Prop where
 mo:k6 t
 pi:PI X tg iter (x_ X.K t)
def PI.imp {X:Cx}{tg e:Expr}{t t':TI}(h:PI X tg e t) (hi:∀ Y H Q,t' Y H Q->t Y H Q):PI X tg e t':=λ EV s Y H Q I q=>h EV s Y H Q I (hi Y H Q q)
section
variable {X:Cx}{K:Ac}{tg e:Expr}{pos:Pos}
theorem zh.at {H:Hp}{ds:List D}{xs:List V}{i:Nat}{d:D}{x:V}(r:zh K H ds xs) (h1:ds[i]?=some d) (h2:xs[i]?=some x):ze K H d x:=by
 obtain⟨y,e1,e2⟩:=r.get h1;rw[h2] at e1;cases e1;exact e2
noncomputable def vf (lo:Int) (n:Nat):List D:=(List.range n).map λ(k:Nat)=>D.int (lo+(k:Int))
def Wl {lo:Int}{n i:Nat}{d:D}(h:(vf lo n)[i]?=some d):i<n/\d=.int (lo+(i:Int)):=by
 unfold vf at h;rw[AE] at h;cases q:(List.range n)[i]? with
 | none=>rw[q] at h;cases h
 | some j=>
  rw[q] at h;obtain⟨h1,h2⟩:=AM.mp q;rw[Ce] at h1;rw[Dw] at h2;subst h2;cases h;exact⟨h1,rfl⟩
def Wk (lo:Int) (n:Nat):(vf lo n).length=n:=by unfold vf;rw[AB,Ce]
def nB.range {H1:Hp}{lo:Int}{n:Nat}:nB K H1 (k7 lo n) ⟨vf lo n,λ _=>True⟩:=λ i H S _ x2 _=>by
 refine⟨λ d hd=>?_,λ hl=>by rw[show (p8.mk (vf lo n) λ _=>True).items=vf lo n from rfl,Wk] at hl;exact hl⟩;obtain⟨h1,rfl⟩:=Wl hd;refine⟨h1,λ x H' q=>?_⟩;obtain⟨rfl,rfl⟩:=q;exact⟨.refl _,x2,by simp only[ze]⟩
def jJ (t:z_):xO:=fun L S R=>t L S λ ds S1=>match ds with
 | [.int j]=>(-(2 ^ 62)<=j/\j<2 ^ 62)/\R ⟨vf 0 j.toNat,λ _=>True⟩ S1
 | _=>False
variable {tA:z_}
def Uc (h:PI X tg e (cX (xT X.K tA))) (hm:tW tA):vP X tg e (jJ tA):=by
 refine⟨fun L S Q Q' hq z=>hm L S _ _ (λ ds S1 z=>?_) z,PI.imp h fun Y H R hu=>?_⟩
 .split at z
  .exact⟨z.1,hq _ _ z.2⟩
  .exact z.elim
 .obtain⟨L,S,r1,r2,z⟩:=hu;refine xT.go hm r1 r2 z λ ds S1 xs H1 h1 q1 e1 p1=>?_;split at h1
  .obtain⟨x,rfl,q⟩:=q1.one;simp only[ze] at q;subst q;exact⟨_,rfl,h1.1.1,h1.1.2,h1.2 _ H1 e1 p1 .range⟩
  .exact h1.elim
def oW (ti:xO) (g:yT) (tb:y4):y4:=λ E L S=>ti L S λ I S1=>∃ W:Nat->zY->SS->Prop,W 0 L S1/\(∀ i L S,W i L S->I.keep S)/\
 (∀ i d L S,I.items[i]?=some d->W i L S->g d L S fun L2 S2=>tb { E with nx:=W (i+1),ct:=W (i+1),bk:=E.nx } L2 S2)/\∀ L S,W I.items.length L S->E.nx L S
def oW.mo {ti:xO}{g:yT}{tb:y4}(hi:k6 ti) (hg:nA g) (hb:uW tb):uW (oW ti g tb):=λ E E' L S hE z=>hi L S _ _ (λ I S1 ⟨W,w0,wk,ws,wd⟩=>by
 refine⟨W,w0,wk,λ i d L S hd hw=>hg d L S _ _ (fun L2 S2 z=>hb { E with nx:=W (i+1),ct:=W (i+1),bk:=E.nx } { E' with nx:=W (i+1),ct:=W (i+1),bk:=E'.nx } L2 S2 ⟨λ _ _ q=>q,hE.rt,hE.nx,λ _ _ q=>q⟩ z) (ws i d L S hd hw),fun L S q=>hE.nx _ _ (wd L S q)⟩) z
def VT {iter:Expr}{body:List Stmt}{ti:xO}{g:yT}{tb:y4}(hp:PassesOwn (model X.prog X.w) X.A X.env X.xe) (hc:X.calm=true) (hi:vP X tg iter ti) (hg:vx X tg g) (hb:wJ X body tb)
  (hs:∀ x,foldedSetIterable iter X.env x=pure x):xQ X (.For tg iter body [] pos) (oW ti g tb):=by
 refine⟨oW.mo hi.mo hg.mo hb.mo,PS.imp (WB hp hc hi.pi hg.pg hb.ps hs) λ D Y H hu=>?_⟩;obtain⟨L,S,r1,r2,z⟩:=hu;refine⟨L,S,r1,r2,hi.mo L S _ _ (λ I S1 hW J H1 e1 p1 rep=>?_) z⟩;obtain⟨W,w0,wk,ws,wd⟩:=hW;refine⟨λ i m Y H2=>m=I.items.length-i/\i<=I.items.length/\Ext H1 H2/\∃ L S,y6 X.K H2 L Y/\zE X.K H2 S/\W i L S,⟨_,rfl,AQ _,.refl _,L,S1,r1.ext e1,p1,w0⟩,?_⟩;rintro i m Y2 H2 ⟨rfl,GQ,x2,L2,S2,q1,q2,w2⟩;obtain⟨g1,g2⟩:=rep i H2 S2 x2 q2 (wk i L2 S2 w2);by_cases hl:i<I.items.length
 .have hd:I.items[i]?=some I.items[i]:=by simp[hl]
  obtain⟨go,yl⟩:=g1 _ hd;refine .inr ⟨go,fun Y' H'=>Ext H1 H'/\∃ L S,y6 X.K H' L Y'/\zE X.K H' S/\W (i+1) L S,fun Y' H' q=>⟨_,by lia,rfl,hl,q⟩,λ x H3 hy=>?_⟩;obtain⟨x3,p3,d3⟩:=yl x H3 hy;refine⟨_,L2,S2,d3,q1.ext x3,p3,hg.mo _ L2 S2 _ _ (fun L4 S4 z4 Y4 H4 a1 a2 a3=>?_) (ws i _ L2 S2 hd w2)⟩;refine⟨L4,S4,a1,a3,hb.mo _ _ L4 S4 ⟨fun L5 S5 w5 Y5 H5 b1 b2 b3=>⟨((x2.trans x3).trans a2).trans b2,L5,S5,b1,b3,w5⟩,λ _ _ q=>xY.ext (((e1.trans x2).trans x3).trans a2) q,λ _ _ q=>wG.ext (((e1.trans x2).trans x3).trans a2) q,fun L5 S5 w5 Y5 H5 b1 b2 b3=>⟨((x2.trans x3).trans a2).trans b2,L5,S5,b1,b3,w5⟩⟩ z4⟩
 .have e:i=I.items.length:=by lia
  subst e;exact .inl ⟨g2 (Ah _),wd L2 S2 w2 Y2 H2 q1 (e1.trans x2) q2⟩
abbrev tU:=List D->SS->DK->Prop
def hZ (sp:tU):Prop:=∀ ds S (Q Q':DK),(∀ d S',Q d S'->Q' d S')->sp ds S Q->sp ds S Q'
def uu (K:Ac) (sp:tU):Sp:=λ vs H Q _=>∃ ds S,zh K H ds vs/\zE K H S/\sp ds S (xY K H Q)
def l8 (sp:tU) (t:z_):zo:=fun L S Q=>t L S λ ds S1=>sp ds S1 Q
def Tq {sp:tU}{E:XK}{e:Expr}(h:PE X e (fk (uu X.K sp) [] E (xT X.K tA))) (hs:hZ sp) (hm:tW tA):PD X e (l8 sp tA):=by
 refine⟨fun L S Q Q' hq z=>hm L S _ _ (λ ds S1 z=>hs ds S1 _ _ hq z) z,PE.imp h fun Y H Q hu=>?_⟩;obtain⟨L,S,r1,r2,z⟩:=hu;refine xT.go hm r1 r2 z λ ds S1 xs H1 h1 q1 e1 p1=>?_;rw[C2];exact⟨ds,S1,q1,p1,hs ds S1 _ _ (λ d S' q=>xY.ext e1 q) h1⟩
noncomputable def tp (N:List Str) (ds:List D):zY:=ds.map some++List.replicate (N.length-ds.length) none
def y6.init {H:Hp}{N:List Str}{ds:List D}{vs:List V}(r:zh K H ds vs):y6 K H (tp N ds) (start N vs):=by
 have hl:=r.length;refine⟨by unfold tp L2.start;simp[hl],λ i d h=>?_⟩;unfold tp at h;have hi:i<ds.length:=by
  rcases Bc i ds.length with q | q
  .exact q
  .rw[Cb (by simpa using q),CG] at h;split at h <;> cases h
 rw[Ca (by simpa using hi),AE] at h;cases q:ds[i]? with
 | none=>rw[q] at h;cases h
 | some d'=>
  rw[q] at h;cases h;obtain⟨x,e1,e2⟩:=r.get q;refine⟨x,?_,e2⟩;unfold L2.start;rw[Ca (by simpa using by lia),AE,e1];rfl
def OB {P:Program}{w:World}{K:Ac}{mg:AI}{base:Heap}{x qual:Str}{st:Stmt}{f:Addr}{fd:FuncData}{N ps:List Str}{k:Nat}{sp:tU}(F:vQ K x qual st f fd) (Sc:uX N ps (yg st))
  (len:∀ ds S Q,sp ds S Q->ds.length=ps.length)
  (Fh:∀ (Am:Value) (A:Around) (outer:List Env) (s:Shared) (H:Hp) (E:XK),yd k (A.deeper (envOfC qual (yg st) s.heap.objs.size f Am))->
   ∃ t,wJ (wo xx P w K mg base N qual (yg st) f Am A outer s H E).wQ (xZ st) t/\∀ ds S Q,sp ds S Q->t { nx:=λ _ S'=>Q .zm S',rt:=Q } (tp N ds) S):vz P w K mg base xx (k+1) f fd ps (uu K sp):=by
 refine F.ok Sc (λ vs H Q E h=>?_) λ Am A outer s H vs Q E hr h=>?_
 .obtain⟨ds,S,r1,_,z⟩:=h;rw[<- r1.length];exact len _ _ _ z
 .obtain⟨ds,S,r1,r2,z⟩:=h;obtain⟨t,ht,hq⟩:=Fh Am A outer s H E hr;refine⟨_,ht.ps,tp N ds,S,.init r1,r2,ht.mo { nx:=λ _ S'=>xY K H Q .zm S',rt:=xY K H Q } _ _ _ ⟨fun L S' q Y' H' _ b c=>q .zm H' (by simp only[ze]) b c,λ _ _ q=>q,λ _ _ q=>False.elim q,λ _ _ q=>False.elim q⟩ (hq ds S _ z)⟩
noncomputable def vD (pick:List (Option Nat)) (L:zY):zY:=pick.map λ o=>o.bind λ i=>(L[i]?).join
theorem y6.pick {H:Hp}{L:zY}{Y:St}(r:y6 K H L Y) (pick:List (Option Nat)):y6 K H (vD pick L) (vC pick Y):=by
 refine⟨by unfold vD vC;simp,λ i d h=>?_⟩;unfold vD at h;rw[AE] at h;cases q:pick[i]? with
 | none=>rw[q] at h;cases h
 | some o=>
  rw[q] at h;cases o with
  | none=>simp at h
  | some j=>
   simp only[Option.map_some,Bf,Option.some.injEq] at h;have hj:L[j]?=some (some d):=by
    cases q2:L[j]? with
    | none=>rw[q2] at h;cases h
    | some o2=>rw[q2] at h;simp only[Option.join_some] at h;rw[h]
   obtain⟨v,e1,e2⟩:=r.2 j d hj;refine⟨v,?_,e2⟩;unfold vC;rw[AE,q];simp[e1]
def rR (L L':zY):Prop:=L.length=L'.length/\∀ (i:Nat) d,L[i]?=some (some d)->L'[i]?=some (some d)
def rR.rep {H:Hp}{L L':zY}{Y:St}(h:rR L L') (r:y6 K H L' Y):y6 K H L Y:=⟨h.1.trans r.1,λ i d q=>r.2 i d (h.2 i d q)⟩
structure qZ (X:Cx) (ifs:List Expr) (t:yt):Prop where
 mo:wu t
 pf:PF X ifs (xS X.K t)
def PF.imp {ifs:List Expr}{t t':TT}(h:PF X ifs t) (hi:∀ Y H Q,t' Y H Q->t Y H Q):PF X ifs t':=λ EV s Y H Q I q=>h EV s Y H Q I (hi Y H Q q)
def bG:yt:=λ _ S Q=>Q true S
def Ul:qZ X [] bG:=⟨λ _ _ _ _ hq z=>hq _ _ z,PF.imp Vd λ _ H _ ⟨_,_,_,r2,z⟩=>z H (.refl H) r2⟩
def Uk {c:Expr}{t:yt}(h:xo X c t):qZ X [c] t:=⟨h.mo,Vc h.pt⟩
end
end L3
namespace L2
open PySem PySem.Spec PyProof.Rows
def Oc (K:Ac) (tl:TE):TI:=fun Y H R=>tl Y H λ x H1=>∃ a,x=.ref a/\(((∃ xs,zJ K H1 a xs)/\R (Zk K a) H1)\/((∃ xs,zN K H1 a xs)/\R (Zj K a) H1))
def WS {X:Cx}{tg l:Expr}{tl:TE}(hl:PE X l tl):PI X tg l (Oc X.K tl):=by
 intro EV s Y H R I h;refine zv (hl EV s Y H _ I h) λ v s1 ⟨x,H1,I1,r1,a,hx,q1⟩=>?_;subst hx;cases r1;have new:∀ b∈[s1.heap.objs.size],vy X EV H1 b:=λ b hb=>by
  obtain rfl:b=s1.heap.objs.size:=AW.mp hb;exact I1.o8 (Ah _) (I1.zr.fresh (Ah _))
 rcases q1 with ⟨⟨xs,hq⟩,q⟩ | ⟨⟨xs,hq⟩,q⟩
 .obtain⟨its,_,pl,_⟩:=I1.list hq;exact wpAny_pyIter_list pl.isList ⟨_,_,_,_,H1,rfl,I1.kept (t':=s1.toks) λ b o eo=>Ky _ eo,YS a _,⟨_,AG _ rfl,rfl,rfl⟩,new,q⟩
 .obtain⟨its,_,pt,_⟩:=I1.tuple hq;exact wpAny_pyIter_tuple (show s1.heap.IsTuple a its.toArray from pt) ⟨_,_,_,_,H1,rfl,I1.kept (t':=s1.toks) λ b o eo=>Ky _ eo,YO a _,⟨_,AG _ rfl,rfl,rfl⟩,new,q⟩
def range_all (bs:List Bool):(List.range bs.length).all (λ i=>bs.getD i true)=bs.all id:=by
 rw[Bs,BD,BD];constructor
 .intro h b hb;obtain⟨i,hi,rfl⟩:=BI.mp hb;have:=h i (AK.mpr hi);simpa [hi] using this
 .intro h i hi;have GQ:=AK.mp hi;have:=h bs[i] (Cc GQ);simpa [GQ] using this
def Mp {bs:List Bool}{its:Ad}(r:Vals (bs.map V.bl) its) {i:Nat}{v:Value}(h:its.toArray[i]?=some v):v=.bool (bs.getD i true):=by
 have hl:=r.length;rw[AB] at hl;have h':its[i]?=some v:=by simpa using h
 have hi:i<bs.length:=by
  rw[hl];rcases Bc i its.length with q | q
  .exact q
  .rw[List.getElem?_eq_none q] at h';cases h'
 obtain⟨u,e1,e2⟩:=r.get (i:=i) (x:=.bl bs[i]) (by simp[hi]);rw[h'] at e1;cases e1;have:v=.bool bs[i]:=e2;rw[this];simp[hi]
section
variable {X:Cx}
def N_ (hc:X.calm=true):yC X (.builtin "all") (λ xs H Q=>∃ p,∃ bs:List Bool,xs=[.ref p]/\zJ X.K H p (bs.map V.bl)/\Q (.bl (bs.all id)) H):=by
 intro EV s Y H xs us Q I r h;obtain⟨p,bs,rfl,hq,q⟩:=h;obtain⟨u,rfl,ru⟩:=vals1 r;cases ru;obtain⟨its,rv,pl,hz⟩:=I.list hq;have hl:=rv.length;rw[AB] at hl;have Ao:p<s.heap.objs.size:=by obtain⟨o,n,e,_⟩:=pl;exact Al e
 refine call_all_walk (wpAny_pyIter_list pl.isList ?_);refine⟨s.heap.objs.size,_,_,_,_,_,λ i=>bs.getD i true,rfl,Walks.list (A:=X.A.in1) (I.ok.hd hc) s.heap.objs.size p (AA Ao) its.toArray,⟨⟨_,AG _ rfl,rfl,rfl⟩,pl.isList.push _⟩,λ i v s' Q' E' hv hq'=>?_,λ h' tk hk=>?_⟩
 .rw[Mp rv hv];exact KR hq'
 .have e:(List.range its.toArray.size).all (λ i=>bs.getD i true)=bs.all id:=by rw[Az,<- hl,range_all]
  rw[e];exact⟨.bl _,H,I.kept (t':=tk) λ b o eo=>hk b o (by simpa using AA (Al eo)) (Ky _ eo),rfl,q⟩
end
end L2
namespace L3
open PySem PySem.Spec L2
open PyProof.Rows hiding St
structure Bt (mg:AI):Prop where
 len:mg "len"=none
 range:mg "range"=none
 any:mg "any"=none
 all:mg "all"=none
 sorted:mg "sorted"=none
 isinstance:mg "isinstance"=none
 bool:mg "bool"=none
 int:mg "int"=none
 str:mg "str"=none
 list:mg "list"=none
 tuple:mg "tuple"=none
 max:mg "max"=none
 min:mg "min"=none
section
variable {X:Cx}{a e:Expr}{es:List Expr}{te:zo}{pos p:Pos}
def uO {N':List Str}{pick:List (Option Nat)}{scope Ip:Scope}{N:List Str}(hE:X.env.scope=Ip:=by rfl) (hN:X.N=N:=by rfl) (h1:scope.kind=.function:=by rfl)
  (h2:scope.names.all (λ y=>decide (scope.names.lookup y.1=some y.2))=true:=by decide +kernel)
  (h4:scope.names.all (λ y=>!decide (y.2=.free)||(decide (Ip.names.lookup y.1=some .cell)||decide (Ip.names.lookup y.1=some .free)))=true:=by decide +kernel)
  (h5:pick.length=N'.length:=by rfl) (h6:rA N N' pick scope=true:=by decide +kernel):tf X N' pick scope:=by
 refine⟨h1,λ y hy=>of_decide_eq_true (BD.mp h2 y hy),λ y hy hf=>?_,h5,by rw[hN];exact h6⟩;have:=BD.mp h4 y hy;rw[KG hf] at this;rw[hE];simpa using this
def oZ {N' N:List Str}{pick:List (Option Nat)}{scope JF:Scope}{cl:List (Str×Addr)}{C:Addr}{s:Shared}{H:Hp}{fp:List Addr}(h1:scope.kind=.function:=by rfl)
  (h2:scope.names.all (λ y=>decide (scope.names.lookup y.1=some y.2))=true:=by decide +kernel)
  (h4:scope.names.all (λ y=>!decide (y.2=.free)||(decide (JF.names.lookup y.1=some .cell)||decide (JF.names.lookup y.1=some .free)))=true:=by decide +kernel)
  (h5:pick.length=N'.length:=by rfl) (h6:rA N N' pick scope=true:=by decide +kernel):tf (yi X N JF cl C s H fp) N' pick scope:=by
 refine⟨h1,λ y hy=>of_decide_eq_true (BD.mp h2 y hy),λ y hy hf=>?_,h5,h6⟩;have:=BD.mp h4 y hy;rw[KG hf] at this;simp only[Cp,Bool.false_or,Dv,decide_eq_true_eq] at this;rcases this with q | q
 .exact .inl (dY q)
 .exact jB q
def Ui (i:Nat) {x:Str}(hN:X.N.Nodup) (hi:X.N[i]?=some x) (hx:Loc X.env.scope x) (hf:X.fn x=true\/X.env.scope.names.lookup x=some .local):vx X (.Name x pos) (hName i):=
 Uj (W_ hN hi hx hf)
def eY {k:Nat}{t:xP}{n:Nat}(h:qY X es t) (hc:X.calm=true) (hn:(assignEach es X.env).length=n) (AX:(assignEach es X.env).findIdx? (·.1)=none):vx X (.Tuple es k pos) (qI n t):=
 Uh (WY hc h.pg hn AX) h.mo
def VL (i:Nat) {x:Str}{pos':Pos}(hN:X.N.Nodup) (he:PD X e te) (hi:X.N[i]?=some x) (hx:Loc X.env.scope x) (hs:swapsWith e (some (.Name x pos')) pos.line X.env=pure false)
  (hf:X.fn x=true\/X.env.scope.names.lookup x=some .local):xQ X (.Assign [.Name x pos'] e pos) (wH te (hName i)):=
 VM (W8 hN hi hx he.pe hs hf) he.mo
def jI (te:zo):xO:=fun L S R=>te L S λ x S1=>match x with
 | .tup ds=>R ⟨ds,λ _=>True⟩ S1
 | .xy ds=>R ⟨ds,λ _=>True⟩ S1
 | .ref p=>match S1 p with
  | some (.lst ds)=>R ⟨ds,λ S=>S p=some (.lst ds)⟩ S1
  | _=>False
 | _=>False
def V_ {tg:Expr}(h:PD X e te):vP X tg e (jI te):=by
 refine⟨fun L S Q Q' hq z=>h.mo L S _ _ (λ x S1 z=>?_) z,?_⟩
 .cases x with
  | ref p=>
   dsimp only at z ⊢;split at z
   .exact hq _ _ z
   .exact z.elim
  | xy ds=>exact hq _ _ z
  | tup ds=>exact hq _ _ z
  | _=>exact z
 .refine PI.imp (WS h.pe) fun Y H R hu=>?_
  obtain⟨L,S,r1,r2,z⟩:=hu;refine zC.go h.mo r1 r2 z λ x S1 v H1 h1 q1 e1 p1=>?_;cases x with
  | tup ds=>
   simp only[ze] at q1;obtain⟨a,xs,rfl,g1,g2⟩:=q1;refine⟨a,rfl,.inr ⟨⟨xs,g1⟩,h1 _ H1 e1 p1 λ i H2 S2 x1 x2 _=>⟨λ d hd=>?_,λ hl=>⟨xs,x1.my g1,by rw[<- g2.length];exact hl⟩⟩⟩⟩;obtain⟨y,hy,_⟩:=g2.get hd;refine⟨⟨xs,y,x1.my g1,hy⟩,λ x H' q=>?_⟩;obtain⟨rfl,q⟩:=q;exact⟨.refl _,x2,(zh.ext x1 ds g2).at hd (q xs (x1.my g1))⟩
  | ref p=>
   dsimp only at h1;split at h1
   .rename_i ds e2;simp only[ze] at q1;subst q1;obtain⟨xs0,g1,_⟩:=p1 _ _ e2;refine⟨p,rfl,.inl ⟨⟨xs0,zJ.of g1⟩,h1 _ H1 e1 p1 λ i H2 S2 x1 x2 hk=>?_⟩⟩;obtain⟨xs,g3,g4⟩:=x2 _ _ hk;refine⟨λ d hd=>?_,λ hl=>⟨xs,zJ.of g3,by rw[<- g4.length];exact hl⟩⟩;obtain⟨y,hy,_⟩:=g4.get hd;refine⟨⟨xs,y,zJ.of g3,hy⟩,λ x H' q=>?_⟩;obtain⟨rfl,q⟩:=q;exact⟨.refl _,x2,g4.at hd (q xs (zJ.of g3))⟩
   .exact h1.elim
  | xy ds=>
   simp only[ze] at q1;obtain⟨a,xs,rfl,g1,g2⟩:=q1;refine⟨a,rfl,.inl ⟨⟨xs,g1.sq⟩,h1 _ H1 e1 p1 λ i H2 S2 x1 x2 _=>⟨λ d hd=>?_,λ hl=>⟨xs,(x1.mz g1).sq,by rw[<- g2.length];exact hl⟩⟩⟩⟩;obtain⟨y,hy,_⟩:=g2.get hd;refine⟨⟨xs,y,(x1.mz g1).sq,hy⟩,λ x H' q=>?_⟩;obtain⟨rfl,q⟩:=q;exact⟨.refl _,x2,(zh.ext x1 ds g2).at hd (q xs (x1.mz g1).sq)⟩
  | _=>exact h1.elim
end
end L3
namespace L4
open PySem PySem.W PyProof.Rows
noncomputable def yk {α:Type}(n:Nat) (lt:Nat->Nat->Bool):KasT α->(α->Prop)->Prop
 | .ret a,Q=>Q a
 | .ask i j k,Q=>i<n/\j<n/\yk n lt (k (lt i j)) Q
theorem yk.mono {α:Type}{n:Nat}{lt:Nat->Nat->Bool}{Q Q':α->Prop}(hq:∀ a,Q a->Q' a):∀ {t:KasT α},yk n lt t Q->yk n lt t Q'
 | .ret _,h=>hq _ h
 | .ask _ _ _,h=>⟨h.1,h.2.1,yk.mono hq h.2.2⟩
theorem yk.bind {α β:Type}{n:Nat}{lt:Nat->Nat->Bool}{f:α->KasT β}{Q:β->Prop}:∀ {t:KasT α},yk n lt t (λ a=>yk n lt (f a) Q)->yk n lt (t.bind f) Q
 | .ret _,h=>h
 | .ask _ _ _,h=>⟨h.1,h.2.1,yk.bind h.2.2⟩
section
variable {n:Nat}{lt:Nat->Nat->Bool}
def Le (lt:Nat->Nat->Bool) (a b:Nat):Prop:=lt b a=false
structure Ord (lt:Nat->Nat->Bool):Prop where
 tr:∀ a b c,Le lt a b->Le lt b c->Le lt a c
 as:∀ a b,lt a b=true->Le lt a b
def Ord.refl (o:Ord lt) (a:Nat):Le lt a a:=by
 cases h:lt a a with
 | false=>exact h
 | true=>exact o.as a a h
def y_ (n:Nat) (p:Array Nat):Prop:=p.Perm (List.range n).toArray
theorem y_.size {p:Array Nat}(h:y_ n p):p.size=n:=by rw[Array.Perm.size_eq h];simp
def y_.below {p:Array Nat}(h:y_ n p) {i:Nat}(hi:i<n):p.getD i 0<n:=by
 have hs:=h.size;have hm:p.getD i 0∈p:=by
  rw[CW,AV (by lia)];exact Array.getElem_mem (by lia)
 have:p.getD i 0∈(List.range n).toArray:=(Array.Perm.mem_iff h).mp hm;simpa using this
def o7 {p q:Array Nat}{i j:Nat}(h:p[i]?=q[j]?):p.getD i 0=q.getD j 0:=by rw[CW,CW,h]
def wI (lt:Nat->Nat->Bool) (p:Array Nat) (k:Nat):Prop:=∀ i j,i<=j->j<k->Le lt (p.getD i 0) (p.getD j 0)
def u_ (lt:Nat->Nat->Bool) (p:Array Nat) (k:Nat):Prop:=∀ i j,i<=j->j<k->Le lt (p.getD j 0) (p.getD i 0)
def wI.next (o:Ord lt) {p:Array Nat}{k:Nat}(h:wI lt p k) (hk:1<=k) (hl:Le lt (p.getD (k-1) 0) (p.getD k 0)):wI lt p (k+1):=λ i j A3 hj=>by
 by_cases EH:j<k
 .exact h i j A3 EH
 .have e:j=k:=by lia
  subst e;by_cases hi:i=j
  .subst hi;exact o.refl _
  .exact o.tr _ _ _ (h i (j-1) (by lia) (by lia)) hl
def u_.next (o:Ord lt) {p:Array Nat}{k:Nat}(h:u_ lt p k) (hk:1<=k) (hl:Le lt (p.getD k 0) (p.getD (k-1) 0)):u_ lt p (k+1):=λ i j A3 hj=>by
 by_cases EH:j<k
 .exact h i j A3 EH
 .have e:j=k:=by lia
  subst e;by_cases hi:i=j
  .subst hi;exact o.refl _
  .exact o.tr _ _ _ hl (h i (j-1) (by lia) (by lia))
theorem iK (o:Ord lt) {p:Array Nat}(hp:y_ n p):∀ (f a:Nat),1<=a->a+f<=n->wI lt p a->
  yk n lt (kas_asc p f a) λ m=>a<=m/\m<=a+f/\wI lt p m/\(m=a+f\/lt (p.getD m 0) (p.getD (m-1) 0)=true)
 | 0,a,_,_,hs=>⟨Ah _,Ah _,hs,.inl rfl⟩
 | f+1,a,h1,h2,hs=>by
  refine⟨hp.below (by lia),hp.below (by lia),?_⟩;cases c:lt (p.getD a 0) (p.getD (a-1) 0) with
  | true=>exact⟨Ah _,by lia,hs,.inr c⟩
  | false=>
   refine yk.mono ?_ (iK o hp f (a+1) (by lia) (by lia) (hs.next o h1 c));rintro m ⟨g1,g2,g3,g4⟩;exact⟨by lia,by lia,g3,g4.imp (λ e=>by lia) id⟩
def pQ {p:Array Nat}(hp:y_ n p) (i j:Nat):y_ n (kas_rev p i j):=Array.Perm.trans (mirror_perm _ _ _ _) hp
def pR {p:Array Nat}(hp:y_ n p) {i j:Nat}(hj:j<=n) (k:Nat):(kas_rev p i j).getD k 0=if i<=k/\k<j then p.getD (i+j-1-k) 0 else p.getD k 0:=by
 have e:=getElem?_mirror_all (xs:=p) (i:=i) (j:=j) (by rw[hp.size];exact hj) k;split
 .rename_i h;rw[if_pos h] at e;exact o7 e
 .rename_i h;rw[if_neg h] at e;exact o7 e
def rev_eq (o:Ord lt) {p:Array Nat}(hp:y_ n p) {i j:Nat}(hj:j<=n) (he:∀ a b,i<=a->a<j->i<=b->b<j->Le lt (p.getD a 0) (p.getD b 0)) (k:Nat):
  Le lt ((kas_rev p i j).getD k 0) (p.getD k 0)/\Le lt (p.getD k 0) ((kas_rev p i j).getD k 0):=by
 rw[pR hp hj];split
 .rename_i h;exact⟨he _ _ (by lia) (by lia) h.1 h.2,he _ _ h.1 h.2 (by lia) (by lia)⟩
 .exact⟨o.refl _,o.refl _⟩
def u_.of_eq (o:Ord lt) {p q:Array Nat}{k:Nat}(h:u_ lt p k) (e:∀ k,Le lt (q.getD k 0) (p.getD k 0)/\Le lt (p.getD k 0) (q.getD k 0)):u_ lt q k:=λ i j A3 hj=>
 o.tr _ _ _ (e j).1 (o.tr _ _ _ (h i j A3 hj) (e i).2)
def gz (lt:Nat->Nat->Bool) (p:Array Nat) (m q:Nat):Prop:=∀ a b,m-(q+1)<=a->a<m->m-(q+1)<=b->b<m->Le lt (p.getD a 0) (p.getD b 0)
theorem l5 (o:Ord lt):∀ (f:Nat) (p:Array Nat) (m q:Nat),y_ n p->1<=m->m+f<=n->u_ lt p m->q+1<=m->gz lt p m q->
  yk n lt (kas_desc f p m q) λ r=>y_ n r.1/\m<=r.2.1/\r.2.1<=m+f/\u_ lt r.1 r.2.1/\r.2.2+1<=r.2.1/\gz lt r.1 r.2.1 r.2.2
 | 0,p,m,q,hp,_,_,hd,hq,hb=>⟨hp,Ah _,Ah _,hd,hq,hb⟩
 | f+1,p,m,q,hp,h1,h2,hd,hq,hb=>by
  have one:∀ p':Array Nat,gz lt p' (m+1) 0:=λ p' a b a1 a2 b1 b2=>by
   have:a=b:=by lia
   subst this;exact o.refl _
  refine⟨hp.below (by lia),hp.below (by lia),?_⟩;cases c:lt (p.getD m 0) (p.getD (m-1) 0) with
  | true=>
   dsimp only;rw[if_pos rfl];have hl:=o.as _ _ c;by_cases h0:q>0
   .rw[if_pos h0];have e:=rev_eq o hp (i:=m-(q+1)) (j:=m) (by lia) hb;have GK:=pQ hp (m-(q+1)) m;refine yk.mono ?_ (l5 o f _ (m+1) 0 GK (by lia) (by lia) ((hd.of_eq o e).next o h1 (o.tr _ _ _ (e m).1 (o.tr _ _ _ hl (e (m-1)).2))) (by lia) (one _));rintro r ⟨a1,a2,a3,a4⟩;exact⟨a1,by lia,by lia,a4⟩
   .rw[if_neg h0];refine yk.mono ?_ (l5 o f _ (m+1) 0 hp (by lia) (by lia) (hd.next o h1 hl) (by lia) (one _));rintro r ⟨a1,a2,a3,a4⟩;exact⟨a1,by lia,by lia,a4⟩
  | false=>
   dsimp only;rw[if_neg BM];refine⟨hp.below (by lia),hp.below (by lia),?_⟩;cases d:lt (p.getD (m-1) 0) (p.getD m 0) with
   | true=>exact⟨hp,Ah _,(by show m<=m+(f+1);lia),hd,hq,hb⟩
   | false=>
    dsimp only;rw[if_neg BM];refine yk.mono ?_ (l5 o f _ (m+1) (q+1) hp (by lia) (by lia) (hd.next o h1 d) (by lia) λ a b a1 a2 b1 b2=>?_)
    .rintro r ⟨a1,a2,a3,a4⟩;exact⟨a1,by lia,by lia,a4⟩
    .by_cases ha:a=m
     .by_cases HQ:b=m
      .subst ha;subst HQ;exact o.refl _
      .subst ha;exact o.tr _ _ _ d (hb (a-1) b (by lia) (by lia) (by lia) (by lia))
     .by_cases HQ:b=m
      .subst HQ;exact o.tr _ _ _ (hb a (b-1) (by lia) (by lia) (by lia) (by lia)) c
      .exact hb a b (by lia) (by lia) (by lia) (by lia)
def fh (o:Ord lt) {p:Array Nat}{m:Nat}(hp:y_ n p) (h1:1<=m) (h2:m<=n) (hd:u_ lt p m):yk n lt (kas_tail3 m n p) λ r=>y_ n r.2/\r.1<=n/\wI lt r.2 r.1:=by
 refine yk.bind (yk.mono ?_ (iK o (pQ hp 0 m) (n-m) m h1 (by lia) λ i j A3 hj=>?_))
 .rintro k ⟨a1,a2,a3,_⟩;exact⟨pQ hp 0 m,by lia,a3⟩
 .rw[pR hp h2,pR hp h2,if_pos ⟨AQ _,by lia⟩,if_pos ⟨AQ _,hj⟩];exact hd _ _ (by lia) (by lia)
def bM (o:Ord lt) {p:Array Nat}{m:Nat}(hp:y_ n p) (h1:1<=m) (h2:m<n) (hd:u_ lt p m) (hl:lt (p.getD m 0) (p.getD (m-1) 0)=true):yk n lt (kas_descPart m n p) λ r=>y_ n r.2/\r.1<=n/\wI lt r.2 r.1:=by
 refine yk.bind (yk.mono ?_ (l5 o (n-(m+1)) p (m+1) 0 hp (by lia) (by lia) (hd.next o h1 (o.as _ _ hl)) (by lia) λ a b a1 a2 b1 b2=>?_))
 .rintro⟨p',m',q'⟩ ⟨a1,a2,a3,a4,a5,a6⟩;dsimp only at a1 a2 a3 a4 a5 a6 ⊢;by_cases h0:q'>0
  .rw[if_pos h0];exact fh o (pQ a1 _ _) (by lia) (by lia) (a4.of_eq o (rev_eq o a1 (i:=m'-(q' + 1)) (j:=m') (by lia) a6))
  .rw[if_neg h0];exact fh o a1 (by lia) (by lia) a4
 .have:a=b:=by lia
  subst this;exact o.refl _
def N3 (o:Ord lt) {p:Array Nat}(hp:y_ n p) (h1:1<=n):yk n lt (kas_count n p) λ r=>y_ n r.2/\r.1<=n/\wI lt r.2 r.1:=by
 refine yk.bind (yk.mono ?_ (iK o hp (n-1) 1 (Ah _) (by lia) λ i j A3 hj=>?_))
 .rintro m ⟨a1,a2,a3,a4⟩;by_cases hm:m=n
  .rw[if_pos (by simp[hm])];exact⟨hp,by lia,a3⟩
  .rw[if_neg (by simp[hm])];have hl:lt (p.getD m 0) (p.getD (m-1) 0)=true:=a4.resolve_left (by lia);by_cases h2:m>1
   .rw[if_pos h2];refine⟨hp.below (by lia),hp.below (by lia),?_⟩;cases c:lt (p.getD 0 0) (p.getD (m-1) 0) with
    | true=>exact⟨hp,by lia,a3⟩
    | false=>
     dsimp only;rw[if_neg BM];have all:∀ a b,0<=a->a<m->0<=b->b<m->Le lt (p.getD a 0) (p.getD b 0):=λ a b _ ha _ hb=>
      o.tr _ _ _ (a3 a (m-1) (by lia) (by lia)) (o.tr _ _ _ c (a3 0 b (by lia) hb))
     have e:=rev_eq o hp (i:=0) (j:=m) (by lia) all;refine bM o (pQ hp 0 m) (by lia) (by lia) (λ i j A3 hj=>o.tr _ _ _ (e j).1 (o.tr _ _ _ (all _ _ (AQ _) hj (AQ _) (by lia)) (e i).2)) ?_;rw[pR hp (by lia),pR hp (by lia),if_neg (by lia),if_pos (by lia)];cases q:lt (p.getD m 0) (p.getD (0+m-1-(m-1)) 0) with
     | true=>rfl
     | false=>
      have:=o.tr _ _ _ (all (m-1) (0+m-1-(m-1)) (AQ _) (by lia) (AQ _) (by lia)) q;unfold Le at this;rw[this] at hl;cases hl
   .rw[if_neg h2];have e:m=1:=by lia
    subst e;refine bM o hp (Ah _) (by lia) (λ i j A3 hj=>?_) hl;have:i=j:=by lia
    subst this;exact o.refl _
 .have:i=j:=by lia
  subst this;exact o.refl _
theorem jl {p:Array Nat}{k:Nat}(hp:y_ n p) (hk:k<n) (hs:wI lt p k) (o:Ord lt):∀ (f l r:Nat),r-l<=f->l<=r->r<=k->(∀ i,i<l->Le lt (p.getD i 0) (p.getD k 0))->(∀ i,r<=i->i<k->lt (p.getD k 0) (p.getD i 0)=true)->
  yk n lt (kas_place p k f l r) λ m=>m<=k/\(∀ i,i<m->Le lt (p.getD i 0) (p.getD k 0))/\(∀ i,m<=i->i<k->lt (p.getD k 0) (p.getD i 0)=true)
 | 0,l,r,h0,h1,h2,ha,hb=>by
  have:l=r:=by lia
  subst this;exact⟨h2,ha,hb⟩
 | f+1,l,r,h0,h1,h2,ha,hb=>by
  unfold kas_place;by_cases Cw:l≥r
  .rw[if_pos Cw];have:l=r:=by lia
   subst this;exact⟨h2,ha,hb⟩
  .rw[if_neg Cw];refine⟨hp.below hk,hp.below (by lia),?_⟩;cases c:lt (p.getD k 0) (p.getD ((l+r)/2) 0) with
   | true=>
    dsimp only;rw[if_pos rfl];refine jl hp hk hs o f l ((l+r)/2) (by lia) (by lia) (by lia) ha λ i hi DN=>?_;cases q:lt (p.getD k 0) (p.getD i 0) with
    | true=>rfl
    | false=>
     have:=o.tr _ _ _ (hs ((l+r)/2) i hi DN) q;unfold Le at this;rw[this] at c;cases c
   | false=>
    dsimp only;rw[if_neg BM];refine jl hp hk hs o f ((l+r)/2+1) r (by lia) (by lia) h2 (λ i hi=>?_) hb;exact o.tr _ _ _ (hs i ((l+r)/2) (by lia) (by lia)) c
theorem aO (o:Ord lt):∀ (f:Nat) (p:Array Nat) (k:Nat),y_ n p->k+f=n->wI lt p k->yk n lt (kas_bin f p k) λ r=>y_ n r/\wI lt r n
 | 0,p,k,hp,h1,hs=>by
  have:k=n:=by lia
  subst this;exact⟨hp,hs⟩
 | f+1,p,k,hp,h1,hs=>by
  refine yk.bind (yk.mono ?_ (jl hp (by lia) hs o k 0 k (by lia) (AQ _) (Ah _) (λ i hi=>absurd hi (Nat.not_lt_zero _)) λ i hi DN=>absurd DN (by lia)));rintro l ⟨a1,a2,a3⟩;refine aO o f _ (k+1) (Array.Perm.trans (bubble_perm _ _ _) hp) (by lia) λ i j A3 hj=>?_;have ev:∀ x,(bubble p k (k-l)).getD x 0=if x=l then p.getD k 0 else if l<x/\x<=k then p.getD (x-1) 0 else p.getD x 0:=λ x=>by
   have e:=getElem?_bubble (xs:=p) (src:=k) (by rw[hp.size];lia) (k-l) (by lia) x;rw[show k-(k-l)=l by lia] at e;split
   .rename_i h;rw[if_pos h] at e;exact o7 e
   .rename_i h;rw[if_neg h] at e;split
    .rename_i h';rw[if_pos h'] at e;exact o7 e
    .rename_i h';rw[if_neg h'] at e;exact o7 e
  rw[ev i,ev j];by_cases hi:i=l
  .rw[if_pos hi];by_cases Gp:j=l
   .rw[if_pos Gp];exact o.refl _
   .rw[if_neg Gp,if_pos ⟨by lia,by lia⟩];exact o.as _ _ (a3 (j-1) (by lia) (by lia))
  .rw[if_neg hi];by_cases Gp:j=l
   .rw[if_pos Gp,if_neg (by lia)];exact a2 i (by lia)
   .rw[if_neg Gp];by_cases IX:l<i/\i<=k
    .rw[if_pos IX,if_pos ⟨by lia,by lia⟩];exact hs _ _ (by lia) (by lia)
    .rw[if_neg IX];by_cases hj2:l<j/\j<=k
     .rw[if_pos hj2];exact hs _ _ (by lia) (by lia)
     .rw[if_neg hj2];exact hs _ _ A3 (by lia)
def f7 (o:Ord lt) (h1:1<=n):yk n lt (kas_sort n) λ r=>y_ n r/\wI lt r n:=by
 have hp:y_ n (List.range n).toArray:=Array.Perm.refl _;refine yk.bind (yk.mono ?_ (N3 o hp h1));rintro⟨m,p⟩ ⟨a1,a2,a3⟩;dsimp only at a1 a2 a3 ⊢;by_cases hm:m<n
 .rw[if_pos hm];refine aO o _ p (max m 1) a1 (by lia) ?_;by_cases h0:m=0
  .subst h0;intro i j A3 hj;have:i=j:=by lia
   subst this;exact o.refl _
  .rw[show max m 1=m by lia];exact a3
 .rw[if_neg hm];have:m=n:=by lia
  subst this;exact⟨a1,a3⟩
end
end L4
namespace L4
open PySem PySem.W PySem.Calls PyProof.Rows
section
variable {prog:Program}{w:World}{A:Around}{E:Af}{s:Shared}
def Core (prog:Program) (w:World) (A:Around) (E:Af) (vs:Ad) (Out:Array Value->Prop) (s6:Shared):Prop:=
 wpAny (model prog w) A (keyKind' vs.toArray) (fun κ s'=>s'=s6/\wpAny (model prog w) A ((sortRuns').run (SortSt.mk' κ (vs.toArray.zip vs.toArray) #[] 7 none))
  (λ r G6=>G6=s6/\failedOf r.2=none/\Out ((arrOf r.2).map (·.2))/\(arrOf r.2).size=vs.length) E s') E s6
def cg {a:Addr}{vs:Ad}{n:Nat}{P:PySem.Fin->Shared->Prop}{Out:Array Value->Prop}(ho:s.heap.get? a=some (seqObj "list" vs.toArray n)) (hz:vs.length<=sizeLine)
  (core:2<=vs.length->∀ s6:Shared,(∀ b o,b≠a->s.heap.get? b=some o->s6.heap.get? b=some o)->Core prog w A E vs Out s6) (short:vs.length<2->Out vs.toArray)
  (fin:∀ out:Array Value,Out out->out.size=vs.length->P (.done (.ret .none)) { s with heap:=sortedHeap s.heap a vs out }):
  wpAny (model prog w) A (Builtin.«list.sort» ⟨[.ref a],[]⟩) P E s:=by
 have ha:a<s.heap.objs.size:=Al ho;obtain⟨e1,g1⟩:∃ e1,(s.heap.update a (Obj.mapSeq λ _=>#[])).get? a=some (seqObj "list" #[] e1):=⟨_,get?_update_seq ho (λ _=>#[])⟩
 have Jp:vs.toArray.size<=sizeLine:=by rw[Az];exact hz
 have g6:(((s.heap.update a (Obj.mapSeq λ _=>#[])).push (seqObj "tuple" vs.toArray 0)).push (seqObj "list" #[] 0)).get? a=some (seqObj "list" #[] e1):=Ky _ (Ky _ g1);have keep:∀ b o,b≠a->s.heap.get? b=some o->(((s.heap.update a (Obj.mapSeq λ _=>#[])).push (seqObj "tuple" vs.toArray 0)).push (seqObj "list" #[] 0)).get? b=some o:=
  λ b o hb e=>Ky _ (Ky _ (by rw[KZ _ _ _ _ hb];exact e))
 rw[list_sort_plain];refine JA (listItems_at ho rfl (JA (listUpdate_at ho rfl (JA (seqEpoch_at g1 rfl (JA (wpAny_newTuple (JA (wpAny_newList (KC ?_))) (by simpa using hz))))) Jp (AQ _))));by_cases h2:vs.toArray.size<2
 .rw[if_pos h2,if_pos h2];have e2:(arrOf (SortSt.mk' general' (vs.toArray.zip vs.toArray) #[] 7 none)).map (·.2)=vs.toArray:=by
   show (vs.toArray.zip vs.toArray).map (·.2)=vs.toArray;apply Array.ext (by simp);intro i h1 h2;simp
  refine JA (Ab ?_);dsimp only;rw[StateT.run_pure];refine JA (Ab ?_);dsimp only;refine JA (seqEpoch_at g6 rfl (JA (listUpdate_at g6 rfl ?_ (AQ _) ?_)))
  .simp only[bne_self_eq_false,AY,if_false];have q:=fin _ (e2▸short (by simpa using h2)) (by rw[e2];simp);exact Ab q
  .show (((arrOf (SortSt.mk' general' (vs.toArray.zip vs.toArray) #[] 7 none)).map (·.2))).size<=sizeLine+1;rw[e2];lia
 .rw[if_neg h2,if_neg h2];have Kh:2<=vs.length:=by simpa using h2
  refine JA (KH (core Kh _ keep) (fun κ s7 ⟨hs,h7⟩=>?_) λ _ _ z=>z);subst hs;refine JA (KH h7 (λ r s8 ⟨hs,hf,Eu,hsz⟩=>?_) λ _ _ z=>z);subst hs;obtain⟨⟨⟩,st⟩:=r;refine JA (seqEpoch_at g6 rfl (JA (listUpdate_at g6 rfl ?_ (AQ _) ?_)))
  .have GL:failedOf st=none:=hf;rw[GL];simp only[bne_self_eq_false,AY,if_false];exact Ab (fin _ Eu (by rw[CD];exact hsz))
  .show ((arrOf st).map (·.2)).size<=sizeLine+1;rw[CD];have:(arrOf st).size=vs.length:=hsz;lia
def XA {h:Heap}{vs:Ad}(out:An):∃ e,(sortedHeap (h.push (seqObj "list" vs.toArray 0)) h.objs.size vs out).get? h.objs.size=some (seqObj "list" out e):=by
 have there:(h.push (seqObj "list" vs.toArray 0)).get? h.objs.size=some (seqObj "list" vs.toArray 0):=AG _ rfl;exact⟨_,get?_update_seq (Ky _ (Ky _ (get?_update_seq there λ _=>#[]))) λ _=>out⟩
def f6 {a:Addr}{vs:Ad}{Q:Af}{Out:Array Value->Prop}{N:Addr->Prop}
  (C:∀ Q':List Value->Shared->Prop,(∀ h1 tk,(∀ b o,¬ N b->s.heap.get? b=some o->h1.get? b=some o)->s.heap.objs.size<=h1.objs.size->Q' vs { s with heap:=h1,toks:=tk })->wpAny (model prog w) A.in1 (collect (.ref a)) Q' E s) (hz:vs.length<=sizeLine)
  (core:2<=vs.length->∀ s6:Shared,(∀ b o,¬ N b->s.heap.get? b=some o->s6.heap.get? b=some o)->Core prog w A.in1.in1 E vs Out s6) (short:vs.length<2->Out vs.toArray)
  (fin:∀ (out:An) (h':Heap) (tk l:Nat),Out out->out.size=vs.length->s.heap.objs.size<=l->(∀ b o,¬ N b->s.heap.get? b=some o->h'.get? b=some o)->(∃ e,h'.get? l=some (seqObj "list" out e))->Q (.ref l) { s with heap:=h',toks:=tk }):
  wpAny (model prog w) A (call (.builtin "sorted") [.ref a]) Q E s:=by
 refine Calls.call_function_entry kind_sorted plain_sorted entry_sorted (args_sorted1 _) ?_;unfold Builtin.«sorted»;refine JA (m:=checkCount "sorted" 1 1 _) (Ab (JA (C _ λ h1 tk k1 k2=>JA (wpAny_newList ?_ hz))));have Js:(h1.push (seqObj "list" vs.toArray 0)).get? h1.objs.size=some (seqObj "list" vs.toArray 0):=AG _ rfl;show wpAny _ _ _ _ _ { s with heap:=h1.push (seqObj "list" vs.toArray 0),toks:=tk };refine JA (KC (KD slot_list_sort ⟨_,Js,rfl⟩ entry_list_sort (cg Js hz (λ h2 s6 k=>core h2 s6 λ b o n q=>k b o (AA (Al (k1 b o n q))) (Ky _ (k1 b o n q))) short λ out g1 g2=>⟨_,rfl,?_⟩) (args_list_sort _)));refine Ab ⟨_,rfl,fin out _ tk h1.objs.size g1 g2 k2 (λ b o n q=>?_) (XA out)⟩;have q1:=k1 b o n q;have hb:=AA (Al q1);unfold sortedHeap;rw[KZ _ _ _ _ hb];refine Ky _ (Ky _ ?_);rw[KZ _ _ _ _ hb];exact Ky _ q1
end
end L4
namespace L4
open PySem PySem.W PySem.Calls PyProof.Rows L2
theorem jE:∀ a b:List Int,HT.lexLt a b=true->HT.lexLt b a=false
 | [],[],h=>by cases h
 | [],_::_,_=>rfl
 | _::_,[],h=>by cases h
 | x::a,y::b,h=>by
  rw[HT.uD] at h ⊢;by_cases e:x=y
  .subst e;rw[if_pos rfl] at h ⊢;exact jE a b h
  .rw[if_neg e] at h;rw[if_neg (Ne.symm e)];have:=of_decide_eq_true h;exact KA (by lia)
theorem jF:∀ a b:List Int,HT.lexLt a b=false->HT.lexLt b a=false->a=b
 | [],[],_,_=>rfl
 | [],_::_,h,_=>by cases h
 | _::_,[],_,h=>by cases h
 | x::a,y::b,h,h'=>by
  rw[HT.uD] at h h';by_cases e:x=y
  .subst e;rw[if_pos rfl] at h h';rw[jF a b h h']
  .rw[if_neg e] at h;rw[if_neg (Ne.symm e)] at h';have h1:=of_decide_eq_false h;have h2:=of_decide_eq_false h';lia
theorem jD:∀ a b c:List Int,HT.lexLt b a=false->HT.lexLt c b=false->HT.lexLt c a=false
 | [],[],[],_,_=>rfl
 | [],[],_::_,_,h=>h
 | [],_::_,[],_,h=>by cases h
 | [],_::_,_::_,_,_=>rfl
 | _::_,[],_,h,_=>by cases h
 | _::_,_::_,[],_,h=>by cases h
 | x::a,y::b,z::c,h,h'=>by
  rw[HT.uD] at h h' ⊢;by_cases e1:y=x
  .subst e1;rw[if_pos rfl] at h;by_cases e2:z=y
   .subst e2;rw[if_pos rfl] at h' ⊢;exact jD a b c h h'
   .rw[if_neg e2] at h' ⊢;exact h'
  .rw[if_neg e1] at h;have h1:=of_decide_eq_false h;by_cases e2:z=y
   .subst e2;rw[if_neg e1];exact h
   .rw[if_neg e2] at h';have h2:=of_decide_eq_false h';rw[if_neg (by lia)];exact KA (by lia)
theorem mI {α:Type}{r:α->α->Prop}(an:∀ a b,r a b->r b a->a=b):∀ {l₁ l₂:List α},l₁.Perm l₂->l₁.Pairwise r->l₂.Pairwise r->l₁=l₂
 | [],l₂,h,_,_=>(List.nil_perm.mp h).symm
 | a::l₁,[],h,_,_=>absurd (List.perm_nil.mp h) (by simp)
 | a::l₁,b::l₂,h,h1,h2=>by
  have BR:a=b:=by
   have ha:a∈b::l₂:=h.mem_iff.mp Ap;have hb:b∈a::l₁:=h.mem_iff.mpr Ap;rcases Aj.mp ha with e | ha
   .exact e
   .rcases Aj.mp hb with e | hb
    .exact e.symm
    .exact an _ _ (List.rel_of_pairwise_cons h1 hb) (List.rel_of_pairwise_cons h2 ha)
  subst BR;rw[mI an (List.Perm.cons_inv h) (Bh.mp h1).2 (Bh.mp h2).2]
def yW (rows:List (List Int)):List (List Int):=rows.mergeSort λ a b=>!HT.lexLt b a
def vU (rows:List (List Int)):(yW rows).Perm rows:=D8 _ _
def pK (rows:List (List Int)):(yW rows).Pairwise λ a b=>HT.lexLt b a=false:=by
 have:=D7 (le:=λ a b:List Int=>!HT.lexLt b a) (λ a b c h1 h2=>by simp at h1 h2 ⊢;exact jD a b c h1 h2)
  (λ a b=>by
   cases h:HT.lexLt b a with
   | false=>simp
   | true=>simp[jE b a h]) rows
 exact this.imp λ h=>by simpa using h
def k_ {rows out:List (List Int)}(hp:out.Perm rows) (hs:out.Pairwise λ a b=>HT.lexLt b a=false):out=yW rows:=
 mI (λ a b h1 h2=>jF a b h2 h1) (hp.trans (vU rows).symm) hs (pK rows)
def pN (rows:List (List Int)) (i j:Nat):Bool:=HT.lexLt (rows.getD i []) (rows.getD j [])
def Wb (rows:List (List Int)):Ord (pN rows):=⟨λ _ _ _ h1 h2=>jD _ _ _ h1 h2,λ _ _ h=>jE _ _ h⟩
section
variable {prog:Program}{w:World}{A:Around}{E:Af}{s:Shared}{Q:Bool->Shared->Prop}
theorem cz {b:Bool}:∀ (ns ms:List Int) (us ws:Ad) (i:Nat),IntsAre us ns->IntsAre ws ms->Q (HT.lexLt ns ms) s->KatLex prog w A b (decide (ns.length<ms.length)) Q (us.zip ws) i s
 | [],[],_,_,_,.nil,.nil,h=>kat_nil (by simpa [HT.lexLt] using h)
 | [],_::_,_,_,_,.nil,.cons _ _ _,h=>kat_nil (by simpa [HT.lexLt] using h)
 | _::_,[],_,_,_,.cons _ _ _,.nil,h=>kat_nil (by simpa [HT.lexLt] using h)
 | n::ns,m::ms,_,_,i,.cons _ t hu,.cons _ u hw,h=>by
  rw[HT.uD] at h;refine kat_cons (SeqAt.EqAt.int_int n t m u prog w _ _ (kat_go (λ e=>kat_yes ?_) λ e=>kat_no ?_))
  .have e':n=m:=by simpa using e
   rw[if_pos e'] at h;rw[show decide ((n::ns).length<(m::ms).length)=decide (ns.length<ms.length) by simp];exact cz ns ms _ _ (i+1) hu hw h
  .have e':¬ n=m:=by simpa using e
   rw[if_neg e'] at h;cases b&&i == 0 with
   | true=>exact kat_lt_int h
   | false=>exact kat_one _ _ (lt_int h)
def rW (h:Heap):List Value->List (List Int)->Prop:=Paired λ v r=>r≠[]/\∃ b o its n,v=.ref b/\h.get? b=some o/\o.cls=.type "tuple"/\o.data=.seq its n/\IntsAre its.toList r
theorem rW.oA {h:Heap}:∀ {vs:Ad}{rows:List (List Int)},rW h vs rows->∃ fs,KatTups h vs fs/\fs.length=vs.length/\∀ v∈fs,∃ n t,v=Value.int n t
 | _,_,.nil=>⟨[],KatTups.nil,rfl,λ _ hv=>absurd hv (by simp)⟩
 | _,_,.cons ⟨Ar,b,o,its,n,hv,ho,hc,hd,hi⟩ r=>by
  obtain⟨fs,h1,h2,h3⟩:=rW.oA r;subst hv;obtain⟨its⟩:=its;cases hi with
  | nil=>exact absurd rfl Ar
  | cons k t _=>exact⟨.int k t::fs,KatTups.cons ho hc hd rfl h1,by simp[h2],λ v hv=>(Aj.mp hv).elim (λ e=>⟨k,t,e⟩) (h3 v)⟩
theorem Paired.at' {α β:Type}{F:α->β->Prop}:∀ {l₁:List α}{l₂:List β}{i:Nat},Paired F l₁ l₂->i<l₁.length->∀ (d:α) (e:β),F (l₁.getD i d) (l₂.getD i e)
 | _,_,_,.nil,h,_,_=>absurd h (by simp)
 | _,_,0,.cons r _,_,_,_=>r
 | _,_,i+1,.cons _ t,h,d,e=>by simpa using Paired.at' (i:=i) t (by simpa using h) d e
def rW.ask {vs:Ad}{rows:List (List Int)}{b:Bool}(r:rW s.heap vs rows) {i j:Nat}(hi:i<vs.length) (hj:j<vs.length) {C:Bool->Shared->Prop}(h:C (pN rows i j) s):kas_ask prog w A (tuples' b) vs i j C s:=by
 obtain⟨_,b1,o1,its1,n1,e1,g1,_,d1,q1⟩:=Paired.at' r hi Value.none [];obtain⟨_,b2,o2,Fw,n2,e2,g2,_,d2,q2⟩:=Paired.at' r hj Value.none [];unfold kas_ask;rw[e1,e2];refine kat_lt g1 d1 g2 d2 ?_;have l1:=q1.length;have l2:=q2.length;rw[Bj] at l1 l2;rw[l1,l2];exact cz _ _ _ _ 0 q1 q2 h
theorem kG {α:Type}{n:Nat}{lt:Nat->Nat->Bool}{cmp:Nat->Nat->(Bool->Shared->Prop)->Shared->Prop}{Q:α->Shared->Prop}(hc:∀ i j C,i<n->j<n->C (lt i j) s->cmp i j C s):∀ {t:KasT α},yk n lt t (λ a=>Q a s)->t.kasWp cmp Q s
 | .ret _,h=>h
 | .ask i j _,h=>hc i j _ h.1 h.2.1 (kG hc h.2.2)
def iZ (vs:Ad) (rows:List (List Int)) (out:An):Prop:=
 ∃ ps:List (Value×List Int),ps.Perm (vs.zip rows)/\out.toList=ps.map (·.1)/\(ps.map (·.2)).Pairwise λ a b=>HT.lexLt b a=false
def Y7 {α β:Type}{l:List α}{m:List β}(h:l.length=m.length) (a:α) (b:β):(List.range l.length).map (λ i=>(l.getD i a,m.getD i b))=l.zip m:=by
 refine BU (by simp;lia) λ i h1 h2=>?_;have h3:i<l.length/\i<m.length:=by simp at h1;lia
 simp[h3.1,h3.2]
def X7 {rows:List (List Int)}{p:Array Nat}{n:Nat}(hn:p.size=n) (h:wI (pN rows) p n):(p.toList.map λ i=>rows.getD i []).Pairwise λ a b=>HT.lexLt b a=false:=by
 rw[A4,Ci];intro i j hi hj A3;have:=h i j (A5 A3) (by rw[<- hn];simpa using hj);simp only[Bj] at hi hj;unfold Le pN at this;simpa [CW,hi,hj] using this
def N4 {vs:Ad}{rows:List (List Int)}(r:rW s.heap vs rows) (h2:2<=vs.length) (FT:vs.length<64):Core prog w A E vs (iZ vs rows) s:=by
 obtain⟨fs,t,hl,hf⟩:=r.oA;unfold Core;refine kat_kind (T:=.type "int") t (by lia) (λ v hv=>?_) rfl ⟨rfl,?_⟩
 .obtain⟨n,t,rfl⟩:=hf v hv;exact Looks.of_pure rfl
 .refine kat_run (ks:=vs) (Q:=λ st G6=>G6=s/\failedOf st=none/\iZ vs rows ((arrOf st).map (·.2))/\(arrOf st).size=vs.length) (G:=λ p G6=>G6=s/\y_ vs.length p/\wI (pN rows) p vs.length) rfl h2 FT (λ p st s' hs ha Dg hg=>?_) ?_
  .obtain⟨h1,h3,h4⟩:=hg;refine⟨h1,Dg,⟨p.toList.map λ i=>(vs.getD i Value.none,rows.getD i []),?_,?_,?_⟩,by rw[ha,CD];exact hs⟩
   .rw[<- Y7 (Paired.length r) Value.none []];have:=Array.Perm.toList h3;exact List.Perm.map _ (by simpa using this)
   .rw[kat_snds rfl ha,Au];rfl
   .rw[Au];exact X7 hs h4
  .exact kG (λ i j C hi hj hC=>r.ask hi hj hC) (yk.mono (λ p hp=>⟨rfl,hp⟩) (f7 (Wb rows) (by lia)))
end
section
variable {X:Cx}
def Paired.perm {α β:Type}{F:α->β->Prop}{l l':List α}(p:l'.Perm l):∀ {m:List β},Paired F l m->∃ m',m'.Perm m/\Paired F l' m':=by
 induction p with
 | nil=>intro m h;exact⟨m,.refl _,h⟩
 | cons x _ ih=>
  intro m h;cases h with
  | cons a h=>
   obtain⟨m',h1,h2⟩:=ih h;exact⟨_,h1.cons _,.cons a h2⟩
 | swap x y l=>
  intro m h;cases h with
  | cons a h=>
   cases h with
   | cons b h=>exact⟨_,.swap _ _ _,.cons b (.cons a h)⟩
 | trans _ _ JO JN=>
  intro m h;obtain⟨m1,h1,h2⟩:=JN h;obtain⟨m2,h3,h4⟩:=JO h2;exact⟨m2,h3.trans h1,h4⟩
abbrev Za (K:Ac) (H:Hp) (v:V) (r:List Int):Prop:=r≠[]/\∃ b,v=V.ref b/\zN K H b (r.map V.int)
abbrev sY (K:Ac) (H:Hp) (ys:List V) (rows:List (List Int)):Prop:=Paired (Za K H) ys rows
abbrev VR (K:Ac) (H:Hp):List Value->List (V×List Int)->Prop:=Paired λ u q=>RelV q.1 u/\Za K H q.1 q.2
theorem VR.of {K:Ac}{H:Hp}:∀ {ys:List V}{vs:Ad}{rows:List (List Int)},Vals ys vs->sY K H ys rows->VR K H vs (ys.zip rows)
 | _,_,_,.nil,.nil=>.nil
 | _,_,_,.cons r t,.cons r' t'=>.cons ⟨r,r'⟩ (VR.of t t')
abbrev nr (qs:List (V×List Int)) (H:Hp) (Q:VK):Prop:=∀ p (ps:List (V×List Int)),H p=none->ps.Perm qs->(ps.map (·.2)).Pairwise (λ a b=>HT.lexLt b a=false)->Q (.ref p) (upd H p (.lst (ps.map (·.1))))
def kZ {EV:Ag}{Y:L2.St}{H:Hp}{s:Shared}{a:Addr}{vs:Ad}{qs:List (V×List Int)}{Q:VK}(I:Inv X EV Y H s)
  (C:∀ Q':List Value->Shared->Prop,(∀ h1 tk,(∀ b o,¬ False->s.heap.get? b=some o->h1.get? b=some o)->s.heap.objs.size<=h1.objs.size->Q' vs { s with heap:=h1,toks:=tk })->wpAny (model X.prog X.w) X.A.in1 (collect (.ref a)) Q' X.xe s)
  (hv:VR X.K H vs qs) (FT:qs.length<64) (q:nr qs H Q):wpAny (model X.prog X.w) X.A (call (.builtin "sorted") [.ref a]) (EP X EV Y Q) X.xe s:=by
 have hl:vs.length=qs.length:=Paired.length hv;have hz:qs.length<=sizeLine:=A6 (A5 FT) (by decide);have GV:∀ h6:Heap,(∀ b o,¬ False->s.heap.get? b=some o->h6.get? b=some o)->rW h6 vs (qs.map (·.2)):=λ h6 k=>by
  clear q hl FT hz C
  induction hv with
  | nil=>exact .nil
  | cons g t ih=>
   refine .cons ?_ ih;obtain⟨r1,Ar,b,e1,hb⟩:=g;rw[e1] at r1;cases r1;obtain⟨Fw,HW,⟨o,e,hc,n,hd⟩,_⟩:=I.tuple hb;exact⟨Ar,b,o,_,n,rfl,k _ _ id e,hc,hd,by simpa using intsAre_of HW⟩
 refine f6 (Out:=iZ vs (qs.map (·.2))) C (by lia) (λ h2 s6 k=>N4 (GV _ k) h2 (by lia)) (λ h1=>⟨vs.zip (qs.map (·.2)),.refl _,by rw[List.map_fst_zip (by simp;lia)],?_⟩) λ out h' tk p ho hs hp k EU=>?_
 .rw[List.map_snd_zip (by simp;lia),Ci];intro i j hi hj A3;simp at hi hj;lia
 .obtain⟨ps,g1,g2,g3⟩:=ho;obtain⟨e,he⟩:=EU;have z:Paired (λ p q=>RelV q.1 p.1/\p.2=q.2) (vs.zip (qs.map (·.2))) qs:=by
   clear g1 hs hl FT hz C GV q
   induction hv with
   | nil=>exact .nil
   | cons a _ ih=>exact .cons ⟨a.1,rfl⟩ ih
  obtain⟨Hw,q1,q2⟩:=Paired.perm g1 z;have f:Vals (Hw.map (·.1)) (ps.map (·.1))/\Hw.map (·.2)=ps.map (·.2):=by
   clear q1 g1 g2 g3
   induction q2 with
   | nil=>exact⟨.nil,rfl⟩
   | cons a _ ih=>exact⟨.cons a.1 ih.1,by rw[Ax,Ax,ih.2,a.2]⟩
  refine⟨.ref p,_,I.laid (t':=tk) (o:=.lst (Hw.map (·.1))) (λ b o e=>k b o id e) hp ⟨?_,out.toList,e,by rw[g2];exact f.1,by simpa using he⟩,rfl,q p Hw (I.zr.fresh hp) q1 (by rw[f.2];exact g3)⟩;rw[AB,q1.length_eq];exact hz
end
end L4
namespace L2
open PySem PySem.Spec PyProof.Rows
noncomputable def wg (ty T:String):Bool:=ty == T||(ty == "bool"&&T == "int")
def mh (ty T:String):Bool:=PySem.W.kitMeta T&&decide ((fastBuiltinMro ty).map (λ l=>l.contains (Value.type T))=some (wg ty T))
def YM:(["NoneType","bool","int","str","tuple","list","dict"].all λ ty=>["int","bool","tuple","list","str"].all λ T=>mh ty T)=true:=by decide +kernel
def Pk {K:Ac}{ty T:String}(h:mh ty T=true):PySem.W.kitOne K (.type ty) (.type T)=some (wg ty T):=by
 unfold mh at h;rw[Br] at h;unfold PySem.W.kitOne;split
 .rename_i e;have e':ty=T:=by have:=eq_of_beq e;injection this
  subst e';simp[wg]
 .show (if PySem.W.kitMeta T=true then PySem.W.subIn K (.type ty) (.type T) else none)=_;rw[if_pos h.1];exact of_decide_eq_true h.2
noncomputable def a_ (K:Ac) (H:Hp):V->String->Prop
 | .zm,t=>t="NoneType"
 | .bl _,t=>t="bool"
 | .int _,t=>t="int"
 | .str _,t=>t="str"
 | .ref a,t=>(t="tuple"/\∃ xs,zN K H a xs)\/(t="list"/\∃ xs,zJ K H a xs)\/(t="dict"/\∃ Aa,H a=some (.dK Aa))
 | _,_=>False
def NZ {X:Cx}:yC X (.builtin "isinstance") (λ xs H Q=>∃ x T ty,xs=[x,.ty T]/\a_ X.K H x ty/\mh ty T=true/\Q (.bl (wg ty T)) H):=by
 intro EV s Y H xs us Q I r h;obtain⟨x,T,ty,rfl,hx,hT,q⟩:=h;obtain⟨u,c,rfl,ru,rc⟩:=vals2 r;cases (show c=Value.type T from rc);have e:PySem.W.kitOne X.K (.type ty) (.type T)=some (wg ty T):=Pk hT;have fin:∀ tk,EP X EV Y Q (.bool (wg ty T)) { s with toks:=tk }:=λ tk=>⟨.bl _,H,I.tok tk,rfl,q⟩;cases x with
 | zm=>cases (show u=Value.none from ru);cases (show ty=_ from hx);exact PySem.W.kia_one PySem.W.kitx_none I.wR True.intro e (λ z=>nomatch z) fin
 | bl y=>cases (show u=Value.bool y from ru);cases (show ty=_ from hx);exact PySem.W.kia_one PySem.W.kitx_bool I.wR True.intro e (λ z=>nomatch z) fin
 | int i=>obtain⟨t,rfl⟩:=(show ∃ t,u=Value.int i t from ru);cases (show ty=_ from hx);exact PySem.W.kia_one PySem.W.kitx_int I.wR True.intro e (λ z=>nomatch z) fin
 | str y=>obtain⟨t,rfl⟩:=(show ∃ t,u=Value.str y t from ru);cases (show ty=_ from hx);exact PySem.W.kia_one PySem.W.kitx_str I.wR True.intro e (λ z=>nomatch z) fin
 | ref a=>
  cases (show u=Value.ref a from ru);rcases hx with ⟨rfl,ys,hq⟩ | ⟨rfl,ys,hq⟩ | ⟨rfl,Aa,hq⟩
  .obtain⟨its,_,⟨o,h1,h2,_⟩,_⟩:=I.tuple hq;exact PySem.W.kia_one PySem.W.kitx_tuple I.wR ⟨o,h1,h2⟩ e (λ z=>nomatch z) fin
  .obtain⟨its,_,⟨o,n,h1,h2,_⟩,_⟩:=I.list hq;exact PySem.W.kia_one PySem.W.kitx_list I.wR ⟨o,h1,h2⟩ e (λ z=>nomatch z) fin
  .obtain⟨_,_,vs,_,p⟩:=(show yE X.prog X.w H s.heap a (.dK Aa) from I.zr a _ hq)
   obtain⟨o,es,ep,h1,h2,_⟩:=p;exact PySem.W.kia_one PySem.W.kitx_dict I.wR ⟨o,h1,h2.1⟩ e (λ z=>nomatch z) fin
 | _=>exact hx.elim
end L2
namespace L3
open PySem PySem.Spec L2
open PyProof.Rows hiding St
section
variable {X:Cx}{K:Ac}{a e:Expr}{es:List Expr}{te:zo}{tA:z_}{pos p q:Pos}
def UK (hm:X.mg "len"=none) (ha:yZ X (e::es) tA) (hg:Gl X "len") (he:starEach (e::es) X.env=(false,eval e X.env)::starEach es X.env) (Aq:(backTo pos (starEach es X.env)).any (·.1)=false):PD X (.Call (.Name "len" p) (e::es) [] pos) (xv vH tA):=
 u6 (t9 (NX.or NW) hg hm PySem.boot_len ha.pa (by decide) (by decide) he Aq) vH.mo vH.fits ha.mo
def UJ (hm:X.mg "list"=none) (ha:yZ X (e::es) tA) (hg:Gl X "list") (he:starEach (e::es) X.env=(false,eval e X.env)::starEach es X.env) (Aq:(backTo pos (starEach es X.env)).any (·.1)=false):PD X (.Call (.Name "list" p) (e::es) [] pos) (xv vG tA):=
 u6 (pX NU hg hm PyProof.Rows.boot_list ha.pa (by decide) (by decide) he Aq) vG.mo vG.fits ha.mo
def Ur (hm:X.mg "tuple"=none) (ha:yZ X (e::es) tA) (hg:Gl X "tuple") (he:starEach (e::es) X.env=(false,eval e X.env)::starEach es X.env) (Aq:(backTo pos (starEach es X.env)).any (·.1)=false):PD X (.Call (.Name "tuple" p) (e::es) [] pos) (xv vF tA):=
 u6 (pX NH hg hm PyProof.Rows.boot_tuple ha.pa (by decide) (by decide) he Aq) vF.mo vF.fits ha.mo
abbrev b6:xn:=vp λ i j=>.int (if j>i then j else i)
abbrev bz:xn:=vp λ i j=>.int (if j<i then j else i)
def UA (hm:X.mg "max"=none) (ha:yZ X (e::es) tA) (hc:X.calm=true) (hg:Gl X "max") (he:starEach (e::es) X.env=(false,eval e X.env)::starEach es X.env) (Aq:(backTo pos (starEach es X.env)).any (·.1)=false):PD X (.Call (.Name "max" p) (e::es) [] pos) (xv b6 tA):=
 u6 (t9 (NT hc) hg hm boot_max ha.pa (by decide) (by decide) he Aq) vp.mo (vp.fits λ _ _ _=>by simp only[ze]) ha.mo
def U9 (hm:X.mg "min"=none) (ha:yZ X (e::es) tA) (hc:X.calm=true) (hg:Gl X "min") (he:starEach (e::es) X.env=(false,eval e X.env)::starEach es X.env) (Aq:(backTo pos (starEach es X.env)).any (·.1)=false):PD X (.Call (.Name "min" p) (e::es) [] pos) (xv bz tA):=
 u6 (t9 (NS hc) hg hm boot_min ha.pa (by decide) (by decide) he Aq) vp.mo (vp.fits λ _ _ _=>by simp only[ze]) ha.mo
noncomputable def wz (r:List Int):D:=.tup (r.map D.int)
theorem zh.qt {H:Hp}:∀ {ps:List (V×List Int)},(∀ q∈ps,ze K H (wz q.2) q.1)->zh K H ((ps.map (·.2)).map wz) (ps.map (·.1))
 | [],_=>.nil
 | q::ps,h=>.cons (h q Ap) (zh.qt λ q hq=>h q (Av _ hq))
theorem zh.n_ {H:Hp}:∀ {rows:List (List Int)}{ys:List V},zh K H (rows.map wz) ys->∀ q∈ys.zip rows,ze K H (wz q.2) q.1
 | [],ys,_,q,hq=>by simp at hq
 | r::rows,ys,h,q,hq=>by
  rw[Ax] at h;simp only[zh] at h;obtain⟨x,Iq,rfl,h1,h3⟩:=h;rcases Aj.mp hq with e | hq
  .subst e;exact h1
  .exact zh.n_ h3 q hq
theorem mB {H:Hp}:∀ {rows:List (List Int)}{ys:List V},zh K H (rows.map wz) ys->(∀ r∈rows,r≠[])->L4.sY K H ys rows
 | [],ys,h,_=>by simp only[Bp,zh] at h;subst h;exact .nil
 | r::rows,ys,h,hn=>by
  rw[Ax] at h;simp only[zh,wz,ze] at h;obtain⟨x,Iq,rfl,⟨a,xs,rfl,g1,g2⟩,h3⟩:=h;rw[g2.ints] at g1;exact .cons ⟨hn r Ap,a,rfl,g1⟩ (mB h3 λ r' hr=>hn r' (Av _ hr))
def Ub {tg:Expr}(hm:X.mg "range"=none) (ha:yZ X [a] tA) (hg:Gl X "range") (hs:starEach [a] X.env=[(false,eval a X.env)]):vP X tg (.Call (.Name "range" p) [a] [] pos) (jJ tA):=Uc (WU hg hm ha.pa hs) ha.mo
noncomputable def sj (d:D) (S:SS):Option String:=match d with
 | .zm=>some "NoneType"
 | .bl _=>some "bool"
 | .int _=>some "int"
 | .str _=>some "str"
 | .tup _=>some "tuple"
 | .xy _=>some "list"
 | .ref p=>match S p with
  | some (.lst _)=>some "list"
  | some (.zS _)=>some "dict"
  | none=>none
 | .err _ _ _=>none
def qQ (T:String) (te:zo):zo:=fun L S Q=>te L S λ x S1=>match sj x S1 with
 | some ty=>Q (.bl (wg ty T)) S1
 | none=>False
def sj.ok {H:Hp}{d:D}{v:V}{S:SS}{ty:String}(r:ze K H d v) (p:zE K H S) (h:sj d S=some ty):a_ K H v ty/\ty∈["NoneType","bool","int","str","tuple","list","dict"]:=by
 cases d with
 | err _ _ _=>cases h
 | tup ds=>
  simp only[ze] at r;obtain⟨a,xs,rfl,g1,_⟩:=r;cases h;exact⟨.inl ⟨rfl,xs,g1⟩,by simp⟩
 | xy ds=>
  simp only[ze] at r;obtain⟨a,xs,rfl,g1,_⟩:=r;cases h;exact⟨.inr (.inl ⟨rfl,xs,g1.sq⟩),by simp⟩
 | ref a=>
  simp only[ze] at r;subst r;unfold sj at h;dsimp only at h;split at h
  .rename_i e;cases h;obtain⟨xs,g1,_⟩:=p _ _ e;exact⟨.inr (.inl ⟨rfl,xs,zJ.of g1⟩),by simp⟩
  .rename_i e;cases h;obtain⟨xs,g1,_⟩:=p _ _ e;exact⟨.inr (.inr ⟨rfl,xs,g1⟩),by simp⟩
  .cases h
 | _=>simp only[ze] at r;subst r;cases h;exact⟨rfl,by simp⟩
def mJ {T:String}{x:Str}(hT:T∈["int","bool","tuple","list","str"]) (hm:X.mg "isinstance"=none) (Hj:X.mg x=none) (hv:bootBuiltins x=some (.type T)) (GF:Gl X x) (hn:x≠"__name__") (hd:(x == ("__debug__":Str))=false) (he:PD X e te) (hg:Gl X "isinstance")
  (h1:starEach (e::[.Name x q]) X.env=(false,eval e X.env)::starEach [.Name x q] X.env) (h2:(backTo pos (starEach [.Name x q] X.env)).any (·.1)=false) (h3:starEach [.Name x q] X.env=(false,eval (.Name x q) X.env)::starEach [] X.env):
  PD X (.Call (.Name "isinstance" p) [e,.Name x q] [] pos) (qQ T te):=by
 refine⟨fun L S Q Q' hq z=>he.mo L S _ _ (λ y S1 z=>?_) z,PE.imp (t9 NZ hg hm boot_isinstance (tB he.pe (tB (V2 (v:=.ty T) GF Hj hv rfl hn hd) sF h3) h1) (by decide) (by decide) h1 h2) fun Y H Q hu=>?_⟩
 .split at z
  .exact hq _ _ z
  .exact z
 .obtain⟨L,S,r1,r2,z⟩:=hu;refine zC.go he.mo r1 r2 z λ y S1 v H1 z1 q1 e1 p1=>?_;split at z1
  .rename_i ty ht;obtain⟨g1,g2⟩:=sj.ok q1 p1 ht;refine⟨v,T,ty,rfl,g1,?_,z1 _ H1 (by simp only[ze]) e1 p1⟩;exact BD.mp (BD.mp YM ty g2) T hT
  .exact z1.elim
def UQ (T:Bt X.mg) (he:PD X e te) (hg:Gl X "isinstance") (GF:Gl X "bool") (h1:starEach (e::[.Name "bool" q]) X.env=(false,eval e X.env)::starEach [.Name "bool" q] X.env) (h2:(backTo pos (starEach [.Name "bool" q] X.env)).any (·.1)=false) (h3:starEach [.Name "bool" q] X.env=(false,eval (.Name "bool" q) X.env)::starEach [] X.env):
  PD X (.Call (.Name "isinstance" p) [e,.Name "bool" q] [] pos) (qQ "bool" te):=mJ (by simp) T.isinstance T.bool PyProof.Rows.boot_bool GF (by decide) (by decide) he hg h1 h2 h3
def UP (T:Bt X.mg) (he:PD X e te) (hg:Gl X "isinstance") (GF:Gl X "int") (h1:starEach (e::[.Name "int" q]) X.env=(false,eval e X.env)::starEach [.Name "int" q] X.env) (h2:(backTo pos (starEach [.Name "int" q] X.env)).any (·.1)=false) (h3:starEach [.Name "int" q] X.env=(false,eval (.Name "int" q) X.env)::starEach [] X.env):
  PD X (.Call (.Name "isinstance" p) [e,.Name "int" q] [] pos) (qQ "int" te):=mJ (by simp) T.isinstance T.int PyProof.Rows.boot_int GF (by decide) (by decide) he hg h1 h2 h3
def UN (T:Bt X.mg) (he:PD X e te) (hg:Gl X "isinstance") (GF:Gl X "tuple") (h1:starEach (e::[.Name "tuple" q]) X.env=(false,eval e X.env)::starEach [.Name "tuple" q] X.env) (h2:(backTo pos (starEach [.Name "tuple" q] X.env)).any (·.1)=false) (h3:starEach [.Name "tuple" q] X.env=(false,eval (.Name "tuple" q) X.env)::starEach [] X.env):
  PD X (.Call (.Name "isinstance" p) [e,.Name "tuple" q] [] pos) (qQ "tuple" te):=mJ (by simp) T.isinstance T.tuple PyProof.Rows.boot_tuple GF (by decide) (by decide) he hg h1 h2 h3
def UD {o:Expr}{to:zo}{apos Ae:Pos}(ho:PD X o to) (he:PD X e te)
  (FC:attributeBase o "append" X.env (eval o X.env)=eval o X.env)
  (AD:((backTo Ae (starEach [e] X.env)).all (λ x=>!x.1)&&(backToKw Ae (keywordEach [] X.env)).all (λ x=>x.1.isSome)
   && decide ([e].length+([]:List Keyword).length+(if ([]:List Keyword).isEmpty then 0 else 1)<30))=true)
  (Fz:(apos.endLine == Ae.line)=true) (hs:starEach [e] X.env=(false,eval e X.env)::starEach [] X.env) (Fg:(backTo Ae (starEach [] X.env)).any (·.1)=false):
  PD X (.Call (.Attribute o "append" apos) [e] [] Ae) (uj to te):=
 Ts (o:=o) (e:=e) (jo PySem.F.plainAttrs_list PySem.F.slot_list_append PySem.F.type_list_append dN ho.pe (tB he.pe sF hs) FC AD Fz hs Fg) ho.mo he.mo
structure FD (P:Program) (w:World) (K:Ac) (mg:AI) (base:Heap) (x:Str) (k:Nat) (ps:List Str) (sp:tU):Prop where
 ex:∃ (f:Addr) (fd:FuncData),vz P w K mg base xx k f fd ps (uu K sp)/\mg x=some (.ref f)/\PySem.W.keepIn K (.ref f)=true/\Binds K fd ps []
 mo:hZ sp
def Tn {x:Str}{k:Nat}{ps:List Str}{sp:tU}(F:FD X.prog X.w X.K X.mg X.base x k ps sp) (hr:yd k X.A) (ha:yZ X (e::es) tA) (hg:Gl X x) (B5:(x == ("__debug__":Str))=false)
  (he:starEach (e::es) X.env=(false,eval e X.env)::starEach es X.env) (Aq:(backTo pos (starEach es X.env)).any (·.1)=false):PD X (.Call (.Name x p) (e::es) [] pos) (l8 sp tA):=by
 obtain⟨⟨f,fd,h1,h2,h3,h4⟩,hm⟩:=F;exact Tq (E:=E0) (V1 h1 hr hg h2 h3 h4 .nil Tx ha.pa B5 he Aq) hm ha.mo
end
def OS {S:SS}{p:Addr}{ds:List D}{Q:DK}(e:S p=some (.lst ds)) (h:Q (.tup ds) S):vF [.ref p] S Q:=by
 unfold vF;dsimp only;rw[e];exact h
def OT {S:SS}{d:D}{ds:List D}{Q:DK}(e:zH d S=some ds) (h:∀ p,S p=none->Q (.ref p) (ups S p (.lst ds))):vG [d] S Q:=by
 unfold vG;dsimp only;rw[e];exact h
def OU {S:SS}{d:D}{ds:List D}{Q:DK}(e:zH d S=some ds) (h:Q (.int ds.length) S):vH [d] S Q:=by
 unfold vH;dsimp only;rw[e];exact h
def YW {S:SS}{p:Addr}{ds:List D}{Q:Bool->SS->Prop}(e:S p=some (.lst ds)) (h:Q (!ds.isEmpty) S):vd (.ref p) S Q:=by
 unfold vd;dsimp only;rw[e];exact h
def OX {S:SS}{p:Addr}{ds:List D}{i:Int}{d:D}{Q:DK}(e:S p=some (.lst ds)) (e2:L2.zL ds i=some d) (h:Q d S):xX (.ref p) (.int i) S Q:=by
 unfold xX;dsimp only;rw[e];dsimp only;rw[e2];exact h
def OV {S:SS}{ds:List D}{i:Int}{d:D}{Q:DK}(e2:L2.zL ds i=some d) (h:Q d S):xX (.tup ds) (.int i) S Q:=by
 unfold xX;dsimp only;rw[e2];exact h
def OW {S:SS}{ds:List D}{i:Int}{d:D}{Q:DK}(e2:L2.zL ds i=some d) (h:Q d S):xX (.xy ds) (.int i) S Q:=by
 unfold xX;dsimp only;rw[e2];exact h
inductive T where
 | zm | bl (b:Bool) | int (i:Int) | str (x:Str) | tup (ts:List T) | lst (ts:List T) | yR | err (c f:Str) (t:T)
mutual
noncomputable def eqT:T->T->Bool
 | .zm,.zm=>true
 | .bl a,.bl b=>a == b
 | .bl a,.int b=>(if a then 1 else 0) == b
 | .int a,.bl b=>a == (if b then 1 else 0)
 | .int a,.int b=>a == b
 | .str a,.str b=>a == b
 | .tup a,.tup b=>xg a b
 | .lst a,.lst b=>xg a b
 | .yR,.yR=>true
 | .err a b t,.err c d u=>a == c&&(b == d&&eqT t u)
 | _,_=>false
noncomputable def xg:List T->List T->Bool
 | [],[]=>true
 | a::as,b::bs=>eqT a b&&xg as bs
 | _,_=>false
end
mutual
noncomputable def dep:T->Nat
 | .tup ts=>1+xu ts
 | .lst ts=>1+xu ts
 | .yR=>cLine
 | .err _ _ _=>cLine
 | _=>0
noncomputable def xu:List T->Nat
 | []=>0
 | t::ts=>max (dep t) (xu ts)
end
noncomputable def jt:List T->Bool
 | []=>true
 | .int _::ts=>jt ts
 | _=>false
def TZ (ns:List Int):jt (ns.map T.int)=true:=by
 induction ns with
 | nil=>rfl
 | cons n ns ih=>exact ih
mutual
noncomputable def Sn (S:SS):T->D->Prop
 | .zm,d=>d=.zm
 | .bl b,d=>d=.bl b
 | .int i,d=>d=.int i
 | .str x,d=>d=.str x
 | .tup ts,d=>∃ ds,d=.tup ds/\zg S ts ds
 | .lst ts,d=>∃ ds,((d=.xy ds/\jt ts=true)\/∃ a,d=.ref a/\S a=some (.lst ds))/\zg S ts ds
 | .yR,d=>∃ a Aa,(d=.ref a/\Aa=[])/\S a=some (.zS Aa)
 | .err c f t,d=>∃ x,d=.err c f x/\Sn S t x
noncomputable def zg (S:SS):List T->List D->Prop
 | [],ds=>ds=[]
 | t::ts,ds=>∃ c cs,ds=c::cs/\Sn S t c/\zg S ts cs
end
mutual
theorem iq:∀ t:T,eqT t t=true
 | .zm=>by simp[eqT]
 | .bl b=>by simp[eqT]
 | .int i=>by simp[eqT]
 | .str x=>by simp[eqT]
 | .tup ts=>by simp only[eqT];exact ly ts
 | .lst ts=>by simp only[eqT];exact ly ts
 | .yR=>by simp[eqT]
 | .err _ _ t=>by simp[eqT,iq t]
theorem ly:∀ ts:List T,xg ts ts=true
 | []=>by simp[xg]
 | t::ts=>by simp only[xg,iq t,ly ts,Du]
end
theorem ip:∀ ts us:List T,xg ts us=((List.range (min ts.length us.length)).all (λ j=>eqT (ts.getD j .zm) (us.getD j .zm))&&ts.length == us.length)
 | [],[]=>by simp[xg]
 | [],_::_=>by simp[xg]
 | _::_,[]=>by simp[xg]
 | t::ts,u::us=>by
  simp only[xg,ip ts us,Bg];rw[show min (ts.length+1) (us.length+1)=min ts.length us.length+1 by lia,List.range_succ_eq_map,List.all_cons,List.all_map];have:(ts.length+1 == us.length+1)=(ts.length == us.length):=by rw[Bs];simp
  rw[this,Bool.and_assoc];rfl
theorem zg.length {S:SS}:∀ {ts:List T}{ds:List D},zg S ts ds->ts.length=ds.length
 | [],ds,h=>by simp only[zg] at h;subst h;rfl
 | t::ts,ds,h=>by
  simp only[zg] at h;obtain⟨c,cs,rfl,_,h2⟩:=h;simp[zg.length h2]
section
variable {X:Cx}{EV:Ag}{Y:St}{H:Hp}{s:Shared}{S:SS}
def cG (I:Inv X EV Y H s) {a:Addr}{xs ys:List V}(h1:zN X.K H a xs) (h2:zJ X.K H a ys):False:=by
 obtain⟨_,_,⟨o,e,c,_⟩,_⟩:=I.tuple h1;obtain⟨_,_,⟨o',n,e',c',_⟩,_⟩:=I.list h2;rw[e] at e';cases e';rw[c] at c'
 injection c' with q
 exact absurd q (by decide)
def Sn.uC (p:zE X.K H S) {ts:List T}{d:D}{x:V}(h:Sn S (.lst ts) d) (r:ze X.K H d x):∃ a xs ds,x=.ref a/\zJ X.K H a xs/\zh X.K H ds xs/\zg S ts ds:=by
 simp only[Sn] at h;obtain⟨ds,⟨h,_⟩ | ⟨a,h,e⟩,h2⟩:=h
 .subst h;simp only[ze] at r;obtain⟨a,xs,rfl,g1,g2⟩:=r;exact⟨a,xs,ds,rfl,g1.sq,g2,h2⟩
 .subst h;simp only[ze] at r;obtain⟨xs,g1,g2⟩:=p _ _ e;exact⟨a,xs,ds,r,zJ.of g1,g2,h2⟩
def Sn.uv {ts:List T}{d:D}{x:V}(h:Sn S (.tup ts) d) (r:ze X.K H d x):∃ a xs ds,x=.ref a/\zN X.K H a xs/\zh X.K H ds xs/\zg S ts ds:=by
 simp only[Sn] at h;obtain⟨ds,rfl,h2⟩:=h;simp only[ze] at r;obtain⟨a,xs,rfl,g1,g2⟩:=r;exact⟨a,xs,ds,rfl,g1,g2,h2⟩
def Sn.sT (p:zE X.K H S) {d:D}{x:V}(h:Sn S .yR d) (r:ze X.K H d x):∃ a vs,x=.ref a/\H a=some (.dK vs):=by
 simp only[Sn] at h;obtain⟨a,Aa,⟨rfl,_⟩,e⟩:=h;simp only[ze] at r;obtain⟨xs,g1,g2⟩:=p _ _ e;exact⟨a,xs,r,g1⟩
def cN (I:Inv X EV Y H s) {a:Addr}{vs:List (Key×V)}(h:H a=some (.dK vs)):∃ o,s.heap.get? a=some o/\o.cls=.type "dict":=by
 obtain⟨_,_,_,_,o,_,_,e,c⟩:=(show yE X.prog X.w H s.heap a (.dK vs) from I.zr a _ h)
 exact⟨o,e,c.1.1⟩
def cJ (I:Inv X EV Y H s) {a:Addr}{xs:List V}{vs:List (Key×V)}(h1:zN X.K H a xs) (h2:H a=some (.dK vs)):False:=by
 obtain⟨_,_,⟨o,e,c,_⟩,_⟩:=I.tuple h1;obtain⟨o',e',c'⟩:=cN I h2;rw[e] at e';cases e';rw[c] at c'
 injection c' with q
 exact absurd q (by decide)
def cM (I:Inv X EV Y H s) {a:Addr}{xs:List V}{vs:List (Key×V)}(h1:zJ X.K H a xs) (h2:H a=some (.dK vs)):False:=by
 obtain⟨_,_,⟨o,n,e,c,_⟩,_⟩:=I.list h1;obtain⟨o',e',c'⟩:=cN I h2;rw[e] at e';cases e';rw[c] at c'
 injection c' with q
 exact absurd q (by decide)
theorem Sn.flat {t:T}{d:D}{x:V}(h:Sn S t d) (r:ze X.K H d x):match t with
  | .zm=>x=.zm
  | .bl b=>x=.bl b
  | .int i=>x=.int i
  | .str y=>x=.str y
  | _=>True:=by
 cases t <;> first
  | trivial
  | (simp only[Sn] at h;subst h;simpa only [ze] using r)
def Sn.tQ {c f:Str}{t:T}{d:D}{x:V}(h:Sn S (.err c f t) d) (r:ze X.K H d x):∃ e C dx w y,x=.ref e/\(nX X.K c C/\H e=some (sd e C dx)/\H dx=some (.xd [(f,w)]))/\Sn S t y/\ze X.K H y w:=by
 simp only[Sn] at h;obtain⟨y,rfl,h⟩:=h;simp only[ze] at r;obtain⟨e,C,dx,w,r1,r2,r3⟩:=r;exact⟨e,C,dx,w,y,r1,r2,h,r3⟩
def mZ (I:Inv X EV Y H s) {e C dx:Addr}(h:H e=some (sd e C dx)):∃ oe vs,s.heap.get? e=some oe/\oe.cls=.ref C/\oe.dict=some dx/\oe.data=.fields vs:=(show yE X.prog X.w H s.heap e (sd e C dx) from I.zr e _ h).1
def cH (I:Inv X EV Y H s) {a C dx:Addr}{xs:List V}(h1:zN X.K H a xs) (h2:H a=some (sd a C dx)):False:=by
 obtain⟨_,_,⟨o,e,c,_⟩,_⟩:=I.tuple h1;obtain⟨o',_,e',c',_⟩:=mZ I h2;rw[e] at e';cases e';rw[c] at c';cases c'
def cL (I:Inv X EV Y H s) {a C dx:Addr}{xs:List V}(h1:zJ X.K H a xs) (h2:H a=some (sd a C dx)):False:=by
 obtain⟨_,_,⟨o,n,e,c,_⟩,_⟩:=I.list h1;obtain⟨o',_,e',c',_⟩:=mZ I h2;rw[e] at e';cases e';rw[c] at c';cases c'
def cO (I:Inv X EV Y H s) {a C dx:Addr}{vs:List (Key×V)}(h1:H a=some (.dK vs)) (h2:H a=some (sd a C dx)):False:=by
 rw[h1] at h2;cases h2
def PR (I:Inv X EV Y H s) {e C dx C' Kr:Addr}(h1:H e=some (sd e C dx)) (h2:H e=some (sd e C' Kr)):C=C'/\dx=Kr:=by
 obtain⟨o,_,e1,c1,d1,_⟩:=mZ I h1;obtain⟨o',_,e2,c2,d2,_⟩:=mZ I h2;rw[e1] at e2;cases e2;rw[c1] at c2;rw[d1] at d2;cases c2;cases d2;exact⟨rfl,rfl⟩
def nX.inj {K:Ac}{c c':Str}{C:Addr}(h1:nX K c C) (h2:nX K c' C):c=c':=by
 obtain⟨_,_,_,⟨⟨⟨_,_,_,_,_,_,_,_,_,_,_,_,a⟩,_⟩,_,_,_,_⟩⟩:=h1;obtain⟨_,_,_,⟨⟨⟨_,_,_,_,_,_,_,_,_,_,_,_,b⟩,_⟩,_,_,_,_⟩⟩:=h2;rw[a] at b;cases b;rfl
mutual
theorem mf (I:Inv X EV Y H s) (p:zE X.K H S):∀ (t u:T) {d e:D}{x:V},Sn S t d->Sn S u e->ze X.K H d x->ze X.K H e x->t=u
 | .tup ts,u,d,e,x,h1,h2,r1,r2=>by
  obtain⟨a,xs,ds,rfl,g1,g2,g3⟩:=h1.uv r1;cases u with
  | yR=>obtain⟨_,_,q,g⟩:=h2.sT p r2;cases q;exact (cJ I g1 g).elim
  | err _ _ _=>obtain⟨_,_,_,_,_,q,g,_⟩:=h2.tQ r2;cases q;exact (cH I g1 g.2.1).elim
  | tup us=>
   obtain⟨a',Fd,G4,q,k1,k2,k3⟩:=h2.uv r2;cases q;have:=I.kQ g1 k1;subst this;rw[kO I p ts us g3 k3 g2 k2]
  | lst us=>
   obtain⟨a',Fd,G4,q,k1,k2,k3⟩:=h2.uC p r2;cases q;exact (cG I g1 k1).elim
  | _=>exact nomatch h2.flat r2
 | .lst ts,u,d,e,x,h1,h2,r1,r2=>by
  obtain⟨a,xs,ds,rfl,g1,g2,g3⟩:=h1.uC p r1;cases u with
  | yR=>obtain⟨_,_,q,g⟩:=h2.sT p r2;cases q;exact (cM I g1 g).elim
  | err _ _ _=>obtain⟨_,_,_,_,_,q,g,_⟩:=h2.tQ r2;cases q;exact (cL I g1 g.2.1).elim
  | lst us=>
   obtain⟨a',Fd,G4,q,k1,k2,k3⟩:=h2.uC p r2;cases q;have:=I.jC g1 k1;subst this;rw[kO I p ts us g3 k3 g2 k2]
  | tup us=>
   obtain⟨a',Fd,G4,q,k1,k2,k3⟩:=h2.uv r2;cases q;exact (cG I k1 g1).elim
  | _=>exact nomatch h2.flat r2
 | .zm,u,d,e,x,h1,h2,r1,r2=>by
  have q:=h1.flat r1;subst q;cases u with
  | yR=>obtain⟨_,_,q,g⟩:=h2.sT p r2;cases q
  | err _ _ _=>obtain⟨_,_,_,_,_,q,_⟩:=h2.tQ r2;cases q
  | zm=>rfl
  | tup us=>obtain⟨_,_,_,q,_⟩:=h2.uv r2;cases q
  | lst us=>obtain⟨_,_,_,q,_⟩:=h2.uC p r2;cases q
  | _=>exact nomatch h2.flat r2
 | .bl b,u,d,e,x,h1,h2,r1,r2=>by
  have q:=h1.flat r1;subst q;cases u with
  | yR=>obtain⟨_,_,q,g⟩:=h2.sT p r2;cases q
  | err _ _ _=>obtain⟨_,_,_,_,_,q,_⟩:=h2.tQ r2;cases q
  | bl _=>have q:=h2.flat r2;cases q;rfl
  | tup us=>obtain⟨_,_,_,q,_⟩:=h2.uv r2;cases q
  | lst us=>obtain⟨_,_,_,q,_⟩:=h2.uC p r2;cases q
  | _=>exact nomatch h2.flat r2
 | .int b,u,d,e,x,h1,h2,r1,r2=>by
  have q:=h1.flat r1;subst q;cases u with
  | yR=>obtain⟨_,_,q,g⟩:=h2.sT p r2;cases q
  | err _ _ _=>obtain⟨_,_,_,_,_,q,_⟩:=h2.tQ r2;cases q
  | int _=>have q:=h2.flat r2;cases q;rfl
  | tup us=>obtain⟨_,_,_,q,_⟩:=h2.uv r2;cases q
  | lst us=>obtain⟨_,_,_,q,_⟩:=h2.uC p r2;cases q
  | _=>exact nomatch h2.flat r2
 | .str b,u,d,e,x,h1,h2,r1,r2=>by
  have q:=h1.flat r1;subst q;cases u with
  | yR=>obtain⟨_,_,q,g⟩:=h2.sT p r2;cases q
  | err _ _ _=>obtain⟨_,_,_,_,_,q,_⟩:=h2.tQ r2;cases q
  | str _=>have q:=h2.flat r2;cases q;rfl
  | tup us=>obtain⟨_,_,_,q,_⟩:=h2.uv r2;cases q
  | lst us=>obtain⟨_,_,_,q,_⟩:=h2.uC p r2;cases q
  | _=>exact nomatch h2.flat r2
 | .err c f t,u,d,e,x,h1,h2,r1,r2=>by
  obtain⟨a,C,dx,w,y,rfl,⟨g1,g2,g3⟩,g4,g5⟩:=h1.tQ r1;cases u with
  | err c' f' t'=>
   obtain⟨a',C',Kr,w',y',q,⟨k1,k2,k3⟩,k4,k5⟩:=h2.tQ r2;cases q;obtain⟨rfl,rfl⟩:=PR I g2 k2;rw[g3] at k3;cases k3;cases g1.inj k1;rw[mf I p t t' g4 k4 g5 k5]
  | yR=>obtain⟨_,_,q,g⟩:=h2.sT p r2;cases q;exact (cO I g g2).elim
  | tup us=>obtain⟨_,_,_,q,k1,_⟩:=h2.uv r2;cases q;exact (cH I k1 g2).elim
  | lst us=>obtain⟨_,_,_,q,k1,_⟩:=h2.uC p r2;cases q;exact (cL I k1 g2).elim
  | _=>exact nomatch h2.flat r2
 | .yR,u,d,e,x,h1,h2,r1,r2=>by
  obtain⟨a,vs,rfl,g⟩:=h1.sT p r1;cases u with
  | yR=>rfl
  | err _ _ _=>obtain⟨_,_,_,_,_,q,g',_⟩:=h2.tQ r2;cases q;exact (cO I g g'.2.1).elim
  | tup us=>obtain⟨_,_,_,q,g1,_⟩:=h2.uv r2;cases q;exact (cJ I g1 g).elim
  | lst us=>obtain⟨_,_,_,q,g1,_⟩:=h2.uC p r2;cases q;exact (cM I g1 g).elim
  | _=>exact nomatch h2.flat r2
theorem kO (I:Inv X EV Y H s) (p:zE X.K H S):∀ (ts us:List T) {ds es:List D}{xs:List V},zg S ts ds->zg S us es->zh X.K H ds xs->zh X.K H es xs->ts=us
 | [],us,ds,es,xs,h1,h2,r1,r2=>by
  have e:=h1.length.trans (r1.length.trans (r2.length.symm.trans h2.length.symm));cases us with
  | nil=>rfl
  | cons _ _=>simp at e
 | t::ts,[],ds,es,xs,h1,h2,r1,r2=>by
  have e:=h1.length.trans (r1.length.trans (r2.length.symm.trans h2.length.symm));simp at e
 | t::ts,u::us,ds,es,xs,h1,h2,r1,r2=>by
  simp only[zg] at h1 h2;obtain⟨c,cs,rfl,a1,a2⟩:=h1;obtain⟨c',cs',rfl,b1,b2⟩:=h2;simp only[zh] at r1 r2;obtain⟨y,ys,rfl,g1,g2⟩:=r1;obtain⟨y',Iq,q,k1,k2⟩:=r2;cases q;rw[mf I p t u a1 b1 g1 k1,kO I p ts us a2 b2 g2 k2]
end
def zg.get {ts:List T}{ds:List D}(h:zg S ts ds):∀ {j:Nat},j<ts.length->∃ c,ds[j]?=some c/\Sn S (ts.getD j .zm) c:=by
 induction ts generalizing ds with
 | nil=>intro j hj;simp at hj
 | cons t ts ih=>
  intro j hj;simp only[zg] at h;obtain⟨c,cs,rfl,h1,h2⟩:=h;cases j with
  | zero=>exact⟨c,rfl,h1⟩
  | succ j=>
   obtain⟨c',e,h3⟩:=ih h2 (j:=j) (by simpa using hj);exact⟨c',by simpa using e,by simpa using h3⟩
theorem l6:∀ {ts:List T}{j:Nat},j<ts.length->dep (ts.getD j .zm)<=xu ts
 | [],j,h=>by simp at h
 | t::ts,0,_=>by simp only[xu,List.getD_cons_zero];lia
 | t::ts,j+1,h=>by
  have:=l6 (ts:=ts) (j:=j) (by simpa using h);simp only[xu,List.getD_cons_succ];lia
inductive rS (K:Ac) (H:Hp) (S:SS) (s:Shared):T->Value->Prop
 | zm:rS K H S s .zm .none
 | bl {b:Bool}:rS K H S s (.bl b) (.bool b)
 | int {i:Int}{k:Tok}:rS K H S s (.int i) (.int i k)
 | str {i:Str}{k:Tok}:rS K H S s (.str i) (.str i k)
 | tup {ts:List T}{ds:List D}{xs:List V}{us:Ad}{l:Addr}(g:zg S ts ds) (r:zh K H ds xs) (v:Vals xs us) (h:s.heap.IsTuple l us.toArray):rS K H S s (.tup ts) (.ref l)
 | lst {ts:List T}{ds:List D}{xs:List V}{us:Ad}{l:Addr}(g:zg S ts ds) (r:zh K H ds xs) (v:Vals xs us) (h:s.heap.IsList l us.toArray):rS K H S s (.lst ts) (.ref l)
def fL (I:Inv X EV Y H s) (p:zE X.K H S) {t:T}{d:D}{x:V}{a:Value}(h:Sn S t d) (r:ze X.K H d x) (v:RelV x a) (z:dep t<cLine):rS X.K H S s t a:=by
 cases t with
 | zm=>have q:=h.flat r;subst q;cases v;exact .zm
 | bl _=>have q:=h.flat r;subst q;cases v;exact .bl
 | int _=>have q:=h.flat r;subst q;obtain⟨_,rfl⟩:=v;exact .int
 | str _=>have q:=h.flat r;subst q;obtain⟨_,rfl⟩:=v;exact .str
 | tup _=>obtain⟨l,xs,ds,rfl,g,r,q⟩:=h.uv r;cases v;obtain⟨_,w,i,_⟩:=I.tuple g;exact .tup q r w i
 | lst _=>obtain⟨l,xs,ds,rfl,g,r,q⟩:=h.uC p r;cases v;obtain⟨_,w,i,_⟩:=I.list g;exact .lst q r w i.isList
 | _=>simp only[dep] at z;lia
abbrev J3 (A:Around) (s:Shared) (a b:Value) (k:Bool):Prop:=SeqAt.EqAt A s a b k/\SeqAt.RcAt A s a b k/\SeqAt.RcNeAt A s a b (!k)
def M1 (I:Inv X EV Y H s) (p:zE X.K H S):∀ (n:Nat) (t u:T) {A:Around}{d e:D}{x y:V}{a b:Value},dep t<n->A.units+dep t<cLine->A.units+dep u<cLine->Sn S t d->Sn S u e->ze X.K H d x->ze X.K H e y->RelV x a->RelV y b->J3 A s a b (eqT t u):=by
 intro n
 induction n with
 | zero=>intros;lia
 | succ n ih=>
  intro t u A d e x y a b hn hu Ik h1 h2 r1 r2 v1 v2;have hq:a=b->t=u:=λ z=>by subst z;have:=v1.inj v2;subst this;exact mf I p t u h1 h2 r1 r2
  have c1:=fL I p h1 r1 v1 (by lia);have c2:=fL I p h2 r2 v2 (by lia);clear h1 h2 r1 r2 v1 v2;have hA:A.units<cLine:=by lia
  have el:∀ {ts us:List T}{ds G4:List D}{xs Fd:List V}{is Ij:Ad},1+xu ts<n+1->A.units+(1+xu ts)<cLine->A.units+(1+xu us)<cLine->zg S ts ds->zg S us G4->zh X.K H ds xs->zh X.K H G4 Fd->Vals xs is->Vals Fd Ij->is.toArray.size=ts.length/\Ij.toArray.size=us.length/\
    ∀ (j:Nat) (h1:j<is.toArray.size) (h2:j<Ij.toArray.size),SeqAt.EqAt A.in1 s is.toArray[j] Ij.toArray[j] (eqT (ts.getD j .zm) (us.getD j .zm)):=by
   intro ts us ds G4 xs Fd is Ij a1 a2 a3 g1 g2 r1 r2 v1 v2;have e1:is.toArray.size=ts.length:=by rw[Az,<- v1.length,<- r1.length,<- g1.length]
   have e2:Ij.toArray.size=us.length:=by rw[Az,<- v2.length,<- r2.length,<- g2.length]
   refine⟨e1,e2,λ j h1 h2=>?_⟩;obtain⟨_,k1,s1⟩:=g1.get (e1▸h1);obtain⟨_,k2,s2⟩:=g2.get (e2▸h2);obtain⟨_,f1,q1⟩:=r1.get k1;obtain⟨_,f2,q2⟩:=r2.get k2;obtain⟨w1,o1,m1⟩:=v1.get f1;obtain⟨w2,o2,m2⟩:=v2.get f2;have y1:=l6 (e1▸h1);have y2:=l6 (e2▸h2);obtain⟨_,z1⟩:=AM.mp o1;obtain⟨_,z2⟩:=AM.mp o2;rw[List.getElem_toArray,List.getElem_toArray,z1,z2];exact (ih _ _ (A:=A.in1) (by lia) (by show A.units+1+_<_;lia) (by show A.units+1+_<_;lia) s1 s2 q1 q2 m1 m2).1
  have en:∀ {l l':Addr}{ts us:List T},(Value.ref l=.ref l'->ts=us)->SeqAt.RcAt A s (.ref l) (.ref l') (xg ts us)/\SeqAt.RcNeAt A s (.ref l) (.ref l') (!xg ts us)->J3 A s (.ref l) (.ref l') (xg ts us):=λ{l l' ts us} h q=>by
   refine⟨?_,q⟩;by_cases z:l=l'
   .subst z;rw[h rfl,ly];exact .same _
   .exact .of_refs z q.1
  cases c1 <;> cases c2 <;> simp only[eqT,Cp,CJ]
  .exact⟨.same _,.none_none,.none_none⟩
  .exact⟨.none_bool _,.none_bool _,.none_bool _⟩
  .exact⟨.none_int _ _,.none_int _ _,.none_int _ _⟩
  .exact⟨.none_str _ _,.none_str _ _,.none_str _ _⟩
  .exact⟨.none_tuple ‹_› hA,.none_tuple ‹_› hA,.none_tuple ‹_› hA⟩
  .exact⟨.none_list ‹_› hA,.none_list ‹_› hA,.none_list ‹_› hA⟩
  .exact⟨.bool_none _,.bool_none _,.bool_none _⟩
  .exact⟨.bool_bool _ _,.bool_bool _ _,.bool_bool _ _⟩
  .exact⟨.bool_int _ _ _,.bool_int _ _ _,.bool_int _ _ _⟩
  .exact⟨.bool_str _ _ _,.bool_str _ _ _,.bool_str _ _ _⟩
  .exact⟨.bool_tuple _ ‹_› hA,.bool_tuple _ ‹_› hA,.bool_tuple _ ‹_› hA⟩
  .exact⟨.bool_list _ ‹_› hA,.bool_list _ ‹_› hA,.bool_list _ ‹_› hA⟩
  .exact⟨.int_none _ _,.int_none _ _,.int_none _ _⟩
  .exact⟨.int_bool _ _ _,.int_bool _ _ _,.int_bool _ _ _⟩
  .exact⟨.int_int _ _ _ _,.int_int _ _ _ _,.int_int _ _ _ _⟩
  .exact⟨.int_str _ _ _ _,.int_str _ _ _ _,.int_str _ _ _ _⟩
  .exact⟨.int_tuple _ _ ‹_› hA,.int_tuple _ _ ‹_› hA,.int_tuple _ _ ‹_› hA⟩
  .exact⟨.int_list _ _ ‹_› hA,.int_list _ _ ‹_› hA,.int_list _ _ ‹_› hA⟩
  .exact⟨.str_none _ _,.str_none _ _,.str_none _ _⟩
  .exact⟨.str_bool _ _ _,.str_bool _ _ _,.str_bool _ _ _⟩
  .exact⟨.str_int _ _ _ _,.str_int _ _ _ _,.str_int _ _ _ _⟩
  .exact⟨.str_str _ _ _ _,.str_str _ _ _ _,.str_str _ _ _ _⟩
  .exact⟨.str_tuple _ _ ‹_› hA,.str_tuple _ _ ‹_› hA,.str_tuple _ _ ‹_› hA⟩
  .exact⟨.str_list _ _ ‹_› hA,.str_list _ _ ‹_› hA,.str_list _ _ ‹_› hA⟩
  .exact⟨.tuple_none ‹_› hA,.tuple_none ‹_› hA,.tuple_none ‹_› hA⟩
  .exact⟨.tuple_bool _ ‹_› hA,.tuple_bool _ ‹_› hA,.tuple_bool _ ‹_› hA⟩
  .exact⟨.tuple_int _ _ ‹_› hA,.tuple_int _ _ ‹_› hA,.tuple_int _ _ ‹_› hA⟩
  .exact⟨.tuple_str _ _ ‹_› hA,.tuple_str _ _ ‹_› hA,.tuple_str _ _ ‹_› hA⟩
  .rename_i g1 r1 v1 k1 _ _ _ _ _ g2 r2 v2 k2;simp only[dep] at hn hu Ik;obtain⟨e1,e2,q⟩:=el hn hu Ik g1 g2 r1 r2 v1 v2;refine en (λ z=>by cases hq z;rfl) ?_;rw[ip,<- e1,<- e2];exact⟨.tuples k1 k2 hA q,.tuples k1 k2 hA q⟩
  .exact⟨.tuple_list ‹_› ‹_› hA,.tuple_list ‹_› ‹_› hA,.tuple_list ‹_› ‹_› hA⟩
  .exact⟨.list_none ‹_› hA,.list_none ‹_› hA,.list_none ‹_› hA⟩
  .exact⟨.list_bool _ ‹_› hA,.list_bool _ ‹_› hA,.list_bool _ ‹_› hA⟩
  .exact⟨.list_int _ _ ‹_› hA,.list_int _ _ ‹_› hA,.list_int _ _ ‹_› hA⟩
  .exact⟨.list_str _ _ ‹_› hA,.list_str _ _ ‹_› hA,.list_str _ _ ‹_› hA⟩
  .exact⟨.list_tuple ‹_› ‹_› hA,.list_tuple ‹_› ‹_› hA,.list_tuple ‹_› ‹_› hA⟩
  .rename_i i1 _ g1 r1 v1 k1 _ _ _ i2 _ g2 r2 v2 k2;simp only[dep] at hn hu Ik;obtain⟨e1,e2,q⟩:=el hn hu Ik g1 g2 r1 r2 v1 v2;refine en (λ z=>by cases hq z;rfl) ?_;rw[ip,<- e1,<- e2];by_cases z:i1.toArray.size=i2.toArray.size
   .rw[<- z,Nat.min_self,beq_self_eq_true,Bool.and_true];exact⟨.lists k1 k2 z hA q,.lists k1 k2 z hA q⟩
   .rw[beq_eq_false_iff_ne.mpr z,CF];have z':=bne_iff_ne.mpr z;exact⟨.lists_lengths k1 k2 z' hA,.lists_lengths k1 k2 z' hA⟩
def iQ (I:Inv X EV Y H s) (p:zE X.K H S) (t u:T) {A:Around}{d e:D}{x y:V}{a b:Value}(hu:A.units+dep t<cLine) (Ik:A.units+dep u<cLine) (h1:Sn S t d) (h2:Sn S u e) (r1:ze X.K H d x) (r2:ze X.K H e y) (v1:RelV x a) (v2:RelV y b):J3 A s a b (eqT t u):=M1 I p _ t u (Co _) hu Ik h1 h2 r1 r2 v1 v2
end
def jk (K:Ac) (neg:Bool):R2:=λ x y H Q=>∃ S d e t u,ze K H d x/\ze K H e y/\zE K H S/\Sn S t d/\Sn S u e/\dep t<=60/\dep u<=60/\Q (.bl (cond neg (!eqT t u) (eqT t u))) H
def wX (neg:Bool):y7:=λ x y S Q=>∃ t u,Sn S t x/\Sn S u y/\dep t<=60/\dep u<=60/\Q (.bl (cond neg (!eqT t u) (eqT t u))) S
def wX.mo {neg:Bool}:xi (wX neg):=λ _ _ _ _ _ hq ⟨t,u,a,b,c,d,h⟩=>⟨t,u,a,b,c,d,hq _ _ h⟩
def wX.fits {K:Ac}{neg:Bool}:xj K (wX neg) (jk K neg):=λ x y d e H S Q h1 h2 h3 ⟨t,u,a,b,c,c',h⟩=>⟨S,d,e,t,u,h1,h2,h3,a,b,c,c',h _ H (by simp only[ze]) (.refl H) h3⟩
section
variable {X:Cx}{a b:Expr}{ta tb:zo}{pos:Pos}
def dk (hu:X.A.units+64<cLine):zT X (compareOp .Eq) (jk X.K false):=by
 intro EV s Y H x y v u Q I rx ry h;obtain⟨S,d,e,t,u',a1,a2,a3,a4,a5,a6,a7,q⟩:=h;exact (iQ I a3 t u' (A:=X.A) (by lia) (by lia) a4 a5 a1 a2 rx ry).2.1 X.prog X.w X.xe _ ⟨.bl _,H,I,rfl,q⟩
def T5 (hu:X.A.units+64<cLine):zT X (compareOp .NotEq) (jk X.K true):=by
 intro EV s Y H x y v u Q I rx ry h;obtain⟨S,d,e,t,u',a1,a2,a3,a4,a5,a6,a7,q⟩:=h;exact (iQ I a3 t u' (A:=X.A) (by lia) (by lia) a4 a5 a1 a2 rx ry).2.2 X.prog X.w X.xe _ ⟨.bl _,H,I,rfl,q⟩
def Td {k:Nat}(hr:yd k X.A) (ha:PD X a ta) (hb:PD X b tb):PD X (.Compare a [.Eq] [b] pos) (yc (wX false) ta tb):=pY (dk hr.units) wX.fits wX.mo ha hb (tF _)
def VE {k:Nat}(hr:yd k X.A) (ha:PD X a ta) (hb:PD X b tb):xo X (.Compare a [.Eq] [b] pos) (vq (yc (wX false) ta tb)):=qu (dk hr.units) wX.fits wX.mo ha hb (tF _)
def V9 {k:Nat}(hr:yd k X.A) (ha:PD X a ta) (hb:PD X b tb):xo X (.Compare a [.NotEq] [b] pos) (vq (yc (wX true) ta tb)):=qu (T5 hr.units) wX.fits wX.mo ha hb (tF _)
def eI (K:Ac) (neg:Bool):R2:=λ x y H Q=>∃ S d e u ts ds,ze K H d x/\ze K H e y/\zE K H S/\Sn S u d/\zH e S=some ds/\zg S ts ds/\dep u<=60/\xu ts<=60/\Q (.bl (cond neg (!(ts.any λ t=>eqT t u)) (ts.any λ t=>eqT t u))) H
def ug (neg:Bool):y7:=λ x y S Q=>∃ u ts ds,Sn S u x/\zH y S=some ds/\zg S ts ds/\dep u<=60/\xu ts<=60/\Q (.bl (cond neg (!(ts.any λ t=>eqT t u)) (ts.any λ t=>eqT t u))) S
def ug.mo {neg:Bool}:xi (ug neg):=λ _ _ _ _ _ hq ⟨u,ts,ds,a,b,c,d,e,h⟩=>⟨u,ts,ds,a,b,c,d,e,hq _ _ h⟩
def ug.fits {K:Ac}{neg:Bool}:xj K (ug neg) (eI K neg):=λ x y d e H S Q h1 h2 h3 ⟨u,ts,ds,a,b,c,c',c2,h⟩=>⟨S,d,e,u,ts,ds,h1,h2,h3,a,b,c,c',c2,h _ H (by simp only[ze]) (.refl H) h3⟩
open Classical in
def uS (its:Ad) (ts:List T) (u:T) (v:Value):Bool:=if h:∃ j,its[j]?=some v then eqT (ts.getD (Classical.choose h) .zm) u else false
def iO {EV:Ag}{Y:St}{H:Hp}{s:Shared}{S:SS}(I:Inv X EV Y H s) (p:zE X.K H S) {ts:List T}{ds:List D}{xs:List V}{its:Ad}(h1:zg S ts ds) (h2:zh X.K H ds xs) (h3:Vals xs its) (u:T) {j:Nat}{v:Value}(hj:its[j]?=some v):
  uS its ts u v=eqT (ts.getD j .zm) u:=by
 have h:∃ j,its[j]?=some v:=⟨j,hj⟩
 unfold uS;rw[dif_pos h];have hc:=Classical.choose_spec h;have lt:∀ i,its[i]?=some v->i<ts.length:=λ i hi=>by
  rw[h1.length,h2.length,h3.length];exact (AM.mp hi).1
 obtain⟨c1,e1,s1⟩:=h1.get (lt _ hc);obtain⟨c2,e2,s2⟩:=h1.get (lt _ hj);obtain⟨x1,f1,r1⟩:=h2.get e1;obtain⟨x2,f2,r2⟩:=h2.get e2;obtain⟨v1,g1,q1⟩:=h3.get f1;obtain⟨v2,g2,q2⟩:=h3.get f2;rw[hc] at g1;cases g1;rw[hj] at g2;cases g2;have hx:=q1.inj q2;subst hx;rw[mf I p _ _ s1 s2 r1 r2]
def aW {EV:Ag}{Y:St}{H:Hp}{s:Shared}{S:SS}(I:Inv X EV Y H s) (p:zE X.K H S) {ts:List T}{ds:List D}{xs:List V}{its:Ad}(h1:zg S ts ds) (h2:zh X.K H ds xs) (h3:Vals xs its) (u:T):its.any (uS its ts u)=ts.any λ t=>eqT t u:=by
 have hl:ts.length=its.length:=by rw[h1.length,h2.length,h3.length]
 rw[Bs,Bk,Bk];constructor
 .rintro⟨v,hv,h⟩;obtain⟨j,hj,rfl⟩:=BI.mp hv;rw[iO I p h1 h2 h3 u (j:=j) (by simp[hj])] at h;have Gp:j<ts.length:=by lia
  exact⟨ts[j],Cc Gp,by simpa [Gp] using h⟩
 .rintro⟨t,ht,h⟩;obtain⟨j,hj,rfl⟩:=BI.mp ht;have Gp:j<its.length:=by lia
  exact⟨its[j],Cc Gp,by rw[iO I p h1 h2 h3 u (j:=j) (by simp[Gp])];simpa [hj] using h⟩
def aX {EV:Ag}{Y:St}{H:Hp}{s:Shared}{S:SS}(I:Inv X EV Y H s) (p:zE X.K H S) {ts:List T}{ds:List D}{xs:List V}{its:Ad}(h1:zg S ts ds) (h2:zh X.K H ds xs) (h3:Vals xs its) {u:T}{d:D}{x:V}{v:Value}(hu:Sn S u d) (hd:ze X.K H d x) (hx:RelV x v) {A:Around}(b1:A.units+xu ts<cLine) (b2:A.units+dep u<cLine) {y:Value}(hy:y∈its):
  SeqAt.EqAt A s y v (uS its ts u y):=by
 obtain⟨j,hj,rfl⟩:=BI.mp hy;have hjt:j<ts.length:=by rw[h1.length,h2.length,h3.length];exact hj
 rw[iO I p h1 h2 h3 u (j:=j) (by simp[hj])];obtain⟨c1,e1,s1⟩:=h1.get hjt;obtain⟨x1,f1,r1⟩:=h2.get e1;obtain⟨v1,g1,q1⟩:=h3.get f1;have:its[j]=v1:=by
  have:=AM.mp g1;exact this.2
 rw[this];have:=l6 hjt;exact (iQ I p _ u (A:=A) (by lia) b2 s1 hu r1 hd q1 hx).1
def di (hu:X.A.units+64<cLine):zT X (compareOp .In) (eI X.K false):=by
 intro EV s Y H x y v w Q I rx ry h;obtain⟨S,d,e,u,ts,ds,a1,a2,a3,a4,a5,a6,a7,a8,q⟩:=h;obtain⟨l,xs,rfl,g1,g2⟩:=zH.sq a2 a3 a5;cases ry;rcases g1 with g1 | g1
 .obtain⟨its,w1,pl,_⟩:=I.list g1;refine SeqAt.in_listAt (uS its ts u) pl.isList (λ y hy=>aX I a3 a6 g2 w1 a4 a1 rx (A:=X.A.in1) (by show X.A.units+1+_<_;lia) (by show X.A.units+1+_<_;lia) (by simpa using hy)) ⟨.bl _,H,I,rfl,?_⟩;rw[show its.toArray.any (uS its ts u)=its.any (uS its ts u) by simp,aW I a3 a6 g2 w1];exact q
 .obtain⟨its,w1,pt,_⟩:=I.tuple g1;refine SeqAt.in_tupleAt (uS its ts u) pt (λ y hy=>aX I a3 a6 g2 w1 a4 a1 rx (A:=X.A.in1) (by show X.A.units+1+_<_;lia) (by show X.A.units+1+_<_;lia) (by simpa using hy)) ⟨.bl _,H,I,rfl,?_⟩;rw[show its.toArray.any (uS its ts u)=its.any (uS its ts u) by simp,aW I a3 a6 g2 w1];exact q
def UT {k:Nat}(hr:yd k X.A) (ha:PD X a ta) (hb:PD X b tb) (hm:behindInMarks .In b=false):PD X (.Compare a [.In] [b] pos) (yc (ug false) ta tb):=pY (di hr.units) ug.fits ug.mo ha hb hm
def VD {k:Nat}(hr:yd k X.A) (ha:PD X a ta) (hb:PD X b tb) (hm:behindInMarks .In b=false):xo X (.Compare a [.In] [b] pos) (vq (yc (ug false) ta tb)):=qu (di hr.units) ug.fits ug.mo ha hb hm
end
end L3
namespace L2
open PySem PySem.Spec PyProof.Rows
section
variable {κ:Type}[DecidableEq κ]
noncomputable def xR (Aa:List (κ × V)) (k:κ):Option V:=(Aa.find? λ kv=>decide (kv.1=k)).map (·.2)
noncomputable def putK (Aa:List (κ × V)) (k:κ) (v:V):List (κ × V):=
 if (Aa.any λ kv=>decide (kv.1=k))=true then Aa.map (λ kv=>if kv.1=k then (kv.1,v) else kv) else Aa++[(k,v)]
def kL {p:κ × V}{r:List (κ × V)}{k:κ}(e:p.1=k):xR (p::r) k=some p.2:=by simp[xR,B9,e]
def kM {p:κ × V}{r:List (κ × V)}{k:κ}(e:¬ p.1=k):xR (p::r) k=xR r k:=by simp[xR,B9,e]
theorem gL (k:κ):∀ Aa:List (κ × V),(Aa.any λ kv=>decide (kv.1=k))=(xR Aa k).isSome
 | []=>rfl
 | p::r=>by
  rw[BC];by_cases e:p.1=k
  .simp only[kL e,KG e,Bool.true_or,Option.isSome_some]
  .rw[kM e,KA e,Bool.false_or];exact gL k r
def cj (Aa:List (κ × V)) (k:κ) (v:V):(putK Aa k v).length<=Aa.length+1:=by
 unfold putK;split
 .rw[AB];lia
 .rw[Cd,Bg,CZ];lia
def vN.PH {o:Option V}{u:Option Value}(r:vN o u):o.isSome=u.isSome:=by
 cases o with
 | none=>cases u with
  | none=>rfl
  | some _=>exact (show False from r).elim
 | some _=>cases u with
  | none=>exact (show False from r).elim
  | some _=>rfl
theorem vN.getD {o:Option V}{u:Option Value}{d:V}{d':Value}(r:vN o u) (rd:RelV d d'):RelV (o.getD d) (u.getD d'):=by
 cases o with
 | none=>cases u with
  | none=>exact rd
  | some _=>exact (show False from r).elim
 | some _=>cases u with
  | none=>exact (show False from r).elim
  | some _=>exact r
def KV.val {Aa:List (κ × V)}{vs:List (κ × Value)}(r:KV Aa vs) (k:κ):vN (xR Aa k) (valueAt vs k):=by
 unfold KV at r
 induction r with
 | nil=>exact True.intro
 | @cons p q ps qs h t ih=>
  obtain⟨h1,h2⟩:=h;by_cases e:p.1=k
  .have e':q.1=k:=h1.symm.trans e;have b:valueAt (q::qs) k=some q.2:=by simp[valueAt,B9,e']
   rw[kL e,b];exact h2
  .have e':¬ q.1=k:=λ z=>e (h1.trans z);have b:valueAt (q::qs) k=valueAt qs k:=by simp[valueAt,B9,e']
   rw[kM e,b];exact ih
theorem KV.any {Aa:List (κ × V)}{vs:List (κ × Value)}(r:KV Aa vs) (k:κ):(Aa.any λ kv=>decide (kv.1=k))=vs.any λ kv=>decide (kv.1=k):=by
 unfold KV at r
 induction r with
 | nil=>rfl
 | cons h t ih=>rw[BC,BC,ih,h.1]
def KV.u5 {Aa:List (κ × V)}{vs:List (κ × Value)}(r:KV Aa vs) (k:κ) {y:V}{u:Value}(ry:RelV y u):
  KV (Aa.map λ kv=>if kv.1=k then (kv.1,y) else kv) (vs.map λ kv=>if kv.1=k then (kv.1,u) else kv):=by
 unfold KV at r ⊢
 induction r with
 | nil=>exact .nil
 | @cons p q ps qs h t ih=>
  rw[Ax,Ax];refine .cons ?_ ih;obtain⟨h1,h2⟩:=h;by_cases e:p.1=k
  .rw[if_pos e,if_pos (h1.symm.trans e)];exact⟨h1,ry⟩
  .rw[if_neg e,if_neg (λ z=>e (h1.trans z))];exact⟨h1,h2⟩
def KV.put {Aa:List (κ × V)}{vs:List (κ × Value)}(r:KV Aa vs) (k:κ) {y:V}{u:Value}(ry:RelV y u):KV (putK Aa k y) (stored vs k u):=by
 unfold putK stored;rw[r.any k];by_cases e:(vs.any λ kv=>decide (kv.1=k))=true
 .rw[if_pos e,if_pos e];exact r.u5 k ry
 .rw[if_neg e,if_neg e];exact Paired.snoc r ⟨rfl,ry⟩
theorem KV.length {Aa:List (κ × V)}{vs:List (κ × Value)}(r:KV Aa vs):Aa.length=vs.length:=Paired.length r
end
def mX {P:Program}{w:World}{k:Key}{u:Value}(r:RelV (kV k) u):(we P w).is k u=true:=by
 cases k with
 | inl i=>obtain⟨t,e⟩:=(show ∃ t,u=Value.int i t from r);subst e;exact QM P w i t
 | inr x=>obtain⟨t,e⟩:=(show ∃ t,u=Value.str x t from r);subst e;exact QL P w x t
theorem cC {P:Program}{w:World}:∀ {ks:List Key}{us:Ad},Vals (ks.map kV) us->ItemsAre (we P w) ks us
 | [],_,r=>by rw[Bp] at r;cases r;exact .nil
 | k::ks,_,r=>by
  rw[Ax] at r;cases r with
  | cons h t=>exact .cons (mX h) (cC t)
abbrev KT (H:Hp):List (List Key×V)->List (List Key×Addr×Value)->Prop:=Paired λ p q=>p.1=q.1/\H q.2.1=some (.tup (p.1.map kV))/\RelV p.2 q.2.2
def KT.val {H:Hp}{Aa:List (List Key×V)}{xs:List (List Key×Addr×Value)}(r:KT H Aa xs) (k:List Key):vN (xR Aa k) ((atKey xs k).map (·.2)):=by
 induction r with
 | nil=>exact True.intro
 | @cons p q ps qs h t ih=>
  obtain⟨h1,_,h2⟩:=h;by_cases e:p.1=k
  .have e':q.1=k:=h1.symm.trans e;have b:atKey (q::qs) k=some q.2:=by simp[atKey,B9,e']
   rw[kL e,b];exact h2
  .have e':¬ q.1=k:=λ z=>e (h1.trans z);have b:atKey (q::qs) k=atKey qs k:=by simp[atKey,B9,e']
   rw[kM e,b];exact ih
def KT.u5 {H:Hp}{Aa:List (List Key×V)}{xs:List (List Key×Addr×Value)}(r:KT H Aa xs) (k:List Key) {y:V}{u:Value}(ry:RelV y u):
  KT H (Aa.map λ kv=>if kv.1=k then (kv.1,y) else kv) (xs.map (putAt k u)):=by
 induction r with
 | nil=>exact .nil
 | @cons p q ps qs h t ih=>
  rw[Ax,Ax];refine .cons ?_ ih;obtain⟨h1,h2,h3⟩:=h;unfold putAt;by_cases e:p.1=k
  .rw[if_pos e,if_pos (h1.symm.trans e)];exact⟨h1,h2,ry⟩
  .rw[if_neg e,if_neg (λ z=>e (h1.trans z))];exact⟨h1,h2,h3⟩
def KT.put {H:Hp}{Aa:List (List Key×V)}{xs:List (List Key×Addr×Value)}(r:KT H Aa xs) (k:List Key) {b:Addr}{y:V}{u:Value}(hb:H b=some (.tup (k.map kV))) (ry:RelV y u):
  KT H (putK Aa k y) (storedH xs k b u):=by
 have e:(Aa.any λ kv=>decide (kv.1=k))=(atKey xs k).isSome:=by
  rw[gL,(r.val k).PH,Option.isSome_map]
 unfold putK storedH;rw[e];by_cases q:(atKey xs k).isSome=true
 .rw[if_pos q,if_pos q];exact r.u5 k ry
 .rw[if_neg q,if_neg q];exact Paired.snoc r ⟨rfl,hb,ry⟩
def KT.keeps {H H':Hp}{Aa:List (List Key×V)}{xs:List (List Key×Addr×Value)}(r:KT H Aa xs) (ht:∀ b ys,H b=some (.tup ys)->H' b=some (.tup ys)):KT H' Aa xs:=
 Paired.mS r λ _ _ z=>⟨z.1,ht _ _ z.2.1,z.2.2⟩
section
variable {P:Program}{w:World}{H:Hp}{h:Heap}{a:Addr}
def ea {u:HO}(ok:yA P w H h) (e:Rd H a u):yE P w H h a u:=e.ok ok
def qP {Aa:List (Key×V)}(ok:yA P w H h) (e:Rd H a (.dK Aa)):Aa.length<=sizeLine/\(a == sysModules)=false/\∃ vs,KV Aa vs/\h.DictOf (we P w) a vs:=
 show yE P w H h a (.dK Aa) from ea ok e
def Nm {Aa:List (Key×V)}(ok:yA P w H h) (e:H a=some (.dK Aa)):Aa.length<=sizeLine/\(a == sysModules)=false/\∃ vs,KV Aa vs/\h.DictOf (we P w) a vs:=qP ok (.inl e)
def mV {ks:List Key}(ok:yA P w H h) (e:H a=some (.tup (ks.map kV))):(tupleKind (we P w)).is h ks a:=by
 obtain⟨_,its,r,o,h1,h2,n,h3⟩:=(show yE P w H h a (.tup (ks.map kV)) from ok a _ e)
 exact⟨o,its.toArray,n,h1,h2,h3,by simpa using cC r⟩
def oJ {Aa:List (List Key×V)}(ok:yA P w H h) (e:Rd H a (.dT Aa)):Aa.length<=sizeLine/\(a == sysModules)=false/\
  ∃ xs,KT H Aa xs/\h.DictOfH (tupleKind (we P w)) a xs:=by
 obtain⟨z,y,xs,r,o,es,ep,h1,h2,h3,h4,h5⟩:=(show yE P w H h a (.dT Aa) from ea ok e)
 refine⟨z,y,xs,r,o,es,ep,h1,h2,h3,h4,λ x hx=>?_,h5⟩;have all:∀ {l:List (List Key×V)}{m:List (List Key×Addr×Value)},KT H l m->∀ x∈m,(tupleKind (we P w)).is h x.1 x.2.1:=by
  intro l m q
  induction q with
  | nil=>intro x hx;exact nomatch hx
  | @cons p q ps qs hq t ih=>
   intro x hx;rcases Aj.mp hx with e | hx
   .subst e;exact mV ok (by rw[<- hq.1];exact hq.2.1)
   .exact ih x hx
 exact all r x hx
def Nh {Aa:List (List Key×V)}(ok:yA P w H h) (e:H a=some (.dT Aa)):Aa.length<=sizeLine/\(a == sysModules)=false/\
  ∃ xs,KT H Aa xs/\h.DictOfH (tupleKind (we P w)) a xs:=oJ ok (.inl e)
end
def se (H:Hp) (a:Addr) (y:V) (r:Option V):Prop:=
 (∃ Aa k,Rd H a (.dK Aa)/\y=kV k/\r=xR Aa k)\/∃ Aa k b,Rd H a (.dT Aa)/\y=.ref b/\H b=some (.tup (k.map kV))/\r=xR Aa k
def nZ (H:Hp) (a:Addr) (y v:V) (H':Hp):Prop:=
 (∃ Aa k,H a=some (.dK Aa)/\y=kV k/\Aa.length<sizeLine/\H'=upd H a (.dK (putK Aa k v)))\/
 ∃ Aa k b,H a=some (.dT Aa)/\y=.ref b/\H b=some (.tup (k.map kV))/\Aa.length<sizeLine/\H'=upd H a (.dT (putK Aa k v))
theorem se.k {H:Hp}{a:Addr}{Aa:List (Key×V)}{k:Key}(e:H a=some (.dK Aa)):se H a (kV k) (xR Aa k):=.inl ⟨Aa,k,.inl e,rfl,rfl⟩
theorem nZ.k {H:Hp}{a:Addr}{Aa:List (Key×V)}{k:Key}{v:V}(e:H a=some (.dK Aa)) (hl:Aa.length<sizeLine):nZ H a (kV k) v (upd H a (.dK (putK Aa k v))):=.inl ⟨Aa,k,e,rfl,hl,rfl⟩
section
variable {X:Cx}{EV:Ag}{Y:St}{H:Hp}{s:Shared}{a:Addr}{y v:V}{u r:Value}{o:Option V}{A:Around}{E:Af}
def Inv.big (I:Inv X EV Y H s):sysModules<s.heap.objs.size:=by
 have h:mainGlobals<s.heap.objs.size:=(I.mod.glob.keeps I.bk).lt;exact BJ (by decide) h
def Nw {Q:Af}(hu:A.units+1<cLine) (I:Inv X EV Y H s) (g:se H a y (some v)) (ry:RelV y u) (h:∀ w' s',Inv X EV Y H s'->RelV v w'->Q w' s'):
  wpAny (model X.prog X.w) A (getItem (.ref a) u) Q E s:=by
 rcases g with ⟨Aa,k,e,ey,l⟩ | ⟨Aa,k,b,e,ey,eb,l⟩
 .subst ey;obtain⟨z,hd,vs,rel,dd⟩:=qP I.zr e;obtain⟨w',hw,G7⟩:=vN.some_of (v:=v) (o:=valueAt vs k) (by rw[l];exact rel.val k);exact wpAny_getItem_of (mX ry) dd.mapOf hw (h w' _ (I.tok _) G7)
 .subst ey;cases (show u=Value.ref b from ry);obtain⟨z,hd,xs,rel,dd⟩:=oJ I.zr e;obtain⟨w',hw,G7⟩:=vN.some_of (v:=v) (o:=(atKey xs k).map (·.2)) (by rw[l];exact rel.val k);obtain⟨p,hp,qG⟩:=AJ.mp hw;refine wpAny_getItem_heap (tupleKind_room_in1 hu) (mV I.zr eb) dd hp ?_;rw[qG];exact h w' _ (I.tok _) G7
def bR {h':Heap}{t':Nat}{ob:HO}(I:Inv X EV Y H s) (mu:ny (H a)) (hs:Heap.SameBut a s.heap h') (he:∃ q,h'.get? a=some q) (new:yE X.prog X.w (upd H a ob) h' a ob):
  Inv X EV Y (upd H a ob) { s with heap:=h',toks:=t' }:=
 I.write (x:=a) (e:=a) mu (.inl rfl) (λ b q hb z=>(hs.2 b hb).trans z) he new
def Nn {P:Program}{w:World}{H':Hp}{h':Heap}{Aa:List (Key×V)}{vs:List (Key×Value)}(z:Aa.length<=sizeLine) (hd:(a == sysModules)=false) (rel:KV Aa vs) (dd:h'.DictOf (we P w) a vs):
  yE P w H' h' a (.dK Aa):=⟨z,hd,vs,rel,dd⟩
def Nu {H':Hp}{Q:Unit->Shared->Prop}(hu:A.units+1<cLine) (I:Inv X EV Y H s) (g:nZ H a y v H') (ry:RelV y u) (rv:RelV v r) (h:∀ s',Inv X EV Y H' s'->Q () s'):
  wpAny (model X.prog X.w) A (setItem (.ref a) u r) Q E s:=by
 rcases g with ⟨Aa,k,e,ey,l,eH⟩ | ⟨Aa,k,b,e,ey,eb,l,eH⟩
 .subst ey eH;obtain⟨z,hd,vs,rel,dd⟩:=Nm I.zr e;have hz:vs.length<=sizeLine:=by rw[<- rel.length];exact z
  have hl:(putK Aa k v).length<=sizeLine:=by have:=cj Aa k v;lia
  refine wpAny_setItem_pairs (hsz:=hz) (mX ry) dd λ h' Jw hs=>h _ ?_;have he:∃ q,h'.get? a=some q:=let ⟨q,_,_,hq,_⟩:=Jw;⟨q,hq⟩
  exact bR I (by rw[e];exact True.intro) hs he (Nn hl hd (rel.put k rv) Jw)
 .subst ey eH;cases (show u=Value.ref b from ry);obtain⟨z,hd,xs,rel,dd⟩:=Nh I.zr e;have hz:xs.length<=sizeLine:=by rw[<- Paired.length rel];exact z
  have hl:(putK Aa k v).length<=sizeLine:=by have:=cj Aa k v;lia
  refine wpAny_setItem_heap (hsz:=hz) (tupleKind_room_in1 hu) (mV I.zr eb) dd λ h' Jw hs=>h _ ?_;obtain⟨q,es,ep,hq,h2,h3,h4,_,h5⟩:=Jw;refine bR I (by rw[e];exact True.intro) hs ⟨q,hq⟩ ⟨hl,hd,_,(rel.put k eb rv).keeps λ c ys ec=>?_,q,es,ep,hq,h2,h3,h4,h5⟩;rw[ya (tG ec e (λ z=>nomatch z))];exact ec
end
section
variable {X:Cx}{EV:Ag}{Y:St}{H:Hp}{s:Shared}{a:Addr}{Aa:List (Key×V)}{A:Around}{E:Af}
def Nv {Q:Af}(I:Inv X EV Y H s) (e:Rd H a (.dK Aa)) (h:∀ t s',Inv X EV Y H s'->Q (.int Aa.length t) s'):wpAny (model X.prog X.w) A (call (.builtin "len") [.ref a]) Q E s:=by
 obtain⟨z,hd,vs,rel,dd⟩:=qP I.zr e;refine call_len_dict hd dd (by rw[<- rel.length];rw[sizeLine_eq] at z;lia) ?_;rw[<- rel.length];exact h _ _ (I.tok _)
end
def hJ (i:Expr):Prop:=∀ ov iv,subscripted i false ov iv=operate [ov,iv] (getItem ov iv)
def Xz {prog:Program}{w:World}{A:Around}{E:Af}{s:Shared}{env:Env}{value slice:Expr}{pos:Pos}{T id:String}{Q:Af}
  (hl:typeLookup (.type T) "__getitem__"=pure (some (.builtin id))) (hs:hJ slice)
  (h:wpAny (model prog w) A (eval value env) (λ o s₁=>wpAny (model prog w) A (eval slice env) (λ i s₂=>s₂.TypeIs o T/\wpAny (model prog w) A (getItem o i) Q E s₂) E s₁) E s):
  wpAny (model prog w) A (eval (.Subscript value slice pos) env) Q E s:=by
 refine Subscript_ (KH h (λ o s₁ h₁=>KH h₁ (λ i s₂ h₂=>?_) λ _ _ x=>x) λ _ _ x=>x);obtain⟨hT,h₂⟩:=h₂;unfold subscriptTail;refine JA ?_;rw[getitemInPython_of_ne hT.not_modules];refine JA (K4 hT hl ?_);have fin:wpAny (model prog w) A (subscripted slice false o i) (λ r s₃=>wpAny (model prog w) A (letTemporaryGo value o r >>= λ _=>pure r) Q E s₃) E s₂:=by
  rw[hs o i];exact wpAny_operating (KH h₂ (λ r s₃ h₃=>JA (wpAny_letTemporaryGo (Ab h₃))) λ _ _ x=>x)
 first
  | exact Ab (JA fin)
  | exact JA (Ab (JA fin))
  | exact JA fin
def Nq {X:Cx}{EV:Ag}{Y:St}{H:Hp}{s:Shared}{a:Addr}{y:V}{o:Option V}(I:Inv X EV Y H s) (g:se H a y o):s.TypeIs (.ref a) "dict":=by
 rcases g with ⟨Aa,k,e,_,_⟩ | ⟨Aa,k,b,e,_,_,_⟩
 .obtain⟨_,_,vs,_,dd⟩:=qP I.zr e;exact dd.typeIs
 .obtain⟨_,_,xs,_,dd⟩:=oJ I.zr e;exact dd.typeIs
def Xs (td ty:TE):TE:=fun Y H Q=>td Y H λ x H1=>ty Y H1 λ y H2=>∃ a v,x=.ref a/\se H2 a y (some v)/\Q v H2
def XY (td ty tv:TE):TS:=λ D Y H=>tv Y H λ v H1=>td Y H1 λ x H2=>ty Y H2 λ y H3=>∃ a H4,x=.ref a/\nZ H3 a y v H4/\D.nx Y H4
section
variable {X:Cx}{o i value:Expr}{pos pos':Pos}{td ty tv:TE}
def Vy (hu:X.A.units+1<cLine) (ho:PE X o td) (hi:PE X i ty) (hs:hJ i):PE X (.Subscript o i pos) (Xs td ty):=by
 intro EV s Y H Q I h;refine Xz PySem.F.slot_dict_getitem.lookup hs (zv (ho EV s Y H _ I h) λ u s1 ⟨x,H1,I1,rx,q1⟩=>zv (hi EV s1 Y H1 _ I1 q1) λ iv s2 ⟨y,H2,I2,ry,a,v,ex,g,q2⟩=>?_);subst ex;obtain rfl:u=Value.ref a:=rx;exact⟨Nq I2 g,Nw hu I2 g ry λ w' s3 I3 G7=>⟨v,H2,I3,G7,q2⟩⟩
def WD (hu:X.A.units+1<cLine) (ho:PE X o td) (hi:PE X i ty) (hv:PE X value tv) (hs:swapsWith value (some (.Subscript o i pos')) pos.line X.env=pure false):
  PS X (.Assign [.Subscript o i pos'] value pos) (XY td ty tv):=by
 intro EV s Y H D I h;refine wpAny_Assign_Subscript (zv (hv EV s Y H _ I h) λ r s1 ⟨v,H1,I1,rv,q1⟩=>zv (ho EV s1 Y H1 _ I1 q1) λ u s2 ⟨x,H2,I2,rx,q2⟩=>zv (hi EV s2 Y H2 _ I2 q2) λ iv s3 ⟨y,H3,I3,ry,a,H4,ex,g,q3⟩=>?_) hs;subst ex;obtain rfl:u=Value.ref a:=rx;exact Nu hu I3 g ry rv λ s4 I4=>⟨Y,H4,I4,q3⟩
end
def Np {P:Program}{w:World}{H:Hp}(h:Heap) (hb:sysModules<h.objs.size):yE P w H (h.push { cls:=.type "dict",data:=.dict #[] }) h.objs.size (.dK []):=
 ⟨AQ _,beq_eq_false_iff_ne.mpr (Ne.symm (AA hb)),[],.nil,Heap.DictOf.new h⟩
def Xq:TE:=λ _ H Q=>∀ p,H p=none->Q (.ref p) (upd H p (.dK []))
section
variable {X:Cx}{pos:Pos}
def Vv:PE X (.Dict [] [] pos) Xq:=λ EV s Y H Q I h=>
 wpAny_Dict_empty ⟨.ref s.heap.objs.size,_,I.laid (a:=s.heap.objs.size) (o:=.dK []) (t':=s.toks) (λ _ _ q=>Ky _ q) (Ah _) (Np s.heap I.big),rfl,h _ (I.zr.fresh (Ah _))⟩
end
structure M2 (X:Cx) (o:Expr) (m:Str) (apos:Pos) (e f:Expr) (Ae:Pos):Prop where
 base:attributeBase o m X.env (eval o X.env)=eval o X.env
 oB:((backTo Ae (starEach [e,f] X.env)).all (λ x=>!x.1)&&(backToKw Ae (keywordEach [] X.env)).all (λ x=>x.1.isSome)
  && decide (([e,f]:List Expr).length+([]:List Keyword).length+(if ([]:List Keyword).isEmpty then 0 else 1)<30))=true
 line:(apos.endLine == Ae.line)=true
 trees:backTo Ae (starEach [e,f] X.env)=[(false,eval e X.env),(false,eval f X.env)]
def Zm (H:Hp) (a:Addr):Prop:=(∃ Aa,Rd H a (.dK Aa))\/∃ Aa,Rd H a (.dT Aa)
def PM {X:Cx}{EV:Ag}{Y:St}{H:Hp}{s:Shared}{a:Addr}(I:Inv X EV Y H s) (d:Zm H a):
  s.TypeIs (.ref a) "dict"/\(∀ b,Value.ref a=.ref b->∃ ob,s.heap.get? b=some ob/\ob.dict=none)/\(a == sysModules)=false:=by
 rcases d with ⟨Aa,e⟩ | ⟨Aa,e⟩
 .obtain⟨_,hd,vs,_,dd⟩:=qP I.zr e;refine⟨dd.typeIs,λ b q=>?_,hd⟩;cases q;obtain⟨ob,_,_,h1,h2,_⟩:=dd;exact⟨ob,h1,h2.2.1⟩
 .obtain⟨_,hd,xs,_,dd⟩:=oJ I.zr e;refine⟨dd.typeIs,λ b q=>?_,hd⟩;cases q;obtain⟨ob,_,_,h1,h2,_⟩:=dd;exact⟨ob,h1,h2.2.1⟩
section
variable {X:Cx}{EV:Ag}{Y:St}{H:Hp}{s:Shared}{a:Addr}{y d:V}{u r:Value}{o:Option V}{A:Around}{E:Af}
def Nx {Q:Af}(hu:A.units+1<cLine) (I:Inv X EV Y H s) (g:se H a y o) (ry:RelV y u) (rd:RelV d r) (h:∀ w' s',Inv X EV Y H s'->RelV (o.getD d) w'->Q w' s'):
  wpAny (model X.prog X.w) A (call (.builtin "dict.get") [.ref a,u,r]) Q E s:=by
 rcases g with ⟨Aa,k,e,ey,l⟩ | ⟨Aa,k,b,e,ey,eb,l⟩
 .subst ey;obtain⟨z,hd,vs,rel,dd⟩:=qP I.zr e;refine call_meetsIn PySem.F.slot_dict_get dd.typeIs PySem.F.entry_dict_get (PySem.F.args_dict_get_3 _ _ _) (meets_dict_get_default (we X.prog X.w) a (mX ry) hd r) ⟨_,dd.mapOf,h _ _ (I.tok _) ?_⟩;rw[l];exact (rel.val k).getD rd
 .subst ey;cases (show u=Value.ref b from ry);obtain⟨z,hd,xs,rel,dd⟩:=oJ I.zr e;refine call_meetsIn PySem.F.slot_dict_get dd.typeIs PySem.F.entry_dict_get (PySem.F.args_dict_get_3 _ _ _) (meetsH_dict_get_default (tupleKind (we X.prog X.w)) a b hd r) ⟨tupleKind_room_in1 hu,k,xs,mV I.zr eb,dd,h _ _ (I.tok _) ?_⟩;rw[l];exact (rel.val k).getD rd
end
def Xr (td ty tx:TE):TE:=fun Y H Q=>td Y H λ x H1=>∃ a,x=.ref a/\Zm H1 a/\ty Y H1 λ y H2=>tx Y H2 λ z H3=>∃ o,se H3 a y o/\Q (o.getD z) H3
section
variable {X:Cx}{o e f:Expr}{apos Ae:Pos}{td ty tx:TE}
def Vx (hu:X.A.units+1<cLine) (ho:PE X o td) (he:PE X e ty) (hf:PE X f tx) (m:M2 X o "get" apos e f Ae):PE X (.Call (.Attribute o "get" apos) [e,f] [] Ae) (Xr td ty tx):=by
 intro EV s Y H Q I h;refine wpAny_Call_method m.base m.oB m.line PySem.F.plainAttrs_dict PySem.F.slot_dict_get PySem.F.type_dict_get (zv (ho EV s Y H _ I h) λ u s1 ⟨x,H1,I1,rx,a,ex,d,q1⟩=>?_);subst ex;obtain rfl:u=Value.ref a:=rx;obtain⟨t1,t2,_⟩:=PM I1 d;refine⟨t1,t2,?_⟩;rw[m.trees];refine Calls.callWith_builtin rfl (Calls.evalArgs_plain (Calls.spliced_cons (zv (he EV s1 Y H1 _ I1 q1) λ iv s2 ⟨y,H2,I2,ry,q2⟩=>
  Calls.spliced_cons (zv (hf EV s2 Y H2 _ I2 q2) λ fv s3 ⟨z,H3,I3,rz,ov,g,q3⟩=>Calls.spliced_nil ?_))))
 exact Nx hu I3 g ry rz λ w' s4 I4 G7=>⟨_,H3,I4,G7,q3⟩
end
end L2
namespace L3
open PySem PySem.Spec L2
open PyProof.Rows hiding St
noncomputable def v8 (Aa:List (Key×D)) (k:Key):Option D:=(Aa.find? λ kv=>decide (kv.1=k)).map (·.2)
noncomputable def putD (Aa:List (Key×D)) (k:Key) (v:D):List (Key×D):=
 if (Aa.any λ kv=>decide (kv.1=k))=true then Aa.map (λ kv=>if kv.1=k then (kv.1,v) else kv) else Aa++[(k,v)]
section
variable {K:Ac}{H:Hp}
theorem yJ.val:∀ {Aa:List (Key×D)}{vs:List (Key×V)},yJ K H Aa vs->∀ k,(v8 Aa k=none/\xR vs k=none)\/∃ d v,v8 Aa k=some d/\xR vs k=some v/\ze K H d v
 | _,_,.nil,k=>.inl ⟨rfl,rfl⟩
 | (a,d)::Aa,(b,v)::vs,.cons ⟨e,r⟩ t,k=>by
  have e':a=b:=e;subst e';by_cases h:a=k
  .subst h;exact .inr ⟨d,v,by simp[v8],by simp[xR],r⟩
  .rcases yJ.val t k with ⟨h1,h2⟩ | ⟨d',v',h1,h2,h3⟩
   .exact .inl ⟨by simpa [v8,h] using h1,by simpa [xR,h] using h2⟩
   .exact .inr ⟨d',v',by simpa [v8,h] using h1,by simpa [xR,h] using h2,h3⟩
theorem yJ.any {Aa:List (Key×D)}{vs:List (Key×V)}(h:yJ K H Aa vs) (k:Key):(Aa.any λ kv=>decide (kv.1=k))=vs.any λ kv=>decide (kv.1=k):=by
 induction h with
 | nil=>rfl
 | cons r _ ih=>rw[BC,BC,ih,r.1]
def yJ.len {Aa:List (Key×D)}{vs:List (Key×V)}(h:yJ K H Aa vs):Aa.length=vs.length:=Paired.length h
theorem yJ.u5 {k:Key}{d:D}{v:V}(r:ze K H d v):∀ {Aa:List (Key×D)}{vs:List (Key×V)},yJ K H Aa vs->yJ K H (Aa.map λ kv=>if kv.1=k then (kv.1,d) else kv) (vs.map λ kv=>if kv.1=k then (kv.1,v) else kv)
 | _,_,.nil=>.nil
 | (a1,a2)::_,(b1,b2)::_,.cons ⟨e,q⟩ t=>by
  have e':a1=b1:=e;subst e';refine .cons ?_ (yJ.u5 r t);by_cases hk:a1=k
  .simp[hk,r]
  .simpa [hk] using q
theorem yJ.snoc {k:Key}{d:D}{v:V}(r:ze K H d v):∀ {Aa:List (Key×D)}{vs:List (Key×V)},yJ K H Aa vs->yJ K H (Aa++[(k,d)]) (vs++[(k,v)])
 | _,_,.nil=>.cons ⟨rfl,r⟩ .nil
 | _,_,.cons q t=>.cons q (yJ.snoc r t)
def yJ.put {Aa:List (Key×D)}{vs:List (Key×V)}(h:yJ K H Aa vs) (k:Key) {d:D}{v:V}(r:ze K H d v):yJ K H (putD Aa k d) (putK vs k v):=by
 unfold putD putK;rw[h.any k];split
 .exact yJ.u5 r h
 .exact yJ.snoc r h
end
section
variable {X:Cx}{o i e f v:Expr}{td ty tx tv:zo}{pos pos' apos Ae:Pos}
def ag:zo:=λ _ S Q=>∀ p,S p=none->Q (.ref p) (ups S p (.zS []))
def Tg:PD X (.Dict [] [] pos) ag:=by
 refine⟨λ _ _ _ _ hq z p hp=>hq _ _ (z p hp),PE.imp Vv fun Y H Q hu p hp=>?_⟩;obtain⟨L,S,r1,r2,z⟩:=hu;exact z p (r2.none hp) _ _ (by simp only[ze]) (.new hp _) (r2.ups (.new hp _) ⟨[],yr,.nil⟩)
def aj (td ty:zo):zo:=fun L S Q=>td L S λ x S1=>ty L S1 λ y S2=>∃ p Aa k d,x=.ref p/\y=.int k/\S2 p=some (.zS Aa)/\v8 Aa (.inl k)=some d/\Q d S2
def Tf {k:Nat}(hr:yd k X.A) (ho:PD X o td) (hi:PD X i ty) (hs:hJ i):PD X (.Subscript o i pos) (aj td ty):=by
 refine⟨fun L S Q Q' hq z=>ho.mo L S _ _ (λ x S1 z=>hi.mo L S1 _ _ (λ y S2 ⟨p,Aa,k,d,a,b,c,e,h⟩=>⟨p,Aa,k,d,a,b,c,e,hq _ _ h⟩) z) z,PE.imp (Vy (jL hr) ho.pe hi.pe hs) fun Y H Q hu=>?_⟩;obtain⟨L,S,r1,r2,z⟩:=hu;refine zC.go ho.mo r1 r2 z λ x S1 w H1 h1 q1 e1 p1=>?_;refine zC.go hi.mo (r1.ext e1) p1 h1 λ y S2 w2 H2 h2 q2 e2 p2=>?_;obtain⟨p,Aa,k,d,rfl,rfl,c1,c2,h⟩:=h2;simp only[ze] at q1 q2;subst q1 q2;obtain⟨vs,g1,g2⟩:=p2 _ _ c1;rcases yJ.val g2 (.inl k) with ⟨n1,_⟩ | ⟨d',v',n1,n2,n3⟩
 .rw[c2] at n1;cases n1
 .rw[c2] at n1;cases n1;exact⟨p,v',rfl,n2▸se.k (k:=Sum.inl k) g1,h v' H2 n3 (e1.trans e2) p2⟩
def ai (td ty tx:zo):zo:=fun L S Q=>td L S λ x S1=>∃ p,x=.ref p/\(∃ Aa,S1 p=some (.zS Aa))/\ty L S1 λ y S2=>tx L S2 λ z S3=>∃ k Aa,y=.int k/\S3 p=some (.zS Aa)/\Q ((v8 Aa (.inl k)).getD z) S3
def Th {k:Nat}(hr:yd k X.A) (ho:PD X o td) (he:PD X e ty) (hf:PD X f tx) (m:M2 X o "get" apos e f Ae):PD X (.Call (.Attribute o "get" apos) [e,f] [] Ae) (ai td ty tx):=by
 refine⟨fun L S Q Q' hq z=>ho.mo L S _ _ (λ x S1 ⟨p,a,b,z⟩=>⟨p,a,b,he.mo L S1 _ _ (λ y S2 z=>hf.mo L S2 _ _ (λ w S3 ⟨k,Aa,a,b,h⟩=>⟨k,Aa,a,b,hq _ _ h⟩) z) z⟩) z,PE.imp (Vx (jL hr) ho.pe he.pe hf.pe m) fun Y H Q hu=>?_⟩;obtain⟨L,S,r1,r2,z⟩:=hu;refine zC.go ho.mo r1 r2 z λ x S1 w H1 h1 q1 e1 p1=>?_;obtain⟨p,rfl,⟨kvs0,c0⟩,h1⟩:=h1;simp only[ze] at q1;subst q1;obtain⟨vs0,g0,_⟩:=p1 _ _ c0;refine⟨p,rfl,.inl ⟨vs0,.inl g0⟩,?_⟩;refine zC.go he.mo (r1.ext e1) p1 h1 λ y S2 w2 H2 h2 q2 e2 p2=>?_;refine zC.go hf.mo ((r1.ext e1).ext e2) p2 h2 λ y3 S3 w3 H3 h3 q3 e3 p3=>?_;obtain⟨k,Aa,rfl,c1,h⟩:=h3;simp only[ze] at q2;subst q2;obtain⟨vs,g1,g2⟩:=p3 _ _ c1;refine⟨xR vs (.inl k),se.k (k:=Sum.inl k) g1,?_⟩;rcases yJ.val g2 (.inl k) with ⟨n1,n2⟩ | ⟨d',v',n1,n2,n3⟩
 .rw[n1] at h;rw[n2];exact h _ H3 q3 ((e1.trans e2).trans e3) p3
 .rw[n1] at h;rw[n2];exact h _ H3 n3 ((e1.trans e2).trans e3) p3
def ah (td ty tv:zo):y4:=λ E L S=>tv L S λ v S1=>td L S1 λ x S2=>ty L S2 λ y S3=>∃ p Aa k,x=.ref p/\y=.int k/\S3 p=some (.zS Aa)/\Aa.length<sizeLine/\E.nx L (ups S3 p (.zS (putD Aa (.inl k) v)))
theorem Ext.dK {H:Hp}{p:Addr}{Aa:List (Key×V)}(h:H p=some (.dK Aa)) (o:HO):Ext H (upd H p o):=
 ⟨λ b ys q=>by rw[ya (tG q h (by intro z;cases z))];exact q,λ b ob u q=>by rw[ya (tG q h (by intro z;cases z))];exact q,λ b u q=>by rw[ya (tG q h (by intro z;cases z))];exact q,λ b u q=>by rw[ya (tG q h (by intro z;cases z))];exact q⟩
def VV {k:Nat}(hr:yd k X.A) (ho:PD X o td) (hi:PD X i ty) (hv:PD X v tv) (hs:swapsWith v (some (.Subscript o i pos')) pos.line X.env=pure false):xQ X (.Assign [.Subscript o i pos'] v pos) (ah td ty tv):=by
 refine⟨λ E E' L S hE z=>hv.mo L S _ _ (λ w S1 z=>ho.mo L S1 _ _ (λ x S2 z=>hi.mo L S2 _ _ (λ y S3 ⟨p,Aa,k,a,b,c,d,h⟩=>⟨p,Aa,k,a,b,c,d,hE.nx _ _ h⟩) z) z) z,PS.imp (WD (jL hr) ho.pe hi.pe hv.pe hs) λ D Y H hu=>?_⟩;obtain⟨L,S,r1,r2,z⟩:=hu;refine zC.go hv.mo r1 r2 z λ w S1 w1 H1 h1 q1 e1 p1=>?_;refine zC.go ho.mo (r1.ext e1) p1 h1 λ x S2 w2 H2 h2 q2 e2 p2=>?_;refine zC.go hi.mo ((r1.ext e1).ext e2) p2 h2 λ y S3 w3 H3 h3 q3 e3 p3=>?_;obtain⟨p,Aa,k,rfl,rfl,c1,c2,h⟩:=h3;simp only[ze] at q2 q3;subst q2 q3;obtain⟨vs,g1,g2⟩:=p3 _ _ c1;have e4:Ext H3 (upd H3 p (.dK (putK vs (.inl k) w1))):=.dK g1 _;refine⟨p,_,rfl,nZ.k (k:=Sum.inl k) g1 (by rw[<- g2.len];exact c2),?_⟩;exact h Y _ ((((r1.ext e1).ext e2).ext e3).ext e4) (((e1.trans e2).trans e3).trans e4) (p3.ups e4 ⟨_,yr,(yJ.put g2 _ (ze.ext (e2.trans e3) w q1)).ext e4⟩)
def NY:yC X (.builtin "len") (λ xs H Q=>∃ p Aa,xs=[.ref p]/\H p=some (.dK Aa)/\Q (.int Aa.length) H):=by
 intro EV s Y H xs us Q I r h;obtain⟨p,Aa,rfl,e,q⟩:=h;obtain⟨u,rfl,ru⟩:=vals1 r;cases ru;exact Nv I (.inl e) λ t s' I'=>⟨.int _,H,I',⟨_,rfl⟩,q⟩
def b7:xn:=λ ds S Q=>∃ p Aa,ds=[.ref p]/\S p=some (.zS Aa)/\Q (.int Aa.length) S
def Te {es:List Expr}{tA:z_}{p:Pos}(hm:X.mg "len"=none) (ha:yZ X (e::es) tA) (hg:Gl X "len") (he:starEach (e::es) X.env=(false,eval e X.env)::starEach es X.env) (Aq:(backTo pos (starEach es X.env)).any (·.1)=false):PD X (.Call (.Name "len" p) (e::es) [] pos) (xv b7 tA):=
 u6 (t9 NY hg hm PySem.boot_len ha.pa (by decide) (by decide) he Aq) (λ _ _ _ _ hq ⟨p,Aa,a,b,h⟩=>⟨p,Aa,a,b,hq _ _ h⟩) (λ xs ds H S Q h0 h2 ⟨p,Aa,a,b,h⟩=>by
  subst a;obtain⟨x,rfl,h1⟩:=h0.one;simp only[ze] at h1;subst h1;obtain⟨vs,g1,g2⟩:=h2 _ _ b;refine⟨p,vs,rfl,g1,?_⟩;rw[<- g2.len];exact h _ H (by simp only[ze]) (.refl H) h2) ha.mo
end
end L3
namespace L3
open PySem L2
section
variable {S S':SS}
mutual
theorem Sn.sx (h:Sx S S'):∀ (t:T) {d:D},Sn S t d->Sn S' t d
 | .zm,d,q=>by simpa only [Sn] using q
 | .bl b,d,q=>by simpa only [Sn] using q
 | .int i,d,q=>by simpa only [Sn] using q
 | .str x,d,q=>by simpa only [Sn] using q
 | .tup ts,d,q=>by
  simp only[Sn] at q ⊢;obtain⟨ds,q1,q2⟩:=q;exact⟨ds,q1,zg.sx h ts q2⟩
 | .lst ts,d,q=>by
  simp only[Sn] at q ⊢;obtain⟨ds,q1,q2⟩:=q;refine⟨ds,?_,zg.sx h ts q2⟩;rcases q1 with q1 | ⟨a,q1,q3⟩
  .exact .inl q1
  .exact .inr ⟨a,q1,h _ _ q3⟩
 | .err _ _ t,d,q=>by
  simp only[Sn] at q ⊢;obtain⟨x,q1,q2⟩:=q;exact⟨x,q1,Sn.sx h t q2⟩
 | .yR,d,q=>by
  simp only[Sn] at q ⊢;obtain⟨a,Aa,q1,q2⟩:=q;exact⟨a,Aa,q1,h _ _ q2⟩
theorem zg.sx (h:Sx S S'):∀ (ts:List T) {ds:List D},zg S ts ds->zg S' ts ds
 | [],ds,q=>by simpa only [zg] using q
 | t::ts,ds,q=>by
  simp only[zg] at q ⊢;obtain⟨c,cs,q1,q2,q3⟩:=q;exact⟨c,cs,q1,Sn.sx h t q2,zg.sx h ts q3⟩
end
def zg.nil:zg S [] []:=by simp only[zg]
def zg.cons {t:T}{ts:List T}{d:D}{ds:List D}(h:Sn S t d) (h':zg S ts ds):zg S (t::ts) (d::ds):=by
 simp only[zg];exact⟨d,ds,rfl,h,h'⟩
theorem zg.append:∀ {ts us:List T}{ds es:List D},zg S ts ds->zg S us es->zg S (ts++us) (ds++es)
 | [],us,ds,es,h,h'=>by simp only[zg] at h;subst h;simpa using h'
 | t::ts,us,ds,es,h,h'=>by
  simp only[zg] at h;obtain⟨c,cs,rfl,h1,h2⟩:=h;exact zg.cons h1 (zg.append h2 h')
theorem zg.o5:∀ {ts:List T}{ds:List D}{i:Nat}{t:T},zg S ts ds->ts[i]?=some t->∃ d,ds[i]?=some d/\Sn S t d
 | [],_,i,t,_,e=>by simp at e
 | u::ts,ds,i,t,h,e=>by
  simp only[zg] at h;obtain⟨c,cs,rfl,h1,h2⟩:=h;cases i with
  | zero=>simp at e;subst e;exact⟨c,rfl,h1⟩
  | succ i=>
   obtain⟨y,e1,e2⟩:=zg.o5 (i:=i) h2 (by simpa using e);exact⟨y,by simpa using e1,e2⟩
theorem zg.jW:∀ {ts:List T}{ds:List D}{i:Nat}{d:D},zg S ts ds->ds[i]?=some d->∃ t,ts[i]?=some t/\Sn S t d
 | [],ds,i,t,h,e=>by simp only[zg] at h;subst h;simp at e
 | u::ts,ds,i,t,h,e=>by
  simp only[zg] at h;obtain⟨c,cs,rfl,h1,h2⟩:=h;cases i with
  | zero=>simp at e;subst e;exact⟨u,rfl,h1⟩
  | succ i=>
   obtain⟨y,e1,e2⟩:=zg.jW (i:=i) h2 (by simpa using e);exact⟨y,by simpa using e1,e2⟩
def zg.len {ts:List T}{ds:List D}(h:zg S ts ds):ds.length=ts.length:=(L3.zg.length h).symm
theorem zg.at {ts:List T}{ds:List D}{i:Int}{t:T}(h:zg S ts ds) (e:L2.zL ts i=some t):∃ d,L2.zL ds i=some d/\Sn S t d:=by
 unfold L2.zL at e ⊢;rw[h.len];cases q:L2.wA ts.length i with
 | none=>rw[q] at e;cases e
 | some j=>
  rw[q] at e;exact h.o5 e
theorem zg.fN:∀ {ts:List T}{ds:List D}{t:T}{d:D}(i:Nat),zg S ts ds->Sn S t d->zg S (ts.set i t) (ds.set i d)
 | [],ds,t,d,i,h,_=>by simp only[zg] at h;subst h;simpa using zg.nil
 | u::ts,ds,t,d,0,h,hd=>by
  simp only[zg] at h;obtain⟨c,cs,rfl,h1,h2⟩:=h;exact zg.cons hd h2
 | u::ts,ds,t,d,i+1,h,hd=>by
  simp only[zg] at h;obtain⟨c,cs,rfl,h1,h2⟩:=h;exact zg.cons h1 (zg.fN i h2 hd)
theorem zg.take':∀ {ts:List T}{ds:List D}(n:Nat),zg S ts ds->zg S (ts.take n) (ds.take n)
 | ts,ds,0,h=>by simpa using zg.nil
 | [],ds,n+1,h=>by simp only[zg] at h;subst h;simpa using zg.nil
 | t::ts,ds,n+1,h=>by
  simp only[zg] at h;obtain⟨c,cs,rfl,h1,h2⟩:=h;exact zg.cons h1 (zg.take' n h2)
theorem zg.drop':∀ {ts:List T}{ds:List D}(n:Nat),zg S ts ds->zg S (ts.drop n) (ds.drop n)
 | ts,ds,0,h=>h
 | [],ds,n+1,h=>by simp only[zg] at h;subst h;simpa using zg.nil
 | t::ts,ds,n+1,h=>by
  simp only[zg] at h;obtain⟨c,cs,rfl,h1,h2⟩:=h;exact zg.drop' n h2
def zg.empty {ts:List T}{ds:List D}(h:zg S ts ds):ds.isEmpty=ts.isEmpty:=by
 have:=h.len;cases ds <;> cases ts <;> simp_all
theorem zg.aI:∀ {bs:List Bool}{ds:List D},zg S (bs.map T.bl) ds->ds=bs.map D.bl
 | [],ds,h=>by simpa only [Bp,zg] using h
 | b::bs,ds,h=>by
  rw[Ax] at h;simp only[zg,Sn] at h;obtain⟨c,cs,rfl,rfl,h3⟩:=h;rw[zg.aI h3];rfl
end
end L3
namespace L5
open PySem L2 L3
noncomputable def zI (S:SS) (Z:Addr->Prop):SS:=open Classical in λ a=>if Z a then none else S a
section
variable {S S':SS}{Z Z':Addr->Prop}{a p:Addr}
def vE (h:¬ Z a):zI S Z a=S a:=if_neg h
def jM (h:Z a):zI S Z a=none:=if_pos h
def uE {o:O}(h:zI S Z a=some o):¬ Z a/\S a=some o:=by
 by_cases z:Z a
 .rw[jM z] at h;cases h
 .rw[vE z] at h;exact⟨z,h⟩
def lg (S:SS) (Z:Addr->Prop):Sx (zI S Z) S:=λ _ _ h=>(uE h).2
def xW (h:Sx S S'):Sx (zI S Z) (zI S' Z):=λ b o q=>by
 obtain⟨q1,q2⟩:=uE q;rw[vE q1];exact h _ _ q2
def uF (h:∀ a,Z' a->Z a):Sx (zI S Z) (zI S Z'):=λ b o q=>by
 obtain⟨q1,q2⟩:=uE q;rw[vE (λ z=>q1 (h _ z))];exact q2
def qH (h:Sx S S') (hp:S p=none):Sx (zI S Z) (zI S' λ a=>Z a\/a=p):=λ b o q=>by
 obtain⟨q1,q2⟩:=uE q;rw[vE]
 .exact h _ _ q2
 .rintro (z | z)
  .exact q1 z
  .subst z;rw[hp] at q2;cases q2
def cY {o:O}(h:Z p):zI (ups S p o) Z=zI S Z:=by
 funext b;by_cases z:Z b
 .rw[jM z,jM z]
 .rw[vE z,vE z,ur (λ e=>z (by rw[e];exact h))]
end
inductive C where
 | lst (ts:List T) | zS (Aa:List (Key×T))
noncomputable def yp (S:SS):List (Key×T)->List (Key×D)->Prop
 | [],l=>l=[]
 | (k,t)::r,l=>∃ d m,l=(k,d)::m/\Sn S t d/\yp S r m
theorem yp.sx {S S':SS}(h:Sx S S'):∀ {a:List (Key×T)}{b:List (Key×D)},yp S a b->yp S' a b
 | [],_,q=>q
 | (k,t)::r,_,q=>by
  obtain⟨d,m,q1,q2,q3⟩:=q;exact⟨d,m,q1,Sn.sx h t q2,yp.sx h q3⟩
noncomputable def uT (S:SS):C->O->Prop
 | .lst ts,.lst ds=>zg S ts ds
 | .zS a,.zS b=>yp S a b
 | _,_=>False
theorem uT.sx {S S':SS}(h:Sx S S'):∀ {c:C}{o:O},uT S c o->uT S' c o
 | .lst ts,.lst ds,q=>zg.sx h ts q
 | .zS a,.zS b,q=>yp.sx h q
inductive W where
 | im (t:T) | own (c:C)
abbrev Ev:=List (Option W)
structure ER (S:SS) (Z:Addr->Prop) (L:zY) (J:Ev):Prop where
 zd:∀ a,Z a->S a≠none
 im:∀ (i:Nat) t,J[i]?=some (some (.im t))->∃ d,L[i]?=some (some d)/\Sn (zI S Z) t d
 ow:∀ (i:Nat) c,J[i]?=some (some (.own c))->∃ p o,L[i]?=some (some (.ref p))/\S p=some o/\uT (zI S Z) c o/\Z p
def Vw (S:SS) (Z:Addr->Prop) (y:T) (d:D):Prop:=Sn (zI S Z) y d\/∃ ts p ds,y=.lst ts/\d=.ref p/\S p=some (.lst ds)/\zg (zI S Z) ts ds/\Z p
abbrev Rk:=SS->SS->(Addr->Prop)->T->D->Prop
def Zb:Rk:=λ _ S' Z y d=>Vw S' Z y d
def xm:Rk:=λ _ S' Z y d=>Sn (zI S' Z) y d
def zA:Rk:=λ S S' Z y d=>Sn (zI S' Z) y d/\∀ ts,y=.lst ts->∃ p ds,d=.ref p/\S p=none/\S' p=some (.lst ds)/\zg (zI S' λ a=>Z a\/a=p) ts ds
class Cl (R:Rk):Prop where
 cl:∀ {S S1 S':SS}{Z:Addr->Prop}{y:T}{d:D},Sx S S1->R S1 S' Z y d->R S S' Z y d
 of:∀ {S S':SS}{Z:Addr->Prop}{y:T}{d:D},(∀ ts,y≠.lst ts)->Sn (zI S' Z) y d->R S S' Z y d
instance:Cl Zb:=⟨λ _ h=>h,λ _ h=>.inl h⟩
instance:Cl xm:=⟨λ _ h=>h,λ _ h=>h⟩
instance:Cl zA:=⟨λ s h=>⟨h.1,λ ts e=>by
 obtain⟨p,ds,h1,h2,h3⟩:=h.2 ts e;exact⟨p,ds,h1,s.none h2,h3⟩⟩,λ n h=>⟨h,λ ts e=>absurd e (n ts)⟩⟩
section
variable {S S':SS}{Z:Addr->Prop}{L:zY}{J:Ev}{y:T}{d:D}
def ER.grow (h:ER S Z L J) (s:Sx S S'):ER S' Z L J:=
 ⟨λ a z q=>h.zd a z (s.none q),λ i t e=>by
  obtain⟨d,h1,h2⟩:=h.im i t e;exact⟨d,h1,Sn.sx (xW s) t h2⟩,λ i ts e=>by
  obtain⟨p,ds,h1,h2,h3,h4⟩:=h.ow i ts e;exact⟨p,ds,h1,s _ _ h2,uT.sx (xW s) h3,h4⟩⟩
def Vw.grow (h:Vw S Z y d) (s:Sx S S'):Vw S' Z y d:=by
 rcases h with h | ⟨ts,p,ds,h1,h2,h3,h4,h5⟩
 .exact .inl (Sn.sx (xW s) y h)
 .exact .inr ⟨ts,p,ds,h1,h2,s _ _ h3,zg.sx (xW s) ts h4,h5⟩
def Vw.sn (h:Vw S Z y d):Sn S y d:=by
 rcases h with h | ⟨ts,p,ds,rfl,rfl,h3,h4,_⟩
 .exact Sn.sx (lg S Z) y h
 .simp only[Sn];exact⟨ds,.inr ⟨p,rfl,h3⟩,zg.sx (lg S Z) ts h4⟩
theorem Vw.zm (h:Vw S Z .zm d):d=.zm:=by
 rcases h with h | ⟨_,_,_,h,_⟩
 .simpa only [Sn] using h
 .cases h
theorem Vw.bl {b:Bool}(h:Vw S Z (.bl b) d):d=.bl b:=by
 rcases h with h | ⟨_,_,_,h,_⟩
 .simpa only [Sn] using h
 .cases h
theorem Vw.int {b:Int}(h:Vw S Z (.int b) d):d=.int b:=by
 rcases h with h | ⟨_,_,_,h,_⟩
 .simpa only [Sn] using h
 .cases h
theorem Vw.str {b:Str}(h:Vw S Z (.str b) d):d=.str b:=by
 rcases h with h | ⟨_,_,_,h,_⟩
 .simpa only [Sn] using h
 .cases h
theorem Vw.tup {ts:List T}(h:Vw S Z (.tup ts) d):∃ ds,d=.tup ds/\zg (zI S Z) ts ds:=by
 rcases h with h | ⟨_,_,_,h,_⟩
 .simpa only [Sn] using h
 .cases h
theorem Vw.lst {ts:List T}(h:Vw S Z (.lst ts) d):∃ ds,(d=.xy ds\/∃ a,d=.ref a/\S a=some (.lst ds))/\zg (zI S Z) ts ds:=by
 rcases h with h | ⟨us,p,ds,h1,h2,h3,h4,_⟩
 .simp only[Sn] at h;obtain⟨ds,h1,h2⟩:=h;refine⟨ds,?_,h2⟩;rcases h1 with h1 | ⟨a,h1,h3⟩
  .exact .inl h1.1
  .exact .inr ⟨a,h1,(uE h3).2⟩
 .cases h1;exact⟨ds,.inr ⟨p,h2,h3⟩,h4⟩
noncomputable def xE:T->Option (List T)
 | .tup ts=>some ts
 | .lst ts=>some ts
 | _=>none
@[simp] theorem fO (ts:List T):xE (.tup ts)=some ts:=rfl
@[simp] theorem fP (ts:List T):xE (.lst ts)=some ts:=rfl
def Vw.seq {ts:List T}(h:Vw S Z y d) (e:xE y=some ts):∃ ds,zH d S=some ds/\zg (zI S Z) ts ds:=by
 cases y with
 | tup us=>cases e;obtain⟨ds,rfl,h2⟩:=h.tup;exact⟨ds,rfl,h2⟩
 | lst us=>
  cases e;obtain⟨ds,h1 | ⟨a,rfl,h1⟩,h2⟩:=h.lst
  .subst h1;exact⟨ds,rfl,h2⟩
  .exact⟨ds,by unfold zH;dsimp only;rw[h1],h2⟩
 | _=>cases e
theorem Vw.yR (h:Vw S Z .yR d):∃ a Aa,(d=.ref a/\Aa=[])/\S a=some (.zS Aa):=by
 rcases h with h | ⟨_,_,_,h,_⟩
 .simp only[Sn] at h;obtain⟨a,Aa,h1,h2⟩:=h;exact⟨a,Aa,h1,(uE h2).2⟩
 .cases h
def fF:Sn S .zm .zm:=by simp only[Sn]
def wL {b:Bool}:Sn S (.bl b) (.bl b):=by simp only[Sn]
def xD {i:Int}:Sn S (.int i) (.int i):=by simp only[Sn]
def fE {x:Str}:Sn S (.str x) (.str x):=by simp only[Sn]
def sy {ts:List T}{ds:List D}(h:zg S ts ds):Sn S (.tup ts) (.tup ds):=by simp only[Sn];exact⟨ds,rfl,h⟩
def uz {ts:List T}{ds:List D}{p:Addr}(hz:∀ a,Z a->S a≠none) (hp:S p=none) (h:zg (zI S Z) ts ds):zA S (ups S p (.lst ds)) Z (.lst ts) (.ref p):=by
 have nz:¬ Z p:=λ z=>hz p z hp;have s:Sx S (ups S p (.lst ds)):=.new hp _;refine⟨?_,λ us e=>?_⟩
 .simp only[Sn];exact⟨ds,.inr ⟨p,rfl,by rw[vE nz,tj]⟩,zg.sx (xW s) ts h⟩
 .cases e;exact⟨p,ds,rfl,hp,tj,zg.sx (qH s hp) ts h⟩
end
def xp (R:Rk) (f:Ev->Option T) (t:zo):Prop:=∀ S Z L J y Q,ER S Z L J->f J=some y->(∀ d S',Sx S S'->R S S' Z y d->Q d S')->t L S Q
abbrev wZ:=xp xm
abbrev yf:=xp Zb
abbrev xh:=xp zA
def xp.imp {R R':Rk}{f:Ev->Option T}{t:zo}(h:xp R f t) (i:∀ S S' Z y d,R S S' Z y d->R' S S' Z y d):xp R' f t:=λ S Z L J y Q hE e hq=>h S Z L J y Q hE e λ d S' s r=>hq d S' s (i _ _ _ _ _ r)
def xp.er {f:Ev->Option T}{t:zo}(h:wZ f t):yf f t:=h.imp λ _ _ _ _ _ r=>.inl r
def xp.fe {f:Ev->Option T}{t:zo}(h:xh f t):wZ f t:=h.imp λ _ _ _ _ _ r=>r.1
def xp.fr {f:Ev->Option T}{t:zo}(h:xh f t):yf f t:=h.fe.er
@[simp] noncomputable def zl (i:Nat):Ev->Option T:=fun J=>match J[i]? with
 | some (some (.im t))=>some t
 | _=>none
@[simp] noncomputable def zc (i:Nat):Ev->Option T:=fun J=>match J[i]? with
 | some (some (.im t))=>some t
 | some (some (.own (.lst ts)))=>some (.lst ts)
 | _=>none
@[simp] noncomputable def cS (t:T):Ev->Option T:=λ _=>some t
@[simp] abbrev cI (i:Int):Ev->Option T:=cS (.int i)
def dr (i:Nat):wZ (zl i) (yb i):=λ S Z L J y Q hE e hq=>by
 unfold zl at e;split at e
 .rename_i t h;cases e;obtain⟨d,h1,h2⟩:=hE.im i _ h;unfold yb;rw[h1];exact hq d S (.refl S) h2
 .cases e
def Rc (i:Nat):yf (zc i) (yb i):=λ S Z L J y Q hE e hq=>by
 unfold zc at e;split at e
 .rename_i t h;cases e;obtain⟨d,h1,h2⟩:=hE.im i _ h;unfold yb;rw[h1];exact hq d S (.refl S) (.inl h2)
 .rename_i ts h;cases e;obtain⟨p,o,h1,h2,h3,h4⟩:=hE.ow i _ h;unfold yb;rw[h1];cases o with
  | zS _=>exact h3.elim
  | lst ds=>exact hq _ S (.refl S) (.inr ⟨ts,p,ds,rfl,rfl,h2,h3,h4⟩)
 .cases e
def RS (i:Int):xh (cS (.int i)) (dC (.int i)):=λ S Z L J y Q hE e hq=>by cases e;exact hq _ S (.refl S) (Cl.of (λ _=>nofun) xD)
def Qm (i:Bool):xh (cS (.bl i)) (dC (.bl i)):=λ S Z L J y Q hE e hq=>by cases e;exact hq _ S (.refl S) (Cl.of (λ _=>nofun) wL)
def Rl (i:Str):xh (cS (.str i)) (dC (.str i)):=λ S Z L J y Q hE e hq=>by cases e;exact hq _ S (.refl S) (Cl.of (λ _=>nofun) fE)
def Rv:xh (cS .zm) (dC .zm):=λ S Z L J y Q hE e hq=>by cases e;exact hq _ S (.refl S) (Cl.of (λ _=>nofun) fF)
@[simp] noncomputable def zb (f:T->T->Option T) (fa fb:Ev->Option T):Ev->Option T:=fun J=>(fa J).bind λ x=>(fb J).bind λ y=>f x y
def Good2 (R:Rk) (f:T->T->Option T) (g:y7):Prop:=∀ S Z x y z d e Q,(∀ a,Z a->S a≠none)->Vw S Z x d->Vw S Z y e->f x y=some z->(∀ c S',Sx S S'->R S S' Z z c->Q c S')->g d e S Q
def tE {R:Rk} [Cl R] {f:T->T->Option T}{g:y7}{fa fb:Ev->Option T}{ta tb:zo}(hg:Good2 R f g) (ha:yf fa ta) (hb:yf fb tb):xp R (zb f fa fb) (yc g ta tb):=λ S Z L J y Q hE e hq=>by
 unfold zb at e;obtain⟨x,e1,e⟩:=Ak.mp e;obtain⟨z,e2,e⟩:=Ak.mp e;refine ha S Z L J x _ hE e1 λ d S1 s1 r1=>?_;refine hb S1 Z L J z _ (hE.grow s1) e2 λ d2 S2 s2 r2=>?_;exact hg S2 Z x z y d d2 Q ((hE.grow (s1.trans s2)).zd) (Vw.grow r1 s2) r2 e λ c S' s r=>hq c S' ((s1.trans s2).trans s) (Cl.cl (s1.trans s2) r)
@[simp] noncomputable def i2 (g:Int->Int->T):T->T->Option T
 | .int i,.int j=>some (g i j)
 | _,_=>none
instance {i j:Int}:Decidable (v5 i j):=by unfold v5;infer_instance
instance {i j:Int}:Decidable (xG i j):=by unfold xG;infer_instance
instance {i j:Int}:Decidable (rm i j):=by unfold rm;infer_instance
@[simp] noncomputable def sM (C:Int->Int->Prop) [∀ i j,Decidable (C i j)] (g:Int->Int->T):T->T->Option T
 | .int i,.int j=>if C i j then some (g i j) else none
 | _,_=>none
def jT {g:Int->Int->T}{g':Int->Int->D}(h:∀ i j S,Sn S (g i j) (g' i j)) (n:∀ i j ts,g i j≠.lst ts):Good2 zA (i2 g) (xl g'):=λ S Z x y z d e Q hz hx hy ef hq=>by
 unfold i2 at ef;split at ef
 .cases ef;cases hx.int;cases hy.int;exact hq _ S (.refl S) (Cl.of (n _ _) (h _ _ _))
 .cases ef
def oz {C:Int->Int->Prop} [∀ i j,Decidable (C i j)] {g:Int->Int->T}{g':Int->Int->D}(h:∀ i j S,Sn S (g i j) (g' i j)) (n:∀ i j ts,g i j≠.lst ts):Good2 zA (sM C g) (fI C g'):=λ S Z x y z d e Q hz hx hy ef hq=>by
 unfold sM at ef;split at ef
 .split at ef
  .rename_i hh;cases ef;cases hx.int;cases hy.int;exact⟨hh,hq _ S (.refl S) (Cl.of (n _ _) (h _ _ _))⟩
  .cases ef
 .cases ef
@[simp] def vT:T->T->Option T:=i2 λ i j=>.int (i-j)
@[simp] def ym:T->T->Option T:=sM (λ _ j=>0<j) λ i j=>.int (i%j)
@[simp] def wW:T->T->Option T:=sM xG λ i j=>.int (i/j)
@[simp] def x8:T->T->Option T:=sM rm λ i j=>.int (i ^ j.toNat)
@[simp] def tI:T->T->Option T:=i2 λ i j=>.bl (decide (i<=j))
@[simp] def jX:T->T->Option T:=i2 λ i j=>.bl (decide (j<=i))
section
variable {fa fb:Ev->Option T}{ta tb:zo}
def Rj (ha:yf fa ta) (hb:yf fb tb):xh (zb vT fa fb) (yc (xl λ i j=>.int (i-j)) ta tb):=tE (jT (λ _ _ _=>xD) λ _ _ _=>nofun) ha hb
def R0 (ha:yf fa ta) (hb:yf fb tb):xh (zb ym fa fb) (yc (fI (λ _ j=>0<j) λ i j=>.int (i%j)) ta tb):=tE (oz (λ _ _ _=>xD) λ _ _ _=>nofun) ha hb
def RY (ha:yf fa ta) (hb:yf fb tb):xh (zb wW fa fb) (yc (fI xG λ i j=>.int (i/j)) ta tb):=tE (oz (λ _ _ _=>xD) λ _ _ _=>nofun) ha hb
def Rq (ha:yf fa ta) (hb:yf fb tb):xh (zb x8 fa fb) (yc (fI rm λ i j=>.int (i ^ j.toNat)) ta tb):=tE (oz (λ _ _ _=>xD) λ _ _ _=>nofun) ha hb
end
def zR (neg:Bool):T->T->Option T:=λ x y=>if dep x<=60/\dep y<=60 then some (.bl (cond neg (!eqT x y) (eqT x y))) else none
def v_ (neg:Bool):T->T->Option T:=λ x y=>match xE y with
 | some ts=>if dep x<=60/\xu ts<=60 then some (.bl (cond neg (!(ts.any λ t=>eqT t x)) (ts.any λ t=>eqT t x))) else none
 | none=>none
def O4 {neg:Bool}:Good2 zA (zR neg) (wX neg):=λ S Z x y z d e Q hz hx hy ef hq=>by
 unfold zR at ef;split at ef
 .rename_i h;cases ef;exact⟨x,y,hx.sn,hy.sn,h.1,h.2,hq _ S (.refl S) (Cl.of (λ _=>nofun) wL)⟩
 .cases ef
def O3 {neg:Bool}:Good2 zA (v_ neg) (ug neg):=λ S Z x y z d e Q hz hx hy ef hq=>by
 unfold v_ at ef;split at ef
 .rename_i ts ht;split at ef
  .rename_i h;cases ef;obtain⟨ds,h1,h2⟩:=hy.seq ht;exact⟨x,ts,ds,hx.sn,h1,zg.sx (lg S Z) ts h2,h.1,h.2,hq _ S (.refl S) (Cl.of (λ _=>nofun) wL)⟩
  .cases ef
 .cases ef
@[simp] def zi:T->T->Option T:=λ x y=>match xE x,y with
 | some ts,.int i=>L2.zL ts i
 | _,_=>none
def c_:Good2 xm zi xX:=λ S Z x y z d e Q hz hx hy ef hq=>by
 unfold zi at ef;split at ef
 .rename_i ts i ht;cases hy.int;obtain⟨ds,h1,h2⟩:=hx.seq ht;obtain⟨c,h3,h4⟩:=h2.at ef;unfold zH at h1;split at h1
  .cases h1;exact OV h3 (hq c S (.refl S) h4)
  .cases h1;exact OW h3 (hq c S (.refl S) h4)
  .split at h1
   .rename_i q;cases h1;exact OX q h3 (hq c S (.refl S) h4)
   .cases h1
  .cases h1
 .cases ef
@[simp] noncomputable def yh:T->T->Option T
 | .int i,.int j=>some (.int (i+j))
 | .str i,.str j=>if i.length+j.length<=sizeLine then some (.str (i++j)) else none
 | .lst ts,.lst us=>if ts.length+us.length<=sizeLine then some (.lst (ts++us)) else none
 | .tup ts,.tup us=>if ts.length+us.length<=sizeLine then some (.tup (ts++us)) else none
 | _,_=>none
def vI:y7:=λ x y S Q=>match x,y with
 | .int i,.int j=>Q (.int (i+j)) S
 | .str i,.str j=>i.length+j.length<=sizeLine/\Q (.str (i++j)) S
 | .tup ds,.tup es=>ds.length+es.length<=sizeLine/\Q (.tup (ds++es)) S
 | .zm,_=>False
 | .bl _,_=>False
 | .int _,_=>False
 | .str _,_=>False
 | .tup _,_=>False
 | x,y=>match zH x S,zH y S with
  | some ds,some es=>(∀ ts,y≠.tup ts)/\ds.length+es.length<=sizeLine/\∀ r,S r=none->Q (.ref r) (ups S r (.lst (ds++es)))
  | _,_=>False
def good_add:Good2 zA yh vI:=λ S Z x y z d e Q hz hx hy ef hq=>by
 unfold yh at ef;split at ef
 .cases ef;cases hx.int;cases hy.int;exact hq _ S (.refl S) (Cl.of (λ _=>nofun) xD)
 .split at ef
  .rename_i h;cases ef;cases hx.str;cases hy.str;exact⟨h,hq _ S (.refl S) (Cl.of (λ _=>nofun) fE)⟩
  .cases ef
 .split at ef
  .rename_i h;cases ef;obtain⟨ds,h1,h2⟩:=hx.seq rfl;obtain⟨es,h3,h4⟩:=hy.seq rfl;have nt:∀ ts,e≠.tup ts:=by
    obtain⟨_,q | ⟨_,q,_⟩,_⟩:=hy.lst <;> subst q <;> exact λ _=>nofun
   have key:(∀ ts,e≠.tup ts)/\ds.length+es.length<=sizeLine/\∀ r,S r=none->Q (.ref r) (ups S r (.lst (ds++es))):=
    ⟨nt,by rw[h2.len,h4.len];exact h,λ r hr=>hq _ _ (.new hr _) (uz hz hr (h2.append h4))⟩
   obtain⟨_,q | ⟨a,q,_⟩,_⟩:=hx.lst
   .subst q;unfold vI;dsimp only;rw[h1,h3];exact key
   .subst q;unfold vI;dsimp only;rw[h1,h3];exact key
  .cases ef
 .split at ef
  .rename_i h;cases ef;obtain⟨ds,rfl,h2⟩:=hx.tup;obtain⟨es,rfl,h4⟩:=hy.tup;exact⟨by rw[h2.len,h4.len];exact h,hq _ S (.refl S) (Cl.of (λ _=>nofun) (sy (h2.append h4)))⟩
  .cases ef
 .cases ef
def wK (f:Ev->Option Bool) (t:yt):Prop:=∀ S Z L J y Q,ER S Z L J->f J=some y->(∀ S',Sx S S'->Q y S')->t L S Q
@[simp] noncomputable def yx (f:Ev->Option T):Ev->Option Bool:=fun J=>(f J).bind λ x=>match x with
 | .bl b=>some b
 | _=>none
@[simp] noncomputable def sk:T->Option Bool
 | .zm=>some false
 | .bl b=>some b
 | .int i=>some (i != 0)
 | .str x=>if x.length<=sizeLine then some ((x.length:Int) != 0) else none
 | .tup ts=>some (!ts.isEmpty)
 | .lst ts=>some (!ts.isEmpty)
 | .yR=>none
 | .err _ _ _=>none
@[simp] def yV (f:Ev->Option T):Ev->Option Bool:=fun J=>(f J).bind sk
@[simp] noncomputable def bI (f g:Ev->Option Bool):Ev->Option Bool:=fun J=>(f J).bind λ b=>if b=true then g J else some false
@[simp] noncomputable def qO (f g:Ev->Option Bool):Ev->Option Bool:=fun J=>(f J).bind λ b=>if b=true then some true else g J
@[simp] noncomputable def wF (f:Ev->Option Bool):Ev->Option Bool:=fun J=>(f J).map (!·)
section
variable {f g:Ev->Option T}{t u:zo}{fb gb:Ev->Option Bool}{tb ub:yt}{R:Rk}
def Rg (h:yf f t):wK (yx f) (vq t):=λ S Z L J y Q hE e hq=>by
 obtain⟨x,e1,e2⟩:=Ak.mp e;refine h S Z L J x _ hE e1 λ d S1 s1 r1=>?_;split at e2
 .cases e2;cases Vw.bl r1;exact hq S1 s1
 .cases e2
def Ri (h:yf f t):wK (yV f) (bH t):=λ S Z L J y Q hE e hq=>by
 obtain⟨x,e1,e2⟩:=Ak.mp e;refine h S Z L J x _ hE e1 λ d S1 s1 r1=>?_;cases x with
 | zm=>cases Vw.zm r1;cases e2;exact hq S1 s1
 | bl b=>cases Vw.bl r1;cases e2;exact hq S1 s1
 | int b=>cases Vw.int r1;cases e2;exact hq S1 s1
 | str b=>
  cases Vw.str r1;simp only[sk] at e2;split at e2
  .rename_i hh;cases e2;exact⟨hh,hq S1 s1⟩
  .cases e2
 | tup ts=>
  obtain⟨ds,rfl,h2⟩:=Vw.tup r1;cases e2;show Q (!ds.isEmpty) S1;rw[h2.empty];exact hq S1 s1
 | lst ts=>
  obtain⟨ds,rfl | ⟨a,rfl,h1⟩,h2⟩:=Vw.lst r1
  .cases e2;show Q (!ds.isEmpty) S1;rw[h2.empty];exact hq S1 s1
  .cases e2;refine YW h1 ?_;rw[h2.empty];exact hq S1 s1
 | _=>cases e2
def Qb (h:wK fb tb) (h':wK gb ub):wK (bI fb gb) (oI tb ub):=λ S Z L J y Q hE e hq=>by
 obtain⟨b,e1,e2⟩:=Ak.mp e;refine h S Z L J b _ hE e1 λ S1 s1=>?_;split at e2
 .rename_i hb;rw[if_pos hb];exact h' S1 Z L J y _ (hE.grow s1) e2 λ S2 s2=>hq S2 (s1.trans s2)
 .rename_i hb;rw[if_neg hb];cases e2;exact hq S1 s1
def RZ (h:wK fb tb) (h':wK gb ub):wK (qO fb gb) (oG tb ub):=λ S Z L J y Q hE e hq=>by
 obtain⟨b,e1,e2⟩:=Ak.mp e;refine h S Z L J b _ hE e1 λ S1 s1=>?_;split at e2
 .rename_i hb;rw[if_pos hb];cases e2;exact hq S1 s1
 .rename_i hb;rw[if_neg hb];exact h' S1 Z L J y _ (hE.grow s1) e2 λ S2 s2=>hq S2 (s1.trans s2)
def R_ (h:wK fb tb):wK (wF fb) (oH tb):=λ S Z L J y Q hE e hq=>by
 unfold wF at e;obtain⟨b,e1,rfl⟩:=AJ.mp e;exact h S Z L J b _ hE e1 λ S1 s1=>hq S1 s1
@[simp] noncomputable def vL (f g:Ev->Option T):Ev->Option T:=fun J=>(f J).bind λ x=>match x with
 | .bl k=>if k=true then g J else some (.bl false)
 | _=>none
@[simp] noncomputable def dw (f:Ev->Option T):Ev->Option T:=fun J=>(f J).bind λ x=>match x with
 | .bl k=>some (.bl (!k))
 | _=>none
@[simp] noncomputable def cV (c:Ev->Option Bool) (f g:Ev->Option T):Ev->Option T:=fun J=>(c J).bind λ b=>if b=true then f J else g J
def Qu [Cl R] (h:yf f t) (h':xp R g u):xp R (vL f g) (oY t u):=λ S Z L J y Q hE e hq=>by
 obtain⟨x,e1,e2⟩:=Ak.mp e;refine h S Z L J x _ hE e1 λ d S1 s1 r1=>?_;split at e2
 .cases Vw.bl r1;split at e2
  .rename_i hb;dsimp only;rw[if_pos hb];exact h' S1 Z L J y _ (hE.grow s1) e2 λ d S2 s2 r2=>hq d S2 (s1.trans s2) (Cl.cl s1 r2)
  .rename_i hb;dsimp only;rw[if_neg hb];cases e2;exact hq _ S1 s1 (Cl.of (λ _=>nofun) wL)
 .cases e2
def Ru [Cl R] (h:yf f t):xp R (dw f) (oU t):=λ S Z L J y Q hE e hq=>by
 obtain⟨x,e1,e2⟩:=Ak.mp e;refine h S Z L J x _ hE e1 λ d S1 s1 r1=>?_;split at e2
 .cases Vw.bl r1;cases e2;exact hq _ S1 s1 (Cl.of (λ _=>nofun) wL)
 .cases e2
def RV [Cl R] (hc:wK fb tb) (h:xp R f t) (h':xp R g u):xp R (cV fb f g) (oV tb t u):=λ S Z L J y Q hE e hq=>by
 obtain⟨b,e1,e2⟩:=Ak.mp e;refine hc S Z L J b _ hE e1 λ S1 s1=>?_;split at e2
 .rename_i hb;rw[if_pos hb];exact h S1 Z L J y _ (hE.grow s1) e2 λ d S2 s2 r2=>hq d S2 (s1.trans s2) (Cl.cl s1 r2)
 .rename_i hb;rw[if_neg hb];exact h' S1 Z L J y _ (hE.grow s1) e2 λ d S2 s2 r2=>hq d S2 (s1.trans s2) (Cl.cl s1 r2)
end
noncomputable def qV (S:SS) (Z:Addr->Prop):List T->List D->Prop
 | [],ds=>ds=[]
 | t::ts,ds=>∃ c cs,ds=c::cs/\Vw S Z t c/\qV S Z ts cs
def s_ (f:Ev->Option (List T)) (t:z_):Prop:=∀ S Z L J ys Q,ER S Z L J->f J=some ys->(∀ ds S',Sx S S'->qV S' Z ys ds->Q ds S')->t L S Q
def q_ (f:Ev->Option (List T)) (t:z_):Prop:=∀ S Z L J ys Q,ER S Z L J->f J=some ys->(∀ ds S',Sx S S'->zg (zI S' Z) ys ds->Q ds S')->t L S Q
@[simp] noncomputable def zf:Ev->Option (List T):=λ _=>some []
@[simp] noncomputable def za (f:Ev->Option T) (g:Ev->Option (List T)):Ev->Option (List T):=fun J=>(f J).bind λ x=>(g J).bind λ xs=>some (x::xs)
section
variable {f:Ev->Option T}{g:Ev->Option (List T)}{t:zo}{u:z_}
def S_:s_ zf l7:=λ S Z L J y Q hE e hq=>by cases e;exact hq [] S (.refl S) rfl
def SX:q_ zf l7:=λ S Z L J y Q hE e hq=>by cases e;exact hq [] S (.refl S) .nil
def Ra (h:yf f t) (h':s_ g u):s_ (za f g) (rK t u):=λ S Z L J y Q hE e hq=>by
 obtain⟨x,e1,e0⟩:=Ak.mp e;obtain⟨xs,e2,e3⟩:=Ak.mp e0;cases e3;refine h S Z L J x _ hE e1 λ d S1 s1 r1=>?_;refine h' S1 Z L J xs _ (hE.grow s1) e2 λ ds S2 s2 r2=>?_;exact hq _ S2 (s1.trans s2) ⟨d,ds,rfl,Vw.grow r1 s2,r2⟩
def SY (h:wZ f t) (h':q_ g u):q_ (za f g) (rK t u):=λ S Z L J y Q hE e hq=>by
 obtain⟨x,e1,e0⟩:=Ak.mp e;obtain⟨xs,e2,e3⟩:=Ak.mp e0;cases e3;refine h S Z L J x _ hE e1 λ d S1 s1 r1=>?_;refine h' S1 Z L J xs _ (hE.grow s1) e2 λ ds S2 s2 r2=>?_;exact hq _ S2 (s1.trans s2) (.cons (Sn.sx (xW s2) x r1) r2)
@[simp] noncomputable def tupS (g:Ev->Option (List T)):Ev->Option T:=fun J=>(g J).bind λ xs=>if xs.length<=sizeLine then some (.tup xs) else none
@[simp] noncomputable def xH (g:Ev->Option (List T)):Ev->Option T:=fun J=>(g J).bind λ xs=>if xs.length<=sizeLine then some (.lst xs) else none
def Rf (h:q_ g u):xh (tupS g) (bS u):=λ S Z L J y Q hE e hq=>by
 obtain⟨xs,e1,e2⟩:=Ak.mp e;split at e2
 .rename_i hl;cases e2;refine h S Z L J xs _ hE e1 λ ds S1 s1 r1=>⟨by rw[r1.len];exact hl,hq _ S1 s1 (Cl.of (λ _=>nofun) (sy r1))⟩
 .cases e2
def R4 (h:q_ g u):xh (xH g) (bZ u):=λ S Z L J y Q hE e hq=>by
 obtain⟨xs,e1,e2⟩:=Ak.mp e;split at e2
 .rename_i hl;cases e2;refine h S Z L J xs _ hE e1 λ ds S1 s1 r1=>⟨by rw[r1.len];exact hl,λ p hp=>hq _ _ (s1.trans (.new hp _)) (Cl.cl s1 (uz (hE.grow s1).zd hp r1))⟩
 .cases e2
end
@[simp] noncomputable def zj (F:List T->Option T) (g:Ev->Option (List T)):Ev->Option T:=fun J=>(g J).bind F
def vb (R:Rk) (F:List T->Option T) (f:xn):Prop:=∀ S Z ys z ds Q,(∀ a,Z a->S a≠none)->qV S Z ys ds->F ys=some z->(∀ c S',Sx S S'->R S S' Z z c->Q c S')->f ds S Q
def Qf {R:Rk} [Cl R] {F:List T->Option T}{f:xn}{g:Ev->Option (List T)}{u:z_}(hf:vb R F f) (h:s_ g u):xp R (zj F g) (xv f u):=λ S Z L J y Q hE e hq=>by
 obtain⟨xs,e1,e2⟩:=Ak.mp e;refine h S Z L J xs _ hE e1 λ ds S1 s1 r1=>?_;exact hf S1 Z xs y ds Q (hE.grow s1).zd r1 e2 λ c S' s r=>hq c S' (s1.trans s) (Cl.cl s1 r)
@[simp] noncomputable def yM:List T->Option T
 | [.str z]=>if z.length<=sizeLine then some (.int z.length) else none
 | [y]=>(xE y).map λ ts=>.int ts.length
 | _=>none
def v7 {S:SS}{Z:Addr->Prop}{y:T}{ds:List D}(h:qV S Z [y] ds):∃ d,ds=[d]/\Vw S Z y d:=by
 obtain⟨c,cs,rfl,h1,h2⟩:=h;cases h2;exact⟨c,rfl,h1⟩
def kK {S:SS}{Z:Addr->Prop}{y z:T}{ds:List D}(h:qV S Z [y,z] ds):∃ d e,ds=[d,e]/\Vw S Z y d/\Vw S Z z e:=by
 obtain⟨c,cs,rfl,h1,c2,cs2,rfl,h2,h3⟩:=h;cases h3;exact⟨c,c2,rfl,h1,h2⟩
def O1:vb zA yM vH:=λ S Z ys z ds Q hz hv e hq=>by
 unfold yM at e;split at e
 .obtain⟨d,rfl,h1⟩:=v7 hv;split at e
  .rename_i hl;cases e;cases h1.str;exact⟨hl,hq _ S (.refl S) (Cl.of (λ _=>nofun) xD)⟩
  .cases e
 .obtain⟨d,rfl,h1⟩:=v7 hv;obtain⟨ts,e1,rfl⟩:=AJ.mp e;obtain⟨es,h2,h3⟩:=h1.seq e1;refine OU h2 ?_;rw[h3.len];exact hq _ S (.refl S) (Cl.of (λ _=>nofun) xD)
 .cases e
@[simp] noncomputable def listS:List T->Option T
 | [y]=>(xE y).map .lst
 | _=>none
def O0:vb zA listS vG:=λ S Z ys z ds Q hz hv e hq=>by
 unfold listS at e;split at e
 .obtain⟨d,rfl,h1⟩:=v7 hv;obtain⟨ts,e1,rfl⟩:=AJ.mp e;obtain⟨es,h2,h3⟩:=h1.seq e1;exact OT h2 λ p hp=>hq _ _ (.new hp _) (uz hz hp h3)
 .cases e
@[simp] noncomputable def xq:List T->Option T
 | [y]=>(xE y).map .tup
 | _=>none
def Oo:vb zA xq vF:=λ S Z ys z ds Q hz hv e hq=>by
 unfold xq at e;split at e
 .rename_i y;obtain⟨d,rfl,h1⟩:=v7 hv;obtain⟨ts,e1,rfl⟩:=AJ.mp e;obtain⟨es,h2,h3⟩:=h1.seq e1;have k:Q (.tup es) S:=hq _ S (.refl S) (Cl.of (λ _=>nofun) (sy h3));unfold zH at h2;split at h2
  .cases h2;exact k
  .cases h2;exact k
  .split at h2
   .rename_i q;cases h2;exact OS q k
   .cases h2
  .cases h2
 .cases e
@[simp] noncomputable def qE (g:Int->Int->Int):List T->Option T
 | [.int i,.int j]=>some (.int (g i j))
 | _=>none
def ba {g:Int->Int->Int}:vb zA (qE g) (vp λ i j=>.int (g i j)):=λ S Z ys z ds Q hz hv e hq=>by
 unfold qE at e;split at e
 .obtain⟨d,d',rfl,h1,h2⟩:=kK hv;cases e;cases h1.int;cases h2.int;exact hq _ S (.refl S) (Cl.of (λ _=>nofun) xD)
 .cases e
@[simp] def qz:List T->Option T:=qE λ i j=>if j>i then j else i
@[simp] def oj:List T->Option T:=qE λ i j=>if j<i then j else i
noncomputable def wY:List T->Option (List Bool)
 | []=>some []
 | .bl b::ts=>(wY ts).map (b::·)
 | _::_=>none
theorem aG:∀ {ts:List T}{bs:List Bool},wY ts=some bs->ts=bs.map T.bl
 | [],bs,h=>by cases h;rfl
 | .bl b::ts,bs,h=>by
  unfold wY at h;obtain⟨cs,h1,rfl⟩:=AJ.mp h;rw[Ax,<- aG h1]
 | .zm::ts,bs,h=>by cases h
 | .int _::ts,bs,h=>by cases h
 | .str _::ts,bs,h=>by cases h
 | .tup _::ts,bs,h=>by cases h
 | .lst _::ts,bs,h=>by cases h
def aH (bs:List Bool):wY (bs.map T.bl)=some bs:=by
 induction bs with
 | nil=>rfl
 | cons b bs ih=>rw[Ax];unfold wY;rw[ih];rfl
@[simp] noncomputable def uP (g:List Bool->Bool):List T->Option T
 | [.lst ts]=>(wY ts).map λ bs=>.bl (g bs)
 | _=>none
def uI (g:List Bool->Bool):xn:=λ ds S Q=>match ds with
 | [.tup _]=>False
 | [d]=>∃ bs:List Bool,zH d S=some (bs.map D.bl)/\Q (.bl (g bs)) S
 | _=>False
def O5 {g:List Bool->Bool}:vb zA (uP g) (uI g):=λ S Z ys z ds Q hz hv e hq=>by
 unfold uP at e;split at e
 .obtain⟨d,rfl,h1⟩:=v7 hv;obtain⟨bs,e1,rfl⟩:=AJ.mp e;cases aG e1;obtain⟨es,h2,h3⟩:=h1.seq rfl;cases h3.aI;have key:∃ bs:List Bool,zH d S=some (bs.map D.bl)/\Q (.bl (g bs)) S:=⟨bs,h2,hq _ S (.refl S) (Cl.of (λ _=>nofun) wL)⟩
  obtain⟨_,q | ⟨a,q,_⟩,_⟩:=h1.lst
  .subst q;exact key
  .subst q;exact key
 .cases e
structure FR (S0:SS) (Z0:Addr->Prop) (S:SS) (Z:Addr->Prop) (L:zY) (J:Ev):Prop where
 er:ER S Z L J
 len:L.length=J.length
 sx:Sx S0 S
 z0:∀ a,Z0 a->S0 a≠none
 zz:∀ a,Z0 a->Z a
 zn:∀ a,Z a->Z0 a\/S0 a=none
 fr:∀ (i:Nat) ts p,J[i]?=some (some (.own ts))->L[i]?=some (some (.ref p))->S0 p=none
 dj:∀ (i j:Nat) ts us p,i≠j->J[i]?=some (some (.own ts))->J[j]?=some (some (.own us))->L[i]?=some (some (.ref p))->L[j]?=some (some (.ref p))->False
def y8 {α:Type}{l:List α}{i j:Nat}{a b:α}(h:(l.set i a)[j]?=some b):(i=j/\i<l.length/\b=a)\/(i≠j/\l[j]?=some b):=by
 rw[Dx] at h;by_cases e:i=j
 .subst e;rw[if_pos rfl] at h;by_cases hl:i<l.length
  .rw[if_pos hl] at h;cases h;exact .inl ⟨rfl,hl,rfl⟩
  .rw[if_neg hl] at h;cases h
 .rw[if_neg e] at h;exact .inr ⟨e,h⟩
def wC {α:Type}{l:List α}{i j:Nat}{a:α}(h:i≠j):(l.set i a)[j]?=l[j]?:=by rw[Dx,if_neg h]
def qJ {α:Type}{l:List α}{i:Nat}{a:α}(h:i<l.length):(l.set i a)[i]?=some a:=by rw[Dx,if_pos rfl,if_pos h]
section
variable {S0 S S':SS}{Z0 Z:Addr->Prop}{L:zY}{J:Ev}{y:T}{d:D}
theorem FR.grow (h:FR S0 Z0 S Z L J) (s:Sx S S'):FR S0 Z0 S' Z L J:=⟨h.er.grow s,h.len,h.sx.trans s,h.z0,h.zz,h.zn,h.fr,h.dj⟩
def FR.pL (h:FR S0 Z0 S Z L J) (i:Nat) (r:Sn (zI S Z) y d):FR S0 Z0 S Z (L.set i (some d)) (J.set i (some (.im y))):=by
 refine⟨⟨h.er.zd,λ j t e=>?_,λ j ts e=>?_⟩,by simp[h.len],h.sx,h.z0,h.zz,h.zn,λ j ts p e e'=>?_,λ j k ts us p n e1 e2 e3 e4=>?_⟩
 .rcases y8 e with ⟨rfl,hl,e⟩ | ⟨n,e⟩
  .cases e;exact⟨d,qJ (by rw[h.len];exact hl),r⟩
  .rw[wC n];exact h.er.im j t e
 .rcases y8 e with ⟨rfl,hl,e⟩ | ⟨n,e⟩
  .cases e
  .rw[wC n];exact h.er.ow j ts e
 .rcases y8 e with ⟨rfl,hl,e⟩ | ⟨n,e⟩
  .cases e
  .rw[wC n] at e';exact h.fr j ts p e e'
 .rcases y8 e1 with ⟨rfl,hl,e⟩ | ⟨n1,e1⟩
  .cases e
  rcases y8 e2 with ⟨rfl,hl,e⟩ | ⟨n2,e2⟩
  .cases e
  rw[wC n1] at e3;rw[wC n2] at e4;exact h.dj j k ts us p n e1 e2 e3 e4
def FR.fM {ts:C}{ds:O}{p:Addr}(h:FR S0 Z0 S Z L J) (s:Sx S S') (i:Nat) (hp:S p=none) (hd:S' p=some ds) (r:uT (zI S' λ a=>Z a\/a=p) ts ds):
  FR S0 Z0 S' (λ a=>Z a\/a=p) (L.set i (some (.ref p))) (J.set i (some (.own ts))):=by
 have np:∀ (j:Nat) us q,J[j]?=some (some (.own us))->L[j]?=some (some (.ref q))->q≠p:=λ j us q e e' z=>by
  subst z;obtain⟨p',G4,h1,h2,_⟩:=h.er.ow j us e;rw[e'] at h1;cases h1;rw[hp] at h2;cases h2
 refine⟨⟨λ a z=>?_,λ j t e=>?_,λ j us e=>?_⟩,by simp[h.len],h.sx.trans s,h.z0,λ a z=>.inl (h.zz a z),λ a z=>z.elim (h.zn a) (λ q=>.inr (by subst q;exact h.sx.none hp)),λ j us q e e'=>?_,λ j k us vs q n e1 e2 e3 e4=>?_⟩
 .rcases z with z | rfl
  .exact λ q=>h.er.zd a z (s.none q)
  .rw[hd];nofun
 .rcases y8 e with ⟨rfl,hl,e⟩ | ⟨n,e⟩
  .cases e
  .rw[wC n];obtain⟨d,h1,h2⟩:=h.er.im j t e;exact⟨d,h1,Sn.sx (qH s hp) t h2⟩
 .rcases y8 e with ⟨rfl,hl,e⟩ | ⟨n,e⟩
  .cases e;exact⟨p,ds,qJ (by rw[h.len];exact hl),hd,r,.inr rfl⟩
  .rw[wC n];obtain⟨q,es,h1,h2,h3,h4⟩:=h.er.ow j us e;exact⟨q,es,h1,s _ _ h2,uT.sx (qH s hp) h3,.inl h4⟩
 .rcases y8 e with ⟨rfl,hl,e⟩ | ⟨n,e⟩
  .rw[qJ (by rw[h.len];exact hl)] at e';cases e';exact h.sx.none hp
  .rw[wC n] at e';exact h.fr j us q e e'
 .rcases y8 e1 with ⟨rfl,hl,e⟩ | ⟨n1,e1⟩
  .rcases y8 e2 with ⟨rfl,_,_⟩ | ⟨n2,e2⟩
   .exact n rfl
   .rw[qJ (by rw[h.len];exact hl)] at e3;cases e3;rw[wC n2] at e4;exact np k vs p e2 e4 rfl
  .rcases y8 e2 with ⟨rfl,hl,_⟩ | ⟨n2,e2⟩
   .rw[qJ (by rw[h.len];exact hl)] at e4;cases e4;rw[wC n1] at e3;exact np j us p e1 e3 rfl
   .rw[wC n1] at e3;rw[wC n2] at e4;exact h.dj j k us vs q n e1 e2 e3 e4
def FR.forget (h:FR S0 Z0 S Z L J) (i:Nat):FR S0 Z0 S Z L (J.set i none):=by
 refine⟨⟨h.er.zd,λ j t e=>?_,λ j ts e=>?_⟩,by simp[h.len],h.sx,h.z0,h.zz,h.zn,λ j ts p e e'=>?_,λ j k ts us p n e1 e2 e3 e4=>?_⟩
 .rcases y8 e with ⟨rfl,hl,e⟩ | ⟨n,e⟩
  .cases e
  .exact h.er.im j t e
 .rcases y8 e with ⟨rfl,hl,e⟩ | ⟨n,e⟩
  .cases e
  .exact h.er.ow j ts e
 .rcases y8 e with ⟨rfl,hl,e⟩ | ⟨n,e⟩
  .cases e
  .exact h.fr j ts p e e'
 .rcases y8 e1 with ⟨rfl,hl,e⟩ | ⟨n1,e1⟩
  .cases e
  rcases y8 e2 with ⟨rfl,hl,e⟩ | ⟨n2,e2⟩
  .cases e
  exact h.dj j k ts us p n e1 e2 e3 e4
@[simp] noncomputable def yw (is:List Nat) (J:Ev):Ev:=is.foldl (fun J i=>J.set i none) J
theorem FR.yw:∀ (is:List Nat) {J:Ev},FR S0 Z0 S Z L J->FR S0 Z0 S Z L (yw is J)
 | [],_,h=>h
 | i::is,_,h=>FR.yw is (h.forget i)
def FR.freeze {ts:List T}{p:Addr}(h:FR S0 Z0 S Z L J) (i:Nat) (e:J[i]?=some (some (.own (.lst ts)))) (ed:L[i]?=some (some (.ref p))):
  FR S0 Z0 S (λ a=>Z a/\a≠p) L (J.set i (some (.im (.lst ts))))/\Sn (zI S λ a=>Z a/\a≠p) (.lst ts) (.ref p):=by
 obtain⟨p',o,h1,h2,h3,h4⟩:=h.er.ow i _ e;rw[ed] at h1;cases h1;obtain⟨ds,rfl⟩:∃ ds,o=.lst ds:=by
  cases o with
  | lst ds=>exact⟨ds,rfl⟩
  | zS _=>exact h3.elim
 replace h3:zg (zI S Z) ts ds:=h3;have hS:Sn (zI S λ a=>Z a/\a≠p) (.lst ts) (.ref p):=by
  simp only[Sn];exact⟨ds,.inr ⟨p,rfl,by rw[vE (λ z=>z.2 rfl)];exact h2⟩,zg.sx (uF λ a z=>z.1) ts h3⟩
 refine⟨?_,hS⟩;refine⟨⟨λ a z=>h.er.zd a z.1,λ j t e'=>?_,λ j us e'=>?_⟩,by simp[h.len],h.sx,h.z0,λ a z=>⟨h.zz a z,λ q=>?_⟩,λ a z=>h.zn a z.1,λ j us q e' Jf=>?_,λ j k us vs q n e1 e2 e3 e4=>?_⟩
 .rcases y8 e' with ⟨rfl,hl,e'⟩ | ⟨n,e'⟩
  .cases e';exact⟨_,ed,hS⟩
  .obtain⟨d,g1,g2⟩:=h.er.im j t e';exact⟨d,g1,Sn.sx (uF λ a z=>z.1) t g2⟩
 .rcases y8 e' with ⟨rfl,hl,e'⟩ | ⟨n,e'⟩
  .cases e'
  .obtain⟨q,es,g1,g2,g3,g4⟩:=h.er.ow j us e';exact⟨q,es,g1,g2,uT.sx (uF λ a z=>z.1) g3,g4,λ z=>by subst z;exact h.dj i j _ us q n e e' ed g1⟩
 .subst q;exact h.z0 a z (h.fr i _ a e ed)
 .rcases y8 e' with ⟨rfl,hl,e'⟩ | ⟨n,e'⟩
  .cases e'
  .exact h.fr j us q e' Jf
 .rcases y8 e1 with ⟨rfl,hl,e⟩ | ⟨n1,e1⟩
  .cases e
  rcases y8 e2 with ⟨rfl,hl,e⟩ | ⟨n2,e2⟩
  .cases e
  exact h.dj j k us vs q n e1 e2 e3 e4
def FR.mut {ts us:C}{es:O}{p:Addr}(h:FR S0 Z0 S Z L J) (i:Nat) (e:J[i]?=some (some (.own ts))) (ed:L[i]?=some (some (.ref p))) (r:uT (zI S Z) us es):
  FR S0 Z0 (ups S p es) Z L (J.set i (some (.own us))):=by
 obtain⟨p',ds,h1,h2,h3,h4⟩:=h.er.ow i ts e;rw[ed] at h1;cases h1;have hh:zI (ups S p es) Z=zI S Z:=cY h4;have hpn:=h.fr i ts p e ed;refine⟨⟨λ a z=>?_,λ j t e'=>?_,λ j vs e'=>?_⟩,by simp[h.len],λ b o q=>?_,h.z0,h.zz,h.zn,λ j vs q e' Jf=>?_,λ j k vs ws q n e1 e2 e3 e4=>?_⟩
 .by_cases hp:a=p
  .subst hp;rw[tj];nofun
  .rw[ur hp];exact h.er.zd a z
 .rw[hh];rcases y8 e' with ⟨rfl,hl,e'⟩ | ⟨n,e'⟩
  .cases e'
  .exact h.er.im j t e'
 .rw[hh];rcases y8 e' with ⟨rfl,hl,e'⟩ | ⟨n,e'⟩
  .cases e';exact⟨p,es,ed,tj,r,h4⟩
  .obtain⟨q,FW,g1,g2,g3,g4⟩:=h.er.ow j vs e';refine⟨q,FW,g1,?_,g3,g4⟩;rw[ur (λ z=>by subst z;exact h.dj i j ts vs q n e e' ed g1)];exact g2
 .rw[ur (λ z=>by subst z;rw[hpn] at q;cases q)];exact h.sx b o q
 .rcases y8 e' with ⟨rfl,hl,_⟩ | ⟨n,e'⟩
  .rw[ed] at Jf;cases Jf;exact hpn
  .exact h.fr j vs q e' Jf
 .rcases y8 e1 with ⟨rfl,hl,_⟩ | ⟨n1,e1⟩
  .rcases y8 e2 with ⟨rfl,hl,_⟩ | ⟨n2,e2⟩
   .exact n rfl
   .exact h.dj _ k ts ws q n e e2 e3 e4
  .rcases y8 e2 with ⟨rfl,hl,_⟩ | ⟨n2,e2⟩
   .exact h.dj j _ vs ts q n e1 e e3 e4
   .exact h.dj j k vs ws q n e1 e2 e3 e4
noncomputable def jg (S0 S:SS) (Z:Addr->Prop):SS:=open Classical in λ a=>if S0 a=none/\Z a then none else S a
def mD {a:Addr}(h:¬ (S0 a=none/\Z a)):jg S0 S Z a=S a:=if_neg h
def jf {a:Addr}(h:S0 a=none/\Z a):jg S0 S Z a=none:=if_pos h
def FR.rebase (h:FR S0 Z0 S Z L J):∃ S1,Sx S0 S1/\FR S1 Z0 S Z L J/\Sx (zI S Z) S1:=by
 refine⟨jg S0 S Z,λ b o q=>?_,⟨h.er,h.len,λ b o q=>?_,λ a z=>?_,h.zz,λ a z=>?_,λ i ts p e ed=>?_,h.dj⟩,λ b o q=>?_⟩
 .rw[mD (λ z=>by rw[z.1] at q;cases q)];exact h.sx _ _ q
 .by_cases w:S0 b=none/\Z b
  .rw[jf w] at q;cases q
  .rw[mD w] at q;exact q
 .rw[mD (λ q=>h.z0 a z q.1)];exact h.er.zd a (h.zz a z)
 .rcases h.zn a z with w | w
  .exact .inl w
  .exact .inr (jf ⟨w,z⟩)
 .obtain⟨p',ds,h1,h2,h3,h4⟩:=h.er.ow i ts e;rw[ed] at h1;cases h1;exact jf ⟨h.fr i ts p e ed,h4⟩
 .obtain⟨q1,q2⟩:=uE q;rw[mD (λ z=>q1 z.2)];exact q2
def FR.back {S1:SS}(h:FR S1 Z0 S Z L J) (s:Sx S0 S1) (z0:∀ a,Z0 a->S0 a≠none):FR S0 Z0 S Z L J:=⟨h.er,h.len,s.trans h.sx,z0,h.zz,λ a z=>(h.zn a z).imp id s.none,λ i ts p e ed=>s.none (h.fr i ts p e ed),h.dj⟩
def FR.XU {S1:SS}{Z1:Addr->Prop}(h:FR S0 Z0 S Z L J) (b:Sx (zI S1 Z1) S0) (zz:∀ a,Z0 a->Z1 a):Sx (zI S1 Z1) (zI S Z):=λ a o q=>by
 have q0:=b _ _ q;obtain⟨q1,q2⟩:=uE q;rw[vE]
 .exact h.sx _ _ q0
 .intro z;rcases h.zn a z with w | w
  .exact q1 (zz a w)
  .rw[w] at q0;cases q0
end
inductive Out where
 | nx (J:Ev) | rt (t:T) | bk (J:Ev) | ct (J:Ev)
abbrev Sm:=Ev->Option Out
def MA (R:Rk) (S0:SS) (Z0:Addr->Prop) (o:Out) (E:rh):Prop:=match o with
 | .nx J=>∀ S Z L,FR S0 Z0 S Z L J->E.nx L S
 | .bk J=>∀ S Z L,FR S0 Z0 S Z L J->E.bk L S
 | .ct J=>∀ S Z L,FR S0 Z0 S Z L J->E.ct L S
 | .rt y=>∀ d S,Sx S0 S->R S0 S Z0 y d->E.rt d S
def ye (R:Rk) (g:Sm) (t:y4):Prop:=∀ S0 Z0 S Z L J o E,FR S0 Z0 S Z L J->g J=some o->MA R S0 Z0 o E->t E L S
class Lo (R:Rk):Prop extends Cl R where
 lo:∀ {S0 S S':SS}{Z0 Z:Addr->Prop}{y:T}{d:D},Sx S0 S->(∀ a,Z0 a->Z a)->R S S' Z y d->R S0 S' Z0 y d
instance:Lo xm:=⟨λ _ z h=>Sn.sx (uF z) _ h⟩
instance:Lo zA:=⟨λ s z h=>⟨Sn.sx (uF z) _ h.1,λ ts e=>by
 obtain⟨p,ds,h1,h2,h3,h4⟩:=h.2 ts e;exact⟨p,ds,h1,s.none h2,h3,zg.sx (uF λ a q=>q.imp (z a) id) ts h4⟩⟩⟩
@[simp] noncomputable def zq (g h:Sm):Sm:=fun J=>(g J).bind λ o=>match o with
 | .nx J'=>h J'
 | o=>some o
@[simp] noncomputable def yX:Sm:=fun J=>some (.nx J)
@[simp] noncomputable def zQ (i:Nat) (f:Ev->Option T):Sm:=fun J=>(f J).map λ y=>.nx (J.set i (some (.im y)))
@[simp] noncomputable def vw (i:Nat) (f:Ev->Option T):Sm:=fun J=>(f J).bind λ y=>match y with
 | .lst ts=>some (.nx (J.set i (some (.own (.lst ts)))))
 | y=>some (.nx (J.set i (some (.im y))))
@[simp] noncomputable def iw (f:Ev->Option T):Sm:=fun J=>(f J).map λ _=>.nx J
@[simp] noncomputable def retS (f:Ev->Option T):Sm:=fun J=>(f J).map .rt
@[simp] noncomputable def r9 (i:Nat):Sm:=fun J=>match J[i]? with
 | some (some (.own (.lst ts)))=>some (.rt (.lst ts))
 | _=>none
@[simp] noncomputable def yY (c:Ev->Option Bool) (g h:Sm):Sm:=fun J=>(c J).bind λ b=>if b=true then g J else h J
@[simp] noncomputable def jZ (i:Nat) (J:Ev):Ev:=match J[i]? with
 | some (some (.own (.lst ts)))=>J.set i (some (.im (.lst ts)))
 | _=>J
@[simp] def jY (i:Nat) (g:Sm):Sm:=fun J=>g (jZ i J)
section
variable {R:Rk}{g h:Sm}{t u:y4}{f:Ev->Option T}{te:zo}
def Sf (hg:ye R g t) (hh:ye R h u):ye R (zq g h) (oQ t u):=λ S0 Z0 S Z L J o E F e P=>by
 obtain⟨o1,e1,e2⟩:=Ak.mp e;refine hg S0 Z0 S Z L J o1 { E with nx:=u E } F e1 ?_;cases o1 with
 | nx J1=>exact λ S1 Z1 L1 F1=>hh S0 Z0 S1 Z1 L1 J1 o E F1 e2 P
 | rt y=>cases e2;exact P
 | bk y=>cases e2;exact P
 | ct y=>cases e2;exact P
def Sd:ye R yX bV:=λ S0 Z0 S Z L J o E F e P=>by cases e;exact P S Z L F
def Sz (i:Nat) (hf:wZ f te):ye R (zQ i f) (wH te (hName i)):=λ S0 Z0 S Z L J o E F e P=>by
 obtain⟨y,e1,rfl⟩:=AJ.mp e;exact hf S Z L J y _ F.er e1 λ d S1 s1 r1=>P S1 Z _ ((F.grow s1).pL i r1)
def Sy (i:Nat) (hf:xh f te):ye R (vw i f) (wH te (hName i)):=λ S0 Z0 S Z L J o E F e P=>by
 obtain⟨y,e1,e2⟩:=Ak.mp e;refine hf S Z L J y _ F.er e1 λ d S1 s1 r1=>?_;cases y with
 | lst ts=>
  cases e2;obtain⟨p,ds,rfl,h1,h2,h3⟩:=r1.2 ts rfl;exact P S1 _ _ (F.fM (ts:=.lst ts) (ds:=.lst ds) s1 i h1 h2 h3)
 | _=>cases e2;exact P S1 Z _ ((F.grow s1).pL i r1.1)
def Ss (hf:yf f te):ye R (iw f) (oX te):=λ S0 Z0 S Z L J o E F e P=>by
 obtain⟨y,e1,rfl⟩:=AJ.mp e;exact hf S Z L J y _ F.er e1 λ d S1 s1 r1=>P S1 Z _ (F.grow s1)
def Sg [Lo R] (hf:xp R f te):ye R (retS f) (i0 te):=λ S0 Z0 S Z L J o E F e P=>by
 obtain⟨y,e1,rfl⟩:=AJ.mp e;exact hf S Z L J y _ F.er e1 λ d S1 s1 r1=>P d S1 (F.sx.trans s1) (Lo.lo F.sx F.zz r1)
def dq (i:Nat):ye zA (r9 i) (i0 (yb i)):=λ S0 Z0 S Z L J o E F e P=>by
 unfold r9 at e;split at e
 .rename_i ts h;cases e;obtain⟨p,ob,h1,h2,h3,h4⟩:=F.er.ow i _ h;obtain⟨ds,rfl⟩:∃ ds,ob=.lst ds:=by
   cases ob with
   | lst ds=>exact⟨ds,rfl⟩
   | zS _=>exact h3.elim
  replace h3:zg (zI S Z) ts ds:=h3;have hn:=F.fr i _ p h h1;have nz:¬ Z0 p:=λ z=>F.z0 p z hn;show yb i L S E.rt;unfold yb;rw[h1];refine P _ S F.sx ⟨?_,λ us e=>?_⟩
  .simp only[Sn];exact⟨ds,.inr ⟨p,rfl,by rw[vE nz];exact h2⟩,zg.sx (uF F.zz) ts h3⟩
  .cases e;exact⟨p,ds,rfl,hn,h2,zg.sx (uF λ a q=>q.elim (F.zz a) λ q=>q▸h4) ts h3⟩
 .cases e
def ye.fv (h:ye zA g t):ye xm g t:=λ S0 Z0 S Z L J o E F e P=>by
 refine h S0 Z0 S Z L J o E F e ?_;cases o with
 | rt y=>exact λ d S s r=>P d S s r.1
 | _=>exact P
def Sj {c:Ev->Option Bool}{tc:yt}(hc:wK c tc) (hg:ye R g t) (hh:ye R h u):ye R (yY c g h) (af tc t u):=λ S0 Z0 S Z L J o E F e P=>by
 obtain⟨b,e1,e2⟩:=Ak.mp e;refine hc S Z L J b _ F.er e1 λ S1 s1=>?_;split at e2
 .rename_i hb;rw[if_pos hb];exact hg S0 Z0 S1 Z L J o E (F.grow s1) e2 P
 .rename_i hb;rw[if_neg hb];exact hh S0 Z0 S1 Z L J o E (F.grow s1) e2 P
def FR.fz {S0 S:SS}{Z0 Z:Addr->Prop}{L:zY}{J:Ev}(F:FR S0 Z0 S Z L J) (i:Nat):∃ Z',FR S0 Z0 S Z' L (jZ i J):=by
 unfold jZ;split
 .rename_i ts h;obtain⟨p,ds,h1,_⟩:=F.er.ow i _ h;exact⟨_,(F.freeze i h h1).1⟩
 .exact⟨Z,F⟩
def Sk (i:Nat) (hg:ye R g t):ye R (jY i g) t:=λ S0 Z0 S Z L J o E F e P=>by
 obtain⟨Z',F'⟩:=F.fz i;exact hg S0 Z0 S Z' L _ o E F' e P
def nv (g:T->Ev->Option Ev) (t:yT):Prop:=∀ S0 Z0 S Z L J J' y d Q,FR S0 Z0 S Z L J->Sn (zI S Z) y d->g y J=some J'->(∀ L',FR S0 Z0 S Z L' J'->Q L' S)->t d L S Q
def ku (g:List T->Ev->Option Ev) (t:xP):Prop:=∀ S0 Z0 S Z L J J' ys ds Q,FR S0 Z0 S Z L J->zg (zI S Z) ys ds->g ys J=some J'->(∀ L',FR S0 Z0 S Z L' J'->Q L' S)->t ds L S Q
@[simp] noncomputable def zu (i:Nat):T->Ev->Option Ev:=λ y J=>some (J.set i (some (.im y)))
@[simp] noncomputable def vi:List T->Ev->Option Ev
 | [],J=>some J
 | _::_,_=>none
@[simp] noncomputable def yO (g:T->Ev->Option Ev) (h:List T->Ev->Option Ev):List T->Ev->Option Ev
 | y::ys,J=>(g y J).bind fun J'=>h ys J'
 | [],_=>none
@[simp] noncomputable def wx (n:Nat) (g:List T->Ev->Option Ev):T->Ev->Option Ev
 | .tup ys,J=>if ys.length=n then g ys J else none
 | _,_=>none
def SM (i:Nat):nv (zu i) (hName i):=λ S0 Z0 S Z L J J' y d Q F r e hq=>by cases e;exact hq _ (F.pL i r)
def SH:ku vi jN:=λ S0 Z0 S Z L J J' ys ds Q F r e hq=>by
 cases ys with
 | nil=>simp only[zg] at r;subst r;cases e;exact⟨rfl,hq _ F⟩
 | cons _ _=>cases e
def SJ {g:T->Ev->Option Ev}{h:List T->Ev->Option Ev}{t:yT}{u:xP}(hg:nv g t) (hh:ku h u):ku (yO g h) (jO t u):=λ S0 Z0 S Z L J J' ys ds Q F r e hq=>by
 cases ys with
 | nil=>cases e
 | cons y ys=>
  simp only[zg] at r;obtain⟨c,cs,rfl,r1,r2⟩:=r;obtain⟨J1,e1,e2⟩:=Ak.mp e;exact hg S0 Z0 S Z L J J1 y c _ F r1 e1 fun L1 F1=>hh S0 Z0 S Z L1 J1 J' ys cs Q F1 r2 e2 hq
def SK {n:Nat}{g:List T->Ev->Option Ev}{t:xP}(hg:ku g t):nv (wx n g) (qI n t):=λ S0 Z0 S Z L J J' y d Q F r e hq=>by
 cases y with
 | tup ys=>
  simp only[Sn] at r;obtain⟨ds,rfl,r⟩:=r;simp only[wx] at e;split at e
  .rename_i hl;exact⟨by rw[r.len];exact hl,hg S0 Z0 S Z L J J' ys ds Q F r e hq⟩
  .cases e
 | _=>cases e
@[simp] noncomputable def fg (f:Ev->Option T) (g:T->Ev->Option Ev):Sm:=fun J=>(f J).bind λ y=>(g y J).map .nx
def Sb {g:T->Ev->Option Ev}{tg:yT}(hf:wZ f te) (hg:nv g tg):ye R (fg f g) (wH te tg):=λ S0 Z0 S Z L J o E F e P=>by
 obtain⟨y,e1,e2⟩:=Ak.mp e;obtain⟨J',e3,rfl⟩:=AJ.mp e2;exact hf S Z L J y _ F.er e1 λ d S1 s1 r1=>hg S0 Z0 S1 Z L J J' y d _ (F.grow s1) r1 e3 fun L' F'=>P S1 Z L' F'
def sZ (free:Bool) (f:Ev->Option (List T)) (ti:xO):Prop:=∀ S Z L J ts Q,ER S Z L J->f J=some ts->(∀ I S',Sx S S'->zg (zI S' Z) ts I.items->(∀ Ih,Sx (if free=true then zI S' Z else S') Ih->I.keep Ih)->Q I S')->ti L S Q
@[simp] def yn (f:Ev->Option T):Ev->Option (List T):=fun J=>(f J).bind xE
def SA {f:Ev->Option T}{te:zo}(hf:yf f te):sZ false (yn f) (jI te):=λ S Z L J ts Q hE e hq=>by
 obtain⟨y,e1,e2⟩:=Ak.mp e;refine hf S Z L J y _ hE e1 λ d S1 s1 r1=>?_;cases y with
 | tup us=>
  cases e2;obtain⟨ds,rfl,h2⟩:=Vw.tup r1;exact hq _ S1 s1 h2 λ _ _=>trivial
 | lst us=>
  cases e2;obtain⟨ds,rfl | ⟨a,rfl,h1⟩,h2⟩:=Vw.lst r1
  .exact hq _ S1 s1 h2 λ _ _=>trivial
  .dsimp only;rw[h1];exact hq ⟨ds,_⟩ S1 s1 h2 λ Ih s=>s _ _ h1
 | _=>cases e2
def SD {f:Ev->Option T}{te:zo}(hf:wZ f te):sZ true (yn f) (jI te):=λ S Z L J ts Q hE e hq=>by
 obtain⟨y,e1,e2⟩:=Ak.mp e;refine hf S Z L J y _ hE e1 λ d S1 s1 r1=>?_;cases y with
 | tup us=>
  cases e2;obtain⟨ds,rfl,h2⟩:=Vw.tup (.inl r1);exact hq _ S1 s1 h2 λ _ _=>trivial
 | lst us=>
  cases e2;have r2:=r1;unfold xm at r2;simp only[Sn] at r2;obtain⟨ds,⟨rfl,_⟩ | ⟨a,rfl,h1⟩,h2⟩:=r2
  .exact hq _ S1 s1 h2 λ _ _=>trivial
  .dsimp only;rw[(uE h1).2];exact hq ⟨ds,_⟩ S1 s1 h2 λ Ih s=>s _ _ h1
 | _=>cases e2
noncomputable def rangeT (lo:Int) (n:Nat):List T:=(List.range n).map λ(k:Nat)=>T.int (lo+(k:Int))
def fC {S:SS}(lo:Int) (n:Nat):zg S (rangeT lo n) (vf lo n):=by
 unfold rangeT vf
 induction List.range n with
 | nil=>exact .nil
 | cons k l ih=>exact .cons xD ih
noncomputable def inR (j:Int):Bool:=decide (-100000000<=j)&&decide (j<=100000000)
def cU {j:Int}:inR j=true↔-100000000<=j/\j<=100000000:=by simp[inR]
def Oa {j:Int}(h:inR j=true):-(2 ^ 62)<=j/\j<2 ^ 62:=by have:=cU.mp h;lia
noncomputable def wO:List T->Option (List T)
 | [.int j]=>if inR j=true then some (rangeT 0 j.toNat) else none
 | _=>none
@[simp] noncomputable def xt (F:List T->Option (List T)) (g:Ev->Option (List T)):Ev->Option (List T):=fun J=>(g J).bind F
def SF {b:Bool}{g:Ev->Option (List T)}{tA:z_}(h:s_ g tA):sZ b (xt wO g) (jJ tA):=λ S Z L J ts Q hE e hq=>by
 obtain⟨ys,e1,e2⟩:=Ak.mp e;refine h S Z L J ys _ hE e1 λ ds S1 s1 r1=>?_;unfold wO at e2;split at e2
 .split at e2
  .rename_i hc;cases e2;obtain⟨d,rfl,h1⟩:=v7 r1;cases h1.int;exact⟨Oa hc,hq _ S1 s1 (fC _ _) λ _ _=>trivial⟩
  .cases e2
 .cases e2
noncomputable def xI (is:List Nat) (g:T->Ev->Option Ev) (b:Sm):List T->Ev->Option Out
 | [],J=>some (.nx (yw is J))
 | y::ys,J=>(g y (yw is J)).bind fun J1=>(b J1).bind λ o=>match o with
  | .nx J2=>xI is g b ys J2
  | .ct J2=>xI is g b ys J2
  | .bk J2=>some (.nx (yw is J2))
  | .rt t=>some (.rt t)
@[simp] def wU (is:List Nat) (f:Ev->Option (List T)) (g:T->Ev->Option Ev) (b:Sm):Sm:=fun J=>(f J).bind λ ts=>xI is g b ts J
def So {is:List Nat}{fi:Ev->Option (List T)}{ti:xO}{g:T->Ev->Option Ev}{tg:yT}{b:Sm}{tb:y4} [Lo R] (hi:sZ true fi ti) (hg:nv g tg) (hb:ye R b tb):ye R (wU is fi g b) (oW ti tg tb):=λ S0 Z0 S Z L J o E F e P=>by
 obtain⟨ts,e1,e2⟩:=Ak.mp e;refine hi S Z L J ts _ F.er e1 λ I S1 s1 r1 hk=>?_;rw[if_pos rfl] at hk;obtain⟨SB,b1,FB,b2⟩:=(F.grow s1).rebase;have lo:∀ S' d y,R SB S' Z0 y d->R S0 S' Z0 y d:=λ S' d y r=>Lo.lo b1 (λ _ z=>z) r;have zz:=F.zz;refine⟨λ i L' S'=>∃ Z' J',FR SB Z0 S' Z' L' J'/\xI is g b (ts.drop i) J'=some o,⟨Z,J,FB,e2⟩,λ i L' S' ⟨Z',J',F',_⟩=>hk S' (b2.trans F'.sx),λ i d L' S' hd ⟨Z',J',F',e'⟩=>?_,fun L' S' ⟨Z',J',F',e'⟩=>?_⟩
 .obtain⟨y,hy,r2⟩:=r1.jW hd;have Ao:=(AM.mp hy).1;have EM:ts.drop i=y::ts.drop (i+1):=by
   rw[List.drop_eq_getElem_cons Ao,(AM.mp hy).2]
  rw[EM] at e';unfold xI at e';obtain⟨J1,g1,e'⟩:=Ak.mp e';obtain⟨o1,g2,e'⟩:=Ak.mp e';refine hg SB Z0 S' Z' L' _ J1 y d _ (F'.yw is) (Sn.sx (F'.XU b2 zz) y r2) g1 fun L2 F2=>?_
  refine hb SB Z0 S' Z' L2 J1 o1 _ F2 g2 ?_;cases o1 with
  | nx J2=>exact λ S3 Z3 L3 F3=>⟨Z3,J2,F3,e'⟩
  | ct J2=>exact λ S3 Z3 L3 F3=>⟨Z3,J2,F3,e'⟩
  | bk J2=>cases e';exact λ S3 Z3 L3 F3=>P S3 Z3 L3 ((F3.yw is).back b1 F.z0)
  | rt y=>cases e';exact λ d S3 s3 r3=>P d S3 (b1.trans s3) (lo _ _ _ r3)
 .rw[show I.items.length=ts.length from r1.len,List.drop_length] at e';unfold xI at e';cases e';exact P S' Z' L' ((F'.yw is).back b1 F.z0)
end
@[simp] noncomputable def xN (i:Nat) (f:Ev->Option T):Sm:=fun J=>match J[i]? with
 | some (some (.own (.lst ts)))=>(f J).bind λ y=>if ts.length<sizeLine then some (.nx (J.set i (some (.own (.lst (ts++[y])))))) else none
 | _=>none
section
variable {R:Rk}{f:Ev->Option T}{te:zo}
def S7 (i:Nat) (hf:wZ f te):ye R (xN i f) (oX (uj (yb i) te)):=λ S0 Z0 S Z L J o E F e P=>by
 unfold xN at e;split at e
 .rename_i ts h;obtain⟨y,e1,e2⟩:=Ak.mp e;split at e2
  .rename_i hl;cases e2;obtain⟨p,ob,h1,h2,h3,h4⟩:=F.er.ow i _ h;obtain⟨ds,rfl⟩:∃ ds,ob=.lst ds:=by
    cases ob with
    | lst ds=>exact⟨ds,rfl⟩
    | zS _=>exact h3.elim
   replace h3:zg (zI S Z) ts ds:=h3;show uj (yb i) te L S _;unfold uj yb;rw[h1];refine⟨⟨ds,h2⟩,hf S Z L J y _ F.er e1 λ d S1 s1 r1=>?_⟩;dsimp only;rw[s1 _ _ h2];have F1:=F.grow s1;refine⟨by rw[h3.len];exact hl,P _ Z L (F1.mut (us:=.lst (ts++[y])) (es:=.lst (ds++[d])) i h h1 ((zg.sx (xW s1) ts h3).append (.cons r1 .nil)))⟩
  .cases e2
 .cases e
end
def uh (pick:List (Option Nat)) (ti:xO) (g:yT) (tc:yt) (te:zo):zo:=fun L S Q=>ti L S λ I S1=>I.items.length<=sizeLine/\(∀ S,Sx S1 S->I.keep S)/\∀ p,S1 p=none->∃ W:Nat->SS->List D->Prop,W 0 S1 []/\
 (∀ i S S' acc,(∀ b o,b≠p->S b=some o->S' b=some o)->W i S acc->W i S' acc)/\
 (∀ i d S acc,I.items[i]?=some d->Sx S1 S->S p=some (.lst acc)->W i S acc->g d (vD pick L) S fun L2 S2=>rR (vD pick L) L2/\tc L2 S2 λ b S3=>if b=true then te L2 S3 λ y S4=>Sx S S4/\W (i+1) S4 (acc++[y]) else Sx S S3/\W (i+1) S3 acc)/\
 ∀ S2 acc,Sx S1 S2->S2 p=some (.lst acc)->W I.items.length S2 acc->Q (.ref p) S2
@[simp] noncomputable def pW (pick:List (Option Nat)) (J:Ev):Ev:=pick.map λ o=>o.bind λ i=>(J[i]?).join
noncomputable def rL (h:T->Option (Option T)):List T->Option (List T)
 | []=>some []
 | y::ys=>(h y).bind λ o=>(rL h ys).map λ zs=>match o with
  | some z=>z::zs
  | none=>zs
@[simp] def tK (pick:List (Option Nat)) (g:T->Ev->Option Ev) (c:Ev->Option Bool) (f:Ev->Option T) (J:Ev) (y:T):Option (Option T):=
 (g y (pW pick J)).bind fun J2=>(c J2).bind λ b=>if b=true then (f J2).map some else some none
def yj (pick:List (Option Nat)) (it:Ev->Option (List T)) (g:T->Ev->Option Ev) (c:Ev->Option Bool) (f:Ev->Option T):Ev->Option T:=fun J=>(it J).bind λ ts=>if ts.length<=sizeLine then (rL (tK pick g c f J) ts).map .lst else none
@[simp] noncomputable def yH:Ev->Option Bool:=λ _=>some true
def Rh:wK yH bG:=λ S Z L J y Q hE e hq=>by cases e;exact hq S (.refl S)
def ky (pick:List (Option Nat)) (g:T->Ev->Option Ev) (t:yT):Prop:=∀ B S Z L J J' y d Q,(∀ i:Nat,pick[i]?=some none->B[i]?=some none)->rR B L->L.length=J.length->ER S Z L J->Sn (zI S Z) y d->g y J=some J'->
 (∀ L',ER S Z L' J'->rR B L'->L'.length=J'.length->Q L' S)->t d L S Q
def kx (pick:List (Option Nat)) (g:List T->Ev->Option Ev) (t:xP):Prop:=∀ B S Z L J J' y d Q,(∀ i:Nat,pick[i]?=some none->B[i]?=some none)->rR B L->L.length=J.length->ER S Z L J->zg (zI S Z) y d->g y J=some J'->
 (∀ L',ER S Z L' J'->rR B L'->L'.length=J'.length->Q L' S)->t d L S Q
def ER.pL {S:SS}{Z:Addr->Prop}{L:zY}{J:Ev}{y:T}{d:D}(h:ER S Z L J) (hl:L.length=J.length) (i:Nat) (r:Sn (zI S Z) y d):ER S Z (L.set i (some d)) (J.set i (some (.im y))):=by
 refine⟨h.zd,λ j t e=>?_,λ j ts e=>?_⟩
 .rcases y8 e with ⟨rfl,Gn,e⟩ | ⟨n,e⟩
  .cases e;exact⟨d,qJ (by rw[hl];exact Gn),r⟩
  .rw[wC n];exact h.im j t e
 .rcases y8 e with ⟨rfl,Gn,e⟩ | ⟨n,e⟩
  .cases e
  .rw[wC n];exact h.ow j ts e
variable {pick:List (Option Nat)}
def SU (i:Nat) (hi:pick[i]?=some none:=by rfl):ky pick (zu i) (hName i):=λ B S Z L J J' y d Q hB hs hl hE r e hq=>by
 cases e;refine hq _ (hE.pL hl i r) ⟨by rw[DC];exact hs.1,λ j c q=>?_⟩ (by simp[hl]);by_cases hj:i=j
 .subst hj;rw[hB i hi] at q;cases q
 .rw[wC hj];exact hs.2 j c q
def SN:kx pick vi jN:=λ B S Z L J J' y d Q hB hs hl hE r e hq=>by
 cases y with
 | nil=>simp only[zg] at r;subst r;cases e;exact⟨rfl,hq _ hE hs hl⟩
 | cons _ _=>cases e
def SO {g:T->Ev->Option Ev}{h:List T->Ev->Option Ev}{t:yT}{u:xP}(hg:ky pick g t) (hh:kx pick h u):kx pick (yO g h) (jO t u):=λ B S Z L J J' y d Q hB hs hl hE r e hq=>by
 cases y with
 | nil=>cases e
 | cons y ys=>
  simp only[zg] at r;obtain⟨c,cs,rfl,r1,r2⟩:=r;obtain⟨J1,e1,e2⟩:=Ak.mp e;exact hg B S Z L J J1 y c _ hB hs hl hE r1 e1 fun L1 E1 s1 l1=>hh B S Z L1 J1 J' ys cs Q hB s1 l1 E1 r2 e2 hq
def SR {n:Nat}{g:List T->Ev->Option Ev}{t:xP}(hg:kx pick g t):ky pick (wx n g) (qI n t):=λ B S Z L J J' y d Q hB hs hl hE r e hq=>by
 cases y with
 | tup ys=>
  simp only[Sn] at r;obtain⟨ds,rfl,r⟩:=r;simp only[wx] at e;split at e
  .rename_i hn;exact⟨by rw[r.len];exact hn,hg B S Z L J J' ys ds Q hB hs hl hE r e hq⟩
  .cases e
 | _=>cases e
def eS {J:Ev}{i:Nat}{w:W}(h:(pW pick J)[i]?=some (some w)):∃ j:Nat,pick[i]?=some (some j)/\J[j]?=some (some w):=by
 unfold pW at h;rw[AE] at h;cases q:pick[i]? with
 | none=>rw[q] at h;cases h
 | some o=>
  rw[q] at h;cases o with
  | none=>simp at h
  | some j=>
   simp only[Option.map_some,Bf,Option.some.injEq] at h;refine⟨j,rfl,?_⟩;cases q2:J[j]? with
   | none=>rw[q2] at h;cases h
   | some o2=>rw[q2] at h;simp only[Option.join_some] at h;rw[h]
def eT {L:zY}{i j:Nat}{d:D}(h:pick[i]?=some (some j)) (h':L[j]?=some (some d)):(vD pick L)[i]?=some (some d):=by
 unfold vD;rw[AE,h];simp[h']
def ER.WQ {S:SS}{Z:Addr->Prop}{L:zY}{J:Ev}(h:ER S Z L J):ER S Z (vD pick L) (pW pick J):=by
 refine⟨h.zd,λ i t e=>?_,λ i ts e=>?_⟩
 .obtain⟨j,h1,h2⟩:=eS e;obtain⟨d,h3,h4⟩:=h.im j t h2;exact⟨d,eT h1 h3,h4⟩
 .obtain⟨j,h1,h2⟩:=eS e;obtain⟨p,ds,h3,h4⟩:=h.ow j ts h2;exact⟨p,ds,eT h1 h3,h4⟩
def ER.hide {S S':SS}{Z:Addr->Prop}{L:zY}{J:Ev}{p:Addr}(h:ER S Z L J) (s:Sx S S') (hp:S p=none) (GK:S' p≠none):ER S' (λ a=>Z a\/a=p) L J:=by
 refine⟨λ a z q=>?_,λ i t e=>?_,λ i ts e=>?_⟩
 .rcases z with z | rfl
  .exact h.zd a z (s.none q)
  .exact GK q
 .obtain⟨d,h1,h2⟩:=h.im i t e;exact⟨d,h1,Sn.sx (qH s hp) t h2⟩
 .obtain⟨q,ds,h1,h2,h3,h4⟩:=h.ow i ts e;exact⟨q,ds,h1,s _ _ h2,uT.sx (qH s hp) h3,.inl h4⟩
def R6 {it:Ev->Option (List T)}{ti:xO}{g:T->Ev->Option Ev}{tg:yT}{c:Ev->Option Bool}{tc:yt}{f:Ev->Option T}{te:zo}{b:Bool}(hi:sZ b it ti) (hg:ky pick g tg) (hc:wK c tc) (hf:wZ f te):
  xh (yj pick it g c f) (uh pick ti tg tc te):=λ S Z L J y Q hE e hq=>by
 obtain⟨ts,e1,e2⟩:=Ak.mp e;split at e2
 case isFalse=>cases e2
 rename_i hlen;obtain⟨zs,e3,rfl⟩:=AJ.mp e2;refine hi S Z L J ts _ hE e1 λ I S1 s1 r1 hk=>⟨by rw[r1.len];exact hlen,λ S' s'=>hk S' ?_,λ p hp=>?_⟩
 .cases b
  .exact s'
  .exact (lg _ _).trans s'
 have E1:=hE.grow s1;have nz:¬ Z p:=λ z=>E1.zd p z hp;refine⟨λ i S' acc=>∃ us ws,zg (zI S' λ a=>Z a\/a=p) us acc/\rL (tK pick g c f J) (ts.drop i)=some ws/\zs=us++ws,⟨[],zs,.nil,e3,rfl⟩,λ i S' Ih acc hh ⟨us,ws,h1,h2⟩=>⟨us,ws,zg.sx (λ a o q=>?_) us h1,h2⟩,λ i d S2 acc hd s2 AO ⟨us,ws,h1,h2,h3⟩=>?_,λ S2 acc s2 AO ⟨us,ws,h1,h2,h3⟩=>?_⟩
 .obtain⟨q1,q2⟩:=uE q;rw[vE q1];exact hh a o (λ z=>q1 (.inr z)) q2
 .obtain⟨x,hx,rx⟩:=r1.jW hd;have Ao:=(AM.mp hx).1;have EM:ts.drop i=x::ts.drop (i+1):=by rw[List.drop_eq_getElem_cons Ao,(AM.mp hx).2]
  rw[EM] at h2;unfold rL at h2;obtain⟨o,o1,h2⟩:=Ak.mp h2;obtain⟨Gj,o2,rfl⟩:=AJ.mp h2;have E2:=(E1.hide s2 hp (by rw[AO];nofun)).WQ (pick:=pick);unfold tK at o1;obtain⟨J2,g1,o1⟩:=Ak.mp o1;obtain⟨bb,g2,o1⟩:=Ak.mp o1;refine hg (vD pick L) S2 _ _ _ J2 x d _ (λ j hj=>?_) ⟨rfl,λ _ _ q=>q⟩ (by unfold vD pW;simp) E2 (Sn.sx (qH s2 hp) x rx) g1 fun L2 E3 l3 _=>⟨l3,?_⟩
  .unfold vD;rw[AE,hj];rfl
  refine hc S2 _ L2 J2 bb _ E3 g2 λ S3 s3=>?_;split at o1
  .rename_i hb;rw[if_pos hb];obtain⟨z,g3,rfl⟩:=AJ.mp o1;refine hf S3 _ L2 J2 z _ (E3.grow s3) g3 λ dz S4 s4 r4=>⟨s3.trans s4,us++[z],Gj,?_,o2,by rw[h3];simp⟩;exact (zg.sx (xW (s3.trans s4)) us h1).append (.cons r4 .nil)
  .rename_i hb;rw[if_neg hb];cases o1;exact⟨s3,us,Gj,zg.sx (xW s3) us h1,o2,h3⟩
 .rw[show I.items.length=ts.length from r1.len,List.drop_length] at h2;cases h2;rw[C2] at h3;subst h3;refine hq _ S2 (s1.trans s2) ⟨?_,λ vs e=>?_⟩
  .simp only[Sn];exact⟨acc,.inr ⟨p,rfl,by rw[vE nz];exact AO⟩,zg.sx (uF λ a z=>.inl z) zs h1⟩
  .cases e;exact⟨p,acc,rfl,s1.none hp,AO,h1⟩
class Sr (R:Rk):Prop extends Lo R where
 sn:∀ {S S':SS}{Z:Addr->Prop}{y:T}{d:D},R S S' Z y d->Sn (zI S' Z) y d
instance:Sr xm:=⟨λ h=>h⟩
instance:Sr zA:=⟨λ h=>h.1⟩
def zG (R:Rk) (F:List T->Option T):tU:=λ ds S Q=>∃ Z ys y,(∀ a,Z a->S a≠none)/\zg (zI S Z) ys ds/\F ys=some y/\∀ d S',Sx S S'->R S S' Z y d->Q d S'
def zG.mo {R:Rk}{F:List T->Option T}:hZ (zG R F):=λ _ _ _ _ hq ⟨Z,ys,y,h1,h2,h3,h4⟩=>⟨Z,ys,y,h1,h2,h3,λ d S' s r=>hq _ _ (h4 d S' s r)⟩
def ju {R:Rk} [Lo R] {F:List T->Option T}{g:Ev->Option (List T)}{u:z_}(h:q_ g u):xp R (zj F g) (l8 (zG R F) u):=λ S Z L J y Q hE e hq=>by
 obtain⟨xs,e1,e2⟩:=Ak.mp e;refine h S Z L J xs _ hE e1 λ ds S1 s1 r1=>?_;exact⟨Z,xs,y,(hE.grow s1).zd,r1,e2,λ d S' s r=>hq d S' (s1.trans s) (Cl.cl s1 r)⟩
@[simp] noncomputable def ql (N:List Str) (ys:List T):Ev:=ys.map (λ y=>some (.im y))++List.replicate (N.length-ys.length) none
@[simp] noncomputable def e_:Option Out->Option T
 | some (.rt y)=>some y
 | some (.nx _)=>some .zm
 | _=>none
@[simp] def zO (N:List Str) (n:Nat) (g:Sm):List T->Option T:=λ ys=>if ys.length=n then e_ (g (ql N ys)) else none
theorem zG.len {R:Rk}{N:List Str}{n:Nat}{g:Sm}{ds:List D}{S:SS}{Q:DK}(hs:zG R (zO N n g) ds S Q):ds.length=n:=by
 obtain⟨Z,ys,y,hz,r,e,hq⟩:=hs;unfold zO at e;split at e
 .rename_i h;rw[r.len];exact h
 .cases e
def X6 {N:List Str}{ds:List D}{i:Nat}{d:D}(h:ds[i]?=some d):(tp N ds)[i]?=some (some d):=by
 have hi:=(AM.mp h).1;unfold tp;rw[Ca (by simpa using hi),AE,h];rfl
def mv {N:List Str}{ys:List T}{i:Nat}{w:W}(h:(ql N ys)[i]?=some (some w)):∃ y,ys[i]?=some y/\w=.im y:=by
 unfold ql at h;have hi:i<ys.length:=by
  rcases Bc i ys.length with q | q
  .exact q
  .rw[Cb (by simpa using q),CG] at h;split at h <;> cases h
 rw[Ca (by simpa using hi),AE] at h;cases q:ys[i]? with
 | none=>rw[q] at h;cases h
 | some y=>rw[q] at h;cases h;exact⟨y,rfl,rfl⟩
def Mq {R:Rk} [Lo R] {N:List Str}{n:Nat}{g:Sm}{t:y4}(h:ye R g t) {ds:List D}{S:SS}{Q:DK}(hs:zG R (zO N n g) ds S Q):t { nx:=λ _ S'=>Q .zm S',rt:=Q } (tp N ds) S:=by
 obtain⟨Z,ys,y,hz,r,e,hq⟩:=hs;unfold zO at e;split at e
 case isFalse=>cases e
 obtain⟨o,e1,e2⟩:∃ o,g (ql N ys)=some o/\e_ (some o)=some y:=by
  cases q:g (ql N ys) with
  | none=>rw[q] at e;cases e
  | some o=>exact⟨o,rfl,by rw[<- q];exact e⟩
 refine h S Z S Z _ _ o _ ⟨⟨hz,λ i t e=>?_,λ i ts e=>?_⟩,?_,.refl S,hz,λ _ z=>z,λ _ z=>.inl z,λ i ts p e _=>?_,λ i j ts us p _ e _ _ _=>?_⟩ e1 ?_
 .obtain⟨y',h1,h2⟩:=mv e;cases h2;obtain⟨d,h3,h4⟩:=r.o5 h1;exact⟨d,X6 h3,h4⟩
 .obtain⟨y',h1,h2⟩:=mv e;cases h2
 .unfold tp ql;have:=r.len;simp[this]
 .obtain⟨y',h1,h2⟩:=mv e;cases h2
 .obtain⟨y',h1,h2⟩:=mv e;cases h2
 .cases o with
  | rt y'=>cases e2;exact λ d S' s r=>hq d S' s r
  | nx J'=>
   cases e2;exact λ S' Z' L' F=>hq .zm S' F.sx (Cl.of (λ _=>nofun) fF)
  | _=>cases e2
noncomputable def xa (Aa:List (Key×T)) (k:Key):Option T:=(Aa.find? λ kv=>decide (kv.1=k)).map (·.2)
noncomputable def vA (Aa:List (Key×T)) (k:Key) (v:T):List (Key×T):=
 if (Aa.any λ kv=>decide (kv.1=k))=true then Aa.map (λ kv=>if kv.1=k then (kv.1,v) else kv) else Aa++[(k,v)]
section
variable {S:SS}
theorem yp.len:∀ {a:List (Key×T)}{b:List (Key×D)},yp S a b->b.length=a.length
 | [],_,h=>by cases h;rfl
 | (k,t)::r,_,h=>by
  obtain⟨d,m,rfl,_,h2⟩:=h;simp[yp.len h2]
theorem yp.val:∀ {a:List (Key×T)}{b:List (Key×D)}(k:Key),yp S a b->(xa a k=none/\v8 b k=none)\/∃ t d,xa a k=some t/\v8 b k=some d/\Sn S t d
 | [],_,k,h=>by cases h;exact .inl ⟨rfl,rfl⟩
 | (j,t)::r,_,k,h=>by
  obtain⟨d,m,rfl,h1,h2⟩:=h;by_cases e:j=k
  .subst e;exact .inr ⟨t,d,by simp[xa],by simp[v8],h1⟩
  .rcases yp.val k h2 with ⟨g1,g2⟩ | ⟨t',d',g1,g2,g3⟩
   .exact .inl ⟨by simpa [xa,e] using g1,by simpa [v8,e] using g2⟩
   .exact .inr ⟨t',d',by simpa [xa,e] using g1,by simpa [v8,e] using g2,g3⟩
theorem yp.any:∀ {a:List (Key×T)}{b:List (Key×D)}(k:Key),yp S a b->(b.any λ kv=>decide (kv.1=k))=a.any λ kv=>decide (kv.1=k)
 | [],_,k,h=>by cases h;rfl
 | (j,t)::r,_,k,h=>by
  obtain⟨d,m,rfl,h1,h2⟩:=h;rw[BC,BC,yp.any k h2]
theorem yp.u5 {k:Key}{t:T}{d:D}(r:Sn S t d):∀ {a:List (Key×T)}{b:List (Key×D)},yp S a b->yp S (a.map λ kv=>if kv.1=k then (kv.1,t) else kv) (b.map λ kv=>if kv.1=k then (kv.1,d) else kv)
 | [],_,h=>by cases h;rfl
 | (j,u)::a,_,h=>by
  obtain⟨e,m,rfl,h1,h2⟩:=h;rw[Ax,Ax];by_cases q:j=k
  .rw[if_pos q,if_pos q];exact⟨d,_,rfl,r,yp.u5 r h2⟩
  .rw[if_neg q,if_neg q];exact⟨e,_,rfl,h1,yp.u5 r h2⟩
theorem yp.snoc {k:Key}{t:T}{d:D}(r:Sn S t d):∀ {a:List (Key×T)}{b:List (Key×D)},yp S a b->yp S (a++[(k,t)]) (b++[(k,d)])
 | [],_,h=>by cases h;exact⟨d,[],rfl,r,rfl⟩
 | (j,u)::a,_,h=>by
  obtain⟨e,m,rfl,h1,h2⟩:=h;exact⟨e,_,rfl,h1,yp.snoc r h2⟩
def yp.put {a:List (Key×T)}{b:List (Key×D)}(h:yp S a b) (k:Key) {t:T}{d:D}(r:Sn S t d):yp S (vA a k t) (putD b k d):=by
 unfold vA putD;rw[h.any k];split
 .exact yp.u5 r h
 .exact yp.snoc r h
end
@[simp] noncomputable def bK (i:Nat):Sm:=fun J=>some (.nx (J.set i (some (.own (.zS [])))))
@[simp] def iz (i:Nat) (f:Ev->Option T):Ev->Option T:=fun J=>(f J).bind λ y=>match J[i]?,y with
 | some (some (.own (.zS Aa))),.int k=>xa Aa (.inl k)
 | _,_=>none
@[simp] def bL (i:Nat) (f g:Ev->Option T):Ev->Option T:=fun J=>(f J).bind λ y=>(g J).bind λ z=>match J[i]?,y with
 | some (some (.own (.zS Aa))),.int k=>some ((xa Aa (.inl k)).getD z)
 | _,_=>none
@[simp] def bJ (i:Nat) (f v:Ev->Option T):Sm:=fun J=>(v J).bind λ z=>(f J).bind λ y=>match J[i]?,y with
 | some (some (.own (.zS Aa))),.int k=>if Aa.length<sizeLine then some (.nx (J.set i (some (.own (.zS (vA Aa (.inl k) z)))))) else none
 | _,_=>none
@[simp] noncomputable def iy (i:Nat):Ev->Option T:=fun J=>match J[i]? with
 | some (some (.own (.zS Aa)))=>some (.int Aa.length)
 | _=>none
def mK {S:SS}{Z:Addr->Prop}{L:zY}{J:Ev}(hE:ER S Z L J) {i:Nat}{Aa:List (Key×T)}(h:J[i]?=some (some (.own (.zS Aa)))):∃ p b,L[i]?=some (some (.ref p))/\S p=some (.zS b)/\yp (zI S Z) Aa b:=by
 obtain⟨p,o,h1,h2,h3,_⟩:=hE.ow i _ h;cases o with
 | zS b=>exact⟨p,b,h1,h2,h3⟩
 | lst _=>exact h3.elim
section
variable {R:Rk}{f g v:Ev->Option T}{ty tx tv:zo}
def Sv (i:Nat):ye R (bK i) (wH ag (hName i)):=λ S0 Z0 S Z L J o E F e P=>by
 cases e;intro p hp;exact P _ _ _ (F.fM (ts:=.zS []) (ds:=.zS []) (.new hp _) i hp tj rfl)
def du (i:Nat) (hf:yf f ty):wZ (iz i f) (aj (yb i) ty):=λ S Z L J y Q hE e hq=>by
 obtain⟨x,e1,e2⟩:=Ak.mp e;split at e2
 .rename_i Aa k h;obtain⟨p,b,h1,h2,h3⟩:=mK hE h;show yb i L S _;unfold yb;rw[h1];refine hf S Z L J _ _ hE e1 λ d S1 s1 r1=>?_;cases Vw.int r1;rcases (yp.sx (xW s1) h3).val (.inl k) with ⟨g1,_⟩ | ⟨t,d,g1,g2,g3⟩
  .rw[g1] at e2;cases e2
  .rw[g1] at e2;cases e2;exact⟨p,b,k,d,rfl,rfl,s1 _ _ h2,g2,hq d S1 s1 g3⟩
 .cases e2
def dv (i:Nat) (hf:yf f ty) (hg:wZ g tx):wZ (bL i f g) (ai (yb i) ty tx):=λ S Z L J y Q hE e hq=>by
 obtain⟨x,e1,e⟩:=Ak.mp e;obtain⟨z,e2,e3⟩:=Ak.mp e;split at e3
 .rename_i Aa k h;cases e3;obtain⟨p,b,h1,h2,h3⟩:=mK hE h;show yb i L S _;unfold yb;rw[h1];refine⟨p,rfl,⟨b,h2⟩,hf S Z L J _ _ hE e1 λ d S1 s1 r1=>?_⟩;cases Vw.int r1;refine hg S1 Z L J z _ (hE.grow s1) e2 λ dz S2 s2 r2=>⟨k,b,rfl,(s1.trans s2) _ _ h2,?_⟩;rcases (yp.sx (xW (s1.trans s2)) h3).val (.inl k) with ⟨g1,g2⟩ | ⟨t,d,g1,g2,g3⟩
  .rw[g2];rw[g1] at hq;exact hq _ S2 (s1.trans s2) r2
  .rw[g2];rw[g1] at hq;exact hq _ S2 (s1.trans s2) g3
 .cases e3
def Su (i:Nat) (hf:yf f ty) (hv:wZ v tv):ye R (bJ i f v) (ah (yb i) ty tv):=λ S0 Z0 S Z L J o E F e P=>by
 obtain⟨z,e1,e⟩:=Ak.mp e;obtain⟨x,e2,e3⟩:=Ak.mp e;split at e3
 .rename_i Aa k h;split at e3
  .rename_i hl;cases e3;refine hv S Z L J z _ F.er e1 λ dz S1 s1 r1=>?_;have F1:=F.grow s1;obtain⟨p,b,h1,h2,h3⟩:=mK F1.er h;show yb i L S1 _;unfold yb;rw[h1];refine hf S1 Z L J _ _ F1.er e2 λ d S2 s2 r2=>?_;cases Vw.int r2;have h4:=yp.sx (xW s2) h3;exact⟨p,b,k,rfl,rfl,s2 _ _ h2,by rw[h4.len];exact hl,P _ Z L ((F1.grow s2).mut (us:=.zS (vA Aa (.inl k) z)) (es:=.zS (putD b (.inl k) dz)) i h h1 (h4.put _ (Sn.sx (xW s2) z r1)))⟩
  .cases e3
 .cases e3
def Qc (i:Nat):xh (iy i) (xv b7 (rK (yb i) l7)):=λ S Z L J y Q hE e hq=>by
 unfold iy at e;split at e
 .rename_i Aa h;cases e;obtain⟨p,b,h1,h2,h3⟩:=mK hE h;show yb i L S _;unfold yb;rw[h1];refine⟨p,b,rfl,h2,?_⟩;rw[h3.len];exact hq _ S (.refl S) (Cl.of (λ _=>nofun) xD)
 .cases e
end
@[simp] noncomputable def qy (f:Ev->Option T):Ev->Option T:=fun J=>(f J).bind λ x=>match x with
 | .int i=>some (.int (-i))
 | _=>none
def bX (ta:zo):zo:=fun L S Q=>ta L S λ x S1=>match x with
 | .int i=>Q (.int (-i)) S1
 | _=>False
def Ry {f:Ev->Option T}{te:zo}(h:yf f te):xh (qy f) (bX te):=λ S Z L J y Q hE e hq=>by
 obtain⟨x,e1,e2⟩:=Ak.mp e;refine h S Z L J x _ hE e1 λ d S1 s1 r1=>?_;split at e2
 .cases Vw.int r1;cases e2;exact hq _ S1 s1 (Cl.of (λ _=>nofun) xD)
 .cases e2
def Oy:vb zA qz b6:=ba
def Ox:vb zA oj bz:=ba
noncomputable def xV:List T->Option (List Int)
 | []=>some []
 | .int i::ts=>(xV ts).map (i::·)
 | _::_=>none
noncomputable def ve:List T->Option (List (List Int))
 | []=>some []
 | .tup r::ts=>(xV r).bind λ x=>(ve ts).map (x::·)
 | _::_=>none
noncomputable def zt (r:List Int):T:=.tup (r.map T.int)
theorem rH:∀ {ts:List T}{is:List Int},xV ts=some is->ts=is.map T.int
 | [],is,h=>by cases h;rfl
 | .int b::ts,is,h=>by
  unfold xV at h;obtain⟨cs,h1,rfl⟩:=AJ.mp h;rw[Ax,<- rH h1]
 | .zm::ts,bs,h=>by cases h
 | .bl _::ts,bs,h=>by cases h
 | .str _::ts,bs,h=>by cases h
 | .tup _::ts,bs,h=>by cases h
 | .lst _::ts,bs,h=>by cases h
theorem jc:∀ {ts:List T}{rs:List (List Int)},ve ts=some rs->ts=rs.map zt
 | [],is,h=>by cases h;rfl
 | .tup r::ts,is,h=>by
  unfold ve at h;obtain⟨x,h1,h⟩:=Ak.mp h;obtain⟨cs,h2,rfl⟩:=AJ.mp h;rw[Ax,<- jc h2,rH h1];rfl
 | .zm::ts,bs,h=>by cases h
 | .bl _::ts,bs,h=>by cases h
 | .str _::ts,bs,h=>by cases h
 | .int _::ts,bs,h=>by cases h
 | .lst _::ts,bs,h=>by cases h
def ox (is:List Int):xV (is.map T.int)=some is:=by
 induction is with
 | nil=>rfl
 | cons b bs ih=>rw[Ax];unfold xV;rw[ih];rfl
def mC (rs:List (List Int)):ve (rs.map zt)=some rs:=by
 induction rs with
 | nil=>rfl
 | cons b bs ih=>
  show ve (.tup (b.map T.int)::bs.map zt)=_;unfold ve;rw[ox,ih];rfl
theorem vV {S:SS}:∀ {is:List Int}{ds:List D},zg S (is.map T.int) ds↔ds=is.map D.int
 | [],ds=>by simp only[Bp,zg]
 | i::is,ds=>by
  rw[Ax];simp only[zg,Sn];constructor
  .rintro⟨c,cs,rfl,rfl,h⟩;rw[vV.mp h];rfl
  .rintro rfl;exact⟨.int i,_,rfl,rfl,vV.mpr rfl⟩
theorem qm {S:SS}:∀ {rs:List (List Int)}{ds:List D},zg S (rs.map zt) ds↔ds=rs.map wz
 | [],ds=>by simp only[Bp,zg]
 | r::rs,ds=>by
  rw[Ax];simp only[zg,zt,Sn];constructor
  .rintro⟨c,cs,rfl,⟨es,rfl,h1⟩,h⟩;rw[qm.mp h,vV.mp h1];rfl
  .rintro rfl;exact⟨wz r,_,rfl,⟨_,rfl,vV.mpr rfl⟩,qm.mpr rfl⟩
@[simp] noncomputable def kP:T->Option String
 | .zm=>some "NoneType"
 | .bl _=>some "bool"
 | .int _=>some "int"
 | .str _=>some "str"
 | .tup _=>some "tuple"
 | .lst _=>some "list"
 | .yR=>some "dict"
 | .err _ _ _=>none
@[simp] def FI (ty:String) (f:Ev->Option T):Ev->Option T:=fun J=>(f J).bind λ x=>(kP x).map λ t=>.bl (wg t ty)
theorem Vw.err {S:SS}{Z:Addr->Prop}{c f:Str}{t:T}{d:D}(h:Vw S Z (.err c f t) d):∃ x,d=.err c f x/\Sn (zI S Z) t x:=by
 rcases h with h | ⟨_,_,_,h,_⟩
 .simpa only [Sn] using h
 .cases h
def RT {ty:String}{f:Ev->Option T}{te:zo}(hf:yf f te):xh (FI ty f) (qQ ty te):=λ S Z L J y Q hE e hq=>by
 obtain⟨x,e1,e2⟩:=Ak.mp e;obtain⟨n,e3,rfl⟩:=AJ.mp e2;refine hf S Z L J x _ hE e1 λ d S1 s1 r1=>?_;have key:sj d S1=some n:=by
  rw[<- e3];cases x with
  | zm=>cases Vw.zm r1;rfl
  | bl _=>cases Vw.bl r1;rfl
  | int _=>cases Vw.int r1;rfl
  | str _=>cases Vw.str r1;rfl
  | tup _=>obtain⟨ds,rfl,_⟩:=Vw.tup r1;rfl
  | lst _=>
   obtain⟨ds,rfl | ⟨a,rfl,h1⟩,h2⟩:=Vw.lst r1
   .rfl
   .unfold sj;dsimp only;rw[h1];rfl
  | yR=>
   obtain⟨a,Aa,⟨rfl,_⟩,h1⟩:=Vw.yR r1;unfold sj;dsimp only;rw[h1];rfl
  | err _ _ _=>cases e3
 rw[key];exact hq _ S1 s1 (Cl.of (λ _=>nofun) wL)
@[simp] noncomputable def isNone:T->Bool
 | .zm=>true
 | _=>false
noncomputable def qC:D->Bool
 | .zm=>true
 | _=>false
noncomputable def zk (p:Int×Int):T:=.tup [.int p.1,.int p.2]
noncomputable def wN (ns:List Int):T:=.lst (ns.map .int)
@[simp] theorem zaa:sizeLine=16777216:=rfl
def QV {n:Nat}(h:n<=10000):n<=sizeLine:=A6 h (by decide)
def vv {α:Type}{xs:List α}{k:Nat}{x:α}(h:xs[k]?=some x):L2.zL xs (k:Int)=some x:=by
 unfold L2.zL L2.wA;have hk:=(AM.mp h).1;rw[if_pos (by lia),if_pos (by lia)];simpa using h
@[simp] theorem kl {α:Type}{xs:List α}{x:α}:L2.zL (xs++[x]) (-1)=some x:=by
 unfold L2.zL L2.wA;rw[if_neg (by lia),if_pos (by simp;lia)];have:(-1+((xs++[x]).length:Int)).toNat=xs.length:=by simp;lia
 rw[Bf,this];simp
@[simp] theorem zap {α:Type}{x:α}{xs:List α}:L2.zL (x::xs) 0=some x:=vv (k:=0) rfl
@[simp] theorem zao {α:Type}{x y:α}{xs:List α}:L2.zL (x::y::xs) 1=some y:=vv (k:=1) rfl
@[simp] theorem zan {α:Type}{x y z:α}{xs:List α}:L2.zL (x::y::z::xs) 2=some z:=vv (k:=2) rfl
@[simp] theorem zam {α:Type}{x y z w:α}{xs:List α}:L2.zL (x::y::z::w::xs) 3=some w:=vv (k:=3) rfl
theorem i3 {α:Type}(enc:α->T) (g:α->Option T) (h:T->Option (Option T)):∀ (xs:List α),(∀ x∈xs,h (enc x)=some (g x))->rL h (xs.map enc)=some (xs.filterMap g)
 | [],_=>rfl
 | x::xs,hh=>by
  rw[Ax];unfold rL;rw[hh x Ap,i3 enc g h xs λ y hy=>hh y (Av _ hy)];cases q:g x <;> simp[q]
def N7 {α:Type}(enc:α->T) (g:α->T) (h:T->Option (Option T)) (xs:List α) (hh:∀ x∈xs,h (enc x)=some (some (g x))):rL h (xs.map enc)=some (xs.map g):=by
 rw[i3 enc (λ x=>some (g x)) h xs hh];simp
def yF {α:Type}(enc:α->T) (h:α->T) {pick:List (Option Nat)}{it:Ev->Option (List T)}{g:T->Ev->Option Ev}{c:Ev->Option Bool}{f:Ev->Option T}{J:Ev}(xs:List α) (hi:it J=some (xs.map enc)) (hl:xs.length<=16777216)
  (hh:∀ x∈xs,tK pick g c f J (enc x)=some (some (h x))):yj pick it g c f J=some (.lst (xs.map h)):=by
 unfold yj;rw[hi,Bf,if_pos (by rw[AB];exact hl),N7 enc h _ xs hh];rfl
def mU {α:Type}(enc:α->T) (h:α->Option T) {pick:List (Option Nat)}{it:Ev->Option (List T)}{g:T->Ev->Option Ev}{c:Ev->Option Bool}{f:Ev->Option T}{J:Ev}(xs:List α) (hi:it J=some (xs.map enc)) (hl:xs.length<=16777216)
  (hh:∀ x∈xs,tK pick g c f J (enc x)=some (h x)):yj pick it g c f J=some (.lst (xs.filterMap h)):=by
 unfold yj;rw[hi,Bf,if_pos (by rw[AB];exact hl),i3 enc h _ xs hh];rfl
section
variable {α:Type}{is:List Nat}{g:T->Ev->Option Ev}{b:Sm}
noncomputable def turn (g:T->Ev->Option Ev) (b:Sm) (y:T) (J:Ev):Option Out:=(g y J).bind b
theorem dX (y:T) (ys:List T) (J:Ev):xI is g b (y::ys) J=(turn g b y (yw is J)).bind λ o=>match o with
  | .nx J2=>xI is g b ys J2
  | .ct J2=>xI is g b ys J2
  | .bk J2=>some (.nx (yw is J2))
  | .rt t=>some (.rt t):=by
 unfold turn;rw[xI];cases g y (yw is J) <;> rfl
theorem dU (enc:α->T) (I:List α->Ev->Prop):∀ (xs:List α) (pre:List α) (J:Ev),I pre (yw is J)->
  (∀ p x q,pre++xs=p++x::q->∀ J,I p J->∃ J',turn g b (enc x) J=some (.nx J')/\I (p++[x]) (yw is J'))->∃ J',xI is g b (xs.map enc) J=some (.nx J')/\I (pre++xs) J'
 | [],pre,J,h,_=>⟨yw is J,by rw[Bp,xI],by simpa using h⟩
 | x::xs,pre,J,h,hs=>by
  obtain⟨J',h1,h2⟩:=hs pre x xs rfl _ h;rw[Ax,dX,h1];have ih:=dU enc I xs (pre++[x]) J' h2 λ p y q e=>hs p y q (by rw[<- e];simp);simpa using ih
def vZ (enc:α->T) (I:List α->Ev->Prop) (xs:List α) (J:Ev) (h:I [] (yw is J))
  (hs:∀ p x q,xs=p++x::q->∀ J,I p J->∃ J',turn g b (enc x) J=some (.nx J')/\I (p++[x]) (yw is J')):∃ J',xI is g b (xs.map enc) J=some (.nx J')/\I xs J':=dU enc I xs [] J h hs
end
def pP (n:Nat) (h:n<=100000):wO [.int (n:Int)]=some ((List.range n).map λ(k:Nat)=>T.int (0+(k:Int))):=by
 show (if inR (n:Int)=true then some (rangeT 0 (n:Int).toNat) else none)=_;rw[if_pos (cU.mpr ⟨by lia,by lia⟩)];rfl
def rp (a:Key) (b:T) (Aa:List (Key×T)) (j:Key):xa ((a,b)::Aa) j=if a=j then some b else xa Aa j:=by
 by_cases h:a=j <;> simp[xa,h]
theorem gO (k j:Key) (d:T):∀ Aa:List (Key×T),xa (Aa.map λ kv=>if kv.1=k then (kv.1,d) else kv) j=(xa Aa j).map λ x=>if j=k then d else x
 | []=>rfl
 | (a,b)::Aa=>by
  have ih:=gO k j d Aa;rw[Ax];by_cases hk:a=k
  .rw[if_pos hk,rp,rp,ih];by_cases hj:a=j
   .subst hj;subst hk;simp
   .rw[if_neg hj,if_neg hj]
  .rw[if_neg hk,rp,rp,ih];by_cases hj:a=j
   .subst hj;simp[hk]
   .rw[if_neg hj,if_neg hj]
theorem gN (k j:Key) (d:T):∀ Aa:List (Key×T),(∀ kv∈Aa,¬ kv.1=k)->xa (Aa++[(k,d)]) j=if j=k then some d else xa Aa j
 | [],_=>by
  show xa [(k,d)] j=_;rw[rp];by_cases h:j=k
  .subst h;simp
  .rw[if_neg h,if_neg (λ z=>h z.symm)]
 | (a,b)::Aa,hn=>by
  have ih:=gN k j d Aa λ kv EF=>hn kv (Av _ EF);have ha:¬ a=k:=hn (a,b) Ap;show xa ((a,b)::(Aa++[(k,d)])) j=_;rw[rp,rp,ih];by_cases hj:a=j
  .subst hj;simp[ha]
  .rw[if_neg hj,if_neg hj]
def aV (Aa:List (Key×T)) (k:Key):(Aa.any λ kv=>decide (kv.1=k))=(xa Aa k).isSome:=by
 unfold xa;rw[Option.isSome_map,Bs,Bk,List.find?_isSome]
def md (Aa:List (Key×T)) (k j:Key) (d:T):xa (vA Aa k d) j=if j=k then some d else xa Aa j:=by
 unfold vA;split
 .rename_i h;rw[aV] at h;rw[gO];by_cases hj:j=k
  .subst hj;obtain⟨x,hx⟩:=DD.mp h;simp[hx]
  .simp[hj]
 .rename_i h;exact gN k j d Aa λ kv EF z=>h (Bk.mpr ⟨kv,EF,KG z⟩)
def ck (Aa:List (Key×T)) (k:Key) (d:T):(vA Aa k d).length=if (xa Aa k).isSome=true then Aa.length else Aa.length+1:=by
 have e:=aV Aa k;unfold vA;rw[e];split <;> simp
noncomputable def yK (p:Int×Int):List Int:=[p.1,p.2]
def tw (ps:List (Int×Int)):List (Int×Int):=(L4.yW (ps.map yK)).map λ r=>(r.getD 0 0,r.getD 1 0)
def fA (ps:List (Int×Int)):(tw ps).map yK=L4.yW (ps.map yK):=by
 unfold tw;rw[Au]
 conv=>rhs;rw[<- List.map_id (L4.yW (ps.map yK))]
 refine Cg λ r hr=>?_;obtain⟨p,_,rfl⟩:=Ai.mp ((L4.vU _).mem_iff.mp hr);rfl
def ja (ps:List (Int×Int)):(tw ps).Perm ps:=by
 have h:=L4.vU (ps.map yK);have:(tw ps).Perm ((ps.map yK).map λ r=>(r.getD 0 0,r.getD 1 0)):=h.map _
 rwa [Au,show ((λ r:List Int=>(r.getD 0 0,r.getD 1 0)) ∘ yK)=id from rfl,List.map_id] at this
def qA (p q:Int×Int):Prop:=p.1<q.1\/(p.1=q.1/\p.2<=q.2)
def f9 (ps:List (Int×Int)):(tw ps).Pairwise qA:=by
 have h:=L4.pK (ps.map yK);rw[<- fA,A4] at h;refine h.imp λ{p q} Cf=>?_;unfold yK at Cf;rw[HT.uD,HT.uD] at Cf;unfold qA;by_cases e:q.1=p.1
 .rw[if_pos e] at Cf;by_cases e2:q.2=p.2
  .lia
  .rw[if_neg e2] at Cf;have:=of_decide_eq_false Cf;lia
 .rw[if_neg e] at Cf;have:=of_decide_eq_false Cf;lia
def Wa (ps:List (Int×Int)):ve (ps.map zk)=some (ps.map yK):=by
 have:=mC (ps.map yK)
 rwa [Au,show zt ∘ yK=zk from rfl] at this
noncomputable def wD (q p:Int×Int):Bool:=decide (p.1<=q.1)&&decide (p.2<=q.2)
def zK (ps:List (Int×Int)) (q:Int×Int):Bool:=ps.any (wD q)
def yo {ps:List (Int×Int)}{q:Int×Int}:zK ps q=true↔∃ p∈ps,p.1<=q.1/\p.2<=q.2:=by
 unfold zK wD;simp[Bk]
def N0 {ps qs:List (Int×Int)}(h:ps.Perm qs) (q:Int×Int):zK ps q=zK qs q:=by
 rw[Bs,yo,yo];exact⟨λ⟨p,h1,h2⟩=>⟨p,h.mem_iff.mp h1,h2⟩,λ⟨p,h1,h2⟩=>⟨p,h.mem_iff.mpr h1,h2⟩⟩
def N1 (ps qs:List (Int×Int)) (q:Int×Int):zK (ps++qs) q=(zK ps q||zK qs q):=by
 unfold zK;rw[List.any_append]
def yU (ps:List (Int×Int)):Prop:=ps.Pairwise λ p q=>p.1<q.1/\q.2<p.2
theorem yU.eq:∀ {ps qs:List (Int×Int)},yU ps->yU qs->(∀ q,zK ps q=zK qs q)->ps=qs
 | [],[],_,_,_=>rfl
 | [],q::qs,_,_,h=>by
  have:=h q;rw[show zK [] q=false from rfl] at this;have h2:zK (q::qs) q=true:=yo.mpr ⟨q,Ap,AN _,AN _⟩;rw[h2] at this;cases this
 | p::ps,[],_,_,h=>by
  have:=h p;rw[show zK [] p=false from rfl] at this;have h2:zK (p::ps) p=true:=yo.mpr ⟨p,Ap,AN _,AN _⟩;rw[h2] at this;cases this
 | p::ps,q::qs,hp,hq,h=>by
  have Jr:=Bh.mp hp;have Jq:=Bh.mp hq;have a1:∃ r∈q::qs,r.1<=p.1/\r.2<=p.2:=yo.mp (by rw[<- h];exact yo.mpr ⟨p,Ap,AN _,AN _⟩);have a2:∃ r∈p::ps,r.1<=q.1/\r.2<=q.2:=yo.mp (by rw[h];exact yo.mpr ⟨q,Ap,AN _,AN _⟩);obtain⟨r,hr,r1,r2⟩:=a1;obtain⟨u,hu,u1,u2⟩:=a2;have qr:q.1<=r.1:=by
   rcases Aj.mp hr with e | e
   .subst e;exact AN _
   .exact Int.le_of_lt (Jq.1 r e).1
  have pu:p.1<=u.1:=by
   rcases Aj.mp hu with e | e
   .subst e;exact AN _
   .exact Int.le_of_lt (Jr.1 u e).1
  have e1:p.1=q.1:=by lia
  have er:r=q:=by
   rcases Aj.mp hr with e | e
   .exact e
   .have:=(Jq.1 r e).1;lia
  have eu:u=p:=by
   rcases Aj.mp hu with e | e
   .exact e
   .have:=(Jr.1 u e).1;lia
  subst er eu;have e2:u.2=r.2:=by lia
  have epq:u=r:=Prod.ext e1 e2;subst epq;rw[yU.eq Jr.2 Jq.2 λ x=>?_];have hx:=h x;unfold zK at hx ⊢;rw[BC,BC] at hx;cases g:wD x u with
  | false=>rw[g] at hx;simpa using hx
  | true=>
   have gx:u.1<=x.1/\u.2<=x.2:=by simpa [wD] using g
   have key:∀ {l:List (Int×Int)},(∀ v∈l,u.1<v.1/\v.2<u.2)->l.any (wD x)=l.any (wD (x.1,u.2-1)):=by
    intro l hl;rw[Bs,Bk,Bk];constructor
    .rintro⟨v,hv,hg⟩;have:=hl v hv;have hg':v.1<=x.1/\v.2<=x.2:=by simpa [wD] using hg
     exact⟨v,hv,by simp[wD];lia⟩
    .rintro⟨v,hv,hg⟩;have:=hl v hv;have hg':v.1<=x.1/\v.2<=u.2-1:=by simpa [wD] using hg
     exact⟨v,hv,by simp[wD];lia⟩
   rw[key Jr.1,key Jq.1];have hy:=h (x.1,u.2-1);unfold zK at hy;rw[BC,BC] at hy;have gn:wD (x.1,u.2-1) u=false:=by
    unfold wD;rw[show decide (u.2<=(x.1,u.2-1).2)=false from KA (by show ¬ u.2<=u.2-1;lia),CF]
   rw[gn] at hy;simpa using hy
noncomputable def uQ (l:Option Int) (x:Int):Bool:=match l with
 | none=>true
 | some m=>decide (x<m)
noncomputable def yz:List (Int×Int)->Option Int->List (Int×Int)
 | [],_=>[]
 | p::ps,l=>if uQ l p.2=true then p::yz ps (some p.2) else yz ps l
def w9 (ps:List (Int×Int)):List (Int×Int):=yz (tw ps) none
theorem oy:∀ (ps:List (Int×Int)) (l:Option Int) (q:Int×Int),q∈yz ps l->q∈ps/\∀ m,l=some m->q.2<m
 | [],l,q,h=>by simp[yz] at h
 | p::ps,l,q,h=>by
  unfold yz at h;split at h
  .rename_i c;have hm:∀ m,l=some m->p.2<m:=λ m e=>by subst e;simpa [uQ] using c
   rcases Aj.mp h with e | e
   .subst e;exact⟨Ap,hm⟩
   .obtain⟨h1,h2⟩:=oy ps _ q e;exact⟨Av _ h1,λ m e=>by have:=h2 _ rfl;have:=hm m e;lia⟩
  .obtain⟨h1,h2⟩:=oy ps _ q h;exact⟨Av _ h1,h2⟩
theorem jP:∀ (ps:List (Int×Int)) (l:Option Int),ps.Pairwise qA->yU (yz ps l)
 | [],l,_=>by simp[yz,yU]
 | p::ps,l,h=>by
  have h1:=Bh.mp h;unfold yz;split
  .refine Bh.mpr ⟨λ q hq=>?_,jP ps _ h1.2⟩;obtain⟨g1,g2⟩:=oy ps _ q hq;have:=h1.1 q g1;have:=g2 _ rfl;unfold qA at *;lia
  .exact jP ps _ h1.2
theorem jQ:∀ (ps:List (Int×Int)) (l:Option Int),ps.Pairwise qA->∀ p∈ps,(∃ q∈yz ps l,q.1<=p.1/\q.2<=p.2)\/∃ m,l=some m/\m<=p.2
 | [],l,_,p,hp=>by cases hp
 | r::ps,l,h,p,hp=>by
  have h1:=Bh.mp h;unfold yz;split
  .rename_i c;rcases Aj.mp hp with e | e
   .subst e;exact .inl ⟨p,Ap,AN _,AN _⟩
   .rcases jQ ps (some r.2) h1.2 p e with ⟨q,q1,q2⟩ | ⟨m,e1,e2⟩
    .exact .inl ⟨q,Av _ q1,q2⟩
    .cases e1;have:=h1.1 p e;unfold qA at this;exact .inl ⟨r,Ap,by lia,e2⟩
  .rename_i c;rcases Aj.mp hp with e | e
   .subst e;cases l with
    | none=>simp[uQ] at c
    | some m=>exact .inr ⟨m,rfl,by simpa [uQ] using c⟩
   .exact jQ ps l h1.2 p e
def jG (ps:List (Int×Int)):yU (w9 ps):=jP _ _ (f9 ps)
def Q_ {ps:List (Int×Int)}{q:Int×Int}(h:q∈w9 ps):q∈ps:=(ja ps).mem_iff.mp (oy _ _ q h).1
def q8 (ps:List (Int×Int)) (q:Int×Int):zK (w9 ps) q=zK ps q:=by
 rw[<- N0 (ja ps) q,Bs,yo,yo];constructor
 .rintro⟨p,h1,h2⟩;exact⟨p,(oy _ _ p h1).1,h2⟩
 .rintro⟨p,h1,h2⟩;rcases jQ (tw ps) none (f9 ps) p h1 with ⟨r,r1,r2⟩ | ⟨m,e,_⟩
  .exact⟨r,r1,by lia,by lia⟩
  .cases e
end L5
namespace L2
open PySem PySem.Spec PyProof.Rows
section
variable {X:Cx}
def eM (K:Ac):R2:=λ x y H Q=>∃ l b xs zs,x=.ref l/\y=.ref b/\zJ K H l xs/\zJ K H b zs/\xs.length+zs.length<=sizeLine/\∀ p,H p=none->Q (.ref p) (upd H p (.lst (xs++zs)))
def TV:zT X (binaryOp .Add) (eM X.K):=by
 intro EV s Y H x y v u Q I rx ry h;obtain⟨l,b,xs,zs,rfl,rfl,hH,hB,hz,q⟩:=h;cases rx;cases ry;obtain⟨its,r,p1,_⟩:=I.list hH;obtain⟨Fw,r2,p2,_⟩:=I.list hB;obtain⟨⟨cls,dd,data,sl⟩,ho,hc,n,hd⟩:=p1.isList;obtain⟨⟨Ig,Hv,data2,Hr⟩,G8,Gi,n2,hd2⟩:=p2.isList;simp only at hc hd Gi hd2;subst hc hd Gi hd2;have e:its.toArray++Fw.toArray=(its++Fw).toArray:=by simp
 refine concat_meets ⟨_,ho,rfl⟩ ⟨_,G8,rfl⟩ noFill_list_add seq_list_add PySem.F.slot_list_add PySem.F.entry_list_add (PySem.F.args_list_add_2 _ _) (list_addW l b its.toArray Fw.toArray n n2 dd Hv sl Hr (by rw[Az,Az,<- r.length,<- r2.length];exact hz)) ⟨ho,G8,?_⟩;rw[e];exact⟨.ref _,_,I.QT (t':=s.toks) (r.append r2) (by rw[Cd];lia),rfl,q _ I.fresh⟩
def eK (K:Ac):R2:=λ x y H Q=>∃ a b ys,x=.ref a/\y=.ref b/\zN K H a []/\zN K H b ys/\Q (.ref b) H
def TR:zT X (binaryOp .Add) (eK X.K):=by
 intro EV s Y H x y v u Q I rx ry h;obtain⟨l,b,ys,rfl,rfl,hH,hB,q⟩:=h;cases rx;cases ry;obtain⟨its,r,p1,_⟩:=I.tuple hH;obtain⟨Fw,r2,p2,_⟩:=I.tuple hB;obtain⟨⟨cls,dd,data,sl⟩,ho,hc,n,hd⟩:=id p1;obtain⟨⟨Ig,Hv,data2,Hr⟩,G8,Gi,n2,hd2⟩:=id p2;simp only at hc hd Gi hd2;subst hc hd Gi hd2;exact concat_meets ⟨_,ho,rfl⟩ ⟨_,G8,rfl⟩ noFill_tuple_add seq_tuple_add PySem.F.slot_tuple_add PySem.F.entry_tuple_add (PySem.F.args_tuple_add_2 _ _)
   (tuple_addW0 l b its.toArray Fw.toArray n n2 dd Hv sl Hr (by cases r;rfl)) ⟨ho,G8,⟨.ref b,H,I,rfl,q⟩⟩
end
end L2
namespace L5
open PySem PySem.Spec L2 L3
open PyProof.Rows hiding St
section
variable {X:Cx}{K:Ac}{a b c e:Expr}{es:List Expr}{ta tb tc te:zo}{tA:z_}{pos p:Pos}
def vI.mo:xi vI:=λ x y S Q Q' hq h=>by
 cases x with
 | int i=>cases y <;> first | exact hq _ _ h | exact h
 | str i=>cases y <;> first | exact⟨h.1,hq _ _ h.2⟩ | exact h
 | tup i=>cases y <;> first | exact⟨h.1,hq _ _ h.2⟩ | exact h
 | xy ds=>
  unfold vI at h ⊢;dsimp only at h ⊢;split at h
  .exact⟨h.1,h.2.1,λ r hr=>hq _ _ (h.2.2 r hr)⟩
  .exact h.elim
 | ref q=>
  unfold vI at h ⊢;dsimp only at h ⊢;split at h
  .exact⟨h.1,h.2.1,λ r hr=>hq _ _ (h.2.2 r hr)⟩
  .exact h.elim
 | _=>exact h
def sA {H:Hp}{S:SS}{d:D}{v:V}{ds:List D}(r:ze K H d v) (p:zE K H S) (e:zH d S=some ds) (n:∀ ts,d≠.tup ts):∃ a xs,v=.ref a/\zJ K H a xs/\zh K H ds xs:=by
 unfold zH at e;split at e
 .exact absurd rfl (n _)
 .cases e;simp only[ze] at r;obtain⟨a,xs,h1,h2,h3⟩:=r;exact⟨a,xs,h1,h2.sq,h3⟩
 .split at e
  .rename_i q;cases e;simp only[ze] at r;subst r;obtain⟨xs,h1,h2⟩:=p _ _ q;exact⟨_,xs,rfl,zJ.of h1,h2⟩
  .cases e
 .cases e
abbrev eO (K:Ac):R2:=λ x y H Q=>vg (λ i j=>.int (i+j)) x y H Q\/((∃ i j,x=.str i/\y=.str j/\i.length+j.length<=sizeLine/\Q (.str (i++j)) H)\/(eM K x y H Q\/(eK K x y H Q\/eL K x y H Q)))
def vI.fits:xj K vI (eO K):=λ x y d e H S Q h1 h2 h3 h=>by
 have lst:(∀ ts,d≠.tup ts)->(match zH d S,zH e S with
  | some ds,some es=>(∀ ts,e≠.tup ts)/\ds.length+es.length<=sizeLine/\∀ r,S r=none->xY K H Q (.ref r) (ups S r (.lst (ds++es)))
  | _,_=>False)->eO K x y H Q:=λ n h=>by
  split at h
  .rename_i ds es q1 q2;obtain⟨a,xs,rfl,g1,g2⟩:=sA h1 h3 q1 n;obtain⟨b,ys,rfl,g3,g4⟩:=sA h2 h3 q2 h.1;refine .inr (.inr (.inl ⟨a,b,xs,ys,rfl,rfl,g1,g3,by rw[<- g2.length,<- g4.length];exact h.2.1,λ p hp=>?_⟩));exact h.2.2 p (h3.none hp) _ _ (by simp only[ze]) (.new hp _) (h3.ups (.new hp _) ⟨_,yr,zh.ext (.new hp _) _ (g2.append g4)⟩)
  .exact h.elim
 cases d with
 | int i=>
  cases e with
  | int j=>
   simp only[ze] at h1 h2;exact .inl ⟨_,_,h1,h2,h _ H (by simp only[ze]) (.refl H) h3⟩
  | _=>exact h.elim
 | str i=>
  cases e with
  | str j=>
   simp only[ze] at h1 h2;exact .inr (.inl ⟨_,_,h1,h2,h.1,h.2 _ H (by simp only[ze]) (.refl H) h3⟩)
  | _=>exact h.elim
 | tup ds=>
  cases e with
  | tup es=>
   have Jd:=h1;have Kh:=h2;simp only[ze] at h1 h2;obtain⟨a,xs,rfl,g1,g2⟩:=h1;obtain⟨b,ys,rfl,g3,g4⟩:=h2;have hl:=g2.length;have Gn:=g4.length;by_cases hx:xs=[]
   .subst hx;have:ds=[]:=by cases ds <;> simp_all
    subst this;exact .inr (.inr (.inr (.inl ⟨a,b,ys,rfl,rfl,g1,g3,h.2 _ H Kh (.refl H) h3⟩)))
   .refine .inr (.inr (.inr (.inr ⟨a,b,xs,ys,rfl,rfl,g1,g3,hx,by rw[<- hl,<- Gn];exact h.1,λ hy=>?_,λ hy p hp=>?_⟩)))
    .subst hy;have:es=[]:=by cases es <;> simp_all
     subst this;refine h.2 _ H ?_ (.refl H) h3;rw[C2];exact Jd
    .refine h.2 _ _ ?_ (.new hp _) (h3.new hp);simp only[ze];exact⟨p,_,rfl,zN.of yr,zh.ext (.new hp _) _ (g2.append g4)⟩
  | _=>exact h.elim
 | xy ds=>exact lst (λ _=>nofun) h
 | ref q=>exact lst (λ _=>nofun) h
 | _=>exact h.elim
def Tv (ha:PD X a ta) (hb:PD X b tb):PD X (.BinOp a .Add b pos) (yc vI ta tb):=sE (TY.or (TX.or (TV.or (TR.or TU)))) vI.fits vI.mo ha hb
def uI.mo {g:List Bool->Bool}:va (uI g):=λ ds S Q Q' hq h=>by
 unfold uI at h ⊢;split at h
 .exact h.elim
 .obtain⟨bs,h1,h2⟩:=h;exact⟨bs,h1,hq _ _ h2⟩
 .exact h.elim
def uI.fits {g:List Bool->Bool}:vR K (uI g) (λ xs H Q=>∃ p,∃ bs:List Bool,xs=[.ref p]/\zJ K H p (bs.map V.bl)/\Q (.bl (g bs)) H):=λ xs ds H S Q h0 h2 h=>by
 unfold uI at h;split at h
 .exact h.elim
 .rename_i d hn;obtain⟨x,hx,h1⟩:=h0.one;subst hx;obtain⟨bs,e,h⟩:=h;obtain⟨a,ys,rfl,g1,g2⟩:=sA h1 h2 e (λ ts z=>hn ts z);rw[g2.bools] at g1;exact⟨a,bs,rfl,g1,h _ H (by simp only[ze]) (.refl H) h2⟩
 .exact h.elim
def Tu (hm:X.mg "all"=none) (ha:yZ X (e::es) tA) (hc:X.calm=true) (hg:Gl X "all") (he:starEach (e::es) X.env=(false,eval e X.env)::starEach es X.env) (Aq:(backTo pos (starEach es X.env)).any (·.1)=false):PD X (.Call (.Name "all" p) (e::es) [] pos) (xv (uI λ bs=>bs.all id) tA):=
 u6 (t9 (N_ hc) hg hm boot_all ha.pa (by decide) (by decide) he Aq) uI.mo uI.fits ha.mo
def PJ {H:Hp}{d:D}{v:V}(r:ze K H d v):decide (v=.zm)=qC d:=by
 cases d with
 | tup _=>simp only[ze] at r;obtain⟨a,xs,rfl,_⟩:=r;rfl
 | xy _=>simp only[ze] at r;obtain⟨a,xs,rfl,_⟩:=r;rfl
 | err _ _ _=>simp only[ze] at r;obtain⟨a,_,_,_,rfl,_⟩:=r;rfl
 | _=>simp only[ze] at r;subst r;rfl
def U5 (ha:PD X a ta):PD X (.UnaryOp .USub a pos) (bX ta):=by
 refine⟨fun L S Q Q' hq h=>ha.mo L S _ _ (λ x S1 z=>by
  cases x <;> first
   | exact hq _ _ z
   | exact z) h,PE.imp (Vg YJ ha.pe) fun Y H Q hu=>?_⟩
 obtain⟨L,S,r1,r2,h⟩:=hu;refine zC.go ha.mo r1 r2 h λ x S1 v H1 h1 q1 e1 p1=>?_;cases x with
 | int i=>simp only[ze] at q1;exact⟨i,q1,h1 _ H1 (by simp only[ze]) e1 p1⟩
 | _=>exact h1.elim
section
variable {N':List Str}{pick:List (Option Nat)}{scope:Scope}{tg elt iter:Expr}{ifs:List Expr}{ti:xO}{g:yT}{GN:yt}
def uh.mo (hi:k6 ti):zV (uh pick ti g GN te):=fun L S Q Q' hq z=>hi L S _ _ (λ I S1 ⟨h1,h2,h3⟩=>⟨h1,h2,λ p hp=>by
 obtain⟨W,w0,w1,w2,w3⟩:=h3 p hp;exact⟨W,w0,w1,w2,λ S2 acc a b c=>hq _ _ (w3 S2 acc a b c)⟩⟩) z
def gQ (hi:k6 ti) (hg:nA g) (hc:wu GN) (he:zV te) {Y:St}{H:Hp}{Q:VK}(hu:zC K (uh pick ti g GN te) Y H Q):kT pick (x_ K ti) (pE K g) (xS K GN) (zC K te) Y H Q:=by
 obtain⟨L,S,r1,r2,z⟩:=hu;refine⟨L,S,r1,r2,hi L S _ _ (λ I S1 hF J H1 e1 p1 rep D hD=>?_) z⟩;obtain⟨hlen,hk,hF⟩:=hF;have Kc:S1 D=none:=p1.none hD;obtain⟨W,w0,wm,Ir,Jx⟩:=hF D Kc;refine⟨λ i m Y H2=>m=I.items.length-i/\i<=I.items.length/\Ext H1 H2/\y6 K H2 (vD pick L) Y/\∃ S2 acc,zE K H2 S2/\Sx S1 S2/\S2 D=some (.lst acc)/\acc.length<=i/\W i S2 acc,⟨_,rfl,AQ _,.new hD _,((r1.ext e1).pick pick).ext (.new hD _),ups S1 D (.lst []),[],?_,.new Kc _,tj,Ah _,?_⟩,?_⟩
 .exact p1.ups (.new hD _) ⟨[],yr,.nil⟩
 .exact wm 0 S1 _ [] (λ b o hb q=>by rw[ur hb];exact q) w0
 rintro i m Y2 H2 ⟨rfl,GQ,x2,q1,S2,acc,q2,sx,Ju,AO,hW⟩;obtain⟨g1,g2⟩:=rep i H2 S2 x2 q2 (hk S2 sx);by_cases hl:i<I.items.length
 .have hd:I.items[i]?=some I.items[i]:=by simp[hl]
  obtain⟨go,yl⟩:=g1 _ hd;refine .inr ⟨go,λ x H3 hy=>?_⟩;obtain⟨x3,p3,d3⟩:=yl x H3 hy;refine⟨_,_,S2,d3,q1.ext x3,p3,hg _ _ S2 _ _ (fun L4 S4 z4 Y4 H4 a1 a2 a3=>?_) (Ir i _ S2 acc hd sx Ju hW)⟩;obtain⟨hle,z4⟩:=z4;refine xS.go hc a1 a3 z4 λ b S5 H5 z5 x5 p5=>wB (λ z5=>?_) (λ z5=>?_) z5
  .refine zC.go he (a1.ext x5) p5 z5 λ y S6 v H6 z6 q6 x6 p6=>?_;obtain⟨s6,hW6⟩:=z6;obtain⟨ys,h6,r6⟩:=p6 _ _ (s6 _ _ Ju);have e6:Ext H6 (upd H6 D (.lst (ys++[v]))):=.lst h6 _;have hlen2:ys.length<=i:=by rw[<- r6.length];exact AO
   refine⟨ys,I.items.length-(i+1),h6,by lia,by lia,rfl,hl,((((x2.trans x3).trans a2).trans x5).trans x6).trans e6,hle.rep ((a1.ext (x5.trans x6)).ext e6),ups S6 D (.lst (acc++[y])),acc++[y],?_,λ b o hb=>?_,tj,by simp;lia,?_⟩
   .exact p6.ups e6 ⟨_,yr,zh.ext e6 _ (r6.snoc q6)⟩
   .rw[ur (by intro q;subst q;rw[Kc] at hb;cases hb)];exact s6 _ _ (sx _ _ hb)
   .exact wm _ S6 _ _ (λ b o hb q=>by rw[ur hb];exact q) hW6
  .obtain⟨s5,hW5⟩:=z5;exact⟨I.items.length-(i+1),by lia,rfl,hl,((x2.trans x3).trans a2).trans x5,hle.rep (a1.ext x5),S5,acc,p5,sx.trans s5,s5 _ _ Ju,by lia,hW5⟩
 .have e:i=I.items.length:=by lia
  subst e;exact .inl ⟨g2 (Ah _),Jx S2 acc sx Ju hW _ H2 (by simp only[ze]) (e1.trans x2) q2⟩
def UE (Sc:tf X N' pick scope) (hc:X.calm=true) (hi:vP X tg iter ti) (hg:∀ cl C s H fp,vx (yi X N' scope cl C s H fp) tg g) (hf:∀ cl C s H fp,qZ (yi X N' scope cl C s H fp) ifs GN) (he:∀ cl C s H fp,PD (yi X N' scope cl C s H fp) elt te)
  (hs:∀ x,foldedSetIterable iter X.env x=pure x):
  PD X (.ListComp elt [⟨tg,iter,ifs,0⟩] scope pos) (uh pick ti g GN te):=
 ⟨uh.mo hi.mo,λ EV s Y H Q I hu=>Vq (g:=pE X.K g) (tc:=xS X.K GN) (te:=zC X.K te) Sc hc hi.pi (λ cl C s H fp=>(hg cl C s H fp).pg) (λ cl C s H fp=>(hf cl C s H fp).pf) (λ cl C s H fp=>(he cl C s H fp).pe) hs EV s Y H Q I (gQ hi.mo (hg [] 0 s H []).mo (hf [] 0 s H []).mo (he [] 0 s H []).mo hu)⟩
def VP {i:Nat}{y:Str}{py Bb:Pos}(Sc:tf X N' pick scope) (hc:X.calm=true) (hi:vP X tg iter ti) (hg:∀ cl C s H fp,vx (yi X N' scope cl C s H fp) tg g) (hf:∀ cl C s H fp,qZ (yi X N' scope cl C s H fp) ifs GN) (he:∀ cl C s H fp,PD (yi X N' scope cl C s H fp) elt te)
  (hN:X.N.Nodup) (hy:X.N[i]?=some y) (hx:Loc X.env.scope y)
  (BW:swapsWith (.ListComp elt [⟨tg,iter,ifs,0⟩] scope pos) (some (.Name y py)) Bb.line X.env=pure true)
  (B4:X.fn y=true\/X.env.scope.names.lookup y=some .local)
  (hs:∀ x,foldedSetIterable iter X.env x=pure x):
  xQ X (.Assign [.Name y py] (.ListComp elt [⟨tg,iter,ifs,0⟩] scope pos) Bb) (wH (uh pick ti g GN te) (hName i)):=by
 refine⟨wH.mo (uh.mo hi.mo) λ _ _ _ _ _ hq z=>hq _ _ z,λ EV s Y H D I hu=>W7 (g:=pE X.K g) (tc:=xS X.K GN) (te:=zC X.K te) Sc hc hi.pi (λ cl C s H fp=>(hg cl C s H fp).pg) (λ cl C s H fp=>(hf cl C s H fp).pf) (λ cl C s H fp=>(he cl C s H fp).pe) hN hy hx BW B4 hs EV s Y H D I ?_⟩;obtain⟨L,S,r1,r2,z⟩:=hu;refine gQ hi.mo (hg [] 0 s H []).mo (hf [] 0 s H []).mo (he [] 0 s H []).mo ⟨L,S,r1,r2,uh.mo hi.mo L S _ _ (λ x S1 z v H1 q1 e1 p1=>?_) z⟩;exact z _ H1 ((r1.ext e1).set i q1) e1 p1
end
end
section
variable {P:Program}{w:World}{K:Ac}{mg:AI}{base:Heap}{f:Addr}{fd:FuncData}
def bw {R:Rk} [Lo R] {x:Str}{st:Stmt}{N ps:List Str}{k n:Nat}{g:Sm}(F:vQ K x x st f fd) (Sc:uX N ps (yg st)) (hn:n=ps.length)
  (Fh:∀ (Am:Value) (A:Around) (outer:List Env) (s:Shared) (H:Hp) (E:XK),yd k (A.deeper (envOfC x (yg st) s.heap.objs.size f Am))->
   ∃ t,wJ (wo xx P w K mg base N x (yg st) f Am A outer s H E).wQ (xZ st) t/\ye R g t):vz P w K mg base xx (k+1) f fd ps (uu K (zG R (zO N n g))):=
 OB F Sc (λ ds S Q h=>by rw[h.len,hn]) λ Am A outer s H E hr=>by
  obtain⟨t,h1,h2⟩:=Fh Am A outer s H E hr;exact⟨t,h1,λ ds S Q h=>Mq h2 h⟩
def OQ {R:Rk} [Lo R] {x:Str}{st:Stmt}{N ps:List Str}{k n:Nat}{g:Sm}(F:vQ K x x st f fd) (hm:mg x=some (.ref f)) (Sc:uX N ps (yg st)) (hn:n=ps.length)
  (hb:∀ (kV doc pm:Value) (an:Option Addr) (Am ct:Value) (us:Ad),us.length=ps.length->bindArgs (PySem.W.fnOf x x (uM st) (xZ st) (yg st) .none kV doc pm an Am ct) ⟨us,[]⟩=pure (ps.zip us))
  (Fh:∀ (Am:Value) (A:Around) (outer:List Env) (s:Shared) (H:Hp) (E:XK),yd k (A.deeper (envOfC x (yg st) s.heap.objs.size f Am))->
   ∃ t,wJ (wo xx P w K mg base N x (yg st) f Am A outer s H E).wQ (xZ st) t/\ye R g t):FD P w K mg base x (k+1) ps (zG R (zO N n g)):=
 ⟨⟨f,fd,bw F Sc hn Fh,hm,F.kp,F.binds hb⟩,zG.mo⟩
def Pj {R:Rk} [Sr R] {F:List T->Option T}(hF:∀ ns:List Int,ns.length<=63->F [.lst (ns.map T.int)]=some (.bl true)) {H:Hp}{a:Addr}{ns:List Int}{E:XK}(hO:kr H) (hS:zJ K H a (ns.map V.int)) (hl:ns.length<=63):uu K (zG R F) [.ref a] H (λ v _=>v=.bl true) E:=by
 have hFz:qX K H a (ns.map V.int):=by
  rcases hS with (h | h) | h
  .rcases hO a with z | ⟨o,xs,z⟩
   .rw[h] at z;cases z
   .rw[h] at z;cases z
  .exact .inl h
  .exact .inr h
 refine⟨[.xy (ns.map D.int)],λ _=>none,.cons ?_ .nil,(λ a o z=>nomatch z),λ _=>False,[.lst (ns.map T.int)],.bl true,nofun,.cons ?_ .nil,hF ns hl,λ d S' s r v H' rv _ _=>?_⟩
 .simp only[ze];exact⟨a,_,rfl,hFz,zh.jw ns⟩
 .simp only[Sn];exact⟨_,.inl ⟨rfl,TZ ns⟩,vV.mpr rfl⟩
 .have:=Sr.sn r;simp only[Sn] at this;subst this;simpa only [ze] using rv
end
end L5
namespace ST
open PySem PySem.SetTable
def uk (xs:List Nat):Prop:=xs.Pairwise (· < ·)
def jV {xs:Array Nat}{m d:Nat}(h:m<xs.size):xs.getD m d=xs[m]:=by simp[Array.getD,h]
theorem iG (xs:Array Nat) (j:Nat) (hr:uk xs.toList):∀ (f lo hi:Nat),hi-lo<=f->lo<=hi->hi<=xs.size->(∀ i (h:i<xs.size),i<lo->xs[i]<j)->(∀ i (h:i<xs.size),hi<=i->j<=xs[i])->
  below.go xs j f lo hi<=xs.size/\(∀ i (h:i<xs.size),i<below.go xs j f lo hi->xs[i]<j)/\∀ i (h:i<xs.size),below.go xs j f lo hi<=i->j<=xs[i]
 | 0,lo,hi,h1,h2,h3,h4,h5=>by
  unfold below.go;have:lo=hi:=by lia
  subst this;exact⟨h3,h4,h5⟩
 | f+1,lo,hi,h1,h2,h3,h4,h5=>by
  unfold below.go;have wb:∀ i k (hi:i<xs.size) (hk:k<xs.size),i<=k->xs[i]<=xs[k]:=λ i k hi hk DN=>by
   rcases Bc i k with q | q
   .have r:=Ci.mp hr i k (by simpa using hi) (by simpa using hk) q;rw[B8,B8] at r;exact A5 r
   .have:i=k:=by lia
    subst this;exact Ah _
  by_cases hl:lo<hi
  .rw[if_pos hl];dsimp only;have hm:(lo+hi)/2<xs.size:=by lia
   rw[jV hm];by_cases c:xs[(lo+hi)/2]<j
   .rw[if_pos c];refine iG xs j hr f _ hi (by lia) (by lia) h3 (λ i GQ Ao=>?_) h5;have:=wb i ((lo+hi)/2) GQ hm (by lia);lia
   .rw[if_neg c];refine iG xs j hr f lo _ (by lia) (by lia) (by lia) h4 (λ i GQ hge=>?_);have:=wb ((lo+hi)/2) i hm GQ hge;lia
  .rw[if_neg hl];have:lo=hi:=by lia
   subst this;exact⟨h3,h4,h5⟩
def kc {xs:Array Nat}{j:Nat}(hr:uk xs.toList):below xs j<=xs.size/\(∀ i (h:i<xs.size),i<below xs j->xs[i]<j)/\∀ i (h:i<xs.size),below xs j<=i->j<=xs[i]:=
 iG xs j hr xs.size 0 xs.size (by lia) (by lia) (Ah _) (λ i h q=>by lia) (λ i h q=>by lia)
def below_at {xs:Array Nat}{j i:Nat}(hr:uk xs.toList) (h:xs[i]?=some j):below xs j=i:=by
 obtain⟨h1,h2,h3⟩:=kc (j:=j) hr;obtain⟨hi,e⟩:=Array.getElem?_eq_some_iff.mp h;have a:¬ i<below xs j:=λ q=>by have:=h2 i hi q;lia
 have b:¬ below xs j<i:=λ q=>by
  have:=h3 (below xs j) (by lia) (Ah _);have r:=Ci.mp hr (below xs j) i (by simp;lia) (by simpa using hi) q;simp at r;lia
 lia
def Mt {xs:Array Nat}{j:Nat}(hr:uk xs.toList):(xs[below xs j]?=some j)↔j∈xs.toList:=by
 constructor
 .intro h;obtain⟨hi,e⟩:=Array.getElem?_eq_some_iff.mp h;rw[<- e];simp
 .intro h;obtain⟨i,hi,e⟩:=BI.mp h;have hx:xs[i]?=some j:=by
   simp at hi;simp[hi] at e ⊢;exact e
  rw[below_at hr hx];exact hx
noncomputable def vM (M:Nat) (p:Probe):Probe:=
 if p.more>0 then { p with j:=p.j+1,more:=p.more-1 } else
 let (i,perturb):=leap M p.i p.perturb
 { p with j:=i,more:=runEnd M i-i,i,perturb }
def iT (t:SetTable) (p:Probe):t.advance p=vM t.mask p:=rfl
noncomputable def qp (M i perturb:Nat):Probe:={ j:=i,more:=runEnd M i-i,i:=i,perturb:=perturb,dummy:=none }
noncomputable def way (M:Nat) (h:Int):Nat->Probe
 | 0=>qp M (bits h%(M+1)) (bits h)
 | k+1=>vM M (way M h k)
def M4 (M:Nat) (p:Probe) (h:p.dummy=none):(vM M p).dummy=none:=by
 unfold vM;split
 .exact h
 .exact h
theorem kJ (M:Nat) (h:Int):∀ k,(way M h k).dummy=none
 | 0=>rfl
 | k+1=>M4 M _ (kJ M h k)
noncomputable def zP (M:Nat) (h:Int):Nat->Nat×Nat
 | 0=>(bits h%(M+1),bits h)
 | n+1=>leap M (zP M h n).1 (zP M h n).2
theorem jb (M i pt:Nat) (h:Int) (k:Nat) (hk:way M h k=qp M i pt):∀ m,m<=runEnd M i-i->way M h (k+m)={ j:=i+m,more:=runEnd M i-i-m,i:=i,perturb:=pt,dummy:=none }
 | 0,_=>by rw[Nat.add_zero,hk];rfl
 | m+1,hm=>by
  have ih:=jb M i pt h k hk m (by lia);show vM M (way M h (k+m))=_;rw[ih];unfold vM;rw[if_pos (by show runEnd M i-i-m>0;lia)];simp only[Probe.mk.injEq];exact⟨by lia,by lia,trivial,trivial,trivial⟩
def X_ (M i:Nat):runEnd M i-i<=9:=by unfold runEnd;split <;> lia
def fR (M:Nat) (h:Int) (n k:Nat) (hk:way M h k=qp M (zP M h n).1 (zP M h n).2):way M h (k+(runEnd M (zP M h n).1-(zP M h n).1)+1)=qp M (zP M h (n+1)).1 (zP M h (n+1)).2:=by
 have:=jb M _ _ h k hk _ (Ah _);show vM M (way M h (k+_))=_;rw[this];unfold vM;rw[if_neg (by show ¬ _-_-(_-_)>0;lia)];rfl
theorem fS (M:Nat) (h:Int):∀ n,∃ k,k<=10*n/\way M h k=qp M (zP M h n).1 (zP M h n).2
 | 0=>⟨0,by lia,rfl⟩
 | n+1=>by
  obtain⟨k,h1,h2⟩:=fS M h n;have:=X_ M (zP M h n).1;exact⟨_,by lia,fR M h n k h2⟩
def Mr (h:Int):bits h<2 ^ 64:=by
 unfold bits;have h1:=Bx h (show (2 ^ 64:Int)≠0 by decide);have h2:=BN h (show (0:Int)<2 ^ 64 by decide);lia
theorem eU (M:Nat) (h:Int):∀ n,(zP M h n).2*32 ^ n<=bits h
 | 0=>by simp[zP]
 | n+1=>by
  have ih:=eU M h n;show ((zP M h n).2/32)*32 ^ (n+1)<=_;have:(zP M h n).2/32*32<=(zP M h n).2:=Nat.div_mul_le_self _ _
  calc (zP M h n).2/32*32 ^ (n+1)=((zP M h n).2/32*32)*32 ^ n:=by rw[Nat.pow_succ,Dt (32 ^ n) 32,Nat.mul_assoc]
   _<=(zP M h n).2*32 ^ n:=Nat.mul_le_mul_right _ this
   _<=_:=ih
def Ve (M:Nat) (h:Int) (n:Nat) (hn:13<=n):(zP M h n).2=0:=by
 rcases D6 (zP M h n).2 with q | q
 .exact q
 .have h1:=eU M h n;have h2:=Mr h;have h3:32 ^ 13<=32 ^ n:=Nat.pow_le_pow_right (by decide) hn;have h4:1*32 ^ n<=(zP M h n).2*32 ^ n:=Nat.mul_le_mul_right _ q;have h5:(2:Nat) ^ 64<32 ^ 13:=by decide
  lia
noncomputable def tD (M:Nat) (i:Nat):Nat->Nat
 | 0=>i
 | n+1=>(tD M i n*5+1)%(M+1)
theorem cp (M:Nat) (h:Int):∀ n,(zP M h (13+n)).1=tD M (zP M h 13).1 n
 | 0=>rfl
 | n+1=>by
  have ih:=cp M h n;have hz:=Ve M h (13+n) (by lia);show ((zP M h (13+n)).1*5+1+(zP M h (13+n)).2/32)%(M+1)=_;rw[hz,ih];rfl
theorem p_ (M i:Nat):∀ a b,tD M i (a+b)=tD M (tD M i a) b
 | a,0=>rfl
 | a,b+1=>by
  show (tD M i (a+b)*5+1)%(M+1)=_;rw[p_ M i a b];rfl
noncomputable def pZ (M:Nat):Nat->Nat->List Nat
 | 0,_=>[]
 | n+1,i=>i::pZ M n ((i*5+1)%(M+1))
theorem jq (M:Nat):∀ n i x,x∈pZ M n i->∃ k,k<n/\tD M i k=x
 | 0,i,x,h=>by cases h
 | n+1,i,x,h=>by
  rcases Aj.mp h with e | e
  .exact⟨0,by lia,e.symm⟩
  .obtain⟨k,h1,h2⟩:=jq M n _ x e;exact⟨k+1,by lia,by rw[Nat.add_comm,p_];exact h2⟩
def w_ (M:Nat):Prop:=M=7\/M=31\/M=127
def T2 (M:Nat) (hM:w_ M):(∀ e,e<=M->e∈pZ M (M+1) 0)/\tD M 0 (M+1)=0:=by
 have key:∀ M,((List.range (M+1)).all λ e=>(pZ M (M+1) 0).contains e)=true->∀ e,e<=M->e∈pZ M (M+1) 0:=λ M h e he=>by
  have:=BD.mp h e (AK.mpr (by lia));simpa using this
 rcases hM with rfl | rfl | rfl
 .exact⟨key 7 (AF),AF⟩
 .exact⟨key 31 (AF),AF⟩
 .exact⟨key 127 (AF),AF⟩
def Tz (M:Nat) (hM:w_ M) (i e:Nat) (hi:i<=M) (he:e<=M):∃ n,n<=M/\tD M i n=e:=by
 obtain⟨h1,h2⟩:=T2 M hM;obtain⟨a,a1,a2⟩:=jq M _ _ _ (h1 i hi);obtain⟨b,b1,b2⟩:=jq M _ _ _ (h1 e he);rcases Bc b a with q | q
 .refine⟨M+1+b-a,by lia,?_⟩;rw[<- a2,<- p_,show a+(M+1+b-a)=(M+1)+b by lia,p_,h2,b2]
 .refine⟨b-a,by lia,?_⟩;rw[<- a2,<- p_,show a+(b-a)=b by lia,b2]
theorem Pa (M:Nat) (h:Int):∀ n,(zP M h n).1<=M
 | 0=>by have:=CV (bits h) (show 0<M+1 by lia);show bits h%(M+1)<=M;lia
 | n+1=>by
  have:=CV ((zP M h n).1*5+1+(zP M h n).2/32) (show 0<M+1 by lia);show (_%(M+1):Nat)<=M;lia
def cq (M:Nat) (hM:w_ M) (h:Int) (e:Nat) (he:e<=M):∃ n,n<M+14/\(zP M h n).1=e:=by
 obtain⟨n,h1,h2⟩:=Tz M hM (zP M h 13).1 e (Pa M h 13) he;exact⟨13+n,by lia,by rw[cp,h2]⟩
def Y9 (M:Nat) (hM:w_ M) (h:Int) (e:Nat) (he:e<=M):∃ k,k<10*(M+15)/\(way M h k).j=e:=by
 obtain⟨n,h1,h2⟩:=cq M hM h e he;obtain⟨k,k1,k2⟩:=fS M h n;exact⟨k,by lia,by rw[k2];exact h2⟩
theorem gI (M:Nat) (h:Int):∀ k,(way M h k).j+(way M h k).more<=M/\(way M h k).i<=M
 | 0=>by
  have h1:bits h%(M+1)<=M:=by have:=CV (bits h) (show 0<M+1 by lia);lia
  refine⟨?_,h1⟩;show bits h%(M+1)+(runEnd M (bits h%(M+1))-bits h%(M+1))<=M;unfold runEnd;split <;> lia
 | k+1=>by
  obtain⟨h1,h2⟩:=gI M h k;show (vM M (way M h k)).j+(vM M (way M h k)).more<=M/\(vM M (way M h k)).i<=M;unfold vM;split
  .rename_i c;exact⟨by show (way M h k).j+1+((way M h k).more-1)<=M;lia,h2⟩
  .have h3:((way M h k).i*5+1+(way M h k).perturb/32)%(M+1)<=M:=by have:=CV ((way M h k).i*5+1+(way M h k).perturb/32) (show 0<M+1 by lia);lia
   refine⟨?_,h3⟩;show _%(M+1)+(runEnd M (_%(M+1))-_%(M+1))<=M;unfold runEnd;split <;> lia
def kH (M:Nat) (h:Int) (k:Nat):(way M h k).j<=M:=by have:=(gI M h k).1;lia
structure Tab (t:SetTable) (hs:List Int):Prop where
 mask:w_ t.mask
 sS:t.dummies=#[]
 len:t.place.size=hs.length
 wb:uk t.place.toList
 top:∀ j∈t.place.toList,j<=t.mask
 pS:∀ (i:Nat) h j,hs[i]?=some h->t.place[i]?=some j->∃ k,(way t.mask h k).j=j/\∀ k'<k,(way t.mask h k').j∈t.place.toList
theorem Tab.live {t:SetTable}{hs:List Int}(T:Tab t hs) {i j:Nat}(h:t.place[i]?=some j):t.slot j=.live i:=by
 unfold SetTable.slot;dsimp only;rw[below_at T.wb h,if_pos (by rw[h];simp)]
theorem Tab.empty {t:SetTable}{hs:List Int}(T:Tab t hs) {j:Nat}(h:j∉t.place.toList):t.slot j=.empty:=by
 unfold SetTable.slot;dsimp only;have n1:¬ (t.place[below t.place j]? == some j)=true:=λ q=>h ((Mt T.wb).mp (by simpa using q));rw[if_neg n1,if_neg (by rw[T.sS];simp[has])]
theorem Tab.at {t:SetTable}{hs:List Int}(T:Tab t hs) {j:Nat}(h:j∈t.place.toList):∃ (i:Nat) (g:Int),t.place[i]?=some j/\hs[i]?=some g:=by
 obtain⟨i,hi,e⟩:=BI.mp h;have GQ:i<t.place.size:=by simpa using hi
 refine⟨i,hs[i]'(by rw[<- T.len];exact GQ),?_,by simp⟩;rw[AV GQ];rw[B8] at e;rw[e]
theorem bc {t:SetTable}{hs:List Int}(T:Tab t hs) {hashAt:Nat->Int}(hA:∀ (i:Nat) g,hs[i]?=some g->hashAt i=g) (h:Int):∀ (f k:Nat),(∃ e,k<=e/\e<k+f/\(way t.mask h e).j∉t.place.toList)->
  ∃ k1,k<=k1/\(∀ m,k<=m->m<k1->∃ (i:Nat) (g:Int),t.place[i]?=some (way t.mask h m).j/\hs[i]?=some g/\g≠h)/\
   ((way t.mask h k1).j∉t.place.toList/\probe.go t hashAt h f (way t.mask h k)=some (.empty (way t.mask h k1).j none)\/
    ∃ i,t.place[i]?=some (way t.mask h k1).j/\hs[i]?=some h/\probe.go t hashAt h f (way t.mask h k)=some (.candidate (way t.mask h k1).j i (way t.mask h (k1+1))))
 | 0,k,⟨e,h1,h2,_⟩=>by lia
 | f+1,k,⟨e,h1,h2,h3⟩=>by
  by_cases hm:(way t.mask h k).j∈t.place.toList
  .obtain⟨i,g,p1,p2⟩:=T.at hm;by_cases hg:g=h
   .refine⟨k,Ah _,λ m a b=>by lia,.inr ⟨i,p1,by rw[<- hg];exact p2,?_⟩⟩;unfold probe.go;rw[T.live p1];dsimp only;rw[hA i g p2,if_pos (by simp[hg]),iT];rfl
   .have Ar:e≠k:=λ q=>by subst q;exact h3 hm
    obtain⟨k1,q1,q2,q3⟩:=bc T hA h f (k+1) ⟨e,by lia,by lia,h3⟩;have eq:probe.go t hashAt h (f+1) (way t.mask h k)=probe.go t hashAt h f (way t.mask h (k+1)):=by
     conv=>lhs;unfold probe.go
     rw[T.live p1];dsimp only;rw[hA i g p2,if_neg (by simp[hg]),iT];rfl
    rw[eq];refine⟨k1,by lia,λ m a b=>?_,q3⟩;rcases Nat.eq_or_lt_of_le a with w | w
    .subst w;exact⟨i,g,p1,p2,hg⟩
    .exact q2 m w b
  .refine⟨k,Ah _,λ m a b=>by lia,.inl ⟨hm,?_⟩⟩;unfold probe.go;rw[T.empty hm,kJ]
def dA {xs ys:List Nat}(hx:xs.Nodup) (h:∀ x∈xs,x∈ys):xs.length<=ys.length:=by
 induction xs generalizing ys with
 | nil=>simp
 | cons x xs ih=>
  have h1:=Be.mp hx;have hxy:=h x Ap;have:=ih h1.2 (ys:=ys.erase x) λ z hz=>by
   have Ar:z≠x:=λ e=>h1.1 (e▸hz);exact (List.mem_erase_of_ne Ar).mpr (h z (Av _ hz))
  rw[List.length_erase_of_mem hxy] at this;have hp:=List.length_pos_of_mem hxy;simp only[Bg];lia
def least {P:Nat->Prop}(k:Nat) (h:P k):∃ m,m<=k/\P m/\∀ m'<m,¬ P m':=by
 induction k using Nat.strongRecOn with
 | ind k ih=>
  rcases Classical.em (∃ m',m'<k/\P m') with ⟨m',h1,h2⟩ | q
  .obtain⟨m,g1,g2⟩:=ih m' h1 h2;exact⟨m,by lia,g2⟩
  .exact⟨k,Ah _,h,λ m' hm hp=>q ⟨m',hm,hp⟩⟩
def OD {xs:List Nat}{M:Nat}(h:xs.length<=M):∃ e,e<=M/\e∉xs:=by
 rcases Classical.em (∃ e,e<=M/\e∉xs) with q | q
 .exact q
 .have:=dA (xs:=List.range (M+1)) (ys:=xs) Ds λ e he=>by
   have:=AK.mp he;rcases Classical.em (e∈xs) with w | w
   .exact w
   .exact absurd ⟨e,by lia,w⟩ q
  simp at this;lia
def gh (t:SetTable) (h:Int) (j:Nat):Prop:=j∉t.place.toList/\∃ k,(way t.mask h k).j=j/\∀ k'<k,(way t.mask h k').j∈t.place.toList
def Tab.first {t:SetTable}{hs:List Int}(T:Tab t hs) (hl:hs.length<=t.mask) (h:Int):∃ K,K<10*(t.mask+15)/\(way t.mask h K).j∉t.place.toList/\∀ k'<K,(way t.mask h k').j∈t.place.toList:=by
 obtain⟨e,e1,e2⟩:=OD (xs:=t.place.toList) (M:=t.mask) (by rw[Bj,T.len];exact hl);obtain⟨k,k1,k2⟩:=Y9 t.mask T.mask h e e1;obtain⟨K,q1,q2,q3⟩:=least (P:=λ n=>(way t.mask h n).j∉t.place.toList) k (by rw[k2];exact e2);exact⟨K,by lia,q2,λ k' hk=>Classical.not_not.mp (q3 k' hk)⟩
def Wc {xs:List Nat}{j p:Nat}(h:uk xs) (h1:∀ x∈xs.take p,x<j) (h2:∀ x∈xs.drop p,j<x):uk (xs.take p++j::xs.drop p):=by
 refine Dz.mpr ⟨h.sublist (List.take_sublist _ _),Bh.mpr ⟨h2,h.sublist (List.drop_sublist _ _)⟩,λ a ha b hb=>?_⟩;rcases Aj.mp hb with e | e
 .subst e;exact h1 a ha
 .have:=h1 a ha;have:=h2 b e;lia
def cQ {α:Type}{xs:List α}{p i:Nat}{x y:α}(hp:p<=xs.length) (h:(xs.take p++x::xs.drop p)[i]?=some y):(i=p/\y=x)\/(i<p/\xs[i]?=some y)\/(p<i/\xs[i-1]?=some y):=by
 have hl:(xs.take p).length=p:=by rw[C0];lia
 rcases CU i p with q | q | q
 .rw[Ca (by lia),List.getElem?_take,if_pos q] at h;exact .inr (.inl ⟨q,h⟩)
 .subst q;rw[Cb (by lia),hl] at h;simp at h;exact .inl ⟨rfl,h.symm⟩
 .rw[Cb (by lia),hl] at h;obtain⟨d,hd⟩:∃ d,i-p=d+1:=⟨i-p-1,by lia⟩
  rw[hd] at h;simp only[D5,List.getElem?_drop] at h;refine .inr (.inr ⟨q,?_⟩);rw[show i-1=p+d by lia];exact h
theorem Tab.put {t:SetTable}{hs:List Int}(T:Tab t hs) {h:Int}{j:Nat}(F:gh t h j):
  (t.put j).2<=hs.length/\(t.put j).1={ t with place:=insertAt t.place (t.put j).2 j }/\Tab (t.put j).1 (hs.take (t.put j).2++h::hs.drop (t.put j).2):=by
 obtain⟨b1,b2,b3⟩:=kc (xs:=t.place) (j:=j) T.wb;obtain⟨fn,K,k1,k2⟩:=F;have e2:(t.put j).2=below t.place j:=rfl;have e1:(t.put j).1={ t with place:=insertAt t.place (t.put j).2 j }:=by
  show ({ t with place:=insertAt t.place (below t.place j) j,dummies:=_ }:SetTable)=_;rw[if_neg (by rw[T.sS];simp[has]),e2]
 have pl:(insertAt t.place (below t.place j) j).toList=t.place.toList.take (below t.place j)++j::t.place.toList.drop (below t.place j):=toList_insertAt _ _ _;have old:∀ x∈t.place.toList,x∈(insertAt t.place (below t.place j) j).toList:=λ x hx=>by
  rw[pl];have:=D4 (below t.place j) t.place.toList;rw[<- this] at hx;rcases AZ.mp hx with q | q
  .exact CH _ q
  .exact A2 _ (Av _ q)
 rw[e2] at e1 ⊢;refine⟨by rw[<- T.len];exact b1,e1,?_⟩;rw[e1];refine⟨T.mask,T.sS,?_,?_,?_,?_⟩
 .show (insertAt t.place (below t.place j) j).size=_;rw[<- Bj,pl];simp[T.len]
 .show uk (insertAt t.place (below t.place j) j).toList;rw[pl];refine Wc T.wb (λ x hx=>?_) (λ x hx=>?_)
  .obtain⟨i,hi,e⟩:=BI.mp hx;rw[C0] at hi;rw[List.getElem_take,B8] at e;rw[<- e];exact b2 i (by simp at hi;lia) (by lia)
  .obtain⟨i,hi,e⟩:=BI.mp hx;rw[D_] at hi;rw[List.getElem_drop,B8] at e;have h3:=b3 (below t.place j+i) (by simp at hi;lia) (by lia);have hm:x∈t.place.toList:=List.mem_of_mem_drop hx;have Ar:x≠j:=λ q=>fn (q▸hm);lia
 .intro x hx;show x<=t.mask;have hx:x∈(insertAt t.place (below t.place j) j).toList:=hx;rw[pl] at hx;rcases AZ.mp hx with q | q
  .exact T.top x (List.mem_of_mem_take q)
  .rcases Aj.mp q with e | e
   .subst e;rw[<- k1];exact kH _ _ _
   .exact T.top x (List.mem_of_mem_drop e)
 .intro i g x hg hx;show ∃ k,(way t.mask g k).j=x/\∀ k'<k,(way t.mask g k').j∈(insertAt t.place (below t.place j) j).toList;have hx:(insertAt t.place (below t.place j) j)[i]?=some x:=hx;rw[<- Bi,pl] at hx;have Aq:below t.place j<=t.place.toList.length:=by simpa using b1
  have Et:below t.place j<=hs.length:=by rw[<- T.len];exact b1
  rcases cQ Aq hx with ⟨c1,c2⟩ | ⟨c1,c2⟩ | ⟨c1,c2⟩ <;> rcases cQ Et hg with ⟨d1,d2⟩ | ⟨d1,d2⟩ | ⟨d1,d2⟩ <;> first
   | lia
   | (subst c2 d2;exact⟨K,k1,λ k' hk=>old _ (k2 k' hk)⟩)
   | (obtain⟨k,g1,g2⟩:=T.pS _ g x d2 (by rw[<- Bi];exact c2)
      exact⟨k,g1,λ k' hk=>old _ (g2 k' hk)⟩)
def rb (owner:Array (Option Nat)) (j:Nat):Prop:=∃ k,owner[j]?=some (some k)
def OK {P:Nat->Bool}{n k:Nat}(h:(List.range n).find? P=some k):k<n/\P k=true/\∀ k'<k,P k'=false:=by
 obtain⟨h1,as,bs,h2,h3⟩:=List.find?_eq_some_iff_append.mp h;have hlen:as.length=k:=by
  have e:(List.range n)[as.length]?=some k:=by rw[h2];simp
  have:=(AM.mp e)
  obtain⟨q1,q2⟩:=this;rw[Dw] at q2;exact q2
 have hk:k<n:=by
  have:k∈List.range n:=by rw[h2];simp
  exact AK.mp this
 refine⟨hk,h1,λ k' G9=>?_⟩;have:k'∈as:=by
  have e:(List.range n)[k']?=some k':=List.getElem?_range (by lia);rw[h2,Ca (by lia)] at e;exact BA e
 have:=h3 k' this;simpa using this
def getD_none {owner:Array (Option Nat)}{j:Nat}(h:((owner.getD j (some 0)).isNone)=true):owner[j]?=some none:=by
 unfold Array.getD at h;split at h
 .rename_i hj;have e:owner[j]=none:=by simpa using h
  rw[AV hj,e]
 .simp at h
def bg {owner:Array (Option Nat)}{j:Nat}(hj:j<owner.size) (h:((owner.getD j (some 0)).isNone)=false):rb owner j:=by
 unfold Array.getD at h;rw[dif_pos hj] at h;cases q:owner[j] with
 | none=>simp[q] at h
 | some k=>exact⟨k,by rw[AV hj,q]⟩
theorem bq (M:Nat) (owner:Array (Option Nat)) (hsz:owner.size=M+1) (h:Int):∀ (fuel n kn:Nat),way M h kn=qp M (zP M h n).1 (zP M h n).2->(∀ q<kn,rb owner (way M h q).j)->
  (∃ n',n<=n'/\n'<n+fuel/\owner[(zP M h n').1]?=some none)->
  ∃ j q,layClean.free M owner fuel (zP M h n).1 (zP M h n).2=some j/\(way M h q).j=j/\owner[j]?=some none/\∀ q'<q,rb owner (way M h q').j
 | 0,n,kn,_,_,⟨n',h1,h2,_⟩=>by lia
 | fuel+1,n,kn,hk,ho,⟨n',h1,h2,h3⟩=>by
  have hre:runEnd M (zP M h n).1+1-(zP M h n).1=runEnd M (zP M h n).1-(zP M h n).1+1:=by unfold runEnd;split <;> lia
  have G0:∀ m,m<=runEnd M (zP M h n).1-(zP M h n).1->(way M h (kn+m)).j=(zP M h n).1+m:=λ m hm=>by rw[jb M _ _ h kn hk m hm]
  unfold layClean.free;cases hf:(List.range (runEnd M (zP M h n).1+1-(zP M h n).1)).find? (λ k=>(owner.getD ((zP M h n).1+k) (some 0)).isNone) with
  | some k=>
   obtain⟨f1,f2,f3⟩:=OK hf;refine⟨_,kn+k,rfl,G0 k (by lia),getD_none f2,λ q' hq=>?_⟩;rcases Bc q' kn with w | w
   .exact ho q' w
   .have e:(way M h q').j=(zP M h n).1+(q'-kn):=by
     have:=G0 (q'-kn) (by lia)
     rwa [show kn+(q'-kn)=q' by lia] at this
    have hle:=kH M h q';rw[e] at hle ⊢;exact bg (by lia) (f3 (q'-kn) (by lia))
  | none=>
   have f3:=List.find?_eq_none.mp hf;have occ:∀ m,m<=runEnd M (zP M h n).1-(zP M h n).1->rb owner ((zP M h n).1+m):=λ m hm=>by
    have hle:=kH M h (kn+m);rw[G0 m hm] at hle;exact bg (by lia) (Bool.eq_false_iff.mpr (f3 m (AK.mpr (by lia))))
   have Ar:n'≠n:=λ e=>by
    subst e;obtain⟨k,G9⟩:=occ 0 (AQ _);rw[Nat.add_zero] at G9;rw[G9] at h3;cases h3
   dsimp only;obtain⟨j,q,r1,r2⟩:=bq M owner hsz h fuel (n+1) _ (fR M h n kn hk) (λ q hq=>by
    rcases Bc q kn with w | w
    .exact ho q w
    .have e:=G0 (q-kn) (by lia);rw[show kn+(q-kn)=q by lia] at e;rw[e];exact occ _ (by lia)) ⟨n',by lia,by lia,h3⟩
   exact⟨j,q,r1,r2⟩
structure Lay (M:Nat) (hs:List Int) (owner:Array (Option Nat)) (m:Nat):Prop where
 size:owner.size=M+1
 below:∀ (j k:Nat),owner[j]?=some (some k)->k<m
 each:∀ (k:Nat),k<m->∃ (j:Nat),owner[j]?=some (some k)
 once:∀ (i j k:Nat),owner[i]?=some (some k)->owner[j]?=some (some k)->i=j
 pS:∀ (j k:Nat) h,owner[j]?=some (some k)->hs[k]?=some h->∃ q,(way M h q).j=j/\∀ q'<q,rb owner (way M h q').j
theorem Lay.none {M:Nat}(hM:w_ M) {hs:List Int}{owner:Array (Option Nat)}{m:Nat}(L:Lay M hs owner m) (hm:m<=M):∃ (e:Nat),e<=M/\owner[e]?=some Option.none:=by
 rcases Classical.em (∃ (e:Nat),e<=M/\owner[e]?=some Option.none) with q | q
 .exact q
 .exfalso;have AH:∀ (e:Nat),e<=M->∃ (k:Nat),owner[e]?=some (some k):=λ e he=>by
   have Ao:e<owner.size:=by rw[L.size];lia
   cases w:owner[e] with
   | none=>exact absurd ⟨e,he,by rw[AV Ao,w]⟩ q
   | some k=>exact⟨k,by rw[AV Ao,w]⟩
  have:=dA (xs:=(List.range (M+1)).map λ e=>((owner[e]?).getD Option.none).getD 0) (ys:=List.range m) (by
   refine A4.mpr (List.Pairwise.imp_of_mem ?_ Ds);intro a b ha hb Ar e;refine Ar ?_;obtain⟨k,hk⟩:=AH a (by have:=AK.mp ha;lia);obtain⟨k',G9⟩:=AH b (by have:=AK.mp hb;lia);rw[hk,G9] at e;simp at e;subst e;exact L.once a b k hk G9) (λ x hx=>by
   obtain⟨e,he,rfl⟩:=Ai.mp hx;obtain⟨k,hk⟩:=AH e (by have:=AK.mp he;lia);rw[hk];exact AK.mpr (L.below e k hk))
  simp at this;lia
def m9 {α:Type}{xs:Array α}{j i:Nat}{a b:α}(h:(xs.setIfInBounds j a)[i]?=some b):(i=j/\b=a)\/(i≠j/\xs[i]?=some b):=by
 rw[Dr] at h;by_cases e:j=i
 .subst e;rw[if_pos rfl] at h;split at h
  .cases h;exact .inl ⟨rfl,rfl⟩
  .cases h
 .rw[if_neg e] at h;exact .inr ⟨λ q=>e q.symm,h⟩
def Lay.step {M:Nat}(hM:w_ M) {hs:List Int}{owner:Array (Option Nat)}{m:Nat}{h:Int}(L:Lay M hs owner m) (hm:m<=M) (hh:hs[m]?=some h):
  ∃ j,layClean.free M owner (turns M) (bits h%(M+1)) (bits h)=some j/\Lay M hs (owner.setIfInBounds j (some m)) (m+1):=by
 obtain⟨e,e1,e2⟩:=L.none hM hm;obtain⟨n',n1,n2⟩:=cq M hM h e e1;obtain⟨j,q,r1,r2,r3,r4⟩:=bq M owner L.size h (turns M) 0 0 rfl (λ q hq=>by lia) ⟨n',by lia,by unfold turns;lia,by rw[n2];exact e2⟩;have hj:j<owner.size:=(Array.getElem?_eq_some_iff.mp r3).1;have keep:∀ x,rb owner x->rb (owner.setIfInBounds j (some m)) x:=λ x ⟨k,hk⟩=>by
  have Ar:j≠x:=λ w=>by subst w;rw[r3] at hk;cases hk
  exact⟨k,by rw[Dr,if_neg Ar];exact hk⟩
 have self:(owner.setIfInBounds j (some m))[j]?=some (some m):=by rw[Dr,if_pos rfl,if_pos hj]
 refine⟨j,r1,⟨by simp[L.size],λ x k hx=>?_,λ k hk=>?_,λ x y k hx hy=>?_,λ x k g hx hg=>?_⟩⟩
 .rcases m9 hx with ⟨_,w⟩ | ⟨_,w⟩
  .cases w;lia
  .have:=L.below x k w;lia
 .rcases Bc k m with w | w
  .obtain⟨x,hx⟩:=L.each k w;have Ar:j≠x:=λ w=>by subst w;rw[r3] at hx;cases hx
   exact⟨x,by rw[Dr,if_neg Ar];exact hx⟩
  .have:k=m:=by lia
   subst this;exact⟨j,self⟩
 .rcases m9 hx with ⟨w1,w⟩ | ⟨w1,w⟩ <;> rcases m9 hy with ⟨v1,v⟩ | ⟨v1,v⟩
  .lia
  .cases w;have:=L.below y _ v;lia
  .cases v;have:=L.below x _ w;lia
  .exact L.once x y k w v
 .rcases m9 hx with ⟨w1,w⟩ | ⟨w1,w⟩
  .cases w;rw[hh] at hg;cases hg;subst w1;exact⟨q,r2,λ q' hq=>keep _ (r4 q' hq)⟩
  .obtain⟨q,g1,g2⟩:=L.pS x k g w hg;exact⟨q,g1,λ q' hq=>keep _ (g2 q' hq)⟩
theorem cw {M:Nat}(hM:w_ M) {hs:List Int}(hl:hs.length<=M+1):∀ (EX:List Int) (owner:Array (Option Nat)) (m:Nat),m<=hs.length->hs.drop m=EX->Lay M hs owner m->
  ∃ Hd,EX.foldl (λ acc h=>do
   let (owner,k) <- acc
   let j <- layClean.free M owner (turns M) (bits h%(M+1)) (bits h)
   pure (owner.setIfInBounds j (some k),k+1)) (some (owner,m))=some (Hd,hs.length)/\Lay M hs Hd hs.length
 | [],owner,m,Im,hd,L=>by
  have hm:hs.length<=m:=List.drop_eq_nil_iff.mp hd;have e:m=hs.length:=by lia
  subst e;exact⟨owner,rfl,L⟩
 | h::EX,owner,m,Im,hd,L=>by
  have hm:hs[m]?=some h:=by
   have:=congrArg (λ l=>l[0]?) hd;simpa using this
  have Ao:m<hs.length:=(AM.mp hm).1;obtain⟨j,j1,j2⟩:=L.step hM (by lia) hm;have Hk:hs.drop (m+1)=EX:=by
   have:=congrArg List.tail hd;simpa using this
  obtain⟨o',h1,h2⟩:=cw hM hl EX _ (m+1) (by lia) Hk j2;refine⟨o',?_,h2⟩;rw[Dq,<- h1];show _=_;congr 1;show ((layClean.free M owner (turns M) (bits h%(M+1)) (bits h)).bind λ j=>some (owner.setIfInBounds j (some m),m+1))=_;rw[j1];rfl
def Pd (M:Nat) (hs:List Int):Lay M hs (Array.replicate (M+1) Option.none) 0:=by
 have no:∀ (j k:Nat),(Array.replicate (M+1) (Option.none:Option Nat))[j]?≠some (some k):=λ j k h=>by
  rw[Array.getElem?_replicate] at h;split at h <;> cases h
 exact⟨by simp,λ j k h=>absurd h (no j k),λ k hk=>by lia,λ i j k h=>absurd h (no i k),λ j k h e=>absurd e (no j k)⟩
def Pe {M:Nat}(hM:w_ M) (hashes:Array Int) (hl:hashes.size<=M+1):∃ owner,layClean M hashes=some owner/\Lay M hashes.toList owner hashes.size:=by
 obtain⟨o,h1,h2⟩:=cw hM (hs:=hashes.toList) (by simpa using hl) hashes.toList _ 0 (AQ _) (by simp) (Pd M _);refine⟨o,?_,by simpa using h2⟩;unfold layClean;rw[<- Array.foldl_toList,h1];rfl
noncomputable def lives (M:Nat) (owner:Array (Option Nat)):List (Nat×Nat):=(List.range (M+1)).filterMap λ j=>(owner.getD j Option.none).map (j,·)
def getD_some {owner:Array (Option Nat)}{j k:Nat}:owner.getD j Option.none=some k↔owner[j]?=some (some k):=by
 unfold Array.getD;split
 .rename_i h;rw[AV h];simp
 .rename_i h;rw[CC (by lia)];simp
def rC {M:Nat}{owner:Array (Option Nat)}(hs:owner.size=M+1) {j k:Nat}:(j,k)∈lives M owner↔owner[j]?=some (some k):=by
 unfold lives;rw[Eb];constructor
 .rintro⟨x,hx,e⟩;obtain⟨y,e1,e2⟩:=AJ.mp e;cases e2;exact getD_some.mp e1
 .intro h;have hj:=(Array.getElem?_eq_some_iff.mp h).1;exact⟨j,AK.mpr (by lia),by rw[getD_some.mpr h];rfl⟩
def d_ (M:Nat) (owner:Array (Option Nat)):(lives M owner).Pairwise λ a b=>a.1<b.1:=by
 unfold lives;rw[List.pairwise_filterMap];refine List.Pairwise.imp ?_ List.pairwise_lt_range;intro a b BR x hx y hy;obtain⟨_,_,e1⟩:=AJ.mp hx;obtain⟨_,_,e2⟩:=AJ.mp hy;subst e1 e2;exact BR
def cx {M:Nat}(hM:w_ M) (finger moves:Nat) (led plain:Bool) (hashes:Array Int) (hl:hashes.size<=M+1):
  ∃ t order,laid M finger moves led plain hashes=some (t,order)/\t.mask=M/\t.finger=finger/\t.led=led/\t.plain=plain/\order.toList.Perm (List.range hashes.size)/\Tab t (order.toList.map λ k=>hashes.toList.getD k 0):=by
 obtain⟨owner,h1,L⟩:=Pe hM hashes hl;refine⟨_,_,by unfold laid;rw[h1];rfl,rfl,rfl,rfl,rfl,?_,?_⟩
 .show ((lives M owner).map (·.2)).toArray.toList.Perm _;rw[CT];refine (D3 ?_ Ds).mpr λ k=>?_
  .refine A4.mpr (List.Pairwise.imp_of_mem ?_ (d_ M owner));intro a b ha hb BR e;have h2:=(rC L.size (j:=a.1) (k:=a.2)).mp ha;have h3:=(rC L.size (j:=b.1) (k:=b.2)).mp hb;have e:a.2=b.2:=e;rw[e] at h2;have:=L.once _ _ _ h2 h3;lia
  .rw[AK];constructor
   .intro h;obtain⟨⟨j,k'⟩,h2,rfl⟩:=Ai.mp h;exact L.below j _ ((rC L.size).mp h2)
   .intro h;obtain⟨j,hj⟩:=L.each k h;exact Ai.mpr ⟨(j,k),(rC L.size).mpr hj,rfl⟩
 .have pl:∀ x,x∈(lives M owner).map (·.1)↔rb owner x:=λ x=>by
   constructor
   .intro h;obtain⟨⟨j,k⟩,h2,rfl⟩:=Ai.mp h;exact⟨k,(rC L.size).mp h2⟩
   .rintro⟨k,hk⟩;exact Ai.mpr ⟨(x,k),(rC L.size).mpr hk,rfl⟩
  refine⟨hM,rfl,?_,?_,?_,?_⟩
  .show ((lives M owner).map (·.1)).toArray.size=(((lives M owner).map (·.2)).toArray.toList.map _).length;simp
  .show uk ((lives M owner).map (·.1)).toArray.toList;rw[CT];exact A4.mpr (d_ M owner)
  .intro x hx;show x<=M;have hx:x∈((lives M owner).map (·.1)).toArray.toList:=hx;rw[CT] at hx;obtain⟨k,hk⟩:=(pl x).mp hx;have:=(Array.getElem?_eq_some_iff.mp hk).1;rw[L.size] at this;lia
  .intro i g x hg hx;have hx:((lives M owner).map (·.1)).toArray[i]?=some x:=hx;have hg:(((lives M owner).map (·.2)).toArray.toList.map λ k=>hashes.toList.getD k 0)[i]?=some g:=hg;rw[List.getElem?_toArray,AE] at hx;rw[CT,AE,AE] at hg;obtain⟨p,p1,p2⟩:=AJ.mp hx;rw[p1] at hg;simp only[Option.map_some,Option.some.injEq] at hg;obtain⟨j,k⟩:=p;cases p2;have hm:=(rC L.size).mp (BA p1);have hk:=L.below _ _ hm;obtain⟨q,q1,q2⟩:=L.pS _ k g hm (by rw[<- hg];simp[hk]);refine⟨q,q1,λ q' hq=>?_⟩;show _∈((lives M owner).map (·.1)).toArray.toList;rw[CT];exact (pl _).mpr (q2 q' hq)
section
variable {prog:Program}{w:World}{A:Around}{E:Af}{s:Shared}
abbrev rk (prog:Program) (w:World):HeapKind prog w (List Int):=tupleKind (intKind prog w)
def items_int {ks:List Int}{vs:Ad}(h:ItemsAre (intKind prog w) ks vs):∀ v∈vs,∃ n t,v=.int n t:=by
 induction h with
 | nil=>intro v hv;cases hv
 | cons h1 _ ih=>
  intro v hv;rcases Aj.mp hv with rfl | hv
  .obtain⟨t,e⟩:=Value.isInt_shape h1;exact⟨_,t,e⟩
  .exact ih v hv
def dG {ks:List Int}{a:Addr}{Q:Bool->Shared->Prop}(hk:IsTupleKey (intKind prog w) s.heap ks a) (h:Q false s):wpAny (model prog w) A (ofAClassStatement 8 (.ref a)) Q E s:=by
 have hT:=hk.typeIs;obtain⟨o,items,n,ho,_,hd,hi⟩:=hk;unfold ofAClassStatement;refine JA (KQ hT ?_);show wpAny _ _ (pure true >>= _) _ _ s;refine JA (Ab ?_);simp only[Cp,AY,if_false];refine JA (KL ho hd ?_);dsimp only;refine JA ?_;show wpAny _ _ (forIn items _ _) _ _ s;rw[<- Array.forIn_toList];refine wpAny_forIn_list _ (λ EX r s'=>r.1=none/\s'=s/\∀ v∈EX,∃ n t,v=.int n t) _ ?_ ?_ _ _ ⟨rfl,rfl,items_int hi⟩
 .rintro v EX r s' ⟨hr,rfl,AH⟩;obtain⟨m,t,rfl⟩:=AH v Ap;show wpAny _ _ (pure false >>= _) _ _ _;refine JA (Ab ?_);simp only[AY,if_false];exact Ab ⟨rfl,rfl,λ u hu=>AH u (Av _ hu)⟩
 .rintro⟨r1,r2⟩ s' ⟨hr,rfl,_⟩;simp only at hr;subst hr;exact Ab h
def Oi {ks:List Int}{a:Addr}{Q:Bool->Shared->Prop}(hk:IsTupleKey (intKind prog w) s.heap ks a) (h:Q true s):wpAny (model prog w) A (hashByValue 8 (.ref a)) Q E s:=by
 have hT:=hk.typeIs;obtain⟨o,items,n,ho,_,hd,hi⟩:=hk;unfold hashByValue;refine JA (K4 hT F.slot_tuple_hash.lookup ?_);dsimp only;refine JA (KL ho hd ?_);refine JA ?_;show wpAny _ _ (forIn items _ _) _ _ s;rw[<- Array.forIn_toList];refine wpAny_forIn_list _ (λ EX r s'=>r.1=none/\s'=s/\∀ v∈EX,∃ n t,v=.int n t) _ ?_ ?_ _ _ ⟨rfl,rfl,items_int hi⟩
 .rintro v EX r s' ⟨hr,rfl,AH⟩;obtain⟨m,t,rfl⟩:=AH v Ap;show wpAny _ _ (pure true >>= _) _ _ _;refine JA (Ab ?_);simp only[Cp,AY,if_false];exact Ab ⟨rfl,rfl,λ u hu=>AH u (Av _ hu)⟩
 .rintro⟨r1,r2⟩ s' ⟨hr,rfl,_⟩;simp only at hr;subst hr;exact Ab h
def YI {ks:List Int}{b:Addr}{Q:Bool->Shared->Prop}(hk:IsTupleKey (intKind prog w) s.heap ks b) (l:Ad) (hl:∀ v∈l,∃ k c,v=.ref c/\IsTupleKey (intKind prog w) s.heap k c) (h:Q false s):
  wpAny (model prog w) A (searchCouldBeSeen (.ref b) l) Q E s:=by
 unfold searchCouldBeSeen;refine JA ?_;refine wpAny_forIn_list _ (λ EX r s'=>r.1=none/\s'=s/\∀ v∈EX,∃ k c,v=.ref c/\IsTupleKey (intKind prog w) s.heap k c) _ ?_ ?_ _ _ ⟨rfl,rfl,hl⟩
 .rintro v EX r s' ⟨hr,rfl,AH⟩;obtain⟨k,c,rfl,hc⟩:=AH v Ap;have HG:∀ u∈EX,∃ k c,u=Value.ref c/\IsTupleKey (intKind prog w) s'.heap k c:=λ u hu=>AH u (Av _ hu);dsimp only;by_cases e:(b == c||(carriedByValue (.ref b)&&carriedByValue (.ref c)))=true
  .rw[if_pos e];exact Ab ⟨rfl,rfl,HG⟩
  .rw[if_neg e];refine JA ((rk prog w).quiet hk ?_);simp only[Cp,AY,if_false];refine JA ((rk prog w).quiet hc ?_);simp only[Cp,AY,if_false];refine JA (dG hk ?_);simp only[AY,if_false];refine JA (dG hc ?_);simp only[AY,if_false];exact Ab ⟨rfl,rfl,HG⟩
 .rintro⟨r1,r2⟩ s' ⟨hr,rfl,_⟩;simp only at hr;subst hr;exact Ab h
structure rj (h:Heap) (es:Array (Int×Value)) (t:SetTable) (xs:List (List Int×Addr)):Prop where
 es:es.toList=xs.map λ e=>((rk prog w).hash e.1,Value.ref e.2)
 is:∀ e∈xs,IsTupleKey (intKind prog w) h e.1 e.2
 tab:Tab t (xs.map λ e=>(rk prog w).hash e.1)
 oB:xs.length<=t.mask
theorem rj.fits {h:Heap}{es:Array (Int×Value)}{t:SetTable}{xs:List (List Int×Addr)}(X:rj (prog:=prog) (w:=w) h es t xs):t.fits es.size=true:=by
 have hl:es.size=xs.length:=by have:=congrArg List.length X.es;simpa using this
 have h1:=X.tab.len;rw[AB] at h1;have h2:=X.oB;unfold SetTable.fits SetTable.fill;rw[X.tab.sS,hl,h1];simp;lia
def rj.at {h:Heap}{es:Array (Int×Value)}{t:SetTable}{xs:List (List Int×Addr)}(X:rj (prog:=prog) (w:=w) h es t xs) {i:Nat}{e:List Int×Addr}(he:xs[i]?=some e):es[i]?=some ((rk prog w).hash e.1,Value.ref e.2):=by
 rw[<- Bi,X.es,AE,he];rfl
theorem fQ {a:Addr}{o:Obj}{es:Array (Int×Value)}{ep:Nat}{t:SetTable}{xs:List (List Int×Addr)}{key:List Int}{b:Addr}{Q:SetFound->Shared->Prop}
  (hu:A.units<cLine) (ho:s.heap.get? a=some o) (hd:o.data=.set es ep t) (X:rj (prog:=prog) (w:=w) s.heap es t xs) (hb:IsTupleKey (intKind prog w) s.heap key b)
  (h1:key∈xs.map (·.1)->Q (.there none) s) (h2:key∉xs.map (·.1)->∀ j,gh t ((rk prog w).hash key) j->Q (.free j false) s):
  ∀ (fuel k:Nat) (GU:Option Probe),GU.getD (t.probeStart ((rk prog w).hash key))=way t.mask ((rk prog w).hash key) k->(∀ m<k,∃ (i:Nat) (e:List Int×Addr),t.place[i]?=some (way t.mask ((rk prog w).hash key) m).j/\xs[i]?=some e/\e.1≠key)->(∃ K,k<=K/\K<k+fuel/\K<10*(t.mask+15)/\(way t.mask ((rk prog w).hash key) K).j∉t.place.toList/\∀ m<K,(way t.mask ((rk prog w).hash key) m).j∈t.place.toList)->
   wpAny (model prog w) A (setSearchFrom a (.ref b) ((rk prog w).hash key) true fuel GU) Q E s
 | 0,k,GU,_,_,⟨K,q1,q2,_⟩=>by lia
 | fuel+1,k,GU,AX,IP,⟨K,q1,q2,q3,q4,q5⟩=>by
  have T:=X.tab;have Ey:t.gaveWay=false:=by
   unfold SetTable.gaveWay;rcases T.mask with e | e | e <;> rw[e] <;> rfl
  unfold setSearchFrom;refine JA (KJ ho hd X.fits ?_);dsimp only;rw[Ey];simp only[AY,if_false];have hA:∀ (i:Nat) g,(xs.map λ e=>(rk prog w).hash e.1)[i]?=some g->((es[i]?).map (·.1)).getD 0=g:=λ i g hg=>by
   rw[AE] at hg;obtain⟨e,e1,e2⟩:=AJ.mp hg;rw[X.at e1];exact e2
  obtain⟨k1,g1,g2,g3⟩:=bc T (hashAt:=λ i=>((es[i]?).map (·.1)).getD 0) hA ((rk prog w).hash key) (10*turns t.mask) k ⟨K,q1,by unfold turns;lia,q4⟩;rw[AX];have look:∀ (i:Nat) g,(xs.map λ e=>(rk prog w).hash e.1)[i]?=some g->∃ e,xs[i]?=some e/\(rk prog w).hash e.1=g:=λ i g hg=>by
   rw[AE] at hg;obtain⟨e,e1,e2⟩:=AJ.mp hg;exact⟨e,e1,e2⟩
  have GA:∀ m<k1,∃ (i:Nat) (e:List Int×Addr),t.place[i]?=some (way t.mask ((rk prog w).hash key) m).j/\xs[i]?=some e/\e.1≠key:=λ m hm=>by
   rcases Bc m k with c | c
   .exact IP m c
   .obtain⟨i,g,p1,p2,p3⟩:=g2 m c hm;obtain⟨e,e1,e2⟩:=look i g p2;exact⟨i,e,p1,e1,λ q=>p3 (by rw[<- e2,q])⟩
  rcases g3 with ⟨n1,n2⟩ | ⟨i,n1,n2,n3⟩
  .have n2':t.probe _ ((rk prog w).hash key) (way t.mask ((rk prog w).hash key) k)=_:=n2;simp only[SetTable.probe] at n2' ⊢
   erw [n2]
   dsimp only;refine Ab (h2 (λ hm=>?_) _ ⟨n1,k1,rfl,λ m hm=>?_⟩)
   .obtain⟨e,he,ek⟩:=Ai.mp hm;obtain⟨i,hi⟩:=D2.mp he;have hh:(xs.map λ e=>(rk prog w).hash e.1)[i]?=some ((rk prog w).hash key):=by rw[AE,hi,<- ek];rfl
    have Cy:i<t.place.size:=by rw[T.len];exact (AM.mp hh).1
    obtain⟨kk,w1,w2⟩:=T.pS i _ _ hh (AV Cy);rcases CU kk k1 with c | c | c
    .obtain⟨i',e',p1,p2,p3⟩:=GA kk c;rw[w1] at p1;have:i=i':=by
      rw[<- below_at T.wb (AV Cy),<- below_at T.wb p1]
     subst this;rw[hi] at p2;cases p2;exact p3 ek
    .subst c;rw[w1] at n1;exact n1 (by simp)
    .exact n1 (w2 k1 c)
   .obtain⟨i',e',p1,_⟩:=GA m hm;exact BA (by rw[Bi];exact p1)
  .simp only[SetTable.probe]
   erw [n3]
   dsimp only;obtain⟨e,e1,e2⟩:=look i _ n2;have DP:=X.at e1;have hey:=X.is e (BA e1);have main:wpAny (model prog w) A (holding [Value.ref e.2] (eqBool (.ref e.2) (.ref b)) >>= λ equal=>setState a >>= λ x=>match x with
     | (FW,_,t')=>if (true&&equal)=true then pure (SetFound.there none) else
      match t'.sameMemory t.moves t.mask with
      | some same=>
       have jp:=λ F8=>match F8 with
        | none=>do
         rule "set.search.anew"
         setSearchFrom a (.ref b) ((rk prog w).hash key) true fuel none
        | some i'=>if equal=true then pure (SetFound.there (some i')) else setSearchFrom a (.ref b) ((rk prog w).hash key) true fuel (some (way t.mask ((rk prog w).hash key) (k1+1)))
       match if same=true then t'.slot (way t.mask ((rk prog w).hash key) k1).j else Slot.empty with
       | .live i'=>match FW[i']? with
        | some (_,y')=>do
         let r <- isSame y' (.ref e.2)
         let F8 <- pure (if r=true then some i' else none)
         jp F8
        | none=>do
         let F8 <- pure none
         jp F8
       | _=>do
        let F8 <- pure none
        jp F8
      | _=>unsupported "set.changed-during-lookup:is-the-new-block-at-the-old-address") Q E s:=by
    refine JA (KC ((rk prog w).eqBool hu hey hb ?_));refine JA (KJ ho hd X.fits ?_);dsimp only;by_cases hk:e.1=key
    .rw[KG hk];simp only[Du,if_true];exact Ab (h1 (Ai.mpr ⟨e,BA e1,hk⟩))
    .rw[KA hk];simp only[CF,AY,if_false];have sm:t.sameMemory t.moves t.mask=some true:=by unfold SetTable.sameMemory;simp
     rw[sm];dsimp only;rw[if_pos rfl,T.live n1];dsimp only;rw[DP];dsimp only;refine JA (wpAny_isSame_ref_self ?_);refine JA (Ab ?_);rw[if_pos rfl];dsimp only;have hKk:k1<K:=by
      rcases CU K k1 with c | c | c
      .obtain⟨i',e',p1,_⟩:=GA K c;exact absurd (BA (by rw[Bi];exact p1)) q4
      .subst c;exact absurd (BA (by rw[Bi];exact n1)) q4
      .exact c
     refine fQ hu ho hd X hb h1 h2 fuel (k1+1) _ rfl (λ m hm=>?_) ⟨K,by lia,by lia,q3,q4,q5⟩;rcases Bc m k1 with c | c
     .exact GA m c
     .have:m=k1:=by lia
      subst this;exact⟨i,e,n1,e1,hk⟩
   rw[DP];by_cases hl:t.led=true
   .rw[hl];simp only[Cp,AY,if_false];exact main
   .have Gn:t.led=false:=by simpa using hl
    rw[Gn];simp only[CJ,if_true];refine JA (YI hb _ (λ v hv=>?_) ?_)
    .obtain⟨p,hp,rfl⟩:=Ai.mp hv;rw[Array.toList_filter,AU,X.es] at hp;obtain⟨⟨e',J_,rfl⟩,_⟩:=(And.intro (Ai.mp hp.1) hp.2)
     exact⟨e'.1,e'.2,rfl,X.is e' J_⟩
    .simp only[AY,if_false];exact main
structure sX (prog:Program) (w:World) (h:Heap) (a:Addr) (xs:List (List Int×Addr)) (led:Bool):Prop where
 ex:∃ es ep t,h.get? a=some { cls:=.type "set",dict:=none,data:=.set es ep t }/\rj (prog:=prog) (w:=w) h es t xs/\t.led=led/\t.plain=true/\xs.length*5<t.mask*3
 nd:(xs.map (·.1)).Nodup
def kR {h h':Heap}{ks:List Int}{b a:Addr}{es:Array (Int×Value)}{ep:Nat}{t:SetTable}{c:Value}{d:Option Addr}{sl:Array (Option Value)}(x:IsTupleKey (intKind prog w) h ks b) (ho:h.get? a=some { cls:=c,dict:=d,data:=.set es ep t,slots:=sl }) (hs:Heap.SameBut a h h'):IsTupleKey (intKind prog w) h' ks b:=by
 obtain⟨o',items,n,FV,hc,Hk,hi⟩:=x;have Ar:b≠a:=by
  rintro rfl;obtain rfl:o'=_:=A7 (FV.symm.trans ho);cases Hk
 exact⟨o',items,n,(hs.2 b Ar).trans FV,hc,Hk,hi⟩
def mH {h:Heap}{a:Addr}{es FW:Array (Int×Value)}{ep:Nat}{t t':SetTable}(ho:h.get? a=some { cls:=.type "set",dict:=none,data:=.set es ep t }):(h.update a (Obj.putSet FW t')).get? a=some { cls:=.type "set",dict:=none,data:=.set FW (ep+1) t' }:=by
 have e:Obj.putSet FW t' { cls:=.type "set",dict:=none,data:=.set es ep t }={ cls:=.type "set",dict:=none,data:=.set FW (ep+1) t' }:=putSet_of FW t' rfl;have:=KO (Obj.putSet FW t') ho (by rw[e];rfl);rw[e] at this;exact this
theorem jn {α β:Type}(l:List α) (f:α->β) (d:β):∀ (order:List Nat),(∀ k∈order,k<l.length)->order.map (λ k=>(l.map f).getD k d)=(order.filterMap λ k=>l[k]?).map f
 | [],_=>rfl
 | k::order,h=>by
  have hk:=h k Ap;have ih:=jn l f d order λ j hj=>h j (Av _ hj);rw[Ax,Ck,Aw hk];dsimp only;rw[Ax,ih];congr 1;simp[hk]
def We {a:Addr}{es:Array (Int×Value)}{ep:Nat}{t:SetTable}{xs:List (List Int×Addr)}{led:Bool}{wanted M:Nat}{Q:Unit->Shared->Prop}
  (ho:s.heap.get? a=some { cls:=.type "set",dict:=none,data:=.set es ep t }) (X:rj (prog:=prog) (w:=w) s.heap es t xs) (Bu:t.led=led) (Aq:t.plain=true) (hM:w_ M) (hw:sizeAbove wanted=M+1) (AD:xs.length*5<M*3) (CN:(xs.map (·.1)).Nodup)
  (h:∀ h' Fd,Heap.SameBut a s.heap h'->sX prog w h' a Fd led->Fd.Perm xs->Q () { s with heap:=h' }):wpAny (model prog w) A (setRelay a wanted) Q E s:=by
 have hlen:es.size=xs.length:=by have:=congrArg List.length X.es;simpa using this
 have EJ:(es.map (·.1)).toList=xs.map λ e=>(rk prog w).hash e.1:=by rw[Array.toList_map,X.es,Au];rfl
 have hsz:(es.map (·.1)).size=xs.length:=by rw[CD,hlen]
 obtain⟨t',order,h1,h2,h3,h4,h5,h6,h7⟩:=cx hM t.finger (t.movedTo M) t.led t.plain (es.map (·.1)) (by rw[hsz];lia);rw[hsz] at h6;have Ao:∀ k∈order.toList,k<xs.length:=λ k hk=>by simpa using h6.mem_iff.mp hk
 unfold setRelay;refine JA (KJ ho rfl X.fits ?_);dsimp only;rw[if_neg (by rw[hw];rcases hM with e | e | e <;> rw[e] <;> decide)];have hr:t.relaid (es.map (·.1)) wanted=some (t',order):=by
  unfold SetTable.relaid;rw[hw,Nat.add_sub_cancel];exact h1
 rw[hr];have BG:(order.filterMap (es[·]?)).toList=(order.toList.filterMap λ k=>xs[k]?).map λ e=>((rk prog w).hash e.1,Value.ref e.2):=by
  rw[Array.toList_filterMap,List.map_filterMap];congr 1;funext k;rw[<- Bi,X.es,AE]
 have E7:(order.toList.filterMap λ k=>xs[k]?).Perm xs:=(h6.filterMap _).trans (by rw[List.filterMap_getElem?_range_length]);have BE:(order.filterMap (es[·]?)).size=es.size:=by
  rw[<- Bj,BG,AB,E7.length_eq,hlen]
 refine JA (m:=_) ?_;show wpAny _ _ (do
  let some (t,order):=some (t',order) | unsupported "internal:set-table-without-room"
  let FW:=order.filterMap (es[·]?)
  if FW.size != es.size then unsupported "internal:set-table-lost-an-element"
  pure (FW,t)) _ _ _
 dsimp only;rw[if_neg (by rw[BE];simp)];refine Ab ?_;have Bl:(order.filterMap (es[·]?)).size<=sizeLine:=by
  rw[BE,hlen];have:sizeLine=16777216:=rfl;rcases hM with e | e | e <;> subst e <;> lia
 refine wpAny_storeSet_of ho rfl ?_ Bl;have sb:=Heap.SameBut.update s.heap a (Obj.putSet (order.filterMap (es[·]?)) t');refine h _ _ sb ⟨⟨_,ep+1,t',mH ho,⟨BG,λ e he=>kR (X.is e (E7.mem_iff.mp he)) ho sb,?_,?_⟩,by rw[h4];exact Bu,by rw[h5];exact Aq,?_⟩,(E7.map _).nodup_iff.mpr CN⟩ E7
 .rw[<- jn xs (λ e=>(rk prog w).hash e.1) 0 order.toList Ao,<- EJ];exact h7
 .rw[E7.length_eq,h2];lia
 .rw[E7.length_eq,h2];exact AD
def fK (n:Nat) (M:Nat) (hM:w_ M) (h1:n*5<M*3) (h2:M*3<=(n+1)*5) (hn:n<70):∃ M',w_ M'/\sizeAbove (grown (n+1))=M' + 1/\(n+1)*5<M'*3:=by
 rcases hM with e | e | e <;> subst e
 .have:n=4:=by lia
  subst this;exact⟨31,.inr (.inl rfl),AF,by lia⟩
 .have:n=18:=by lia
  subst this;exact⟨127,.inr (.inr rfl),AF,by lia⟩
 .lia
def M6 {a:Addr}{xs:List (List Int×Addr)}{key:List Int}{b:Addr}{led:Bool}{Q:Bool->Shared->Prop}(hu:A.units<cLine) (S:sX prog w s.heap a xs led) (hb:IsTupleKey (intKind prog w) s.heap key b) (hn:xs.length<70)
  (h:∀ h' Fd r,Heap.SameBut a s.heap h'->sX prog w h' a Fd led->(key∈xs.map (·.1)/\Fd=xs\/key∉xs.map (·.1)/\Fd.Perm (xs++[(key,b)]))->Q r { s with heap:=h' }):
  wpAny (model prog w) A (setAddHashed a (.ref b) ((rk prog w).hash key)) Q E s:=by
 obtain⟨⟨es,ep,t,ho,X,Bu,Aq,AD⟩,CN⟩:=S;have hlen:es.size=xs.length:=by have:=congrArg List.length X.es;simpa using this
 unfold setAddHashed setAddHashedIn;refine KC (JA (KJ ho rfl X.fits ?_));dsimp only;rw[if_neg (by simp[byScan,Value.scannable])];obtain⟨K,k1,k2,k3⟩:=X.tab.first (by rw[AB];exact X.oB) ((rk prog w).hash key);have hmk:t.mask<=127:=by rcases X.tab.mask with e | e | e <;> lia
 refine JA ?_;unfold setSearch;refine fQ (key:=key) (b:=b) hu ho rfl X hb (λ hm=>?_) (λ hm j F=>?_) 100000 0 none rfl (λ m hm=>by lia) ⟨K,by lia,by lia,k1,k2,k3⟩
 .dsimp only;refine Ab ?_;have:=h s.heap xs false ⟨rfl,λ _ _=>rfl⟩ ⟨⟨es,ep,t,ho,X,Bu,Aq,AD⟩,CN⟩ (.inl ⟨hm,rfl⟩);exact this
 .dsimp only;refine JA (KJ ho rfl X.fits ?_);dsimp only;obtain⟨p1,p2,p3⟩:=X.tab.put F;rw[AB] at p1;have Cs:(t.put j).1.plain=true:=by rw[p2];exact Aq
  have B3:(t.put j).1.mask=t.mask:=by rw[p2]
  have Ao:(t.put j).1.led=led:=by rw[p2];exact Bu
  generalize hT:(t.put j)=P at *;obtain⟨t1,p⟩:=P;dsimp only at *;rw[Cs];simp only[if_true];refine JA (Oi hb ?_);simp only[if_true];let F6:=xs.take p++(key,b)::xs.drop p
  have E7:F6.Perm (xs++[(key,b)]):=by
   have e:xs.take p++xs.drop p=xs:=D4 p xs;have:F6.Perm ((key,b)::(xs.take p++xs.drop p)):=List.perm_middle;rw[e] at this;exact this.trans (List.perm_append_singleton _ _).symm
  have G3:F6.length=xs.length+1:=by rw[E7.length_eq];simp
  have G_:(insertAt es p ((rk prog w).hash key,Value.ref b)).toList=F6.map λ e=>((rk prog w).hash e.1,Value.ref e.2):=by
   rw[toList_insertAt,X.es];simp[F6,Dp,CB]
  have Hg:(insertAt es p ((rk prog w).hash key,Value.ref b)).size=xs.length+1:=by rw[<- Bj,G_,AB,G3]
  have Bl:(insertAt es p ((rk prog w).hash key,Value.ref b)).size<=sizeLine:=by
   rw[Hg];have:sizeLine=16777216:=rfl;lia
  refine JA (wpAny_storeSet_of ho rfl ?_ Bl);have sb:=Heap.SameBut.update s.heap a (Obj.putSet (insertAt es p ((rk prog w).hash key,Value.ref b)) t1);have Il:=mH (FW:=insertAt es p ((rk prog w).hash key,Value.ref b)) (t':=t1) ho;have hm7:7<=t.mask:=by rcases X.tab.mask with e | e | e <;> lia
  have X1:rj (prog:=prog) (w:=w) (s.heap.update a (Obj.putSet (insertAt es p ((rk prog w).hash key,Value.ref b)) t1)) (insertAt es p ((rk prog w).hash key,Value.ref b)) t1 F6:=by
   refine⟨G_,λ e he=>?_,?_,by rw[G3,B3];lia⟩
   .rcases AZ.mp (E7.mem_iff.mp he) with q | q
    .exact kR (X.is e q) ho sb
    .cases AW.mp q;exact kR hb ho sb
   .have:F6.map (λ e=>(rk prog w).hash e.1)=(xs.map λ e=>(rk prog w).hash e.1).take p++(rk prog w).hash key::(xs.map λ e=>(rk prog w).hash e.1).drop p:=by simp[F6,Dp,CB]
    rw[this];exact p3
  have Hi:(F6.map (·.1)).Nodup:=by
   refine (E7.map _).nodup_iff.mpr ?_;rw[Bo,List.nodup_append];refine⟨CN,by simp,λ x hx y hy=>?_⟩;simp at hy;subst hy;exact λ e=>hm (e▸hx)
  by_cases hf:t1.tooFull=true
  .rw[hf];simp only[CJ,Du,if_true];have Gu:t1.fill=xs.length+1:=by
    unfold SetTable.fill;rw[p3.sS,p3.len];simp;lia
   have F_:t.mask*3<=(xs.length+1)*5:=by
    have:=hf;unfold SetTable.tooFull at this;rw[Gu,B3] at this;simpa using this
   obtain⟨M',g1,g2,g3⟩:=fK xs.length t.mask X.tab.mask AD F_ hn;rw[hlen];refine JA (We (led:=led) Il X1 Ao Cs g1 g2 (by rw[G3];exact g3) Hi λ h' Fd sb' S' pm=>?_);refine Ab ?_;exact h h' Fd true (sb.trans sb') S' (.inr ⟨hm,pm.trans E7⟩)
  .have GL:t1.tooFull=false:=by simpa using hf
   rw[GL];simp only[CJ,CF,AY,if_false];refine Ab ?_;have Gu:t1.fill=xs.length+1:=by
    unfold SetTable.fill;rw[p3.sS,p3.len];simp;lia
   have F_:(xs.length+1)*5<t.mask*3:=by
    have:=GL;unfold SetTable.tooFull at this;rw[Gu,B3] at this;simpa using this
   exact h _ F6 true sb ⟨⟨_,ep+1,t1,Il,X1,Ao,Cs,by rw[G3,B3];exact F_⟩,Hi⟩ (.inr ⟨hm,E7⟩)
end
noncomputable def tH (w:World):Bool:=!w.params.followText "set-order"
def wa (w:World):Obj:={ cls:=.type "set",dict:=none,data:=.set #[] 0 (.fresh 0 0 (tH w)) }
section
variable {prog:Program}{w:World}{A:Around}{E:Af}{s:Shared}
set_option maxHeartbeats 3200000 in
def NB (a:Value) {Q:Af}(h:Q (.ref s.heap.objs.size) { s with heap:=s.heap.push (wa w) }):
  codeAny (model prog w) A (.call (.builtin "set.__new__") ⟨[.type "set",a],[]⟩) (wants Q E) s:=by
 refine codeAny_of_tree ?_;show wpAny _ A.in1 (checkBuiltinCall "set.__new__" ⟨[.type "set",a],[]⟩ >>= λ _=>again (.builtin "set.__new__" ⟨[.type "set",a],[]⟩)) _ _ s;refine JA (wpAny_of_eq (F.newCall_set_1 a) (Ab ⟨plainId_quiet F.plain_set_new _,codeAny_builtin F.entry_set_new ?_⟩));rw[Around.under_plainId F.plain_set_new _];unfold Builtin.«set.__new__» Builtin.Frozenset.newClass newSet setsByText;have sub:=sub_set_self;obtain⟨hp,g,d,tk,os⟩:=s;dsimp only
 wp_walk
 refine K3 (Ab ?_);dsimp only;simp only[newObj];exact JA (wpAny_alloc (Ab (Ab h)))
def XS {h:Heap}{a:Addr}(ho:h.get? a=some (wa w)):sX prog w h a [] (tH w):=
 ⟨⟨#[],0,_,ho,⟨rfl,λ e he=>(by cases he),⟨.inl rfl,rfl,rfl,.nil,λ j hj=>(by cases hj),λ i g j hg=>(by cases hg)⟩,by simp⟩,rfl,rfl,by show 0*5<7*3;lia⟩,.nil⟩
end
end ST
namespace ST
open PySem PySem.SetTable PyProof.Rows
section
variable {κ β:Type}[DecidableEq κ]{val:κ->β->Value}{its:An}{ks:List κ}{i:Nat}{xs Fd:List (κ × β)}
structure Up (val:κ->β->Value) (its:An) (ks:List κ) (i:Nat) (xs:List (κ × β)):Prop where
 own:∀ e∈xs,∃ j,j<i/\its[j]?=some (val e.1 e.2)/\ks[j]?=some e.1
 all:∀ (j:Nat) r,j<i->ks[j]?=some r->r∈xs.map (·.1)
theorem jy:∀ (l m:List κ),l.Nodup->(∀ x∈l,x∈m)->l.length<=m.length
 | [],m,_,_=>AQ _
 | x::l,m,hn,hs=>by
  have h1:=Be.mp hn;have hx:=hs x Ap;have:=jy l (m.erase x) h1.2 λ z hz=>(List.mem_erase_of_ne (λ e:z=x=>h1.1 (by rw[<- e];exact hz))).mpr (hs z (Av _ hz));rw[List.length_erase_of_mem hx] at this;have:=List.length_pos_of_mem hx;simp only[Bg];lia
def Up.len (U:Up val its ks i xs) (nd:(xs.map (·.1)).Nodup):xs.length<=i:=by
 have:=jy (xs.map λ e=>some e.1) ((List.range i).map λ j=>ks[j]?) (by
  have:(xs.map λ e=>some e.1)=(xs.map (·.1)).map some:=by rw[Au];rfl
  rw[this];exact List.Pairwise.map _ (λ a b h e=>h (A7 e)) nd) λ x hx=>by
  obtain⟨e,he,rfl⟩:=Ai.mp hx;obtain⟨j,h1,_,h3⟩:=U.own e he;exact Ai.mpr ⟨j,AK.mpr h1,h3⟩
 simpa using this
def Up.step {key:κ}{b:β}(U:Up val its ks i xs) (hi:its[i]?=some (val key b)) (hr:ks[i]?=some key)
  (h:key∈xs.map (·.1)/\Fd=xs\/key∉xs.map (·.1)/\Fd.Perm (xs++[(key,b)])):Up val its ks (i+1) Fd:=by
 have eqi:∀ j:Nat,j<i+1->¬ j<i->j=i:=λ j a b=>by lia
 rcases h with ⟨hm,rfl⟩ | ⟨_,hp⟩
 .refine⟨λ e he=>?_,λ j r hj Cr=>?_⟩
  .obtain⟨j,h1,h2⟩:=U.own e he;exact⟨j,B7 h1,h2⟩
  .by_cases q:j<i
   .exact U.all j r q Cr
   .rw[eqi j hj q,hr] at Cr;cases Cr;exact hm
 .refine⟨λ e he=>?_,λ j r hj Cr=>?_⟩
  .rcases AZ.mp (hp.mem_iff.mp he) with q | q
   .obtain⟨j,h1,h2⟩:=U.own e q;exact⟨j,B7 h1,h2⟩
   .cases AW.mp q;exact⟨i,Co i,hi,hr⟩
  .rw[(hp.map (·.1)).mem_iff,Bo];by_cases q:j<i
   .exact CH _ (U.all j r q Cr)
   .rw[eqi j hj q,hr] at Cr;cases Cr;exact A2 _ Ap
structure Kd (prog:Program) (w:World) (A:Around) (val:κ->β->Value) (its:An) (ks:List κ) (Sa:Addr) (wr:List Addr) (Se:Heap->List (κ × β)->Prop) (Tp:Heap->Prop):Prop where
 nd:∀ {h xs},Se h xs->(xs.map (·.1)).Nodup
 keep:∀ {h h' xs i},(∀ b o,b∉wr->h.get? b=some o->h'.get? b=some o)->Up val its ks i xs->Se h xs->Se h' xs
 mW:∀ {h h'},(∀ b o,b∉Sa::wr->h.get? b=some o->h'.get? b=some o)->Tp h->Tp h'
 add:∀ {s:Shared}{xs:List (κ × β)}{i:Nat}{v:Value}{Q:Bool->Shared->Prop}{E:Af},Tp s.heap->Se s.heap xs->xs.length<70->its[i]?=some v->
  (∀ h' tk Fd rr k b,v=val k b->ks[i]?=some k->Heap.SameBut Sa s.heap h'->s.toks<=tk->Se h' Fd->(k∈xs.map (·.1)/\Fd=xs\/k∉xs.map (·.1)/\Fd.Perm (xs++[(k,b)]))->Q rr { s with heap:=h',toks:=tk })->
  wpAny (model prog w) A (setAdd Sa v) Q E s
variable {prog:Program}{w:World}{A:Around}{R:Result->Shared->Prop}{I:Addr}{fp wr:List Addr}{G:Array GenState->Array GenState->Prop}{n:Nat}{P:Nat->Value->Prop}{St:Nat->Shared->Prop}{Sa:Addr}{Se:Heap->List (κ × β)->Prop}{Tp:Heap->Prop}
def QS (W:WalksS prog w A.in1 I fp wr G n (λ i v=>P i v) St) (D:Kd prog w A.in1 val its ks Sa wr Se Tp) (hSf:Sa∉fp) (hP:∀ i v,P i v->its[i]?=some v) (hn:n<70):
  ∀ (k i:Nat) (s:Shared) (xs:List (κ × β)),n-i=k->i<=n->St i s->Se s.heap xs->Tp s.heap->Up val its ks i xs->
   (∀ s' Fd,Moved (Sa::wr) G s s'->Se s'.heap Fd->Up val its ks n Fd->R (.ok (.ret .none)) s')->
   codeAny (model prog w) A (.builtin "set.update.loop" ⟨[.ref Sa,.ref I],[]⟩) R s:=by
 have more:∀ b∈wr,b∈Sa::wr:=λ b hb=>Av _ hb;intro k
 induction k with
 | zero=>
  intro i s xs hk hi AX hS hT hU hR;have e:i=n:=by lia
  subst e;refine codeAny_builtin F.entry_set_update_loop ?_;rw[Around.under_plainId F.plain_set_update_loop _];show wpAny _ A.in1 (pyNext (.ref I) >>= _) _ _ s;exact JA (W.done s _ _ AX λ s' hm=>Ab (hR s' xs (hm.mono more) (D.keep hm.heap hU hS) hU))
 | succ k ih=>
  intro i s xs hk hi AX hS hT hU hR;have Ao:i<n:=by lia
  refine codeAny_builtin F.entry_set_update_loop ?_;rw[Around.under_plainId F.plain_set_update_loop _];show wpAny _ A.in1 (pyNext (.ref I) >>= _) _ _ s;refine JA (W.item i s _ _ Ao AX λ v s1 hPv JT hm=>?_);have hv:=hP i v hPv;have T1:=D.mW (λ b o hb e=>hm.heap b o (λ z=>hb (more _ z)) e) hT;have hl:xs.length<70:=by have:=hU.len (D.nd hS);lia
  show wpAny _ A.in1 (holding [v] (setAdd Sa v) >>= _) _ _ s1;refine JA (KC (D.add T1 (D.keep hm.heap hU hS) hl hv λ h' tk Fd rr key b ev hr sb ht S' hx=>?_));subst ev;have fr:=W.frame (i+1) s1 h' tk JT ht λ c hc o e=>(sb.2 c (λ z:c=Sa=>hSf (z▸hc))).trans e;refine Ab ⟨plainId_quiet F.plain_set_update_loop _,ih (i+1) _ Fd (by lia) Ao fr S' (D.mW (λ c o hc e=>(sb.2 c (λ z=>hc (z▸Ap))).trans e) T1) (hU.step hv hr hx) λ s2 HS Hj S2 U2=>?_⟩;refine hR s2 HS (Moved.trans W.gtrans ((hm.mono more).then_heap ht λ c o hc e=>?_) Hj) S2 U2;exact (sb.2 c (λ z=>hc (z▸Ap))).trans e
end
section
variable {prog:Program}{w:World}{A:Around}{its:An}{rows:List (List Int)}{Sa:Addr}{wr:List Addr}
def qW (prog:Program) (w:World) (h:Heap) (its:An) (rows:List (List Int)):Prop:=∀ (i:Nat) v,its[i]?=some v->∃ b r,v=.ref b/\rows[i]?=some r/\IsTupleKey (intKind prog w) h r b
def qW.at {h h':Heap}(T:qW prog w h its rows) (k:∀ (i:Nat) b,its[i]?=some (.ref b)->∀ o,h.get? b=some o->h'.get? b=some o):qW prog w h' its rows:=λ i v hv=>by
 obtain⟨b,r,rfl,h1,o,items,m,h2,h3⟩:=T i v hv;exact⟨b,r,rfl,h1,o,items,m,k i b hv o h2,h3⟩
abbrev gP:List Int->Addr->Value:=λ _ b=>.ref b
def Pt {led:Bool}(Kb:Sa∉wr) (hu:A.units<cLine) (C7:∀ (i:Nat) b,its[i]?=some (.ref b)->b∉Sa::wr):Kd prog w A gP its rows Sa wr (λ h xs=>sX prog w h Sa xs led) (λ h=>qW prog w h its rows) where
 nd:=λ S=>S.nd
 keep:=λ{h h' xs i} k U S=>by
  obtain⟨⟨es,ep,t,ho,X,r⟩,nd⟩:=S;refine⟨⟨es,ep,t,k Sa _ Kb ho,⟨X.es,λ e he=>?_,X.tab,X.oB⟩,r⟩,nd⟩;obtain⟨o,items,m,g1,g2⟩:=X.is e he;obtain⟨j,_,h2,_⟩:=U.own e he;exact⟨o,items,m,k _ _ (λ z=>C7 j e.2 h2 (Av _ z)) g1,g2⟩
 mW:=λ k T=>T.at λ i b hi o e=>k b o (C7 i b hi) e
 add:=λ{s xs i v Q E} T S hl hv hQ=>by
  obtain⟨b,r,rfl,hr,hb⟩:=T i v hv;unfold setAdd;refine KC (JA ((rk prog w).pyHash (k:=r) (a:=b) (A:=A) hu hb ?_));exact M6 (s:={ s with toks:=s.toks+(rk prog w).draws r }) (A:=A) hu S hb hl λ h' Fd rr sb S' hx=>hQ h' _ Fd rr r b rfl hr sb (CA _ _) S' hx
end
section
variable {prog:Program}{w:World}{A:Around}{E:Af}{s:Shared}
set_option maxHeartbeats 6400000 in
def aB {κ β:Type} [DecidableEq κ] {val:κ->β->Value}{ks:List κ}{Se:Heap->List (κ × β)->Prop}{Tp:Heap->Prop}{l:Addr}{its:An}{Q:Af}(hh:A.handled=none) (hl:s.heap.IsList l its) (hn:its.size<70)
  (D:Kd prog w A.in1.in1.in1 val its ks s.heap.objs.size [s.heap.objs.size+1] Se Tp) (hS0:∀ h,h.get? s.heap.objs.size=some (wa w)->Se h []) (hT0:∀ h,(∀ b o,s.heap.get? b=some o->h.get? b=some o)->Tp h)
  (h:∀ (h':Heap) (tk:Nat) xs,Se h' xs->Up val its ks its.size xs->(∀ b o,b<s.heap.objs.size->s.heap.get? b=some o->h'.get? b=some o)->Q (.ref s.heap.objs.size) { s with heap:=h',toks:=tk }):
  wpAny (model prog w) A (call (.type "set") [.ref l]) Q E s:=by
 obtain⟨c,tl,hmro⟩:=F.called_set.mro;have made:=F.called_set.made;have subm:=F.called_set.sub;refine wpAny_call (codeAny_of_tree ?_);show wpAny _ _ (callAny (.type "set") _) _ _ _;refine Ab ⟨Code.quiet_builtin _ (AF),codeAny_builtin F.entry_type_call ?_⟩;rw[Around.under_plain (weight_type_call_type "set" [.ref l] []) rfl];have nt:=F.called_set.notType;have cc:=F.called_set.canCreate;have tc:=F.typeCall_set_1 (.ref l)
 repeat (any_goals (first | assumption | wp_step))
 refine codeAny_mono (NB (.ref l) (E:=E) (Q:=λ obj s₁=>obj=.ref s.heap.objs.size/\s₁={ s with heap:=s.heap.push (wa w) }) ⟨rfl,rfl⟩) λ r s₁ hr=>?_;cases r with
 | error e=>exact hr
 | ok fl=>
  cases fl with
  | ret obj=>
   obtain⟨rfl,rfl⟩:=hr;have hS:(s.heap.push (wa w)).get? s.heap.objs.size=some (wa w):=AG _ rfl;have hTy:Shared.TypeIs { s with heap:=s.heap.push (wa w) } (.ref s.heap.objs.size) "set":=⟨_,hS,rfl⟩
   have li:=F.called_set.init.lookup;have bi:=F.called_set.init.bind (.ref s.heap.objs.size)
   repeat (any_goals (first | assumption | wp_step))
   let s1:Shared:={ s with heap:=s.heap.push (wa w) }
   refine codeAny_mono (codeAny_call_builtin (R:=wants (λ r s₂=>r=.none/\∃ h' tk xs,s₂={ s with heap:=h',toks:=tk }/\Se h' xs/\Up val its ks its.size xs/\
     ∀ b o,b<s.heap.objs.size->s.heap.get? b=some o->h'.get? b=some o) E) F.called_set.init.plain F.entry_set_init (check_set_init_1 hTy ?_)) λ r₂ s₂ JU=>?_
   .obtain⟨⟨ocls,IB,odata,HY⟩,hol,Cz,nl,Dh⟩:=id hl;simp only at Cz Dh;subst Cz Dh;have J4:(s.heap.push (wa w)).get? l=some { cls:=.type "list",dict:=IB,data:=.seq its nl,slots:=HY }:=Ky _ hol;have sls:=F.sub_list_set;have slf:=F.sub_list_frozenset;have nd:(Value.type "list" == Value.type "dict")=false:=by decide
    have G3:(s.heap.push (wa w)).IsList l its:=⟨_,J4,rfl,nl,rfl⟩
    unfold Builtin.«set.__init__» noKeywords Builtin.Frozenset.updateFrom;generalize hPI:pyIter=PI;unfold wa at *
    wp_walk
    subst hPI;refine wpAny_pyIter_list G3 (JA (wpAny_runValue ?_));have hlS:l<s.heap.objs.size:=Al hol;have hsz:(s.heap.push (wa w)).objs.size=s.heap.objs.size+1:=Heap.size_push _ _;have J6:l≠(s.heap.push (wa w)).objs.size:=by rw[hsz];exact AA (B7 hlS)
    have JD:s.heap.objs.size≠(s.heap.push (wa w)).objs.size:=by rw[hsz];exact AA (Co _)
    have low:∀ b:Addr,b<s.heap.objs.size->b≠(s.heap.push (wa w)).objs.size:=λ b hb=>by rw[hsz];exact AA (B7 hb)
    rw[<- hsz] at D;refine QS (A:=A.in1.in1) (P:=λ i v=>its[i]?=some v) ((Walks.list (A:=A.in1.in1.in1) (by simp[hh]) _ l J6 its).toS) D ?_ (λ _ _ q=>q) hn its.size 0 _ [] (by lia) (AQ _)
     ⟨⟨_,AG _ rfl,rfl,rfl⟩,G3.push _⟩ (hS0 _ (Ky _ hS)) (hT0 _ λ b o e=>Ky _ (Ky _ e)) ⟨λ e he=>(by cases he),λ j r hj=>(by lia)⟩ ?_
    .intro hm;rcases Aj.mp hm with q | q
     .exact JD q
     .exact Bw hlS (AW.mp q)
    .intro s' Fd hm S' U';obtain⟨h',g',d',JB,GB⟩:=s';obtain rfl:g'=s.gens:=hm.gens;obtain rfl:d'=s.drawn:=hm.drawn;obtain rfl:GB=s.os:=hm.os;refine Ab (Ab ⟨rfl,h',JB,Fd,rfl,S',U',λ b o hb e=>?_⟩);refine hm.heap b o (λ q=>?_) (Ky _ (Ky _ e));rcases Aj.mp q with q | q
     .exact AA hb q
     .exact low b hb (AW.mp q)
   .cases r₂ with
    | error e=>exact JU
    | ok fl₂=>
     cases fl₂ with
     | ret r=>
      obtain⟨rfl,h',tk,xs,rfl,g1,g2,g3⟩:=JU
      repeat (any_goals (first | assumption | wp_step))
      exact h h' tk xs g1 g2 g3
     | _=>exact JU.elim
  | _=>exact hr.elim
def NQ {l:Addr}{its:An}{rows:List (List Int)}{Q:Af}(hh:A.handled=none) (hu:A.units+64<cLine) (hl:s.heap.IsList l its) (hT:qW prog w s.heap its rows) (hn:its.size<70)
  (h:∀ (h':Heap) (tk:Nat) xs,sX prog w h' s.heap.objs.size xs (tH w)->Up gP its rows its.size xs->(∀ b o,b<s.heap.objs.size->s.heap.get? b=some o->h'.get? b=some o)->Q (.ref s.heap.objs.size) { s with heap:=h',toks:=tk }):
  wpAny (model prog w) A (call (.type "set") [.ref l]) Q E s:=by
 refine aB hh hl hn (Pt (by simp) (show A.units+1+1+1<cLine by lia) λ i b hb hm=>?_) (λ h e=>XS e) (λ h k=>hT.at λ i b _ o e=>k b o e) h;obtain⟨b',r,e,_,o,_,_,ho,_⟩:=hT i _ hb;cases e;have:=Al ho;rcases Aj.mp hm with q | q
 .exact AA this q
 .exact AA (B7 this) (AW.mp q)
end
end ST
namespace ST
open PySem PySem.SetTable
section facts
def eZ:Manifest.owners.lookup (String.ofList ['r','o','t','a','r','e','t','i','_','t','e','s'].reverse)=some Manifest.sig_set_iterator:=by kernel_rfl
def qo:Slot "set_iterator" "__next__" "set_iterator.__next__":=
 .of (owner:="set_iterator") (n:="__next__") (by rw[typeLookup_type,builtinLookup_eq_fast];kernel_rfl) (AF) (AF) (AF) (by first | exact .inl (AF) | exact .inr (AF)) (by rw[isSubtype_type];kernel_rfl)
def bA:entryFor table "set_iterator.__next__"=some Builtin.«set_iterator.__next__»:=entryFor_of_tree (by kernel_rfl)
def aR (a:Value):argsOk "set_iterator.__next__" ⟨[a],[]⟩:=by
 unfold argsOk;rw[signature?_of (id:="set_iterator.__next__") (n:=['_','_','t','x','e','n','_','_']) (o:=['r','o','t','a','r','e','t','i','_','t','e','s']) (by kernel_rfl) eZ]
 kernel_rfl
def Nc:entryFor table "set.__iter__"=some Builtin.«frozenset.__iter__»:=entryFor_alias (id':="frozenset.__iter__") (by kernel_rfl) rfl (AF) (by kernel_rfl)
def fJ:Slot "set_iterator" "__iter__" "set_iterator.__iter__":=
 .of (owner:="set_iterator") (n:="__iter__") (by rw[typeLookup_type,builtinLookup_eq_fast];kernel_rfl) (AF) (AF) (AF) (by first | exact .inl (AF) | exact .inr (AF)) (by rw[isSubtype_type];kernel_rfl)
def Nb:entryFor table "set_iterator.__iter__"=some Builtin.«dict_keyiterator.__iter__»:=entryFor_alias (id':="dict_keyiterator.__iter__") (by kernel_rfl) rfl (AF) (by kernel_rfl)
def Mv (a:Value):argsOk "set_iterator.__iter__" ⟨[a],[]⟩:=by
 unfold argsOk;rw[signature?_of (id:="set_iterator.__iter__") (n:=['_','_','r','e','t','i','_','_']) (o:=['r','o','t','a','r','e','t','i','_','t','e','s']) (by kernel_rfl) eZ]
 kernel_rfl
end facts
theorem ik {α:Type}:∀ (l:List α) (i:Nat) (x:α),l[i]?=some x->l.Perm (x::l.eraseIdx i)
 | [],i,x,h=>by simp at h
 | y::l,0,x,h=>by simp at h;subst h;simp
 | y::l,i+1,x,h=>by
  have ih:=ik l i x (by simpa using h);rw[CS];exact (ih.cons y).trans (.swap x y _)
theorem eR {α:Type}(next:Nat->Nat):∀ (f k:Nat) (left:List α) (out:Array α),left.length=f->(pickOrder.go next f k left out).toList.Perm (out.toList++left)
 | 0,k,left,out,h=>by
  cases left with
  | nil=>unfold pickOrder.go;simp
  | cons _ _=>simp at h
 | f+1,k,left,out,h=>by
  unfold pickOrder.go;have Ao:next k%left.length<left.length:=CV _ (by lia);rw[Aw Ao];dsimp only;refine (eR next f (k+1) _ _ (by rw[D1 Ao];lia)).trans ?_;rw[Array.toList_push,DA];exact (ik left _ _ (Aw Ao)).symm.append_left _
def WN {α:Type}(next:Nat->Nat) (xs:Array α):(pickOrder next xs).toList.Perm xs.toList:=by
 unfold pickOrder;simpa using eR next xs.size 0 xs.toList #[] (by simp)
noncomputable def comes (w:World) (a:Addr) (es:Array (Int×Value)) (ep:Nat):Array (Int×Value):=if w.params.followText "set-order"=true then pickOrder (w.params.setOrder a ep) es else es
def o_ (w:World) (a:Addr) (es:Array (Int×Value)) (ep:Nat):(comes w a es ep).toList.Perm es.toList:=by
 unfold comes;split
 .exact WN _ _
 .exact .refl _
noncomputable def sJ (a:Addr) (slot i n ep:Nat):Obj:={ cls:=.type "set_iterator",data:=.fields #[rawInt slot,rawInt i,.ref a,rawInt n,rawInt ep] }
noncomputable def slotAt (t:SetTable):Nat->Nat
 | 0=>0
 | i+1=>t.place.getD i 0+1
theorem Ms {t:SetTable}(hr:uk t.place.toList):∀ i,i<=t.place.size->below t.place (slotAt t i)=i
 | 0,_=>by
  obtain⟨h1,h2,h3⟩:=kc (xs:=t.place) (j:=0) hr;rcases D6 (below t.place 0) with q | q
  .exact q
  .have:=h2 0 (by lia) q;lia
 | i+1,hi=>by
  have hd:t.place.getD i 0=t.place[i]:=jV (by lia);show below t.place (t.place.getD i 0+1)=i+1;rw[hd];obtain⟨h1,h2,h3⟩:=kc (xs:=t.place) (j:=t.place[i] + 1) hr;have wb:∀ a b (ha:a<t.place.size) (hb:b<t.place.size),a<b->t.place[a]<t.place[b]:=λ a b ha hb BR=>by
   have r:=Ci.mp hr a b (by simpa using ha) (by simpa using hb) BR;rw[B8,B8] at r;exact r
  rcases CU (below t.place (t.place[i] + 1)) (i+1) with q | q | q
  .have:=h3 i (by lia) (by lia);lia
  .exact q
  .have a:=h2 (i+1) (by lia) q;have b:=wb i (i+1) (by lia) (by lia) (by lia);lia
structure wq (w:World) (h:Heap) (a:Addr) (es:Array (Int×Value)) (ep:Nat) (t:SetTable):Prop where
 get:h.get? a=some { cls:=.type "set",dict:=none,data:=.set es ep t }
 fits:t.fits es.size=true
 wb:uk t.place.toList
 led:t.led=tH w
 plain:t.plain=true
theorem wq.size {w:World}{h:Heap}{a:Addr}{es:Array (Int×Value)}{ep:Nat}{t:SetTable}(S:wq w h a es ep t):t.place.size=es.size:=by
 have:=S.fits;simp only[SetTable.fits,Br,beq_iff_eq] at this;exact this.1
section
variable {prog:Program}{w:World}{A:Around}{E:Af}{s:Shared}
def dH {a:Addr}{es:Array (Int×Value)}{ep:Nat}{t:SetTable}{i:Nat}{Q:Option (Value×Nat)->Shared->Prop}(S:wq w s.heap a es ep t) (hi:i<=es.size) (slot:Nat) (hs:w.params.followText "set-order"=false->slot=slotAt t i)
  (h:∀ Fv,(w.params.followText "set-order"=false->Fv=slotAt t (i+1))->Q ((comes w a es ep)[i]?.map λ e=>(e.2,Fv)) s):wpAny (model prog w) A (setNext a slot i ep) Q E s:=by
 unfold setNext setsByText;refine JA (KJ S.get rfl S.fits ?_);dsimp only;refine JA (JA (K3 (Ab ?_)));show wpAny _ A (if w.params.followText "set-order"=true then _ else _) Q E s;cases hb:w.params.followText "set-order" with
 | true=>
  rw[if_pos rfl,if_neg (by simp)];unfold setWalk setsByText;refine JA (JA (KJ S.get rfl S.fits ?_));dsimp only;refine JA (JA (K3 (Ab ?_)));show wpAny _ A (if w.params.followText "set-order"=true then _ else _) _ E s;rw[if_pos hb];refine JA (K3 (Ab ?_));refine Ab ?_;have:=h slot (λ q=>by rw[hb] at q;cases q);unfold comes at this;rw[if_pos hb] at this;exact this
 | false=>
  rw[if_neg (by simp)];split
  .rename_i hd;have Hk:(!t.plain&&decide (es.size>1))=true:=hd;rw[S.plain] at Hk;simp at Hk
  .show wpAny _ A ((if (!t.led&&!es.isEmpty)=true then unsupported "set:maker-not-led" else pure ()) >>= _) Q E s;have hl:t.led=true:=by rw[S.led];unfold tH;rw[hb];rfl
   rw[if_neg (by rw[hl];simp)];refine JA (Ab (Ab ?_));have Bl:=hs hb;have hz:=S.size;rw[Bl,Ms S.wb i (by rw[hz];exact hi)];have:=h (slotAt t (i+1)) (λ _=>rfl);unfold comes at this;rw[if_neg (by rw[hb];simp)] at this;rcases Bc i es.size with q | q
   .have hp:i<t.place.size:=by rw[hz];exact q
    rw[AV q] at this;rw[AV q,AV hp];have e:slotAt t (i+1)=t.place[i] + 1:=by show t.place.getD i 0+1=_;rw[jV hp]
    rw[e] at this;exact this
   .rw[CC q] at this;rw[CC q];exact this
def rG {a I:Addr}{slot i n ep:Nat}(ho:s.heap.get? I=some (sJ a slot i n ep)):s.TypeIs (.ref I) "set_iterator":=⟨_,ho,rfl⟩
def g_ (k:Nat):((k:Int)).toNat=k:=B6 k
def XQ {I a:Addr}{es:Array (Int×Value)}{ep:Nat}{t:SetTable}{i slot:Nat}{e:Int×Value}{Q:Option Value->Shared->Prop}(ho:s.heap.get? I=some (sJ a slot i es.size ep)) (S:wq w s.heap a es ep t) (hs:w.params.followText "set-order"=false->slot=slotAt t i) (he:(comes w a es ep)[i]?=some e)
  (hi:i<es.size) (h:∀ h' Fv,(w.params.followText "set-order"=false->Fv=slotAt t (i+1))->h'.get? I=some (sJ a Fv (i+1) es.size ep)->Heap.SameBut I s.heap h'->Q (some e.2) { s with heap:=h' }):wpAny (model prog w) A (pyNext (.ref I)) Q E s:=by
 unfold pyNext;refine JA (KU (KN (name:=Str.ofString "__next__") (rG ho) qo (KD qo (rG ho) bA ?_ (aR _))));refine JA (Ab ?_);dsimp only;refine JA (wpAny_fieldsOf ho rfl ?_);dsimp only[rawInt];refine JA (JA (KJ S.get rfl S.fits (Ab ?_)));rw[if_neg (by simp)];refine JA (dH S (by lia) slot hs λ Fv GJ=>?_);rw[g_] at GJ ⊢;rw[he];dsimp only[Option.map_some];refine JA (K2 ho rfl (by simp) ?_);have o1:=KO (Obj.mapFields (·.set! 0 (Value.int (Fv:Int) 0))) ho rfl;refine JA (K2 o1 rfl (by simp) ?_);have o2:=KO (Obj.mapFields (·.set! 1 (Value.int ((i:Int)+1) 0))) o1 rfl;refine Ab ⟨_,rfl,Ab (h _ Fv GJ o2 ((Heap.SameBut.update ..).trans (Heap.SameBut.update ..)))⟩
def XR {I a:Addr}{es:Array (Int×Value)}{ep:Nat}{t:SetTable}{slot:Nat}{Q:Option Value->Shared->Prop}(hh:A.handled=none) (ho:s.heap.get? I=some (sJ a slot es.size es.size ep)) (S:wq w s.heap a es ep t) (hs:w.params.followText "set-order"=false->slot=slotAt t es.size)
  (h:∀ h',Heap.ExtBut I s.heap h'->Q none { s with heap:=h' }):wpAny (model prog w) A (pyNext (.ref I)) Q E s:=by
 have hn:(comes w a es ep)[es.size]?=none:=by
  have:=(o_ w a es ep).length_eq;simp only[Bj] at this;rw[CC (by lia)]
 unfold pyNext;refine JA (KU (KN (name:=Str.ofString "__next__") (rG ho) qo (KD qo (rG ho) bA ?_ (aR _))));refine JA (Ab ?_);dsimp only;refine JA (wpAny_fieldsOf ho rfl ?_);dsimp only[rawInt];refine JA (JA (KJ S.get rfl S.fits (Ab ?_)));rw[if_neg (by simp)];refine JA (dH S (by simp) slot (by simpa using hs) λ Fv GJ=>?_);rw[g_,hn];dsimp only[Option.map_none];refine JA (K2 ho rfl (by simp) ?_);refine JA ?_;simp only[newExc,newTuple];refine JA (KI ?_ (by size_fits));refine JA (m:=firstArgMember _ _) (wpAny_of_eq (a:=Value.none) (by first | rfl | (simp only[firstArgMember];rfl)) (KI ?_ (by size_fits)));unfold raiseNew;refine JA (wpAny_handled ?_);rw[show A.in1.handled=none from hh];refine JA ((Ab (wpAny_throw ?_)));refine JA ((K1 (T:="StopIteration") (b:=true) ⟨_,AG _ rfl,rfl⟩ isSubtype_stop ?_));exact Ab (h _ (((Heap.SameBut.update ..).extBut.push _).push _))
def XO {I a:Addr}{slot i n ep:Nat}{Q:Af}(ho:s.heap.get? I=some (sJ a slot i n ep)) (h:Q (.ref I) s):wpAny (model prog w) A (pyIter (.ref I)) Q E s:=by
 refine wpAny_pyIter_slot (rG ho) fJ (KD fJ (rG ho) Nb ?_ (Mv _));exact Ab ⟨_,rfl,"set_iterator",_,rG ho,qo.lookup,h⟩
def wq.keep {h h':Heap}{a:Addr}{es:Array (Int×Value)}{ep:Nat}{t:SetTable}(S:wq w h a es ep t) (k:∀ o,h.get? a=some o->h'.get? a=some o):wq w h' a es ep t:=⟨k _ S.get,S.fits,S.wb,S.led,S.plain⟩
def YA (hh:A.handled=none) (I a:Addr) (Ar:a≠I) (es:Array (Int×Value)) (ep:Nat) (t:SetTable):
  Walks prog w A I [I,a] [I] es.size (λ i v=>∃ e,(comes w a es ep)[i]?=some e/\v=e.2) (λ i h=>(∃ slot,(w.params.followText "set-order"=false->slot=slotAt t i)/\h.get? I=some (sJ a slot i es.size ep))/\wq w h a es ep t) where
 sub:=λ b hb=>by simp at hb;simp[hb]
 frame:=λ _ _ _ st k=>by
  obtain⟨⟨slot,h1,h2⟩,S⟩:=st;exact⟨⟨slot,h1,k I (by simp) _ h2⟩,S.keep λ o e=>k a (by simp) o e⟩
 item:=λ i s Q E hi st hQ=>by
  obtain⟨⟨slot,h1,h2⟩,S⟩:=st;have hl:i<(comes w a es ep).size:=by
   have:=(o_ w a es ep).length_eq;simp only[Bj] at this;lia
  refine XQ h2 S h1 (AV hl) hi λ h' Fv g1 g2 g3=>?_;exact hQ _ h' s.toks ⟨_,AV hl,rfl⟩ ⟨⟨Fv,g1,g2⟩,S.keep λ o e=>(g3.2 a Ar).trans e⟩ λ b o hb e=>(g3.2 b (λ z=>hb (by simp[z]))).trans e
 done:=λ s Q E st hQ=>by
  obtain⟨⟨slot,h1,h2⟩,S⟩:=st;exact XR hh h2 S h1 λ h' g=>hQ h' s.toks λ b o hb e=>g b o (λ z=>hb (by simp[z])) e
 self:=λ _ _ _ _ st hQ=>by
  obtain⟨⟨slot,h1,h2⟩,S⟩:=st;exact XO h2 hQ
def QU:typeLookup (.type "set") "__len__"=pure (some (.builtin "set.__len__")):=F.slot_set_len.lookup
def split_len:splitId "set.__len__"=some ("set","__len__"):=by decide +kernel
def Qz {a:Addr}{es:Array (Int×Value)}{ep:Nat}{t:SetTable}{Q:Bool->Shared->Prop}(S:wq w s.heap a es ep t) (h:Q false s):wpAny (model prog w) A (setDrawn a) Q E s:=by
 unfold setDrawn setsByText;refine JA (KJ S.get rfl S.fits ?_);dsimp only;refine JA (JA (K3 (Ab (Ab ?_))));show Q (!w.params.followText "set-order"&&(!t.plain&&decide (es.size>1))) s;rw[S.plain];simpa using h
set_option maxHeartbeats 4000000 in
def Q4 {a:Addr}{es:Array (Int×Value)}{ep:Nat}{t:SetTable}{Q:Bool->Shared->Prop}(S:wq w s.heap a es ep t) (h:Q false s):wpAny (model prog w) A (Builtin.List.listLengthHint (.ref a)) Q E s:=by
 have Ty:s.TypeIs (.ref a) "set":=⟨_,S.get,rfl⟩
 unfold Builtin.List.listLengthHint;refine JA (K4 Ty QU ?_);dsimp only;rw[split_len];dsimp only;refine JA (K1 (b:=true) Ty sub_set_self ?_);rw[if_neg (by decide)];rw[if_pos (AF)];refine JA (KQ Ty ?_);exact Ab h
set_option maxHeartbeats 4000000 in
def N8 {a:Addr}{es:Array (Int×Value)}{ep:Nat}{t:SetTable}{Q:List Value->Shared->Prop}(hh:A.handled=none) (S:wq w s.heap a es ep t) (hn:es.size<=sizeLine)
  (h:∀ (h':Heap) (tk:Nat),(∀ b o,b<s.heap.objs.size->s.heap.get? b=some o->h'.get? b=some o)->s.heap.objs.size<=h'.objs.size->Q ((comes w a es ep).toList.map (·.2)) { s with heap:=h',toks:=tk }):wpAny (model prog w) A (collect (.ref a)) Q E s:=by
 have ha:a<s.heap.objs.size:=Al S.get;unfold collect;refine JA (wpAny_runValue (codeAny_builtin F.entry_proto_collect ?_));rw[Around.under_plainId F.plain_proto_collect _];show wpAny _ A.in1 (newList [] >>= λ l=>again (.builtin "list.__iadd__" ⟨[l,.ref a],[]⟩)) _ _ s;refine JA (KI (Ab ⟨plainId_quiet F.plain_list_iadd _,codeAny_builtin F.entry_list_iadd ?_⟩));rw[Around.under_plainId F.plain_list_iadd _];let L0:Obj:={ cls:=.type "list",data:=.seq ([]:Ad).toArray }
 have S1:wq w (s.heap.push L0) a es ep t:=S.keep λ o e=>Ky _ e;have T1:Shared.TypeIs { s with heap:=s.heap.push L0 } (.ref a) "set":=⟨_,S1.get,rfl⟩
 show wpAny _ A.in1 (Builtin.List.listExtendWith (.ref s.heap.objs.size) (.ref a) (.ref s.heap.objs.size)) _ _ { s with heap:=s.heap.push L0 };unfold Builtin.List.listExtendWith;refine JA (KQ T1 ?_);have Ar:s.heap.objs.size≠a:=Bw ha;have c1:Builtin.List.listSameRef (.ref s.heap.objs.size) (.ref a)=false:=by simp[Builtin.List.listSameRef,Ar]
 rw[if_neg (by rw[c1];decide)];refine JA (wpAny_pyIter_slot T1 F.slot_set_iter (KD F.slot_set_iter T1 Nc ?_ (F.args_set_iter_1 _)));refine JA (JA (Ab (Ab ?_)));refine JA (JA (JA (KJ S1.get rfl S1.fits (Ab (Ab ?_)))));refine JA (Qz S1 ?_);rw[if_neg (by decide)];refine JA (Ab ?_);refine JA (wpAny_setEpoch_of S1.get rfl S1.fits ?_);refine JA (KI (Ab ⟨_,rfl,"set_iterator",_,⟨_,AG _ rfl,rfl⟩,qo.lookup,?_⟩));let I:=(s.heap.push L0).objs.size
 let h2:=(s.heap.push L0).push (sJ a 0 0 es.size ep)
 have S2:wq w h2 a es ep t:=S1.keep λ o e=>Ky _ e;have hI:h2.get? I=some (sJ a 0 0 es.size ep):=AG _ rfl;have hL:h2.get? s.heap.objs.size=some L0:=Ky _ (AG _ rfl);have hsz:(s.heap.push L0).objs.size=s.heap.objs.size+1:=Heap.size_push _ _;show wpAny _ A.in1 _ _ _ { s with heap:=h2 };refine JA (KC (Q4 (s:={ s with heap:=h2 }) S2 ?_));rw[if_pos (AF)];refine JA (KP ?_);refine JA ?_;show wpAny _ A.in1 (updateSeq s.heap.objs.size (·.push .none) >>= λ _=>updateSeq s.heap.objs.size (·.pop)) _ _ { s with heap:=h2 };refine JA (K0 hL rfl ?_);have hL2:=KO (Obj.mapSeq (·.push Value.none)) hL rfl;refine K0 hL2 rfl ?_;have hL3:=KO (Obj.mapSeq (·.pop)) hL2 rfl;let h3:=(h2.update s.heap.objs.size (Obj.mapSeq (·.push Value.none))).update s.heap.objs.size (Obj.mapSeq (·.pop))
 have He:∀ b o,b≠s.heap.objs.size->h2.get? b=some o->h3.get? b=some o:=λ b o hb e=>(KW _ _ (Ne.symm hb)).trans ((KW _ _ (Ne.symm hb)).trans e);have haI:a≠I:=by show a≠(s.heap.push L0).objs.size;rw[hsz];exact AA (B7 ha)
 have hIn:I≠s.heap.objs.size:=by show (s.heap.push L0).objs.size≠_;rw[hsz];exact Bw (Co _)
 refine Ab ⟨plainId_quiet F.plain_extend_loop _,codeAny_extend_loopS ((YA (A:=A.in1) hh I a haI es ep t).toS) hn s.heap.objs.size ?_ _ es.size 0 { s with heap:=h3 } #[] _ rfl (AQ _) ⟨⟨0,λ _=>rfl,He I _ hIn hI⟩,S2.keep λ o e=>He a o (Ne.symm Ar) e⟩ hL3 (ItemsOf.nil _) λ s' acc c' hm I_ AO=>?_⟩
 .intro hm;rcases Aj.mp hm with q | q
  .exact hIn q.symm
  .exact Ar (AW.mp q)
 .refine JA (wpAny_load I_ (Ab ?_));obtain⟨h',g',d',JB,GB⟩:=s';obtain rfl:g'=s.gens:=hm.gens;obtain rfl:d'=s.drawn:=hm.drawn;obtain rfl:GB=s.os:=hm.os;have hcm:(comes w a es ep).size=es.size:=by
   have:=(o_ w a es ep).length_eq;simpa using this
  have e:acc.toList=(comes w a es ep).toList.map (·.2):=by
   refine List.ext_getElem? λ j=>?_;rw[AE];rcases Bc j es.size with q | q
   .have Dc:j<acc.size:=by rw[AO.1];exact q
    have hj:acc[j]?=some acc[j]:=AV Dc;obtain⟨e,e1,e2⟩:=AO.2 j _ hj;rw[Bi,Bi,hj,e1,e2];rfl
   .rw[Bi,Bi,CC (by rw[AO.1];exact q),CC (by rw[hcm];exact q)];rfl
  rw[e];refine h h' JB (λ b o hb e=>hm.heap b o (λ q=>?_) (He b o (AA hb) (Ky _ (Ky _ e)))) ?_
  .rcases Aj.mp q with q | q
   .exact AA hb q
   .have q':b=(s.heap.push L0).objs.size:=AW.mp q;rw[hsz] at q';exact AA (B7 hb) q'
  .exact A5 (Al I_)
end
end ST
namespace ST
open PySem PySem.SetTable PyProof.Rows L4
section
variable {prog:Program}{w:World}{A:Around}{E:Af}{s:Shared}
def ar {a:Addr}{es:Array (Int×Value)}{ep:Nat}{t:SetTable}(hh:A.handled=none) (S:wq w s.heap a es ep t) (hz:es.size<=sizeLine) (Q':List Value->Shared->Prop)
  (h:∀ h1 tk,(∀ b o,¬ False->s.heap.get? b=some o->h1.get? b=some o)->s.heap.objs.size<=h1.objs.size->Q' ((comes w a es ep).toList.map (·.2)) { s with heap:=h1,toks:=tk }):wpAny (model prog w) A (collect (.ref a)) Q' E s:=
 N8 hh S hz λ h1 tk k1 k2=>h h1 tk (λ b o _ q=>k1 b o (Al q) q) k2
end
end ST
namespace ST
open PySem PySem.SetTable PySem.Spec PyProof.Rows L2
def y9 (w:World) (a:Addr) (us:Ad):Heap->Prop:=λ h=>∃ es ep t,wq w h a es ep t/\es.toList.map (·.2)=us
def y9.ux {w:World}{a:Addr}{us:Ad}{h1 h2:Heap}(S:y9 w a us h1) (k:∀ o,h1.get? a=some o->h2.get? a=some o):y9 w a us h2:=by
 obtain⟨es,ep,t,S,e⟩:=S;exact⟨es,ep,t,S.keep k,e⟩
def sX.at {prog:Program}{w:World}{h:Heap}{a:Addr}{xs:List (List Int×Addr)}(S:sX prog w h a xs (tH w)):y9 w a (xs.map λ e=>Value.ref e.2) h:=by
 obtain⟨⟨es,ep,t,ho,X,h1,h2,h3⟩,_⟩:=S;exact⟨es,ep,t,⟨ho,X.fits,X.tab.wb,h1,h2⟩,by rw[X.es,Au];rfl⟩
section
variable {X:Cx}
theorem cB:∀ {ns:List Int}{us:Ad},Vals (ns.map V.int) us->∀ {prog:Program}{w:World},ItemsAre (intKind prog w) ns us
 | [],_,.nil,_,_=>.nil
 | n::ns,_,.cons r t,prog,w=>by
  obtain⟨tk,rfl⟩:=r;exact .cons (intKind_is _ _ _ _) (cB t)
def NL (hc:X.calm=true) (hu:X.A.units+64<cLine):yC X (.type "set") (λ xs H Q=>∃ p ys,∃ rows:List (List Int),xs=[.ref p]/\zJ X.K H p ys/\L4.sY X.K H ys rows/\rows.length<64/\
  ∀ (l:Addr) (us:Ad) (ps:List (V×List Int)),H l=none->Vals (ps.map (·.1)) us->(∀ q∈ps,q∈ys.zip rows)->(ps.map (·.2)).Nodup->(∀ r∈rows,r∈ps.map (·.2))->Q (.ref l) (upd H l (.ext (y9 X.w l us)))):=by
 intro EV s Y H xs us Q I r h;obtain⟨p,ys,rows,rfl,hq,hr,FT,q⟩:=h;obtain⟨u,rfl,ru⟩:=vals1 r;cases ru;obtain⟨its,rv,pl,hz⟩:=I.list hq;have hl:=rv.length;have Cw:ys.length=rows.length:=Paired.length hr;have uw:qW X.prog X.w s.heap its.toArray rows:=λ i v hv=>by
  have Hf:its[i]?=some v:=by simpa using hv
  have hi:i<its.length:=(AM.mp Hf).1;obtain⟨Ar,b,hb,Er⟩:=L4.Paired.at' hr (i:=i) (by lia) V.zm ([]:List Int);have hy:ys[i]?=some (V.ref b):=by
   rw[Aw (by lia)];have:ys.getD i V.zm=ys[i]'(by lia):=by simp[show i<ys.length by lia]
   rw[this] at hb;rw[hb]
  obtain⟨v',e1,e2⟩:=rv.get hy;rw[Hf] at e1;cases e1;cases (show v=Value.ref b from e2);obtain⟨Fw,HW,⟨o,e,Cz,n,hd⟩,_⟩:=I.tuple Er;refine⟨b,rows.getD i [],rfl,?_,o,Fw.toArray,n,e,Cz,hd,by simpa using cB HW⟩;simp[show i<rows.length by lia]
 have hh:X.A.handled=none:=I.ok.hd hc;refine NQ (A:=X.A) hh hu pl.isList uw (by rw[Az];lia) λ h' tk xs S U k=>?_;have kk:∀ b o,s.heap.get? b=some o->h'.get? b=some o:=λ b o e=>k b o (Al e) e;have BF:H s.heap.objs.size=none:=I.zr.fresh (Ah _);have Io:=S.at;have vals:Vals ((xs.map λ e=>(V.ref e.2,e.1)).map (·.1)) (xs.map λ e=>Value.ref e.2):=by
  clear S U Io
  induction xs with
  | nil=>exact .nil
  | cons e xs ih=>exact .cons rfl ih
 have snd:(xs.map λ e=>(V.ref e.2,e.1)).map (·.2)=xs.map (·.1):=by rw[Au];rfl
 refine⟨.ref s.heap.objs.size,_,I.laid (t':=tk) (o:=.ext (y9 X.w s.heap.objs.size (xs.map λ e=>Value.ref e.2))) kk (Ah _) ?_,rfl,q _ _ (xs.map λ e=>(V.ref e.2,e.1)) BF vals (λ x hx=>?_) (by rw[snd];exact S.nd) λ r HC=>?_⟩
 .obtain⟨es,ep,t,St,e⟩:=id Io;exact⟨Io,⟨_,St.get⟩,λ h1 h2 S1 k=>S1.ux k⟩
 .obtain⟨e,he,rfl⟩:=Ai.mp hx;obtain⟨j,j1,j2,j3⟩:=U.own e he;have Gp:its[j]?=some (Value.ref e.2):=by simpa using j2
  have Dc:j<ys.length:=by rw[hl];exact (AM.mp Gp).1
  obtain⟨v',e2,e3⟩:=rv.get (Aw Dc);rw[Gp] at e2;cases e2;obtain⟨Ar,b,hb,_⟩:=L4.Paired.at' hr (i:=j) (by lia) V.zm ([]:List Int);have:ys.getD j V.zm=ys[j]:=by simp[Dc]
  rw[this] at hb;rw[hb] at e3;cases (show Value.ref e.2=Value.ref b from e3);refine BA (i:=j) ?_;rw[List.getElem?_zip_eq_some];exact⟨by rw[Aw Dc,hb],j3⟩
 .rw[snd];obtain⟨j,hj⟩:=D2.mp HC;exact U.all j r (by have:=(AM.mp hj).1;rw[Az];lia) hj
theorem Paired.mk {α β:Type}{F:α->β->Prop}:∀ {l:List α}{m:List β},l.length=m.length->(∀ (i:Nat) a b,l[i]?=some a->m[i]?=some b->F a b)->Paired F l m
 | [],[],_,_=>.nil
 | a::l,b::m,h,f=>.cons (f 0 a b rfl rfl) (Paired.mk (by simpa using h) λ i x y hx hy=>f (i+1) x y (by simpa using hx) (by simpa using hy))
 | [],_::_,h,_=>by simp at h
 | _::_,[],h,_=>by simp at h
def NK (hc:X.calm=true):yC X (.builtin "sorted") (λ xs H Q=>∃ l us vs,∃ rs:List (List Int),xs=[.ref l]/\H l=some (.ext (y9 X.w l us))/\Vals vs us/\L4.sY X.K H vs rs/\rs.length<64/\L4.nr (vs.zip rs) H Q):=by
 intro EV s Y H xs us0 Q I r h;obtain⟨l,us,vs,rs,rfl,hl,hv,hr,FT,q⟩:=h;obtain⟨u,rfl,ru⟩:=vals1 r;cases ru;obtain⟨⟨es,ep,t,S,eu⟩,-,-⟩:=(show yE X.prog X.w H s.heap l (.ext (y9 X.w l us)) from I.zr l _ hl)
 have hp:((comes X.w l es ep).toList.map (·.2)).Perm us:=by rw[<- eu];exact (o_ X.w l es ep).map _
 obtain⟨qs,q1,q2⟩:=L4.Paired.perm hp (L4.VR.of hv hr);have hzl:(vs.zip rs).length<64:=by rw[List.length_zip];lia
 have DP:es.size<=sizeLine:=by
  have h1:us.length=(vs.zip rs).length:=Paired.length (L4.VR.of hv hr);have h2:=congrArg List.length eu;rw[AB,Bj] at h2;have:sizeLine=16777216:=rfl;lia
 exact L4.kZ I (λ Q' h=>ar (by exact I.ok.hd hc) S DP Q' h) q2 (by rw[q1.length_eq];exact hzl) λ p ps hf hp hs=>q p ps hf (hp.trans q1) hs
end
end ST
namespace L5
open PySem PySem.Spec L2 L3
open PyProof.Rows hiding St
noncomputable def wc:List (List Int)->List (List Int)
 | []=>[]
 | r::rs=>if r∈wc rs then wc rs else r::wc rs
theorem om {r:List Int}:∀ {rs:List (List Int)},r∈wc rs↔r∈rs
 | []=>.rfl
 | x::rs=>by
  unfold wc;split
  .rename_i h;rw[om,Aj];exact⟨.inr,λ h'=>h'.elim (λ e=>e▸om.mp h) id⟩
  .rw[Aj,Aj,om]
theorem mN:∀ rs:List (List Int),(wc rs).Nodup
 | []=>.nil
 | x::rs=>by
  unfold wc;split
  .exact mN rs
  .rename_i h;exact Be.mpr ⟨h,mN rs⟩
theorem jx:∀ rs:List (List Int),(wc rs).length<=rs.length
 | []=>Ah _
 | x::rs=>by
  unfold wc;have:=jx rs;split <;> simp only[Bg] <;> lia
def ud:xn:=λ ds S Q=>match ds with
 | [.tup _]=>False
 | [d]=>∃ rows:List (List Int),zH d S=some (rows.map wz)/\rows.length<64/\(∀ r∈rows,r≠[])/\∀ l,S l=none->Q (.ref l) (ups S l (.lst ((L4.yW (wc rows)).map wz)))
 | _=>False
noncomputable def m5:List T->Option T
 | [.lst ts]=>(ve ts).bind λ rs=>if rs.length<64/\∀ r∈rs,r≠[] then some (.lst ((L4.yW (wc rs)).map zt)) else none
 | _=>none
def Ou:vb zA m5 ud:=λ S Z ys z ds Q hz hv e hq=>by
 unfold m5 at e;split at e
 .obtain⟨d,rfl,h1⟩:=v7 hv;obtain⟨rs,e1,e2⟩:=Ak.mp e;split at e2
  .rename_i hc;cases e2;cases jc e1;obtain⟨es,h2,h3⟩:=h1.seq rfl;cases qm.mp h3;have key:∃ rows:List (List Int),zH d S=some (rows.map wz)/\rows.length<64/\(∀ r∈rows,r≠[])/\∀ l,S l=none->Q (.ref l) (ups S l (.lst ((L4.yW (wc rows)).map wz))):=
    ⟨rs,h2,hc.1,hc.2,λ l hl=>hq _ _ (.new hl _) (uz hz hl (qm.mpr rfl))⟩
   obtain⟨_,q | ⟨a,q,_⟩,_⟩:=h1.lst
   .subst q;exact key
   .subst q;exact key
  .cases e2
 .cases e
section
variable {K:Ac}{e:Expr}{p:Pos}
def ud.mo:va ud:=λ ds S Q Q' hq h=>by
 unfold ud at h ⊢;split at h
 .exact h.elim
 .obtain⟨rows,h1,h2,h3,h4⟩:=h;exact⟨rows,h1,h2,h3,λ l hl=>hq _ _ (h4 l hl)⟩
 .exact h.elim
def ud.fits {w:World}:vR K ud (λ xs H Q=>∃ p ys,∃ rows:List (List Int),xs=[.ref p]/\zJ K H p ys/\L4.sY K H ys rows/\rows.length<64/\
  ∀ (l:Addr) (us:Ad) (ps:List (V×List Int)),H l=none->Vals (ps.map (·.1)) us->(∀ q∈ps,q∈ys.zip rows)->(ps.map (·.2)).Nodup->(∀ r∈rows,r∈ps.map (·.2))->
   ∃ l' HE Jz,∃ JI:List (List Int),[V.ref l]=[.ref l']/\(upd H l (.ext (ST.y9 w l us))) l'=some (.ext (ST.y9 w l' HE))/\Vals Jz HE/\L4.sY K (upd H l (.ext (ST.y9 w l us))) Jz JI/\JI.length<64/\L4.nr (Jz.zip JI) (upd H l (.ext (ST.y9 w l us))) Q):=λ xs ds H S Q h0 h2 h=>by
 unfold ud at h;split at h
 .exact h.elim
 .rename_i d hn;obtain⟨x,hx,h1⟩:=h0.one;subst hx;obtain⟨rows,e,FT,Ar,h⟩:=h;obtain⟨a,ys,rfl,g1,g2⟩:=sA h1 h2 e (λ ts z=>hn ts z);refine⟨a,ys,rows,rfl,g1,mB g2 Ar,FT,λ l us ps hf hv sub nd all=>?_⟩;have mem:∀ r,r∈ps.map (·.2)↔r∈rows:=λ r=>⟨λ h=>by
   obtain⟨q,hq,rfl⟩:=Ai.mp h;exact (C1 (sub q hq)).2,all r⟩
  have x1:Ext H (upd H l (.ext (ST.y9 w l us))):=.new hf _;have g3:zh K H ((ps.map (·.2)).map wz) (ps.map (·.1)):=zh.qt λ q hq=>zh.n_ g2 q (sub q hq);have C5:(ps.map (·.2)).Perm (wc rows):=(D3 nd (mN rows)).mpr λ r=>by rw[mem,om]
  have Eg:(ps.map (·.1)).zip (ps.map (·.2))=ps:=by rw[List.zip_map',List.map_id''];intro a;rfl
  refine⟨l,us,ps.map (·.1),ps.map (·.2),rfl,yr,hv,mB (zh.ext x1 _ g3) λ r hr=>Ar r ((mem r).mp hr),by rw[C5.length_eq];have:=jx rows;lia,λ p qs hp hi hs=>?_⟩;rw[Eg] at hi;have heq:=L4.k_ ((hi.map (·.2)).trans C5) hs;have Aq:p≠l:=λ z=>by subst z;rw[yr] at hp;cases hp
  have JZ:H p=none:=by rw[ya Aq] at hp;exact hp
  have x2:Ext (upd H l (.ext (ST.y9 w l us))) (upd (upd H l (.ext (ST.y9 w l us))) p (.lst (qs.map (·.1)))):=.new hp _;have r1:zE K (upd H l (.ext (ST.y9 w l us))) S:=h2.new hf;refine h p (h2.none JZ) _ _ (by simp only[ze]) (x1.trans x2) (r1.ups x2 ⟨_,yr,?_⟩);rw[<- heq];exact zh.ext (x1.trans x2) _ (zh.qt λ q hq=>zh.n_ g2 q (sub q (hi.mem_iff.mp hq)))
 .exact h.elim
end
end L5
namespace ST
open PySem PySem.SetTable PyProof.Rows
theorem bf {t:SetTable}{hs:List Int}(T:Tab t hs) (h:Int):∀ (f k K:Nat),k<=K->K<k+f->(way t.mask h K).j∉t.place.toList->(∀ m<K,(way t.mask h m).j∈t.place.toList)->probe.go t (λ _=>h+1) h f (way t.mask h k)=some (.empty (way t.mask h K).j none)
 | 0,k,K,h1,h2,_,_=>by lia
 | f+1,k,K,h1,h2,h3,h4=>by
  by_cases e:k=K
  .subst e;unfold probe.go;rw[T.empty h3,kJ]
  .obtain⟨i,g,p1,_⟩:=T.at (h4 k (by lia));have ih:=bf T h f (k+1) K (by lia) (by lia) h3 h4
   conv=>lhs;unfold probe.go
   rw[T.live p1];dsimp only;rw[if_neg (by intro q;have:=eq_of_beq q;lia),iT];exact ih
def OE {t:SetTable}{hs:List Int}(T:Tab t hs) (hl:hs.length<=t.mask) (h:Int):∃ j,t.freeSlot h=some (j,false)/\gh t h j:=by
 obtain⟨K,k1,k2,k3⟩:=T.first hl h;refine⟨(way t.mask h K).j,?_,⟨k2,K,rfl,k3⟩⟩;have g:=bf T h (10*turns t.mask) 0 K (AQ _) (by unfold turns;lia) k2 k3;unfold SetTable.freeSlot;have e:t.probe (λ _=>h+1) h (t.probeStart h)=some (.empty (way t.mask h K).j none):=g;rw[e];rfl
structure rV (prog:Program) (w:World) (h:Heap) (a:Addr) (xs:List (Int×Tok)) (led:Bool):Prop where
 ex:∃ es ep t,h.get? a=some { cls:=.type "set",dict:=none,data:=.set es ep t }/\es.toList=xs.map (λ e=>((intKind prog w).hash e.1,Value.int e.1 e.2))/\Tab t (xs.map λ e=>(intKind prog w).hash e.1)/\t.led=led/\t.plain=true/\xs.length*5<t.mask*3
 nd:(xs.map (·.1)).Nodup
section
variable {prog:Program}{w:World}{A:Around}{E:Af}{s:Shared}
def fits_of {es:Array (Int×Value)}{t:SetTable}{hs:List Int}{n:Nat}(h1:es.size=n) (T:Tab t hs) (h2:hs.length=n) (h3:n<=t.mask):t.fits es.size=true:=by
 have l:=T.len;unfold SetTable.fits SetTable.fill;rw[T.sS,h1,l,h2];simp;lia
def ot {n m:Int}{t:Tok}:(intKind prog w).is n (.int m t)=true↔n=m:=by
 constructor
 .intro h;obtain⟨t',e⟩:=Value.isInt_shape (show Value.isInt n (.int m t)=true from h);cases e;rfl
 .rintro rfl;exact intKind_is _ _ _ _
def Nd {es:Array (Int×Value)}{xs:List (Int×Tok)}(h:es.toList=xs.map (λ e=>((intKind prog w).hash e.1,Value.int e.1 e.2))):ElemsOf (intKind prog w) es.toList:=λ e he=>by
 rw[h] at he;obtain⟨x,_,rfl⟩:=Ai.mp he;exact⟨⟨x.1,ot.mpr rfl,rfl⟩,rfl⟩
def Wf {es:Array (Int×Value)}{t:SetTable}{xs:List (Int×Tok)}{M wanted:Nat}(he:es.toList=xs.map (λ e=>((intKind prog w).hash e.1,Value.int e.1 e.2))) (hM:w_ M) (hw:sizeAbove wanted=M+1) (AD:xs.length*5<M*3):
  ∃ FW t',∃ Fd:List (Int×Tok),relayAll t es wanted=(FW,t',false)/\FW.toList=Fd.map (λ e=>((intKind prog w).hash e.1,Value.int e.1 e.2))/\Fd.Perm xs/\Tab t' (Fd.map λ e=>(intKind prog w).hash e.1)/\t'.mask=M/\t'.led=t.led/\t'.plain=t.plain/\FW.size=es.size:=by
 have hlen:es.size=xs.length:=by have:=congrArg List.length he;simpa using this
 have EJ:(es.map (·.1)).toList=xs.map λ e=>(intKind prog w).hash e.1:=by rw[Array.toList_map,he,Au];rfl
 have hsz:(es.map (·.1)).size=xs.length:=by rw[CD,hlen]
 obtain⟨t',order,h1,h2,h3,h4,h5,h6,h7⟩:=cx hM t.finger (t.movedTo M) t.led t.plain (es.map (·.1)) (by rw[hsz];lia);rw[hsz] at h6;have Ao:∀ k∈order.toList,k<xs.length:=λ k hk=>by simpa using h6.mem_iff.mp hk
 have hr:t.relaid (es.map (·.1)) wanted=some (t',order):=by
  unfold SetTable.relaid;rw[hw,Nat.add_sub_cancel];exact h1
 have BG:(order.filterMap (es[·]?)).toList=(order.toList.filterMap λ k=>xs[k]?).map λ e=>((intKind prog w).hash e.1,Value.int e.1 e.2):=by
  rw[Array.toList_filterMap,List.map_filterMap];congr 1;funext k;rw[<- Bi,he,AE]
 have E7:(order.toList.filterMap λ k=>xs[k]?).Perm xs:=(h6.filterMap _).trans (by rw[List.filterMap_getElem?_range_length]);have BE:(order.filterMap (es[·]?)).size=es.size:=by
  rw[<- Bj,BG,AB,E7.length_eq,hlen]
 have hT:Tab t' ((order.toList.filterMap λ k=>xs[k]?).map λ e=>(intKind prog w).hash e.1):=by
  rw[<- jn xs (λ e=>(intKind prog w).hash e.1) 0 order.toList Ao,<- EJ];exact h7
 refine⟨_,t',_,?_,BG,E7,hT,h2,h4,h5,BE⟩;have zK:coversAll order es.size=true:=by
  unfold coversAll;rw[List.isPerm_iff,hlen];exact h6
 have fit:t'.fits (order.filterMap (es[·]?)).size=true:=fits_of (n:=xs.length) (by rw[BE,hlen]) hT (by rw[AB,E7.length_eq]) (by rw[h2];lia);unfold relayAll;rw[hr];dsimp only;rw[zK,fit];rfl
def add_int {a:Addr}{xs:List (Int×Tok)}{n:Int}{tk:Tok}{led:Bool}{Q:Bool->Shared->Prop}(S:rV prog w s.heap a xs led) (hn:xs.length<70)
  (h:∀ h' Fd r,Heap.SameBut a s.heap h'->rV prog w h' a Fd led->(n∈xs.map (·.1)/\Fd=xs\/n∉xs.map (·.1)/\Fd.Perm (xs++[(n,tk)]))->Q r { s with heap:=h' }):
  wpAny (model prog w) A (setAddHashed a (.int n tk) ((intKind prog w).hash n)) Q E s:=by
 have S0:=S;obtain⟨⟨es,ep,t,ho,he,T,Bu,Aq,AD⟩,CN⟩:=S;have hlen:es.size=xs.length:=by have:=congrArg List.length he;simpa using this
 have hm7:7<=t.mask/\t.mask<=127:=by rcases T.mask with e | e | e <;> lia
 have fit:t.fits es.size=true:=fits_of (n:=xs.length) hlen T (by simp) (by lia);have hel:=Nd (prog:=prog) (w:=w) he;unfold setAddHashed setAddHashedIn;refine KC (JA (KJ ho rfl fit ?_));dsimp only;have bs:byScan (.int n tk) es=true:=by
  have h1:decide (es.size<scanBound)=true:=KG (by unfold scanBound;lia);have h2:es.all (·.2.scannable)=true:=by
   rw[Array.all_eq_true_iff_forall_mem];intro e hm;exact (hel e (by simpa using hm)).2
  unfold byScan;rw[h1,h2];rfl
 rw[if_pos bs];refine JA ?_;unfold setAddByScan;refine JA (KP (JA (wpAny_setScan_of (k:=n) (ot.mpr rfl) ho rfl fit hel ?_)));have HM:(es.toList.findIdx? (λ e=>(intKind prog w).is n e.2)).isSome=true↔n∈xs.map (·.1):=by
  rw[he,List.findIdx?_isSome,Bk];constructor
  .rintro⟨e,hm,q⟩;obtain⟨x,hx,rfl⟩:=Ai.mp hm;exact Ai.mpr ⟨x,hx,(ot.mp q).symm⟩
  .intro hm;obtain⟨x,hx,rfl⟩:=Ai.mp hm;exact⟨_,Ai.mpr ⟨x,hx,rfl⟩,ot.mpr rfl⟩
 cases hc:es.toList.findIdx? (λ e=>(intKind prog w).is n e.2) with
 | some j=>
  dsimp only;have hm:=HM.mp (by rw[hc];rfl);refine Ab ?_;dsimp only;exact Ab (h s.heap xs false ⟨rfl,λ _ _=>rfl⟩ S0 (.inl ⟨hm,rfl⟩))
 | none=>
  dsimp only;have hm:n∉xs.map (·.1):=λ q=>by have:=HM.mpr q;rw[hc] at this;cases this
  obtain⟨j,fs,F⟩:=OE T (by rw[AB];lia) ((intKind prog w).hash n);obtain⟨p1,p2,p3⟩:=T.put F;rw[AB] at p1;have Cs:(t.put j).1.plain=true:=by rw[p2];exact Aq
  have B3:(t.put j).1.mask=t.mask:=by rw[p2]
  have Ao:(t.put j).1.led=led:=by rw[p2];exact Bu
  generalize hT:(t.put j)=P at *;obtain⟨t1,p⟩:=P;dsimp only at *;let F6:=xs.take p++(n,tk)::xs.drop p
  have E7:F6.Perm (xs++[(n,tk)]):=by
   have e:xs.take p++xs.drop p=xs:=D4 p xs;have:F6.Perm ((n,tk)::(xs.take p++xs.drop p)):=List.perm_middle;rw[e] at this;exact this.trans (List.perm_append_singleton _ _).symm
  have G3:F6.length=xs.length+1:=by rw[E7.length_eq];simp
  have G_:(insertAt es p ((intKind prog w).hash n,Value.int n tk)).toList=F6.map λ e=>((intKind prog w).hash e.1,Value.int e.1 e.2):=by
   rw[toList_insertAt,he];simp[F6,Dp,CB]
  have Hg:(insertAt es p ((intKind prog w).hash n,Value.int n tk)).size=xs.length+1:=by rw[<- Bj,G_,AB,G3]
  have T1:Tab t1 (F6.map λ e=>(intKind prog w).hash e.1):=by
   have:F6.map (λ e=>(intKind prog w).hash e.1)=(xs.map λ e=>(intKind prog w).hash e.1).take p++(intKind prog w).hash n::(xs.map λ e=>(intKind prog w).hash e.1).drop p:=by simp[F6,Dp,CB]
   rw[this];exact p3
  have Ko:t1.fits (insertAt es p ((intKind prog w).hash n,Value.int n tk)).size=true:=fits_of (n:=xs.length+1) Hg T1 (by rw[AB,G3]) (by rw[B3];lia);have C_:layNew t es ((intKind prog w).hash n) (.int n tk)=(insertAt es p ((intKind prog w).hash n,Value.int n tk),t1,false,false):=by
   unfold layNew;rw[fs];dsimp only;rw[hT];dsimp only;unfold SetTable.orStandIn;rw[Ko];rfl
  have Bl:(insertAt es p ((intKind prog w).hash n,Value.int n tk)).size<=sizeLine:=by
   rw[Hg];have:sizeLine=16777216:=rfl;lia
  have Hi:(F6.map (·.1)).Nodup:=by
   refine (E7.map _).nodup_iff.mpr ?_;rw[Bo,List.nodup_append];refine⟨CN,by simp,λ x hx y hy=>?_⟩;simp at hy;subst hy;exact λ e=>hm (e▸hx)
  have Il:=mH (FW:=insertAt es p ((intKind prog w).hash n,Value.int n tk)) (t':=t1) ho;have sb:=Heap.SameBut.update s.heap a (Obj.putSet (insertAt es p ((intKind prog w).hash n,Value.int n tk)) t1);have Gu:t1.fill=xs.length+1:=by
   have l:=T1.len;rw[AB,G3] at l;unfold SetTable.fill;rw[T1.sS,l];simp
  rw[C_];dsimp only;refine JA (m:=pure ()) (Ab ?_);rw[Cs];simp only[if_true];refine JA (m:=pure true) (Ab ?_);simp only[if_true];refine JA (wpAny_storeSet_of ho rfl ?_ Bl);by_cases hf:t1.tooFull=true
  .rw[hf];simp only[CJ,Du,if_true];have F_:t.mask*3<=(xs.length+1)*5:=by
    have:=hf;unfold SetTable.tooFull at this;rw[Gu,B3] at this;simpa using this
   obtain⟨M',g1,g2,g3⟩:=fK xs.length t.mask T.mask AD F_ hn;obtain⟨es2,t2,HS,r1,r2,r3,r4,r5,r6,r7,r8⟩:=Wf (prog:=prog) (w:=w) (t:=t1) G_ g1 (wanted:=grown (insertAt es p ((intKind prog w).hash n,Value.int n tk)).size) (by rw[Hg];exact g2) (by rw[G3];exact g3);rw[r1];dsimp only;refine JA (m:=pure ()) (Ab (JA (wpAny_storeSet_of Il rfl ?_ (by rw[r8];exact Bl))));refine Ab ?_;dsimp only;refine Ab (h _ HS true (sb.trans (Heap.SameBut.update _ a _)) ⟨⟨es2,ep+1+1,t2,mH Il,r2,r4,by rw[r6];exact Ao,by rw[r7];exact Cs,by rw[r3.length_eq,G3,r5];exact g3⟩,(r3.map _).nodup_iff.mpr Hi⟩ (.inr ⟨hm,r3.trans E7⟩))
  .have GL:t1.tooFull=false:=by simpa using hf
   rw[GL];simp only[CJ,CF,AY,if_false];have F_:(xs.length+1)*5<t.mask*3:=by
    have:=GL;unfold SetTable.tooFull at this;rw[Gu,B3] at this;simpa using this
   refine Ab ?_;dsimp only;exact Ab (h _ F6 true sb ⟨⟨_,ep+1,t1,Il,G_,T1,Ao,Cs,by rw[G3,B3];exact F_⟩,Hi⟩ (.inr ⟨hm,E7⟩))
end
def Nums (its:An) (ns:List Int):Prop:=∀ (i:Nat) v,its[i]?=some v->∃ n t,v=.int n t/\ns[i]?=some n
section
variable {prog:Program}{w:World}{A:Around}{E:Af}{s:Shared}{its:An}{ns:List Int}
def Pu {led:Bool}{Sa:Addr}{wr:List Addr}(Kb:Sa∉wr) (hN:Nums its ns):Kd prog w A Value.int its ns Sa wr (λ h xs=>rV prog w h Sa xs led) (λ _=>True) where
 nd:=λ S=>S.nd
 keep:=λ k _ S=>let ⟨⟨es,ep,t,ho,r⟩,nd⟩:=S;⟨⟨es,ep,t,k _ _ Kb ho,r⟩,nd⟩
 mW:=λ _ T=>T
 add:=λ{s xs i v Q E} _ S hl hv hQ=>by
  obtain⟨m,t,rfl,hr⟩:=hN i v hv;unfold setAdd;refine KC (JA ((intKind prog w).pyHash (A:=A) (k:=m) (ot.mpr rfl) ?_));exact add_int (s:={ s with toks:=s.toks+1 }) (A:=A) S hl λ h' Fd rr sb S' hx=>hQ h' _ Fd rr m t rfl hr sb (CA _ _) S' hx
def XT {h:Heap}{a:Addr}(ho:h.get? a=some (wa w)):rV prog w h a [] (tH w):=
 ⟨⟨#[],0,_,ho,rfl,⟨.inl rfl,rfl,rfl,.nil,λ j hj=>(by cases hj),λ i g j hg=>(by cases hg)⟩,rfl,rfl,by show 0*5<7*3;lia⟩,.nil⟩
def NN {l:Addr}{Q:Af}(hh:A.handled=none) (hl:s.heap.IsList l its) (hT:Nums its ns) (hn:its.size<70)
  (h:∀ (h':Heap) (tk:Nat) xs,rV prog w h' s.heap.objs.size xs (tH w)->Up Value.int its ns its.size xs->(∀ b o,b<s.heap.objs.size->s.heap.get? b=some o->h'.get? b=some o)->Q (.ref s.heap.objs.size) { s with heap:=h',toks:=tk }):
  wpAny (model prog w) A (call (.type "set") [.ref l]) Q E s:=
 aB hh hl hn (Pu (by simp) hT) (λ h e=>XT e) (λ _ _=>trivial) h
end
end ST
namespace L4
open PySem PyProof.Rows
def N6 {prog:Program}{w:World}{A:Around}{E:Af}{s:Shared}{vs:Ad}{ns:List Int}(hI:IntsAre vs ns) (h2:2<=vs.length) (FT:vs.length<64):
  Core prog w A E vs (λ out=>∃ Gq,IntsAre out.toList Gq/\Gq.Perm ns/\Gq.Pairwise (·<=·)) s:=by
 obtain⟨v1,v2,EX,rfl⟩:∃ v1 v2 EX,vs=v1::v2::EX:=by
  match vs,h2 with
  | v1::v2::EX,_=>exact⟨v1,v2,EX,rfl⟩
 unfold Core;rw[keyKind_ints hI];refine Ab ⟨rfl,?_⟩;refine KH (wpS_sortRuns (a₀:=pairsOf (v1::v2::EX)) (st:=SortSt.mk' oneType' ((v1::v2::EX).toArray.zip (v1::v2::EX).toArray) #[] 7 none)
   (Q:=λ _ GC=>(arrOf GC).Perm (pairsOf (v1::v2::EX))/\failedOf GC=none/\SortedTo (arrOf GC) (pairsOf (v1::v2::EX)).size)
   hI.intKeys ⟨Array.Perm.refl _,rfl,rfl,rfl⟩ (by rw[pairsOf_size];simp) (by rw[pairsOf_size];exact FT) λ GC a1 a2 a3=>⟨a1,a2,a3⟩) ?_ λ _ _ e=>e
 rintro⟨⟨⟩,GC⟩ s' ⟨rfl,hp,hf,hs⟩;exact⟨rfl,hf,sorted_out hI hp hs,by rw[hp.size_eq,pairsOf_size]⟩
end L4
namespace L5
open PySem PySem.Spec L2 L3
open PyProof.Rows hiding St
structure Bq (mg:AI):Prop where
 set:mg "set"=none
 zip:mg "zip"=none
 enumerate:mg "enumerate"=none
section
variable {X:Cx}{K:Ac}{a b c e:Expr}{ta tb tc:zo}{pos:Pos}{fa fb fc:Ev->Option T}
def tR (f g:y7) (ta tb tc:zo):zo:=fun L S Q=>ta L S λ x S1=>tb L S1 λ y S2=>f x y S2 λ z S3=>match z with
 | .bl k=>if k=true then tc L S3 λ w S4=>g y w S4 Q else Q (.bl false) S3
 | _=>False
def tR.mo {f g:y7}(hf:xi f) (hg:xi g) (ha:zV ta) (hb:zV tb) (hc:zV tc):zV (tR f g ta tb tc):=fun L S Q Q' hq h=>
 ha L S _ _ (λ x S1 h=>hb L S1 _ _ (λ y S2 h=>hf x y S2 _ _ (λ z S3 h=>by
  cases z <;> first
   | exact wB (hc L S3 _ _ λ w S4 h=>hg y w S4 _ _ hq h) (hq _ _) h
   | exact h) h) h) h
def gU {f g:y7}{r r':R2}(hr:xj K f r) (HC:xj K g r') (hf:xi f) (hg:xi g) (ha:zV ta) (hb:zV tb) (hc:zV tc) {Y:St}{H:Hp}{Q:VK}(h:zC K (tR f g ta tb tc) Y H Q):kU r r' (zC K ta) (zC K tb) (zC K tc) Y H Q:=by
 obtain⟨L,S,r1,r2,h⟩:=h;refine zC.go ha r1 r2 h λ x S1 v H1 h1 q1 e1 p1=>?_;refine zC.go hb (r1.ext e1) p1 h1 λ y S2 w H2 h2 q2 e2 p2=>?_;refine hr v w x y H2 S2 _ (ze.ext e2 x q1) q2 p2 (hf x y S2 _ _ (λ d S3 z v3 H3 q3 e3 p3=>?_) h2);cases d with
 | bl k=>
  simp only[ze] at q3;refine⟨k,q3,wB (λ z=>?_) (λ z=>?_) z⟩
  .refine zC.go hc (r1.ext ((e1.trans e2).trans e3)) p3 z λ w4 S4 v4 H4 h4 q4 e4 p4=>?_;exact HC w v4 y w4 H4 S4 Q (ze.ext (e3.trans e4) y q2) q4 p4 (hg y w4 S4 _ _ (λ d S' z=>z.ext (((e1.trans e2).trans e3).trans e4)) h4)
  .exact z _ H3 (by simp only[ze]) ((e1.trans e2).trans e3) p3
 | _=>exact z.elim
@[simp] noncomputable def i8 (f g:T->T->Option T) (fa fb fc:Ev->Option T):Ev->Option T:=fun J=>(fa J).bind λ x=>(fb J).bind λ y=>(f x y).bind λ b=>match b with
 | .bl k=>if k=true then (fc J).bind λ z=>g y z else some (.bl false)
 | _=>none
def Qe {f g:T->T->Option T}{F G:y7}(hf:Good2 zA f F) (hg:Good2 zA g G) (ha:yf fa ta) (hb:yf fb tb) (hc:yf fc tc):xh (i8 f g fa fb fc) (tR F G ta tb tc):=λ S Z L J y Q hE e hq=>by
 obtain⟨x1,e1,e⟩:=Ak.mp e;obtain⟨x2,e2,e⟩:=Ak.mp e;obtain⟨b,e3,e⟩:=Ak.mp e;refine ha S Z L J x1 _ hE e1 λ d1 S1 s1 r1=>?_;refine hb S1 Z L J x2 _ (hE.grow s1) e2 λ d2 S2 s2 r2=>?_;refine hf S2 Z x1 x2 b d1 d2 _ (hE.grow (s1.trans s2)).zd (Vw.grow r1 s2) r2 e3 λ c S3 s3 r3=>?_;split at e
 .have:=r3.1;simp only[Sn] at this;subst this;split at e
  .rename_i hk;obtain⟨x4,e4,e5⟩:=Ak.mp e;dsimp only;rw[if_pos hk];refine hc S3 Z L J x4 _ (hE.grow ((s1.trans s2).trans s3)) e4 λ d4 S4 s4 r4=>?_;exact hg S4 Z x2 x4 y d2 d4 Q (hE.grow (((s1.trans s2).trans s3).trans s4)).zd (Vw.grow r2 (s3.trans s4)) r4 e5 λ c' S5 s5 r5=>hq c' S5 ((((s1.trans s2).trans s3).trans s4).trans s5) (Cl.cl (((s1.trans s2).trans s3).trans s4) r5)
  .rename_i hk;dsimp only;rw[if_neg hk];cases e;exact hq _ S3 ((s1.trans s2).trans s3) (Cl.of (λ _=>nofun) wL)
 .cases e
def Ti {op GP:CmpOp}{f g:y7}{r r':R2}(ho:zT X (compareOp op) r) (FV:zT X (compareOp GP) r') (hr:xj X.K f r) (HC:xj X.K g r') (hf:xi f) (hg:xi g) (ha:PD X a ta) (hb:PD X b tb) (hc:PD X c tc)
  (hm:lastMarks [op,GP] [b,c]=false:=by with_unfolding_all rfl):PD X (.Compare a [op,GP] [b,c] pos) (tR f g ta tb tc):=
 ⟨tR.mo hf hg ha.mo hb.mo hc.mo,PE.imp (V0 ho FV ha.pe hb.pe hc.pe hm) λ _ _ _ h=>gU hr HC hf hg ha.mo hb.mo hc.mo h⟩
def VF {op GP:CmpOp}{f g:y7}{r r':R2}(ho:zT X (compareOp op) r) (FV:zT X (compareOp GP) r') (hr:xj X.K f r) (HC:xj X.K g r') (hf:xi f) (hg:xi g) (ha:PD X a ta) (hb:PD X b tb) (hc:PD X c tc)
  (hm:lastMarks [op,GP] [b,c]=false:=by with_unfolding_all rfl):xo X (.Compare a [op,GP] [b,c] pos) (vq (tR f g ta tb tc)):=by
 refine⟨vq.mo (tR.mo hf hg ha.mo hb.mo hc.mo),PT.imp (W2 ho FV ha.pe hb.pe hc.pe hm) fun Y H Q h=>?_⟩;obtain⟨L,S,r1,r2,h⟩:=h;refine gU hr HC hf hg ha.mo hb.mo hc.mo ⟨L,S,r1,r2,tR.mo hf hg ha.mo hb.mo hc.mo L S _ _ (λ d S' z v H' a b c=>?_) h⟩;cases d with
 | bl k=>simp only[ze] at a;exact⟨k,a,z H' b c⟩
 | _=>exact z.elim
end
end L5
namespace L2
open PySem PySem.Spec PyProof.Rows
section
variable {X:Cx}
def TK:zT X (compareOp .Is) (λ x y H Q=>∃ c d,x=.bl c/\y=.bl d/\Q (.bl (c == d)) H):=by
 intro EV s Y H x y v u Q I rx ry h;obtain⟨c,d,rfl,rfl,q⟩:=h;cases rx;cases ry;exact is_bool ⟨.bl _,H,I,rfl,q⟩
end
end L2
namespace L5
open PySem PySem.Spec L2 L3
open PyProof.Rows hiding St
section
variable {X:Cx}{K:Ac}{a b c e o i v:Expr}{es:List Expr}{ta tb td ty tv:zo}{pos p pos':Pos}
def vo:y7:=λ x y S Q=>match x,y with
 | .int i,.int j=>Q (.bl (decide (i<j))) S
 | .tup ds,.tup es=>∃ ns ms:List Int,ds=ns.map D.int/\es=ms.map D.int/\Q (.bl (HT.lexLt ns ms)) S
 | _,_=>False
noncomputable def vY:T->T->Option T
 | .int i,.int j=>some (.bl (decide (i<j)))
 | .tup ts,.tup us=>(xV ts).bind λ ns=>(xV us).map λ ms=>.bl (HT.lexLt ns ms)
 | _,_=>none
def vo.mo:xi vo:=λ x y S Q Q' hq h=>by
 unfold vo at h ⊢;split at h
 .exact hq _ _ h
 .obtain⟨ns,ms,h1,h2,h3⟩:=h;exact⟨ns,ms,h1,h2,hq _ _ h3⟩
 .exact h.elim
def vo.fits:xj K vo (λ x y H Q=>vg (λ i j=>.bl (decide (i<j))) x y H Q\/jj K x y H Q):=λ x y d e H S Q h1 h2 h3 h=>by
 unfold vo at h;split at h
 .simp only[ze] at h1 h2;exact .inl ⟨_,_,h1,h2,h _ H (by simp only[ze]) (.refl H) h3⟩
 .obtain⟨ns,ms,rfl,rfl,h⟩:=h;simp only[ze] at h1 h2;obtain⟨a,xs,rfl,g1,g2⟩:=h1;obtain⟨b,ys,rfl,g3,g4⟩:=h2;rw[g2.ints] at g1;rw[g4.ints] at g3;exact .inr ⟨a,b,ns,ms,rfl,rfl,g1,g3,h _ H (by simp only[ze]) (.refl H) h3⟩
 .exact h.elim
def jR:Good2 zA vY vo:=λ S Z x y z d e Q hz hx hy ef hq=>by
 unfold vY at ef;split at ef
 .cases ef;cases hx.int;cases hy.int;exact hq _ S (.refl S) (Cl.of (λ _=>nofun) wL)
 .obtain⟨ns,e1,e2⟩:=Ak.mp ef;obtain⟨ms,e3,rfl⟩:=AJ.mp e2;cases rH e1;cases rH e3;obtain⟨ds,rfl,h2⟩:=hx.tup;obtain⟨es,rfl,h4⟩:=hy.tup;exact⟨ns,ms,vV.mp h2,vV.mp h4,hq _ S (.refl S) (Cl.of (λ _=>nofun) wL)⟩
 .cases ef
def dh {k:Nat}(hr:yd k X.A):zT X (compareOp .Lt) (λ x y H Q=>vg (λ i j=>.bl (decide (i<j))) x y H Q\/jj X.K x y H Q):=TH.or (TF (by have:=hr.units;lia))
def UG {k:Nat}(hr:yd k X.A) (ha:PD X a ta) (hb:PD X b tb):PD X (.Compare a [.Lt] [b] pos) (yc vo ta tb):=pY (dh hr) vo.fits vo.mo ha hb (tF _)
def VA {k:Nat}(hr:yd k X.A) (ha:PD X a ta) (hb:PD X b tb):xo X (.Compare a [.Lt] [b] pos) (vq (yc vo ta tb)):=qu (dh hr) vo.fits vo.mo ha hb (tF _)
def uf (neg:Bool):y7:=λ x y S Q=>match x,y with
 | .bl c,.bl d=>Q (.bl (cond neg (c != d) (c == d))) S
 | x,.zm=>Q (.bl (cond neg (!qC x) (qC x))) S
 | _,_=>False
noncomputable def ou (neg:Bool):T->T->Option T
 | .bl c,.bl d=>some (.bl (cond neg (c != d) (c == d)))
 | x,.zm=>some (.bl (cond neg (!isNone x) (isNone x)))
 | _,_=>none
def uf.mo {neg:Bool}:xi (uf neg):=λ x y S Q Q' hq h=>by
 unfold uf at h ⊢;split at h
 .exact hq _ _ h
 .exact hq _ _ h
 .exact h.elim
def uf.fits:xj K (uf false) (λ x y H Q=>(∃ c d,x=.bl c/\y=.bl d/\Q (.bl (c == d)) H)\/(y=.zm/\Q (.bl (decide (x=.zm))) H)):=λ x y d e H S Q h1 h2 h3 h=>by
 unfold uf at h;split at h
 .simp only[ze] at h1 h2;exact .inl ⟨_,_,h1,h2,h _ H (by simp only[ze,cond]) (.refl H) h3⟩
 .simp only[ze] at h2;refine .inr ⟨h2,?_⟩;rw[PJ h1];exact h _ H (by simp only[ze,cond]) (.refl H) h3
 .exact h.elim
def PK {S:SS}{Z:Addr->Prop}{x:T}{d:D}(hx:Vw S Z x d):qC d=isNone x:=by
 cases x with
 | zm=>cases hx.zm;rfl
 | bl _=>cases hx.bl;rfl
 | int _=>cases hx.int;rfl
 | str _=>cases hx.str;rfl
 | tup _=>obtain⟨ds,rfl,_⟩:=hx.tup;rfl
 | lst _=>obtain⟨ds,rfl | ⟨a,rfl,h1⟩,h2⟩:=hx.lst <;> rfl
 | yR=>obtain⟨a,Aa,⟨rfl,_⟩,h1⟩:=hx.yR;rfl
 | err _ _ _=>obtain⟨x,rfl,_⟩:=hx.err;rfl
def O2 {neg:Bool}:Good2 zA (ou neg) (uf neg):=λ S Z x y z d e Q hz hx hy ef hq=>by
 unfold ou at ef;split at ef
 .cases ef;cases hx.bl;cases hy.bl;exact hq _ S (.refl S) (Cl.of (λ _=>nofun) wL)
 .cases ef;cases hy.zm;have key:Q (.bl (cond neg (!qC d) (qC d))) S:=by
   rw[PK hx];exact hq _ S (.refl S) (Cl.of (λ _=>nofun) wL)
  unfold uf;cases d <;> exact key
 .cases ef
def VC (ha:PD X a ta) (hb:PD X b tb):xo X (.Compare a [.Is] [b] pos) (vq (yc (uf false) ta tb)):=qu (TK.or TJ) uf.fits uf.mo ha hb (tF _)
def b_ (td ty tv:zo):y4:=λ E L S=>tv L S λ v S1=>td L S1 λ x S2=>ty L S2 λ y S3=>∃ p ds k j,x=.ref p/\y=.int k/\S3 p=some (.lst ds)/\wA ds.length k=some j/\E.nx L (ups S3 p (.lst (ds.set j v)))
theorem zh.set {H:Hp}{d:D}{x:V}(h:ze K H d x):∀ {ds:List D}{xs:List V}(j:Nat),zh K H ds xs->zh K H (ds.set j d) (xs.set j x)
 | [],xs,j,r=>by simp only[zh] at r;subst r;exact .nil
 | c::ds,xs,0,r=>by
  simp only[zh] at r;obtain⟨y,ys,rfl,_,r2⟩:=r;exact .cons h r2
 | c::ds,xs,j+1,r=>by
  simp only[zh] at r;obtain⟨y,ys,rfl,r1,r2⟩:=r;exact .cons r1 (zh.set h j r2)
def VQ (ho:PD X o td) (hi:PD X i ty) (hv:PD X v tv) (hs:swapsWithSole [.Subscript o i pos'] v pos.line X.env=pure false) (hw:swappedStores [.Subscript o i pos'] v X.env=pure none)
  (h1:(assignEach [.Subscript o i pos'] X.env).map (·.2)=[assign (.Subscript o i pos') X.env])
  (ha:∀ v,assign (.Subscript o i pos') X.env v=(do
   let ov <- holding [v] (eval o X.env)
   let iv <- holding [v,ov] (eval i X.env)
   standAt pos'
   holding [v,ov,iv] (setItem ov iv v)
   release [v,ov,iv] [])):xQ X (.Assign [.Subscript o i pos'] v pos) (b_ td ty tv):=by
 refine⟨λ E E' L S hE z=>hv.mo L S _ _ (λ w S1 z=>ho.mo L S1 _ _ (λ x S2 z=>hi.mo L S2 _ _ (λ y S3 ⟨p,ds,k,j,a,b,c,d,h⟩=>⟨p,ds,k,j,a,b,c,d,hE.nx _ _ h⟩) z) z) z,PS.imp (eQ hv.pe (WZ ho.pe hi.pe set_list ha) hs hw h1) λ D Y H hu=>?_⟩;obtain⟨L,S,r1,r2,z⟩:=hu;refine zC.go hv.mo r1 r2 z λ w S1 w1 H1 h1 q1 e1 p1=>?_;refine zC.go ho.mo (r1.ext e1) p1 h1 λ x S2 w2 H2 h2 q2 e2 p2=>?_;refine zC.go hi.mo ((r1.ext e1).ext e2) p2 h2 λ y S3 w3 H3 h3 q3 e3 p3=>?_;obtain⟨p,ds,k,j,rfl,rfl,c1,c2,h⟩:=h3;simp only[ze] at q2 q3;subst q2 q3;obtain⟨xs,g1,g2⟩:=p3 _ _ c1;have e4:Ext H3 (upd H3 p (.lst (xs.set j w1))):=.lst g1 _;refine⟨p,xs,k,j,rfl,rfl,g1,by rw[<- g2.length];exact c2,?_⟩;exact h Y _ ((((r1.ext e1).ext e2).ext e3).ext e4) (((e1.trans e2).trans e3).trans e4) (p3.ups e4 ⟨_,yr,zh.ext e4 _ (zh.set (ze.ext (e2.trans e3) w q1) j g2)⟩)
@[simp] def dS (n:Nat) (f v:Ev->Option T):Sm:=fun J=>(v J).bind λ z=>(f J).bind λ y=>match J[n]?,y with
 | some (some (.own (.lst ts))),.int k=>(wA ts.length k).map λ j=>.nx (J.set n (some (.own (.lst (ts.set j z)))))
 | _,_=>none
def Si {R:Rk}(n:Nat) {f v:Ev->Option T}(hf:yf f ty) (hv:wZ v tv):ye R (dS n f v) (b_ (yb n) ty tv):=λ S0 Z0 S Z L J o E F e P=>by
 obtain⟨z,e1,e⟩:=Ak.mp e;obtain⟨x,e2,e3⟩:=Ak.mp e;split at e3
 .rename_i ts k h;obtain⟨j,hj,rfl⟩:=AJ.mp e3;refine hv S Z L J z _ F.er e1 λ dz S1 s1 r1=>?_;have F1:=F.grow s1;obtain⟨p,ob,h1,h2,h3,h4⟩:=F1.er.ow n _ h;cases ob with
  | zS _=>exact h3.elim
  | lst ds=>
   show yb n L S1 _;unfold yb;rw[h1];refine hf S1 Z L J _ _ F1.er e2 λ d S2 s2 r2=>?_;cases Vw.int r2;have h5:zg (zI S2 Z) ts ds:=zg.sx (xW s2) ts h3;exact⟨p,ds,k,j,rfl,rfl,s2 _ _ h2,by rw[h5.len];exact hj,P _ Z L ((F1.grow s2).mut (us:=.lst (ts.set j z)) (es:=.lst (ds.set j dz)) n h h1 (h5.fN j (Sn.sx (xW s2) z r1)))⟩
 .cases e3
def UW {x y:Str}{u:Value}(hm:X.mg x=some u) (r:RelV (.str y) u) (hg:Gl X x) (hd:(x == ("__debug__":Str))=false):PD X (.Name x pos) (dC (.str y)):=qv (eV hg hm r hd) λ _=>by simp only[ze]
def UY {x:Str}{n:Int}{u:Value}(hm:X.mg x=some u) (r:RelV (.int n) u) (hg:Gl X x) (hd:(x == ("__debug__":Str))=false):PD X (.Name x pos) (dC (.int n)):=qv (eV hg hm r hd) λ _=>by simp only[ze]
end
end L5
namespace ZP
open PySem PyProof.Rows
noncomputable def jK (k:Bool):String:=cond k "tuple_iterator" "list_iterator"
def SI (h:Heap) (k:Bool) (it l:Addr) (i:Nat):Prop:=∃ o,h.get? it=some o/\o.cls=.type (jK k)/\o.data=.fields #[.ref l,.int i 0]
def SQ (h:Heap) (k:Bool) (l:Addr) (xs:An):Prop:=match k with
 | true=>h.IsTuple l xs
 | false=>h.IsList l xs
def SI.on {h h':Heap}{k:Bool}{it l:Addr}{i:Nat}(x:SI h k it l i) (f:∀ o,h.get? it=some o->h'.get? it=some o):SI h' k it l i:=
 let ⟨o,ho,r⟩:=x;⟨o,f o ho,r⟩
def SQ.on {h h':Heap}{k:Bool}{l:Addr}{xs:An}(x:SQ h k l xs) (f:∀ o,h.get? l=some o->h'.get? l=some o):SQ h' k l xs:=by
 cases k with
 | true=>obtain⟨o,ho,r⟩:=(show h.IsTuple l xs from x);exact⟨o,f o ho,r⟩
 | false=>obtain⟨o,ho,r⟩:=(show h.IsList l xs from x);exact⟨o,f o ho,r⟩
def SQ.lt {h:Heap}{k:Bool}{l:Addr}{xs:An}(x:SQ h k l xs):l<h.objs.size:=by
 cases k with
 | true=>obtain⟨o,ho,_⟩:=(show h.IsTuple l xs from x);exact Al ho
 | false=>obtain⟨o,ho,_⟩:=(show h.IsList l xs from x);exact Al ho
theorem SQ.cls {h:Heap}{k:Bool}{l:Addr}{xs:An}(x:SQ h k l xs):∃ o,h.get? l=some o/\o.cls=.type (cond k "tuple" "list"):=by
 cases k with
 | true=>obtain⟨o,ho,c,_⟩:=(show h.IsTuple l xs from x);exact⟨o,ho,c⟩
 | false=>obtain⟨o,ho,c,_⟩:=(show h.IsList l xs from x);exact⟨o,ho,c⟩
def SI.lt {h:Heap}{k:Bool}{it l:Addr}{i:Nat}(x:SI h k it l i):it<h.objs.size:=let ⟨_,ho,_⟩:=x;Al ho
section
variable {prog:Program}{w:World}{A:Around}{E:Af}{s:Shared}
def made {k:Bool}{l:Addr}{xs:An}{Q:Af}(hl:SQ s.heap k l xs)
  (hQ:Q (.ref s.heap.objs.size) { s with heap:=s.heap.push { cls:=.type (jK k),data:=.fields #[.ref l,.int 0 0] } }):wpAny (model prog w) A (pyIter (.ref l)) Q E s:=by
 cases k with
 | true=>exact wpAny_pyIter_tuple hl hQ
 | false=>exact wpAny_pyIter_list hl hQ
def Nj {it l:Addr}{i:Nat}{xs:An}{x:Value}{Q:Af}(hit:s.heap.IsTupleIter it l i) (hl:s.heap.IsTuple l xs) (hx:xs[i]?=some x)
  (hQ:∀ h',h'.IsTupleIter it l (i+1)->Heap.SameBut it s.heap h'->Q x { s with heap:=h' }):wpAny (model prog w) A (Builtin.SmallTypes.nextOf (.ref it)) Q E s:=by
 have ht:=hit.typeIs;obtain⟨oi,e1,e2,e3⟩:=id hit;obtain⟨ol,g1,_,n,g2⟩:=hl;refine JA (KN (name:=Str.ofString "__next__") ht F.slot_tuple_iterator_next (KD F.slot_tuple_iterator_next ht F.entry_tuple_iterator_next ?_ (F.args_tuple_iterator_next_1 _)));refine JA (m:=field (.ref it) 0) (Kz e1 e3 (x:=.ref l) rfl ?_);dsimp only;rw[if_neg (show ¬ ((Value.ref l == Value.none)=true) from BM)];refine JA (m:=field (.ref it) 1) (Kz e1 e3 (x:=.int i 0) rfl ?_);dsimp only;refine JA (m:=seqItems? (.ref l)) (KL g1 g2 ?_);simp only[B6,hx];have there:=KO (Obj.mapFields λ y=>y.setIfInBounds 1 (rawInt ((i:Int)+1))) e1 (Obj.isFreed_of_fields (Obj.data_mapFields e3 _));refine JA (K2 e1 e3 (by simp) (Ab ⟨x,rfl,Ab (hQ _ ⟨_,there,(Obj.cls_mapFields ..).trans e2,?_⟩ (Heap.SameBut.update ..))⟩));rw[Obj.data_mapFields e3];simp[rawInt]
def Na {it l:Addr}{i:Nat}{xs:An}{Q:Af}(hh:A.handled=none) (hit:s.heap.IsTupleIter it l i) (hl:s.heap.IsTuple l xs) (hx:xs[i]?=none)
  (hE:∀ h' e,Heap.ExtBut it s.heap h'->(∃ o,h'.get? e=some o/\o.cls=.type "StopIteration")->E (.ref e) { s with heap:=h' }):wpAny (model prog w) A (Builtin.SmallTypes.nextOf (.ref it)) Q E s:=by
 have ht:=hit.typeIs;obtain⟨oi,e1,e2,e3⟩:=id hit;obtain⟨ol,g1,_,n,g2⟩:=hl;refine JA (KN (name:=Str.ofString "__next__") ht F.slot_tuple_iterator_next (KD F.slot_tuple_iterator_next ht F.entry_tuple_iterator_next ?_ (F.args_tuple_iterator_next_1 _)));refine JA (m:=field (.ref it) 0) (Kz e1 e3 (x:=.ref l) rfl ?_);dsimp only;rw[if_neg (show ¬ ((Value.ref l == Value.none)=true) from BM)];refine JA (m:=field (.ref it) 1) (Kz e1 e3 (x:=.int i 0) rfl ?_);dsimp only;refine JA (m:=seqItems? (.ref l)) (KL g1 g2 ?_);simp only[B6,hx];refine JA (KP (JA (K2 e1 e3 (by simp) ?_)));refine JA (m:=newExc (.type "StopIteration") []) ?_;simp only[newExc,newTuple];refine JA (KI (JA (m:=firstArgMember _ _) (wpAny_of_eq (a:=Value.none) (by first | rfl | (simp only[firstArgMember];rfl)) (KI ?_ (by size_fits)))) (by size_fits));simp only[raiseNew];refine JA (wpAny_handled ?_);rw[show A.in1.handled=none from hh];exact JA (Ab (wpAny_throw (hE _ _ (((Heap.SameBut.update ..).extBut.push _).push _) ⟨_,AG _ rfl,rfl⟩)))
def draw {k:Bool}{it l:Addr}{i:Nat}{xs:An}{x:Value}{Q:Af}(hit:SI s.heap k it l i) (hl:SQ s.heap k l xs) (hx:xs[i]?=some x)
  (hQ:∀ h',SI h' k it l (i+1)->Heap.SameBut it s.heap h'->Q x { s with heap:=h' }):wpAny (model prog w) A (Builtin.SmallTypes.nextOf (.ref it)) Q E s:=by
 cases k with
 | true=>exact Nj hit hl hx hQ
 | false=>exact wpAny_nextOf_list_item hit hl hx hQ
def oK {k:Bool}{it l:Addr}{i:Nat}{xs:An}{Q:Af}(hh:A.handled=none) (hit:SI s.heap k it l i) (hl:SQ s.heap k l xs) (hx:xs[i]?=none)
  (hE:∀ h' e,Heap.ExtBut it s.heap h'->(∃ o,h'.get? e=some o/\o.cls=.type "StopIteration")->E (.ref e) { s with heap:=h' }):wpAny (model prog w) A (Builtin.SmallTypes.nextOf (.ref it)) Q E s:=by
 cases k with
 | true=>exact Na hh hit hl hx hE
 | false=>exact wpAny_nextOf_list_end hh hit hl hx hE
structure uY (z TI TO i1 i2 l1 l2:Addr):Prop where
 nd:[z,TI,TO,i1,i2].Nodup
 f1:l1∉[z,TI,TO,i1,i2]
 f2:l2∉[z,TI,TO,i1,i2]
structure At (h:Heap) (k1 k2:Bool) (z TI TO i1 i2 l1 l2:Addr) (f0:Value) (n:Nat):Prop where
 z:IsZip h z TI TO f0
 ti:IsPair h TI (.ref i1) (.ref i2)
 to:∃ a b,IsPair h TO a b
 s1:SI h k1 i1 l1 n
 s2:SI h k2 i2 l2 n
def At.keep {h h':Heap}{k1 k2:Bool}{z TI TO i1 i2 l1 l2:Addr}{f0:Value}{n:Nat}(S:At h k1 k2 z TI TO i1 i2 l1 l2 f0 n) (f:∀ b∈[z,TI,TO,i1,i2],∀ o,h.get? b=some o->h'.get? b=some o):At h' k1 k2 z TI TO i1 i2 l1 l2 f0 n:=
 ⟨f z (by simp) _ S.z,f TI (by simp) _ S.ti,let ⟨a,b,e⟩:=S.to;⟨a,b,f TO (by simp) _ e⟩,S.s1.on (f i1 (by simp)),S.s2.on (f i2 (by simp))⟩
def item {k1 k2:Bool}{z TI TO i1 i2 l1 l2:Addr}{n:Nat}{xs ys:An}{x y:Value}{Q:Option Value->Shared->Prop}(D:uY z TI TO i1 i2 l1 l2) (S:At s.heap k1 k2 z TI TO i1 i2 l1 l2 .none n)
  (h1:SQ s.heap k1 l1 xs) (h2:SQ s.heap k2 l2 ys) (hx:xs[n]?=some x) (hy:ys[n]?=some y)
  (hQ:∀ h',At h' k1 k2 z TI TO i1 i2 l1 l2 (rawInt s.heap.objs.size) (n+1)->IsPair h' s.heap.objs.size x y->(∀ c o,c∉[z,TI,TO,i1,i2]->s.heap.get? c=some o->h'.get? c=some o)->Q (some (.ref s.heap.objs.size)) { s with heap:=h' }):
  wpAny (model prog w) A (pyNext (.ref z)) Q E s:=by
 obtain⟨nd,f1,f2⟩:=D;simp only[Be,Aj,AR,or_false,not_or,CQ,and_true,not_false_eq_true] at nd f1 f2;obtain⟨⟨n1,n2,n3,n4⟩,⟨n5,n6,n7⟩,⟨n8,n9⟩,HJ⟩:=nd;obtain⟨a1,a2,a3,a4,a5⟩:=f1;obtain⟨b1,b2,b3,b4,b5⟩:=f2;obtain⟨hz,BV,⟨a,b,CM⟩,s1,s2⟩:=S;have hT:s.TypeIs (.ref z) "zip":=⟨_,hz,rfl⟩
 unfold pyNext;refine JA (KU (KN (name:=Str.ofString "__next__") hT F.slot_zip_next (KD F.slot_zip_next hT F.entry_zip_next ?_ (F.args_zip_next_1 _))));refine JA (m:=field (.ref z) 2) (Kz hz rfl (x:=.bool false) rfl ?_);refine JA (m:=field (.ref z) 3) (Kz hz rfl (x:=.ref TI) rfl ?_);refine JA (m:=seqItems? (.ref TI)) (KL BV rfl ?_);refine JA (m:=Builtin.SmallTypes.ownedTupleIsFree (.ref z)) (JA (m:=field (.ref z) 0) (Kz hz rfl (x:=.none) rfl (Ab ?_)));simp only[if_true];refine JA (KP (JA (Kz hz rfl (x:=.ref TO) rfl (JA (KS hz (by simp) λ g1 GZ e1=>?_)))));replace GZ:IsZip g1 z TI TO .ellipsis:=GZ;refine JA ?_;simp only[Dn,List.zipIdx_nil,Cj,CY];refine JA (JA (wpAny_onRaise (JA (m:=Builtin.SmallTypes.nextOf (.ref i1)) (draw (s1.on λ o q=>e1.extBut _ _ (Ne.symm n3) q) (h1.on λ o q=>e1.extBut _ _ a1 q) hx λ g2 Jj e2=>Ab ?_))));have to2:IsPair g2 TO a b:=e2.extBut _ _ n8 (e1.extBut _ _ (Ne.symm n2) CM);refine JA (KL to2 rfl (JA (wpAny_updateSeq_pair to2 λ g3 to3 e3=>JA (wpAny_letGo (Ab ?_)))));replace to3:IsPair g3 TO x b:=to3;have up:∀ c o,c≠z->c≠i1->c≠TO->s.heap.get? c=some o->g3.get? c=some o:=λ c o c1 c2 c3 q=>e3.extBut _ _ c3 (e2.extBut _ _ c2 (e1.extBut _ _ c1 q));refine JA (JA (wpAny_onRaise (JA (m:=Builtin.SmallTypes.nextOf (.ref i2)) (draw (s2.on λ o q=>up _ o (Ne.symm n4) (Ne.symm HJ) (Ne.symm n9) q) (h2.on λ o q=>up _ o b1 b4 b3 q) hy λ g4 JG e4=>Ab ?_))));have to4:IsPair g4 TO x b:=e4.extBut _ _ n9 to3;refine JA (KL to4 rfl (JA (wpAny_updateSeq_pair to4 λ g5 Jh e5=>JA (wpAny_letGo (Ab (Ab ?_))))));replace Jh:IsPair g5 TO x y:=Jh;refine JA (KL Jh rfl (JA (wpAny_newTuple ?_)));have sz:g5.objs.size=s.heap.objs.size:=by rw[e5.1,e4.1,e3.1,e2.1,e1.1]
 have hz5:IsZip g5 z TI TO .ellipsis:=e5.extBut _ _ n2 (e4.extBut _ _ n4 (e3.extBut _ _ n2 (e2.extBut _ _ n3 GZ)));have up5:∀ c o,c∉[z,TI,TO,i1,i2]->s.heap.get? c=some o->g5.get? c=some o:=λ c o hc q=>by
  simp only[Aj,AR,or_false,not_or] at hc;exact e5.extBut _ _ hc.2.2.1 (e4.extBut _ _ hc.2.2.2.2 (up c o hc.1 hc.2.2.2.1 hc.2.2.1 q))
 have ti5:IsPair g5 TI (.ref i1) (.ref i2):=e5.extBut _ _ n5 (e4.extBut _ _ n7 (up _ _ (Ne.symm n1) n6 n5 BV));have s15:SI g5 k1 i1 l1 (n+1):=Jj.on λ o q=>e5.extBut _ _ (Ne.symm n8) (e4.extBut _ _ HJ (e3.extBut _ _ (Ne.symm n8) q));have s25:SI g5 k2 i2 l2 (n+1):=JG.on λ o q=>e5.extBut _ _ (Ne.symm n9) q;have lz:z<g5.objs.size:=Al hz5;refine JA (m:=Builtin.SmallTypes.ownedTupleHandOut (.ref z) (.ref g5.objs.size)) ?_;have hz6:IsZip (g5.push { cls:=.type "tuple",data:=.seq #[x,y] }) z TI TO .ellipsis:=Ky _ hz5;refine JA (KS hz6 (by simp) λ g7 JR e7=>?_);replace JR:IsZip g7 z TI TO (rawInt g5.objs.size):=JR;refine KS JR (by simp) λ g8 Jo e8=>?_;replace Jo:IsZip g8 z TI TO (rawInt g5.objs.size):=Jo;have up8:∀ c o,c≠z->(g5.push { cls:=.type "tuple",data:=.seq #[x,y] }).get? c=some o->g8.get? c=some o:=λ c o c1 q=>e8.extBut _ _ c1 (e7.extBut _ _ c1 q);have T8:IsPair g8 g5.objs.size x y:=up8 _ _ (Bw lz) (AG _ rfl);have Iw:∀ c o,c≠z->g5.get? c=some o->g8.get? c=some o:=λ c o c1 q=>up8 c o c1 (Ky _ q);rw[sz] at Jo T8;refine Ab ⟨.ref g5.objs.size,rfl,Ab ?_⟩;show Q (some (.ref g5.objs.size)) _;rw[sz];refine hQ g8 ⟨Jo,Iw _ _ (Ne.symm n1) ti5,⟨x,y,Iw _ _ (Ne.symm n2) Jh⟩,s15.on λ o q=>Iw _ o (Ne.symm n3) q,s25.on λ o q=>Iw _ o (Ne.symm n4) q⟩ T8 λ c o hc q=>Iw c o (λ e=>hc (by simp[e])) (up5 c o hc q)
def stop {k1 k2:Bool}{z TI TO i1 i2 l1 l2:Addr}{n:Nat}{xs ys:An}{Q:Option Value->Shared->Prop}(hh:A.handled=none) (D:uY z TI TO i1 i2 l1 l2) (S:At s.heap k1 k2 z TI TO i1 i2 l1 l2 .none n)
  (h1:SQ s.heap k1 l1 xs) (h2:SQ s.heap k2 l2 ys) (Bn:xs[n]?=none\/ys[n]?=none)
  (hQ:∀ h',(∀ c o,c∉[z,TI,TO,i1,i2]->s.heap.get? c=some o->h'.get? c=some o)->Q none { s with heap:=h' }):
  wpAny (model prog w) A (pyNext (.ref z)) Q E s:=by
 obtain⟨nd,f1,f2⟩:=D;simp only[Be,Aj,AR,or_false,not_or,CQ,and_true,not_false_eq_true] at nd f1 f2;obtain⟨⟨n1,n2,n3,n4⟩,⟨n5,n6,n7⟩,⟨n8,n9⟩,HJ⟩:=nd;obtain⟨a1,a2,a3,a4,a5⟩:=f1;obtain⟨b1,b2,b3,b4,b5⟩:=f2;obtain⟨hz,BV,⟨a,b,CM⟩,s1,s2⟩:=S;have hT:s.TypeIs (.ref z) "zip":=⟨_,hz,rfl⟩
 have fin:∀ (h':Heap) (e:Addr),(∀ c o,c∉[z,TI,TO,i1,i2]->s.heap.get? c=some o->h'.get? c=some o)->(∃ o,h'.get? e=some o/\o.cls=.type "StopIteration")->
   wpAny (model prog w) A (do if <- isInstance (.ref e) (.type "StopIteration") then pure none else throw (.ref e)) Q E { s with heap:=h' }:=λ h' e k1 k2=>by
  obtain⟨o,ho,hc⟩:=k2;exact JA (K1 (T:="StopIteration") (b:=true) ⟨o,ho,hc⟩ isSubtype_stop (Ab (hQ _ k1)))
 unfold pyNext;refine JA (KU (KN (name:=Str.ofString "__next__") hT F.slot_zip_next (KD F.slot_zip_next hT F.entry_zip_next ?_ (F.args_zip_next_1 _))));refine JA (m:=field (.ref z) 2) (Kz hz rfl (x:=.bool false) rfl ?_);refine JA (m:=field (.ref z) 3) (Kz hz rfl (x:=.ref TI) rfl ?_);refine JA (m:=seqItems? (.ref TI)) (KL BV rfl ?_);refine JA (m:=Builtin.SmallTypes.ownedTupleIsFree (.ref z)) (JA (m:=field (.ref z) 0) (Kz hz rfl (x:=.none) rfl (Ab ?_)));simp only[if_true];refine JA (KP (JA (Kz hz rfl (x:=.ref TO) rfl (JA (KS hz (by simp) λ g1 GZ e1=>?_)))));replace GZ:IsZip g1 z TI TO .ellipsis:=GZ;refine JA ?_;simp only[Dn,List.zipIdx_nil,Cj,CY];cases hx:xs[n]? with
 | none=>
  refine JA (JA (wpAny_onRaise (JA (m:=Builtin.SmallTypes.nextOf (.ref i1)) (oK hh (s1.on λ o q=>e1.extBut _ _ (Ne.symm n3) q) (h1.on λ o q=>e1.extBut _ _ a1 q) hx λ g2 ex e2 he=>?_))));have hz2:IsZip g2 z TI TO .ellipsis:=e2 _ _ n3 GZ;obtain⟨oe,q1,q2⟩:=he;have ne:ex≠z:=λ q=>by subst q;rw[hz2] at q1;cases q1;simp at q2
  refine KS hz2 (by simp) λ g3 _ e3=>fin g3 ex (λ c o hc q=>?_) ⟨oe,e3.extBut _ _ ne q1,q2⟩;simp only[Aj,AR,or_false,not_or] at hc;exact e3.extBut _ _ hc.1 (e2 _ _ hc.2.2.2.1 (e1.extBut _ _ hc.1 q))
 | some x=>
  have hy:ys[n]?=none:=Bn.resolve_left (by rw[hx];simp);refine JA (JA (wpAny_onRaise (JA (m:=Builtin.SmallTypes.nextOf (.ref i1)) (draw (s1.on λ o q=>e1.extBut _ _ (Ne.symm n3) q) (h1.on λ o q=>e1.extBut _ _ a1 q) hx λ g2 Jj e2=>Ab ?_))));have to2:IsPair g2 TO a b:=e2.extBut _ _ n8 (e1.extBut _ _ (Ne.symm n2) CM);refine JA (KL to2 rfl (JA (wpAny_updateSeq_pair to2 λ g3 to3 e3=>JA (wpAny_letGo (Ab ?_)))));have up:∀ c o,c≠z->c≠i1->c≠TO->s.heap.get? c=some o->g3.get? c=some o:=λ c o c1 c2 c3 q=>e3.extBut _ _ c3 (e2.extBut _ _ c2 (e1.extBut _ _ c1 q));refine JA (JA (wpAny_onRaise (JA (m:=Builtin.SmallTypes.nextOf (.ref i2)) (oK hh (s2.on λ o q=>up _ o (Ne.symm n4) (Ne.symm HJ) (Ne.symm n9) q) (h2.on λ o q=>up _ o b1 b4 b3 q) hy λ g4 ex e4 he=>?_))));have hz4:IsZip g4 z TI TO .ellipsis:=e4 _ _ n4 (e3.extBut _ _ n2 (e2.extBut _ _ n3 GZ));obtain⟨oe,q1,q2⟩:=he;have ne:ex≠z:=λ q=>by subst q;rw[hz4] at q1;cases q1;simp at q2
  refine KS hz4 (by simp) λ g5 _ e5=>fin g5 ex (λ c o hc q=>?_) ⟨oe,e5.extBut _ _ ne q1,q2⟩;simp only[Aj,AR,or_false,not_or] at hc;exact e5.extBut _ _ hc.1 (e4 _ _ hc.2.2.2.2 (up c o hc.1 hc.2.2.2.1 hc.2.2.1 q))
end
abbrev vm (k:Bool) (l:Addr):Obj:={ cls:=.type (jK k),data:=.fields #[.ref l,.int 0 0] }
abbrev qG (k1 k2:Bool) (h:Heap) (l1 l2:Addr):Heap:=(h.push (vm k1 l1)).push (vm k2 l2)
abbrev lb (k1 k2:Bool) (h:Heap) (l1 l2:Addr):Heap:=(qG k1 k2 h l1 l2).push { cls:=.type "tuple",data:=.seq #[.ref h.objs.size,.ref (h.push (vm k1 l1)).objs.size] }
abbrev m_ (k1 k2:Bool) (h:Heap) (l1 l2:Addr):Heap:=(lb k1 k2 h l1 l2).push { cls:=.type "tuple",data:=.seq #[.none,.none] }
abbrev qF (k1 k2:Bool) (h:Heap) (l1 l2:Addr):Heap:=(m_ k1 k2 h l1 l2).push { cls:=.type "zip",data:=.fields #[.none,.bool false,.bool false,.ref (qG k1 k2 h l1 l2).objs.size,.ref (lb k1 k2 h l1 l2).objs.size] }
def QN (k1 k2:Bool) (l1 l2:Addr) (xs ys:An):Meets (Builtin.«zip.__new__» ⟨[.type "zip",.ref l1,.ref l2],[]⟩) (λ _ R s=>SQ s.heap k1 l1 xs/\SQ s.heap k2 l2 ys/\
   R (.ok (.ret (.ref (m_ k1 k2 s.heap l1 l2).objs.size))) { s with heap:=qF k1 k2 s.heap l1 l2 }):=
 .of_wp λ prog w A R s h=>by
  obtain⟨hp,g,d,tk,os⟩:=s;obtain⟨q1,q2,h⟩:=h;have Eo:=sub_zip;have m1:SQ (Shared.heap ⟨hp,g,d,tk,os⟩) k1 l1 xs:=q1;have m2:SQ (Shared.heap ⟨hp.push (vm k1 l1),g,d,tk,os⟩) k2 l2 ys:=q2.on λ o e=>Ky _ e
  wp_walk using made m1,made m2
  exact⟨_,rfl,h⟩
section
variable {prog:Program}{w:World}{A:Around}{E:Af}{s:Shared}
def new {k1 k2:Bool}{l1 l2:Addr}{xs ys:An}{Q:Af}(h1:SQ s.heap k1 l1 xs) (h2:SQ s.heap k2 l2 ys)
  (h:∀ h' z TI TO i1 i2,(∀ b∈[z,TI,TO,i1,i2],s.heap.objs.size<=b)->uY z TI TO i1 i2 l1 l2->At h' k1 k2 z TI TO i1 i2 l1 l2 .none 0->(∀ c o,s.heap.get? c=some o->h'.get? c=some o)->Q (.ref z) { s with heap:=h' }):
  wpAny (model prog w) A (call (.type "zip") [.ref l1,.ref l2]) Q E s:=by
 refine callType_new F.called_zip (by decide) (F.typeCall_zip_2 _ _) (F.newCall_zip_2 _ _) (λ obj=>F.args_object_init_3 obj _ _) F.entry_zip_new (QN k1 k2 l1 l2 xs ys) ⟨h1,h2,?_⟩;have z1:(s.heap.push (vm k1 l1)).objs.size=s.heap.objs.size+1:=Heap.size_push ..;have z2:(qG k1 k2 s.heap l1 l2).objs.size=s.heap.objs.size+2:=by rw[Heap.size_push,z1]
 have z3:(lb k1 k2 s.heap l1 l2).objs.size=s.heap.objs.size+3:=by rw[Heap.size_push,z2]
 have z4:(m_ k1 k2 s.heap l1 l2).objs.size=s.heap.objs.size+4:=by rw[Heap.size_push,z3]
 have p1:∀ (h:Heap) (o:Obj),o.isFreed=false->(h.push o).get? h.objs.size=some o:=λ h o e=>AG _ e;have u:∀ {h:Heap}{b:Addr}{o:Obj}(o':Obj),h.get? b=some o->(h.push o').get? b=some o:=λ o' e=>Ky _ e;have g5:(qF k1 k2 s.heap l1 l2).get? (m_ k1 k2 s.heap l1 l2).objs.size=some _:=p1 _ _ rfl;have g4:(qF k1 k2 s.heap l1 l2).get? (lb k1 k2 s.heap l1 l2).objs.size=some _:=u _ (p1 _ _ rfl);have g3:(qF k1 k2 s.heap l1 l2).get? (qG k1 k2 s.heap l1 l2).objs.size=some _:=u _ (u _ (p1 _ _ rfl));have g2:(qF k1 k2 s.heap l1 l2).get? (s.heap.push (vm k1 l1)).objs.size=some (vm k2 l2):=u _ (u _ (u _ (p1 _ _ rfl)));have g1:(qF k1 k2 s.heap l1 l2).get? s.heap.objs.size=some (vm k1 l1):=u _ (u _ (u _ (u _ (p1 _ _ rfl))));have a1:=h1.lt;have a2:=h2.lt;rw[z2,z3,z4] at g5;rw[z1,z2] at g3;rw[z3] at g4;rw[z1] at g2;generalize hN:s.heap.objs.size=N at *;have lt:∀ {m:Nat},m<N->∀ j:Nat,¬ m=N+j:=λ hm j=>by lia
 have ne:∀ {i j:Nat},i≠j->¬ (N+i=N+j):=λ A3 e=>A3 (by lia);show _/\_;rw[z4];refine⟨⟨_,g5,rfl⟩,h _ (N+4) (N+2) (N+3) N (N+1) (λ b hb=>?_) ⟨?_,?_,?_⟩ ⟨g5,g3,⟨_,_,g4⟩,⟨_,g1,rfl,rfl⟩,⟨_,g2,rfl,rfl⟩⟩ λ c o e=>u _ (u _ (u _ (u _ (u _ e))))⟩
 .simp only[Aj,AR,or_false] at hb;have h0:N<=N:=Ah N;rcases hb with e | e | e | e | e <;> subst e
  .exact CA N 4
  .exact CA N 2
  .exact CA N 3
  .exact h0
  .exact CA N 1
 .have e0:∀ {i:Nat},i≠0->¬ (N+i=N):=λ hi e=>hi (by lia);have e0':∀ {i:Nat},i≠0->¬ (N=N+i):=λ hi e=>hi (by lia);simp only[Be,Aj,AR,or_false,not_or,CQ,and_true,not_false_eq_true];exact⟨⟨ne (by decide),ne (by decide),e0 (by decide),ne (by decide)⟩,⟨ne (by decide),e0 (by decide),ne (by decide)⟩,⟨e0 (by decide),ne (by decide)⟩,e0' (by decide)⟩
 .simp only[Aj,AR,or_false,not_or];exact⟨lt a1 4,lt a1 2,lt a1 3,AA a1,lt a1 1⟩
 .simp only[Aj,AR,or_false,not_or];exact⟨lt a2 4,lt a2 2,lt a2 3,AA a2,lt a2 1⟩
end
end ZP
namespace L2
open PySem PySem.Spec PyProof.Rows ZP
section
variable {X:Cx}{EV:Ag}{Y:St}{H:Hp}{s:Shared}
def Inv.mi {h':Heap}{t':Nat}{fp:List Addr}(I:Inv X EV Y H s) (k:∀ b o,b∉fp->s.heap.get? b=some o->h'.get? b=some o) (hf:∀ b∈fp,vy X EV H b):Inv X EV Y H { s with heap:=h',toks:=t' }:=by
 have II:∀ b u,H b=some u->b∉fp:=λ b u e z=>by rw[(hf b z).1] at e;cases e
 refine I.step (g':=s.gens) (d':=s.drawn) (ch:=fp) (λ b hb=>?_) (λ b o _ _ hc e _=>k b o hc e) (λ b o _ _ hc e _=>⟨o.slots,k b o hc e⟩) (λ _ _ _ _ n=>n)
  (λ b o hc e=>⟨o,k b o hc e⟩) (λ _ _ e=>e) (λ _ _ _ e=>e) (λ b ps e=>⟨#[],by rw[e];simp⟩) (λ m hm=>?_) (λ b u e=>?_) I.bare
 .obtain⟨_,q1,_,q2,q3,q4⟩:=hf b hb;exact⟨q2,q1,q3,q4⟩
 .obtain⟨o,es,ep,ho,r⟩:=hm;exact⟨o,es,ep,k _ o (λ z=>(hf _ z).2.1 rfl) ho,r⟩
 .refine (I.zr b u e).ux (λ c v hc q=>k c v ?_ q) (λ _ q=>q) λ _ _ q=>q;rcases hc with z | z
  .rw[z];exact II b u e
  .exact II c _ z
def xB (K:Ac) (H:Hp) (k:Bool) (a:Addr) (xs:List V):Prop:=match k with
 | true=>zN K H a xs
 | false=>zJ K H a xs
def xB.of (I:Inv X EV Y H s) {k:Bool}{a:Addr}{xs:List V}(h:xB X.K H k a xs):∃ its:List Value,Vals xs its/\SQ s.heap k a its.toArray:=by
 cases k with
 | true=>obtain⟨its,rv,p,_⟩:=I.tuple h;exact⟨its,rv,p⟩
 | false=>obtain⟨its,rv,p,_⟩:=I.list h;exact⟨its,rv,p.isList⟩
def xB.inj (I:Inv X EV Y H s) {k:Bool}{a:Addr}{xs ys:List V}(h:xB X.K H k a xs) (h':xB X.K H k a ys):xs=ys:=by
 cases k with
 | true=>exact I.kQ h h'
 | false=>exact I.jC h h'
def Zi (K:Ac) (k1 k2:Bool) (a1 a2:Addr):It:=
 ⟨λ i H=>∃ xs ys x y,xB K H k1 a1 xs/\xB K H k2 a2 ys/\xs[i]?=some x/\ys[i]?=some y,
   λ i H v H'=>∃ p x y,v=.ref p/\H p=none/\H'=upd H p (.tup [x,y])/\(∀ xs,xB K H k1 a1 xs->xs[i]?=some x)/\∀ ys,xB K H k2 a2 ys->ys[i]?=some y,
   λ i H=>∃ xs ys,xB K H k1 a1 xs/\xB K H k2 a2 ys/\(xs.length<=i\/ys.length<=i)⟩
def YN {P:Program}{w:World}{K:Ac}{es:List Expr}{kk} {pos:Pos}{k1 k2:Bool}{z TI TO i1 i2 a1 a2:Addr}(D:uY z TI TO i1 i2 a1 a2):
  Turn P w K (.Tuple es kk pos) (Zi K k1 k2 a1 a2) [z,TI,TO,i1,i2] z (λ i h=>At h k1 k2 z TI TO i1 i2 a1 a2 .none i) where
 mem:=by simp
 obj:=λ i h st b hb=>by
  obtain⟨q1,q2,⟨_,_,q3⟩,⟨o1,q4,_,d1⟩,⟨o2,q5,_,d2⟩⟩:=st;simp only[Aj,AR,or_false] at hb;rcases hb with e | e | e | e | e <;> subst e
  .exact⟨_,q1,λ v z=>by cases z⟩
  .exact⟨_,q2,λ v z=>by cases z⟩
  .exact⟨_,q3,λ v z=>by cases z⟩
  .exact⟨_,q4,λ v z=>by rw[d1] at z;cases z⟩
  .exact⟨_,q5,λ v z=>by rw[d2] at z;cases z⟩
 keep:=λ i h h' st k=>st.keep k
 item:=by
  intro X hP hw hK hc i EV s Y H E I hf st hg;subst hP hw hK;obtain⟨xs,ys,x,y,g1,g2,hx,hy⟩:=hg;obtain⟨IK,JH,q1⟩:=g1.of I;obtain⟨Jn,HW,q2⟩:=g2.of I;obtain⟨u1,e1,r1⟩:=JH.get hx;obtain⟨u2,e2,r2⟩:=HW.get hy;refine ZP.item D st q1 q2 (x:=u1) (y:=u2) (by simpa using e1) (by simpa using e2) λ h' S' T' up=>⟨_,rfl,?_⟩;refine wpAny_letOwnedTupleGo_zip S'.z λ h2 z2 sb=>?_;have nT:s.heap.objs.size∉[z,TI,TO,i1,i2]:=λ hb=>by
   obtain⟨o,ho,_⟩:=(show ∃ o,s.heap.get? s.heap.objs.size=some o/\True from by
    obtain⟨w1,w2,⟨_,_,w3⟩,⟨o1,w4,_⟩,⟨o2,w5,_⟩⟩:=st;simp only[Aj,AR,or_false] at hb;rcases hb with e | e | e | e | e <;> rw[e]
    .exact⟨_,w1,trivial⟩
    .exact⟨_,w2,trivial⟩
    .exact⟨_,w3,trivial⟩
    .exact⟨_,w4,trivial⟩
    .exact⟨_,w5,trivial⟩)
   exact absurd (Al ho) (Bz _)
  have nz:s.heap.objs.size≠z:=λ e=>nT (by simp[e]);have fr:H s.heap.objs.size=none:=I.zr.fresh (Ah _);have I1:Inv X EV Y (upd H s.heap.objs.size (.tup [x,y])) { s with heap:=s.heap.push { cls:=.type "tuple",data:=.seq [u1,u2].toArray },toks:=s.toks }:=
   I.laid (o:=.tup [x,y]) (λ b u q=>Ky _ q) (Ah _) ⟨⟨by show 2<=sizeLine;decide,.new _⟩,[u1,u2],.cons r1 (.cons r2 .nil),IsTup.new _ _⟩
  have GL:∀ b∈[z,TI,TO,i1,i2],upd H s.heap.objs.size (.tup [x,y]) b=none:=λ b hb=>by
   rw[ya (λ e=>nT (by rw[<- e];exact hb))];exact (hf b hb).1
  have kk:∀ b o,b∉[z,TI,TO,i1,i2]->(s.heap.push { cls:=.type "tuple",data:=.seq [u1,u2].toArray }).get? b=some o->h2.get? b=some o:=λ b o hb q=>by
   have EO:b≠z:=λ e=>hb (by simp[e]);by_cases Dj:b=s.heap.objs.size
   .subst Dj;rw[AG _ rfl] at q;cases q;exact sb.extBut _ _ nz T'
   .have q':s.heap.get? b=some o:=by rw[Heap.get?_push_ne _ _ _ Dj] at q;exact q
    exact sb.extBut _ _ EO (up b o hb q')
  have I2:=Inv.mi (h':=h2) (t':=s.toks) (fp:=[z,TI,TO,i1,i2]) I1 kk λ b hb=>⟨GL b hb,(hf b hb).2⟩;refine⟨.ref s.heap.objs.size,_,I2,rfl,⟨_,x,y,rfl,fr,rfl,λ zs hz=>by rw[hz.inj I g1];exact hx,λ zs hz=>by rw[hz.inj I g2];exact hy⟩,⟨z2,?_,?_,?_,?_⟩,GL⟩
  .have nd:=D.nd;simp only[Be,Aj,AR,or_false,not_or] at nd;exact sb.extBut _ _ (Ne.symm nd.1.1) S'.ti
  .obtain⟨a,b,e⟩:=S'.to;have nd:=D.nd;simp only[Be,Aj,AR,or_false,not_or] at nd;exact⟨a,b,sb.extBut _ _ (Ne.symm nd.1.2.1) e⟩
  .have nd:=D.nd;simp only[Be,Aj,AR,or_false,not_or] at nd;exact S'.s1.on λ o q=>sb.extBut _ _ (Ne.symm nd.1.2.2.1) q
  .have nd:=D.nd;simp only[Be,Aj,AR,or_false,not_or] at nd;exact S'.s2.on λ o q=>sb.extBut _ _ (Ne.symm nd.1.2.2.2) q
 done:=by
  intro X hP hw hK hc i EV s Y H E I hf st hg;subst hP hw hK;obtain⟨xs,ys,g1,g2,hx⟩:=hg;obtain⟨IK,JH,q1⟩:=g1.of I;obtain⟨Jn,HW,q2⟩:=g2.of I;have l1:=JH.length;have l2:=HW.length;refine ZP.stop (I.ok.hd hc) D st q1 q2 ?_ λ h' up=>⟨rfl,I.mi (t':=s.toks) up hf⟩;rcases hx with hx | hx
  .exact .inl (by simp;lia)
  .exact .inr (by simp;lia)
 self:=λ _ _ _ _ _ st h=>wpAny_pyIter_zip st.z h
def Ob (K:Ac) (ta:TA):TI:=fun Y H R=>ta Y H λ vs H1=>∃ a1 a2 k1 k2,vs=[.ref a1,.ref a2]/\(∃ xs,xB K H1 k1 a1 xs)/\(∃ ys,xB K H1 k2 a2 ys)/\R (Zi K k1 k2 a1 a2) H1
def WR {a b:Expr}{ta:TA}{p pos pos':Pos}{es:List Expr}{kk} (hg:Gl X "zip") (hm:X.mg "zip"=none) (ha:PA X [a,b] ta) (hs:starEach [a,b] X.env=[(false,eval a X.env),(false,eval b X.env)]:=by rfl) (GD:starEach [b] X.env=[(false,eval b X.env)]:=by rfl):
  PI X (.Tuple es kk pos') (.Call (.Name "zip" p) [a,b] [] pos) (Ob X.K ta):=by
 intro EV s Y H R I h;refine Call_ (tJ I hg hm boot_zip (PyProof.Rows.callWith_type1 (zv (ha pos EV s Y H _ I h) λ us s1 ⟨vs,H1,I1,r1,q1⟩=>?_) (by rw[hs,GD]) (by rw[GD];rfl)));obtain⟨a1,a2,k1,k2,rfl,⟨xs,g1⟩,⟨ys,g2⟩,q⟩:=q1;cases r1 with
 | cons r rr=>
  cases rr with
  | cons r' rr=>
   cases rr;cases r;cases r';obtain⟨IK,_,q1⟩:=g1.of I1;obtain⟨Jn,_,q2⟩:=g2.of I1;refine ZP.new q1 q2 λ h' z TI TO i1 i2 nw D S up=>wpAny_pyIter_zip S.z ?_;exact⟨z,[z,TI,TO,i1,i2],_,_,H1,rfl,I1.kept (t':=s1.toks) up,YN D,S,λ b hb=>I1.o8 (nw b hb) (I1.zr.fresh (nw b hb)),q⟩
end
end L2
namespace L5
open PySem PySem.Spec L2 L3
open PyProof.Rows hiding St
section
variable {K:Ac}{a:Expr}{p:Pos}
def c6 (t:z_):xO:=fun L S R=>t L S λ ds S1=>∃ d e xs ys,ds=[d,e]/\zH d S1=some xs/\zH e S1=some ys/\R ⟨List.zipWith (λ x y=>D.tup [x,y]) xs ys,λ S=>zH d S=some xs/\zH e S=some ys⟩ S1
noncomputable def rF:D->Bool
 | .tup _=>true
 | _=>false
def zH.k {H:Hp}{S:SS}{d:D}{v:V}{ds:List D}(r:ze K H d v) (p:zE K H S) (e:zH d S=some ds):∃ a xs,v=.ref a/\xB K H (rF d) a xs/\zh K H ds xs:=by
 by_cases q:∃ ts,d=.tup ts
 .obtain⟨ts,rfl⟩:=q;cases e;simp only[ze] at r;obtain⟨a,xs,h1,h2,h3⟩:=r;exact⟨a,xs,h1,h2,h3⟩
 .obtain⟨a,xs,h1,h2,h3⟩:=sA r p e λ ts z=>q ⟨ts,z⟩;refine⟨a,xs,h1,?_,h3⟩;have:rF d=false:=by cases d <;> first | rfl | exact absurd ⟨_,rfl⟩ q
  rw[this];exact h2
end
section
variable {X:Cx}{a b:Expr}{tA:z_}{pos p pos':Pos}{es:List Expr}{kk:Nat}
def VZ (hm:X.mg "zip"=none) (ha:yZ X [a,b] tA) (hg:Gl X "zip") (hs:starEach [a,b] X.env=[(false,eval a X.env),(false,eval b X.env)]) (GD:starEach [b] X.env=[(false,eval b X.env)]):
  vP X (.Tuple es kk pos') (.Call (.Name "zip" p) [a,b] [] pos) (c6 tA):=by
 refine⟨fun L S Q Q' hq z=>ha.mo L S _ _ (λ ds S1 ⟨d,e,xs,ys,h1,h2,h3,h4⟩=>⟨d,e,xs,ys,h1,h2,h3,hq _ _ h4⟩) z,PI.imp (WR hg hm ha.pa hs GD) fun Y H R hu=>?_⟩;obtain⟨L,S,r1,r2,z⟩:=hu;refine xT.go ha.mo r1 r2 z λ ds S1 vs H1 h1 q1 e1 p1=>?_;obtain⟨d,e,xs,ys,rfl,s1,s2,h⟩:=h1;obtain⟨v,u,rfl,d1,d2⟩:=q1.two;obtain⟨a1,us,rfl,g1,g2⟩:=zH.k d1 p1 s1;obtain⟨a2,ws,rfl,g3,g4⟩:=zH.k d2 p1 s2;refine⟨a1,a2,rF d,rF e,rfl,⟨us,g1⟩,⟨ws,g3⟩,h _ H1 e1 p1 λ i H2 S2 x1 x2 hk=>?_⟩;obtain⟨b1,Iv,q1,m1,m2⟩:=zH.k (ze.ext x1 d d1) x2 hk.1;cases q1;obtain⟨b2,ws2,q2,m3,m4⟩:=zH.k (ze.ext x1 e d2) x2 hk.2;cases q2;have l1:=m2.length;have l2:=m4.length;refine⟨λ dd hd=>?_,λ hl=>⟨Iv,ws2,m1,m3,?_⟩⟩
 .rw[List.getElem?_zipWith] at hd;split at hd
  .rename_i dx dy hx hy;cases hd;obtain⟨x,HZ,rx⟩:=m2.get hx;obtain⟨y,hy',ry⟩:=m4.get hy;refine⟨⟨Iv,ws2,x,y,m1,m3,HZ,hy'⟩,λ v H' q=>?_⟩;obtain⟨pp,x',y',rfl,hp,rfl,f1,f2⟩:=q;have ex:x'=x:=by have:=f1 _ m1;rw[HZ] at this;exact (A7 this).symm
   have ey:y'=y:=by have:=f2 _ m3;rw[hy'] at this;exact (A7 this).symm
   subst ex ey;refine⟨.new hp _,x2.new hp,?_⟩;simp only[ze];exact⟨pp,_,rfl,zN.of yr,zh.ext (.new hp _) _ (.cons rx (.cons ry .nil))⟩
  .cases hd
 .have Gn:(List.zipWith (λ x y=>D.tup [x,y]) xs ys).length<=i:=hl;rw[List.length_zipWith] at Gn;lia
@[simp] noncomputable def qf:List T->Option (List T)
 | [x,y]=>(xE x).bind λ xs=>(xE y).map λ ys=>List.zipWith (λ a b=>T.tup [a,b]) xs ys
 | _=>none
theorem fB {S:SS}:∀ {ts us:List T}{ds es:List D},zg S ts ds->zg S us es->zg S (List.zipWith (λ a b=>T.tup [a,b]) ts us) (List.zipWith (λ x y=>D.tup [x,y]) ds es)
 | [],us,ds,es,h,h'=>by simp only[zg] at h;subst h;simpa using zg.nil
 | t::ts,[],ds,es,h,h'=>by simp only[zg] at h';subst h';simpa using zg.nil
 | t::ts,u::us,ds,es,h,h'=>by
  simp only[zg] at h h';obtain⟨c,cs,rfl,h1,h2⟩:=h;obtain⟨c',cs',rfl,h3,h4⟩:=h';exact zg.cons (sy (zg.cons h1 (zg.cons h3 zg.nil))) (fB h2 h4)
def zH.sx {S S':SS}{d:D}{ds:List D}(h:zH d S=some ds) (s:Sx S S'):zH d S'=some ds:=by
 unfold zH at h ⊢;split at h
 .exact h
 .exact h
 .split at h
  .rename_i q;cases h;rw[s _ _ q]
  .cases h
 .cases h
def S9 {g:Ev->Option (List T)}(h:s_ g tA):sZ false (xt qf g) (c6 tA):=λ S Z L J ts Q hE e hq=>by
 obtain⟨ys,e1,e2⟩:=Ak.mp e;refine h S Z L J ys _ hE e1 λ ds S1 s1 r1=>?_;unfold qf at e2;split at e2
 .obtain⟨xs,e3,e4⟩:=Ak.mp e2;obtain⟨zs,e5,rfl⟩:=AJ.mp e4;obtain⟨d,d',rfl,h1,h2⟩:=kK r1;obtain⟨es,g1,g2⟩:=h1.seq e3;obtain⟨FW,g3,g4⟩:=h2.seq e5;exact⟨d,d',es,FW,rfl,g1,g3,hq _ S1 s1 (fB g2 g4) λ Ih s=>⟨zH.sx g1 s,zH.sx g3 s⟩⟩
 .cases e2
end
end L5
namespace HT
open PySem PyProof.Rows
section
variable {prog:Program}{w:World}{A:Around}{E:Af}{s:Shared}
def Ny {t sl:Addr}{items:An}{vl vu:Value}{lo hi:Option Int}{Q:Af}(ht:IsTup s.heap t items) (hs:s.heap.IsSliceOf sl vl vu .none) (pl:IsPart vl lo) (pu:IsPart vu hi)
  (hw:zy items.size 0 lo=0/\zy items.size items.size hi=items.size) (h:Q (.ref t) s):wpAny (model prog w) A (getItem (.ref t) (.ref sl)) Q E s:=by
 have hT:=ht.typeIs;obtain⟨os,e1,e2,e3⟩:=id hs;have hS:s.TypeIs (.ref sl) "slice":=⟨os,e1,e2⟩
 unfold getItem
 try with_reducible refine KC ?_
 first | refine JA (Ab ?_) | skip
 refine JA (wpAny_sequenceKey hT (by decide) (JA (KN (name:=Str.ofString "__getitem__") hT PyProof.Rows.slot_tuple_getitem (KD PyProof.Rows.slot_tuple_getitem hT entry_tuple_getitem ?_ (args_tuple_getitem _ _)))));refine JA (m:=Builtin.Tuple.tupleItemsOf (.ref t)) (tupleItemsOf_ ht (JA (KQ hS ?_)));rw[if_pos (by decide)];refine JA (fH hs pl pu ?_);have yes:(((zy items.size 0 lo:Nat):Int) == 0&&(1:Int) == 1&&(zy items.size items.size hi-zy items.size 0 lo) == items.size)=true:=by rw[hw.1,hw.2];simp
 show wpAny _ _ (if (((zy items.size 0 lo:Nat):Int) == 0&&(1:Int) == 1&&(zy items.size items.size hi-zy items.size 0 lo) == items.size)=true then _ else _) _ _ s;rw[if_pos yes];refine JA (m:=Builtin.Tuple.tupleIsExact (.ref t)) (JA (KQ hT (Ab ?_)));rw[if_pos (by decide)]
 first
  | exact JA (KP (Ab ⟨_,rfl,Ab h⟩))
  | exact JA (KP (JA (Ab (Ab ⟨_,rfl,Ab h⟩))))
end
end HT
namespace L2
open PySem PySem.Spec PyProof.Rows
section
variable {X:Cx}
def eg (K:Ac):V->Option Int->Option Int->Hp->VK->Prop:=λ x lo hi H Q=>∃ a xs,x=.ref a/\zN K H a xs/\(HT.zy xs.length 0 lo=0/\HT.zy xs.length xs.length hi=xs.length)/\Q (.ref a) H
def XI:sW X (eg X.K):=by
 intro EV s Y H x v vl vu lo hi sl Q I rx hs pl pu h;obtain⟨a,xs,rfl,hx,hw,q⟩:=h;cases rx;obtain⟨its,r,ht,hz⟩:=I.tuple hx;have hlen:its.toArray.size=xs.length:=by rw[Az];exact r.length.symm
 exact⟨"tuple",_,PyProof.Rows.slot_tuple_getitem.lookup,ht.typeIs,HT.Ny ht hs pl pu (by rw[hlen];exact hw) ⟨.ref a,H,I,rfl,q⟩⟩
end
end L2
namespace L5
open PySem PySem.Spec L2 L3
open PyProof.Rows hiding St
def vK {α:Type}(xs:List α) (lo hi:Option Int):List α:=(xs.drop (HT.zy xs.length 0 lo)).take (HT.zy xs.length xs.length hi-HT.zy xs.length 0 lo)
section
variable {X:Cx}{K:Ac}{e:Expr}{lo hi:Option Expr}{te:zo}{tl th:Option zo}{pos p2:Pos}
def ui (t:Option zo):zY->SS->(Option Int->SS->Prop)->Prop:=fun L S Q=>match t with
 | none=>Q none S
 | some t=>t L S λ d S1=>match d with
  | .int i=>Q (some i) S1
  | _=>False
def Zg (t:Option zo):Prop:=∀ u,t=some u->zV u
def ui.mo (h:Zg tl):∀ L S (Q Q':Option Int->SS->Prop),(∀ d S',Q d S'->Q' d S')->ui tl L S Q->ui tl L S Q':=fun L S Q Q' hq z=>by
 cases tl with
 | none=>exact hq _ _ z
 | some t=>exact h t rfl L S _ _ (λ d S1 z=>by cases d <;> first | exact hq _ _ z | exact z) z
noncomputable def YF (K:Ac) (t:Option zo):TO:=fun Y H Q=>∃ L S,y6 K H L Y/\zE K H S/\ui t L S λ o S1=>∀ H1,Ext H H1->zE K H1 S1->Q o H1
structure kq (X:Cx) (e:Option Expr) (t:Option zo):Prop where
 mo:Zg t
 po:PO X e (YF X.K t)
def VY:kq X none none:=⟨nofun,λ EV s Y H Q I h=>by
 obtain⟨L,S,r1,r2,z⟩:=h;exact WJ EV s Y H Q I (z H (.refl H) r2)⟩
def VX (h:PD X e te):kq X (some e) (some te):=⟨λ u q=>by cases q;exact h.mo,λ EV s Y H Q I hu=>by
 refine WI h.pe EV s Y H Q I ?_;obtain⟨L,S,r1,r2,z⟩:=hu;refine zC.go h.mo r1 r2 z λ d S1 v H1 h1 q1 e1 p1=>?_;cases d with
 | int i=>simp only[ze] at q1;exact⟨i,q1,h1 H1 e1 p1⟩
 | zm=>exact h1.elim
 | bl _=>exact h1.elim
 | str _=>exact h1.elim
 | err _ _ _=>exact h1.elim
 | tup _=>exact h1.elim
 | xy _=>exact h1.elim
 | ref _=>exact h1.elim⟩
def ue (d:D) (lo hi:Option Int) (S:SS) (Q:DK):Prop:=match d with
 | .tup ds=>Q (.tup (vK ds lo hi)) S
 | d=>∃ ds,zH d S=some ds/\∀ p,S p=none->Q (.ref p) (ups S p (.lst (vK ds lo hi)))
def ue.mo {d:D}{lo hi:Option Int}{S:SS}{Q Q':DK}(hq:∀ d S',Q d S'->Q' d S') (h:ue d lo hi S Q):ue d lo hi S Q':=by
 unfold ue at h ⊢;split at h
 .exact hq _ _ h
 .obtain⟨ds,h1,h2⟩:=h;exact⟨ds,h1,λ p hp=>hq _ _ (h2 p hp)⟩
def zh.cut {H:Hp}{ds:List D}{xs:List V}(h:zh K H ds xs) (lo hi:Option Int):zh K H (vK ds lo hi) (uN xs lo hi):=by
 have hd:∀ {ds:List D}{xs:List V}(n:Nat),zh K H ds xs->zh K H (ds.drop n) (xs.drop n):=by
  intro ds
  induction ds with
  | nil=>intro xs n h;simp only[zh] at h;subst h;simpa using zh.nil
  | cons d ds ih=>
   intro xs n h;simp only[zh] at h;obtain⟨y,ys,rfl,h1,h2⟩:=h;cases n with
   | zero=>exact .cons h1 h2
   | succ n=>exact ih n h2
 have ht:∀ {ds:List D}{xs:List V}(n:Nat),zh K H ds xs->zh K H (ds.take n) (xs.take n):=by
  intro ds
  induction ds with
  | nil=>intro xs n h;simp only[zh] at h;subst h;simpa using zh.nil
  | cons d ds ih=>
   intro xs n h;simp only[zh] at h;obtain⟨y,ys,rfl,h1,h2⟩:=h;cases n with
   | zero=>exact .nil
   | succ n=>exact .cons h1 (ih n h2)
 unfold vK uN;rw[h.length];exact ht _ (hd _ h)
def Nz {xs:List V}{lo hi:Option Int}(h:HT.zy xs.length 0 lo=0/\HT.zy xs.length xs.length hi=xs.length):uN xs lo hi=xs:=by
 unfold uN;rw[h.1,h.2];simp
abbrev Wn (K:Ac):V->Option Int->Option Int->Hp->VK->Prop:=λ x lo hi H Q=>ez K x lo hi H Q\/(ej K x lo hi H Q\/eg K x lo hi H Q)
def ue.fits {d:D}{v:V}{lo hi:Option Int}{H:Hp}{S:SS}{Q:VK}(h1:ze K H d v) (h2:zE K H S) (h:ue d lo hi S (xY K H Q)):Wn K v lo hi H Q:=by
 unfold ue at h;split at h
 .simp only[ze] at h1;obtain⟨a,xs,rfl,g1,g2⟩:=h1;by_cases hw:HT.zy xs.length 0 lo=0/\HT.zy xs.length xs.length hi=xs.length
  .refine .inr (.inr ⟨a,xs,rfl,g1,hw,h _ H ?_ (.refl H) h2⟩);simp only[ze];refine⟨a,xs,rfl,g1,?_⟩;have:=zh.cut g2 lo hi;rw[Nz hw] at this;exact this
  .refine .inr (.inl ⟨a,xs,rfl,g1,hw,λ p hp=>h _ _ ?_ (.new hp _) (h2.new hp)⟩);simp only[ze];exact⟨p,_,rfl,zN.of yr,zh.ext (.new hp _) _ (zh.cut g2 lo hi)⟩
 .rename_i hn;obtain⟨ds,e,h⟩:=h;obtain⟨a,xs,rfl,g1,g2⟩:=sA h1 h2 e (λ ts z=>hn ts z);exact .inl ⟨a,xs,rfl,g1,λ p hp=>h p (h2.none hp) _ _ (by simp only[ze]) (.new hp _) (h2.ups (.new hp _) ⟨_,yr,zh.ext (.new hp _) _ (zh.cut g2 lo hi)⟩)⟩
def bU (te:zo) (tl th:Option zo):zo:=fun L S Q=>te L S λ x S1=>ui tl L S1 λ l S2=>ui th L S2 λ u S3=>ue x l u S3 Q
def Uy (he:PD X e te) (hl:kq X lo tl) (hh:kq X hi th):PD X (.Subscript e (.Slice lo hi none p2) pos) (bU te tl th):=by
 refine⟨fun L S Q Q' hq z=>he.mo L S _ _ (λ x S1 z=>ui.mo hl.mo L S1 _ _ (λ l S2 z=>ui.mo hh.mo L S2 _ _ (λ u S3 z=>ue.mo hq z) z) z) z,
  PE.imp (Vk (XN.or (XJ.or XI)) he.pe hl.po hh.po) fun Y H Q hu=>?_⟩
 obtain⟨L,S,r1,r2,z⟩:=hu;refine zC.go he.mo r1 r2 z λ x S1 v H1 h1 q1 e1 p1=>?_;refine⟨L,S1,r1.ext e1,p1,ui.mo hl.mo L S1 _ _ (λ l S2 h2 H2 e2 p2=>?_) h1⟩;refine⟨L,S2,(r1.ext e1).ext e2,p2,ui.mo hh.mo L S2 _ _ (λ u S3 h3 H3 e3 p3=>?_) h2⟩;exact ue.fits (ze.ext (e2.trans e3) x q1) p3 (ue.mo (λ d S' z=>z.ext ((e1.trans e2).trans e3)) h3)
@[simp] noncomputable def ni:Option (Ev->Option T)->Ev->Option (Option Int)
 | none,_=>some none
 | some f,J=>(f J).bind λ x=>match x with
  | .int i=>some (some i)
  | _=>none
def kz (f:Option (Ev->Option T)) (t:Option zo):Prop:=∀ S Z L J y Q,ER S Z L J->ni f J=some y->(∀ S',Sx S S'->Q y S')->ui t L S Q
def SW:kz none none:=λ S Z L J y Q hE e hq=>by cases e;exact hq S (.refl S)
def SV {f:Ev->Option T}(h:yf f te):kz (some f) (some te):=λ S Z L J y Q hE e hq=>by
 obtain⟨x,e1,e2⟩:=Ak.mp e;refine h S Z L J x _ hE e1 λ d S1 s1 r1=>?_;split at e2
 .cases e2;cases Vw.int r1;exact hq S1 s1
 .cases e2
@[simp] noncomputable def l9 (lo hi:Option Int):T->Option T
 | .tup ts=>some (.tup (vK ts lo hi))
 | .lst ts=>some (.lst (vK ts lo hi))
 | _=>none
@[simp] def m6 (f:Ev->Option T) (lo hi:Option (Ev->Option T)):Ev->Option T:=fun J=>(f J).bind λ x=>(ni lo J).bind λ l=>(ni hi J).bind λ u=>l9 l u x
def zg.cut {S:SS}{ts:List T}{ds:List D}(h:zg S ts ds) (lo hi:Option Int):zg S (vK ts lo hi) (vK ds lo hi):=by
 unfold vK;rw[h.len];exact zg.take' _ (zg.drop' _ h)
def Rn {f:Ev->Option T}{l u:Option (Ev->Option T)}(h:yf f te) (hl:kz l tl) (hu:kz u th):xh (m6 f l u) (bU te tl th):=λ S Z L J y Q hE e hq=>by
 obtain⟨x,e1,e⟩:=Ak.mp e;obtain⟨l',e2,e⟩:=Ak.mp e;obtain⟨u',e3,e⟩:=Ak.mp e;refine h S Z L J x _ hE e1 λ d S1 s1 r1=>?_;refine hl S1 Z L J l' _ (hE.grow s1) e2 λ S2 s2=>?_;refine hu S2 Z L J u' _ (hE.grow (s1.trans s2)) e3 λ S3 s3=>?_;have r3:Vw S3 Z x d:=Vw.grow r1 (s2.trans s3);have hz:=(hE.grow ((s1.trans s2).trans s3)).zd;unfold l9 at e;split at e
 .cases e;obtain⟨ds,rfl,h2⟩:=r3.tup;exact hq _ S3 ((s1.trans s2).trans s3) (Cl.of (λ _=>nofun) (sy (zg.cut h2 _ _)))
 .cases e;obtain⟨ds,h1,h2⟩:=r3.seq rfl;have key:∃ ds,zH d S3=some ds/\∀ p,S3 p=none->Q (.ref p) (ups S3 p (.lst (vK ds l' u'))):=⟨ds,h1,λ p hp=>hq _ _ (((s1.trans s2).trans s3).trans (.new hp _)) (Cl.cl ((s1.trans s2).trans s3) (uz hz hp (zg.cut h2 _ _)))⟩
  obtain⟨_,q | ⟨a,q,_⟩,_⟩:=r3.lst
  .subst q;exact key
  .subst q;exact key
 .cases e
end
end L5
namespace TM
open PySem PyProof.Rows
def noFill:fillsNumberSlot (.type "tuple") "mul"=pure false:=
 PySem.fillsNumberSlot_seq (id:="tuple.__mul__") (r:=some (.builtin "tuple.__rmul__")) F.slot_tuple_mul.lookup (AF) F.slot_tuple_rmul.lookup (AF)
def rep:seqRepeat? (.type "tuple")=pure (some (.builtin "tuple.__mul__")):=by
 have a:=PySem.seqSlot_of (T:="tuple") (name:="__mul__") (id:="tuple.__mul__") F.slot_tuple_mul.lookup (AF);have b:=PySem.seqSlot_of (T:="tuple") (name:="__rmul__") (id:="tuple.__rmul__") F.slot_tuple_rmul.lookup (AF);unfold seqRepeat?;rw[a,b];rfl
def declines (i:Int) (t:Tok) (l:Addr) (items:An) (n:Nat) (dd:Option Addr) (sl:Array (Option Value)):
  Meets (Builtin.«int.__rmul__» ⟨[.int i t,.ref l],[]⟩) (λ _ R s=>s.heap.get? l=some { cls:=.type "tuple",dict:=dd,data:=.seq items n,slots:=sl }/\R (.ok (.ret Value.notImplemented)) s):=
 .of_wp λ prog w A R s h=>by
  obtain⟨hp,g,d,tk,os⟩:=s;obtain⟨hl,h⟩:=h
  wp_walk
  exact⟨_,rfl,h⟩
theorem j_ {α:Type}(xs:List α):∀ (m:Nat) (acc:Array α),(List.replicate m xs.toArray).foldl (·++·) acc=acc++(List.replicate m xs).flatten.toArray
 | 0,acc=>by simp
 | m+1,acc=>by
  rw[BK,Dq,j_ xs m,BK,B_,Array.append_assoc];simp
def QD (k:Int) (t:Tok) (l:Addr) (items:An) (n:Nat) (dd:Option Addr) (sl:Array (Option Value)) (h1:¬ (decide (k < -(2 ^ 63))||decide (k≥2 ^ 63))=true) (h2:¬ (items.isEmpty||k == 1)=true) (h3:¬ (decide (k<=0)||items.isEmpty)=true)
  (h4:¬ (items.size*k>(2 ^ 63-1)/8)) (h5:¬ Builtin.Tuple.tupleTooMany (items.size*k)=true) (h6:((List.replicate k.toNat items).foldl (·++·) #[]).size<=sizeLine):
  Meets (Builtin.«tuple.__mul__» ⟨[.ref l,.int k t],[]⟩) (λ _ R s=>s.heap.get? l=some { cls:=.type "tuple",dict:=dd,data:=.seq items n,slots:=sl }/\
   R (.ok (.ret (.ref s.heap.objs.size))) { s with heap:=s.heap.push { cls:=.type "tuple",data:=.seq ((List.replicate k.toNat items).foldl (·++·) #[]) } }):=
 .of_wp λ prog w A R s h=>by
  obtain⟨hp,g,d,tk,os⟩:=s;obtain⟨hl,h⟩:=h;have e0:IsTup (Shared.heap ⟨hp,g,d,tk,os⟩) l items:=⟨_,hl,rfl,n,rfl⟩
  wp_walk
  rw[if_neg h1];refine JA (m:=Builtin.Tuple.tupleItemsOf (.ref l)) (tupleItemsOf_ e0 ?_);dsimp only;rw[if_neg h2,if_neg h3,if_neg h4,if_neg h5];exact JA (m:=Builtin.Tuple.tupleExact _) (KI (Ab ⟨_,rfl,h⟩) h6)
def QE (t:Tok) (l:Addr) (items:An) (n:Nat) (dd:Option Addr) (sl:Array (Option Value)):
  Meets (Builtin.«tuple.__mul__» ⟨[.ref l,.int 1 t],[]⟩) (λ _ R s=>s.heap.get? l=some { cls:=.type "tuple",dict:=dd,data:=.seq items n,slots:=sl }/\R (.ok (.ret (.ref l))) s):=
 .of_wp λ prog w A R s h=>by
  obtain⟨hp,g,d,tk,os⟩:=s;obtain⟨hl,h⟩:=h;have c:(items.isEmpty||(1:Int) == 1)=true:=by simp
  wp_walk
  exact⟨_,rfl,h⟩
section
variable {prog:Program}{w:World}{A:Around}{E:Af}{s:Shared}
def times {l:Addr}{its:Ad}{k:Int}{t:Tok}{Q:Af}(ht:IsTup s.heap l its.toArray) (Ar:its≠[]) (h0:1<=k) (hz:its.length*k.toNat<=sizeLine)
  (one:k=1->Q (.ref l) s) (more:k≠1->Q (.ref s.heap.objs.size) { s with heap:=s.heap.push { cls:=.type "tuple",data:=.seq (List.replicate k.toNat its).flatten.toArray } }):
  wpAny (model prog w) A (binaryOp .Mult (.ref l) (.int k t)) Q E s:=by
 have hT:=ht.typeIs;obtain⟨⟨cls,dd,data,sl⟩,ho,hc,n,hd⟩:=id ht;simp only at hc hd;subst hc hd;refine wpAny_binaryOp_repeat_ref (T:="tuple") (U:="int") (by decide) hT (λ s'=>typeIs_int s' k t) noFill F.fills_int_mul F.slot_int_rmul rep F.slot_int_index.lookup
  (call_meets F.slot_int_rmul (typeIs_int s k t) F.entry_int_rmul (F.args_int_rmul_2 _ _) (declines k t l its.toArray n dd sl) ⟨ho,rfl,hT,?_⟩)
 have hlen:0<its.length:=List.length_pos_iff.mpr Ar;have DQ:its.toArray.isEmpty=false:=by cases its with
  | nil=>exact absurd rfl Ar
  | cons a r=>rfl
 by_cases h1:k=1
 .subst h1;exact call_meets F.slot_tuple_mul hT F.entry_tuple_mul (F.args_tuple_mul_2 _ _) (QE t l its.toArray n dd sl) ⟨ho,one rfl⟩
 .have hks:k.toNat<=sizeLine:=A6 (Nat.le_mul_of_pos_left _ hlen) hz;have hl:sizeLine=16777216:=rfl;have J9:k<=16777216:=by lia
  have HP:((its.toArray.size:Nat):Int)*k=((its.length*k.toNat:Nat):Int):=by
   rw[Az,Int.natCast_mul,CI (by lia)]
  have hf:(List.replicate k.toNat its.toArray).foldl (·++·) #[]=(List.replicate k.toNat its).flatten.toArray:=by rw[j_];simp
  have Dg:(List.replicate k.toNat its).flatten.length=k.toNat*its.length:=by simp
  refine call_meets F.slot_tuple_mul hT F.entry_tuple_mul (F.args_tuple_mul_2 _ _) (QD k t l its.toArray n dd sl ?_ ?_ ?_ ?_ ?_ ?_) ⟨ho,?_⟩
  .simp only[Dv,decide_eq_true_eq,not_or];exact⟨by lia,by lia⟩
  .rw[DQ];simpa using h1
  .rw[DQ];simp;lia
  .rw[HP];lia
  .rw[HP];intro q;unfold Builtin.Tuple.tupleTooMany at q;have:=of_decide_eq_true q;lia
  .rw[hf,Az,Dg,Dt];exact hz
  .rw[hf];exact more h1
end
end TM
namespace L2
open PySem PySem.Spec PyProof.Rows
def jh (K:Ac):R2:=λ x y H Q=>∃ a k xs,x=.ref a/\y=.int k/\zN K H a xs/\xs≠[]/\1<=k/\xs.length*k.toNat<=sizeLine/\(k=1->Q (.ref a) H)/\(k≠1->∀ p,H p=none->Q (.ref p) (upd H p (.tup (List.replicate k.toNat xs).flatten)))
def T6 {X:Cx}:zT X (binaryOp .Mult) (jh X.K):=by
 intro EV s Y H x y v u Q I rx ry h;obtain⟨a,k,xs,rfl,rfl,hx,Ar,h1,hz,q1,q2⟩:=h;cases rx;obtain⟨t,rfl⟩:=ry;obtain⟨its,r,ht,_⟩:=I.tuple hx;have hl:=r.length;refine TM.times ht (λ z=>Ar (r.og.mp z)) h1 (by rw[<- hl];exact hz) (λ e=>⟨.ref a,H,I,rfl,q1 e⟩) λ e=>?_;have hlen:(List.replicate k.toNat xs).flatten.length<=sizeLine:=by
  have:(List.replicate k.toNat xs).flatten.length=k.toNat*xs.length:=by simp
  rw[this,Dt];exact hz
 exact⟨.ref _,_,I.laid (t':=s.toks) (o:=.tup (List.replicate k.toNat xs).flatten) (λ b ob q=>Ky _ q) (Ah _) ⟨⟨hlen,.new _⟩,_,r.rep k.toNat,IsTup.new _ _⟩,rfl,q2 e _ (I.zr.fresh (Ah _))⟩
end L2
namespace L5
open PySem PySem.Spec L2 L3
open PyProof.Rows hiding St
section
variable {K:Ac}{a:Expr}
def uH:y7:=λ x y S Q=>match x,y with
 | .int i,.int j=>v5 i j/\Q (.int (i*j)) S
 | .tup ds,.int k=>(ds≠[]/\1<=k/\ds.length*k.toNat<=sizeLine)/\Q (.tup (List.replicate k.toNat ds).flatten) S
 | _,_=>False
noncomputable def j4:T->T->Option T
 | .int i,.int j=>if v5 i j then some (.int (i*j)) else none
 | .tup ts,.int k=>if ts≠[]/\1<=k/\ts.length*k.toNat<=sizeLine then some (.tup (List.replicate k.toNat ts).flatten) else none
 | _,_=>none
def uH.mo:xi uH:=λ x y S Q Q' hq h=>by
 unfold uH at h ⊢;split at h
 .exact⟨h.1,hq _ _ h.2⟩
 .exact⟨h.1,hq _ _ h.2⟩
 .exact h.elim
theorem zh.rep {H:Hp}{ds:List D}{xs:List V}(h:zh K H ds xs):∀ n:Nat,zh K H (List.replicate n ds).flatten (List.replicate n xs).flatten
 | 0=>.nil
 | n+1=>by
  rw[BK,BK,B_,B_];exact h.append (zh.rep h n)
def uH.fits:xj K uH (λ x y H Q=>rI v5 (λ i j=>.int (i*j)) x y H Q\/jh K x y H Q):=λ x y d e H S Q h1 h2 h3 h=>by
 unfold uH at h;split at h
 .simp only[ze] at h1 h2;exact .inl ⟨_,_,h1,h2,h.1,h.2 _ H (by simp only[ze]) (.refl H) h3⟩
 .rename_i ds k;obtain⟨⟨c1,c2,c3⟩,h⟩:=h;have Jd:=h1;simp only[ze] at h1 h2;obtain⟨a,xs,rfl,g1,g2⟩:=h1;have hl:=g2.length;refine .inr ⟨a,k,xs,rfl,h2,g1,λ z=>c1 (by subst z;cases ds with | nil=>rfl | cons _ _=>simp at hl),c2,by rw[<- hl];exact c3,λ e=>?_,λ e p hp=>?_⟩
  .subst e;refine h _ H ?_ (.refl H) h3;have:(List.replicate (1:Int).toNat ds).flatten=ds:=by simp
   rw[this];exact Jd
  .refine h _ _ ?_ (.new hp _) (h3.new hp);simp only[ze];exact⟨p,_,rfl,zN.of yr,zh.ext (.new hp _) _ (zh.rep g2 _)⟩
 .exact h.elim
theorem zg.rep {S:SS}{ts:List T}{ds:List D}(h:zg S ts ds):∀ n:Nat,zg S (List.replicate n ts).flatten (List.replicate n ds).flatten
 | 0=>.nil
 | n+1=>by
  rw[BK,BK,B_,B_];exact h.append (zg.rep h n)
def cZ:Good2 zA j4 uH:=λ S Z x y z d e Q hz hx hy ef hq=>by
 unfold j4 at ef;split at ef
 .split at ef
  .rename_i hc;cases ef;cases hx.int;cases hy.int;exact⟨hc,hq _ S (.refl S) (Cl.of (λ _=>nofun) xD)⟩
  .cases ef
 .split at ef
  .rename_i hc;cases ef;obtain⟨ds,rfl,h2⟩:=hx.tup;cases hy.int;have hl:=h2.len;exact⟨⟨λ q=>hc.1 (by subst q;simpa using hl.symm),hc.2.1,by rw[hl];exact hc.2.2⟩,hq _ S (.refl S) (Cl.of (λ _=>nofun) (sy (zg.rep h2 _)))⟩
  .cases ef
 .cases ef
end
end L5
namespace L4
open PySem PyProof.Rows
section
variable {prog:Program}{w:World}{A:Around}{E:Af}{s:Shared}
def NA {l:Addr}{vs:Ad}{Q:List Value->Shared->Prop}(hl:IsTup s.heap l vs.toArray) (hz:vs.length<=sizeLine)
  (h:Q vs { s with heap:=(s.heap.push (seqObj "list" #[] 0)).update s.heap.objs.size (Obj.mapSeq (·++vs.toArray)) }):wpAny (model prog w) A (collect (.ref l)) Q E s:=by
 obtain⟨o,ho,hc,n,hd⟩:=id hl;have new:(s.heap.push (seqObj "list" #[] 0)).get? s.heap.objs.size=some (seqObj "list" #[] 0):=AG _ rfl;have FV:(s.heap.push (seqObj "list" #[] 0)).get? l=some o:=Ky _ ho;unfold collect;refine JA (wpAny_runValue (codeAny_builtin entry_proto_collect' (JA (m:=newList []) (wpAny_newList (Ab ⟨Code.quiet_builtin _ (AF),codeAny_builtin entry_list_iadd' ?_⟩)))));show wpAny _ _ (Builtin.List.listExtendWith (.ref s.heap.objs.size) (.ref l) (.ref s.heap.objs.size)) _ _ { s with heap:=s.heap.push (seqObj "list" #[] 0) };unfold Builtin.List.listExtendWith;refine JA (KQ (T:="tuple") ⟨o,FV,hc⟩ ?_);rw[if_pos (by rw[show (Value.type "tuple" == Value.type "tuple")=true from rfl];simp)];refine JA (listItems_at FV hd (JA (listItems_at (xs:=#[]) (n:=0) new rfl ?_)));rw[if_neg (by simp)];refine JA (listUpdate_at (xs:=#[]) (n:=0) new rfl (Ab ?_) (AQ _) (by show (#[]++vs.toArray).size<=sizeLine+1;simp only[Array.size_append,Az,CZ];lia));refine JA (m:=load s.heap.objs.size) (wpAny_load (get?_update_seq new _) ?_);show wpAny _ _ (pure ((#[]:An)++vs.toArray).toList) Q E _;have e:((#[]:An)++vs.toArray).toList=vs:=by simp
 rw[e];exact Ab h
end
section
open L2 PySem.Spec
variable {X:Cx}
def eP {s:Shared}{vs:Ad}:∀ b o,¬ False->s.heap.get? b=some o->((s.heap.push (seqObj "list" #[] 0)).update s.heap.objs.size (Obj.mapSeq (·++vs.toArray))).get? b=some o:=λ b o _ q=>by
 rw[KZ _ _ _ _ (AA (Al q))];exact Ky _ q
def NI:yC X (.builtin "sorted") (λ xs H Q=>∃ p ys,∃ rows:List (List Int),xs=[.ref p]/\(zJ X.K H p ys\/zN X.K H p ys)/\sY X.K H ys rows/\rows.length<64/\nr (ys.zip rows) H Q):=by
 intro EV s Y H xs us Q I r h;obtain⟨p,ys,rows,rfl,hq,hr,FT,q⟩:=h;obtain⟨u,rfl,ru⟩:=vals1 r;cases ru;have hl:(ys.zip rows).length<64:=by rw[List.length_zip];lia
 have sz:∀ vs:List Value,s.heap.objs.size<=((s.heap.push (seqObj "list" #[] 0)).update s.heap.objs.size (Obj.mapSeq (·++vs.toArray))).objs.size:=λ vs=>by rw[Heap.size_update,size_push'];exact DB _
 rcases hq with hq | hq
 .obtain⟨its,rv,pl,hz⟩:=I.list hq;exact kZ I (λ Q' h=>collect_list pl.isList (h _ s.toks eP (sz its)) (by rw[<- rv.length];exact hz)) (VR.of rv hr) hl q
 .obtain⟨its,rv,pl,hz⟩:=I.tuple hq;exact kZ I (λ Q' h=>NA pl (by rw[<- rv.length];exact hz) (h _ s.toks eP (sz its))) (VR.of rv hr) hl q
end
end L4
namespace L5
open PySem PySem.Spec L2 L3
open PyProof.Rows hiding St
section
variable {X:Cx}{K:Ac}{e:Expr}{es:List Expr}{tA:z_}{pos p:Pos}
def sN:xn:=λ ds S Q=>∃ d,∃ rows:List (List Int),ds=[d]/\zH d S=some (rows.map wz)/\rows.length<64/\(∀ r∈rows,r≠[])/\∀ l,S l=none->Q (.ref l) (ups S l (.lst ((L4.yW rows).map wz)))
noncomputable def wy:List T->Option T
 | [y]=>(xE y).bind λ ts=>(ve ts).bind λ rs=>if rs.length<64/\∀ r∈rs,r≠[] then some (.lst ((L4.yW rs).map zt)) else none
 | _=>none
def Ov:vb zA wy sN:=λ S Z ys z ds Q hz hv e hq=>by
 unfold wy at e;split at e
 .obtain⟨d,rfl,h1⟩:=v7 hv;obtain⟨ts,e0,e⟩:=Ak.mp e;obtain⟨rs,e1,e2⟩:=Ak.mp e;split at e2
  .rename_i hc;cases e2;cases jc e1;obtain⟨es,h2,h3⟩:=h1.seq e0;cases qm.mp h3;exact⟨d,rs,rfl,h2,hc.1,hc.2,λ l hl=>hq _ _ (.new hl _) (uz hz hl (qm.mpr rfl))⟩
  .cases e2
 .cases e
def sN.mo:va sN:=λ ds S Q Q' hq ⟨d,rows,h0,h1,h2,h3,h4⟩=>⟨d,rows,h0,h1,h2,h3,λ l hl=>hq _ _ (h4 l hl)⟩
def yC.or {f:Value}{r r':List V->Hp->VK->Prop}(h:yC X f r) (h':yC X f r'):yC X f (λ xs H Q=>r xs H Q\/r' xs H Q):=λ EV s Y H xs us Q I rv q=>
 q.elim (λ q=>h EV s Y H xs us Q I rv q) λ q=>h' EV s Y H xs us Q I rv q
def sN.fits:vR K sN (λ xs H Q=>∃ p ys,∃ rows:List (List Int),xs=[.ref p]/\(zJ K H p ys\/zN K H p ys)/\L4.sY K H ys rows/\rows.length<64/\L4.nr (ys.zip rows) H Q):=λ xs ds H S Q h0 h2 h=>by
 obtain⟨d,rows,rfl,e,FT,Ar,h⟩:=h;obtain⟨x,hx,h1⟩:=h0.one;subst hx;obtain⟨a,ys,rfl,g1,g2⟩:=zH.sq h1 h2 e;have hl:=g2.length;rw[AB] at hl;refine⟨_,ys,rows,rfl,g1,mB g2 Ar,FT,λ l ps hf hp hs=>?_⟩;have heq:=L4.k_ (rows:=rows) (by have:=hp.map (·.2);rwa [List.map_snd_zip (by lia)] at this) hs;have hx:Ext H (upd H l (.lst (ps.map (·.1)))):=.new hf _;refine h l (h2.none hf) _ _ (by simp only[ze]) hx (h2.ups hx ⟨_,yr,?_⟩);rw[<- heq];exact zh.ext hx _ (zh.qt λ q hq=>zh.n_ g2 q (hp.mem_iff.mp hq))
def Ux (hm:X.mg "sorted"=none) (ha:yZ X (e::es) tA) (hg:Gl X "sorted") (he:starEach (e::es) X.env=(false,eval e X.env)::starEach es X.env) (Aq:(backTo pos (starEach es X.env)).any (·.1)=false):PD X (.Call (.Name "sorted" p) (e::es) [] pos) (xv sN tA):=
 u6 (t9 L4.NI hg hm boot_sorted ha.pa (by decide) (by decide) he Aq) sN.mo sN.fits ha.mo
end
end L5
namespace L2
open PySem PySem.Spec PyProof.Rows
section
variable {X:Cx}
def vO (r:Addr) (j:Int):Heap->Prop:=λ h=>∃ t u v,IsRange h r 0 j 1 t u v
def NR:yC X (.type "range") (λ xs H Q=>∃ j,xs=[.int j]/\∀ r,H r=none->Q (.ref r) (upd H r (.ext (vO r j)))):=by
 intro EV s Y H xs us Q I r h;obtain⟨j,rfl,q⟩:=h;obtain⟨u,rfl,ru⟩:=vals1 r;obtain⟨t,rfl⟩:=ru;refine call_range_1 ⟨.ref s.heap.objs.size,_,I.laid (o:=.ext (vO s.heap.objs.size j)) (λ b o e=>Ky _ e) (Ah _) ?_,rfl,q _ (I.zr.fresh (Ah _))⟩;have here:vO s.heap.objs.size j (s.heap.push { cls:=.type "range",data:=.fields #[.int 0 s.toks,.int j t,.int 1 (s.toks+1)] }):=⟨_,_,_,IsRange.new ..⟩
 refine⟨here,⟨_,AG _ rfl⟩,λ h1 h2 S k=>?_⟩;obtain⟨a,b,c,e⟩:=S;exact⟨a,b,c,k _ e⟩
def NV (hc:X.calm=true):yC X (.type "list") (λ xs H Q=>∃ r j,xs=[.ref r]/\H r=some (.ext (vO r j))/\0<=j/\j<=16777216/\∀ l,H l=none->Q (.ref l) (upd H l (.lst ((List.range j.toNat).map λ(k:Nat)=>V.int (k:Int))))):=by
 intro EV s Y H xs us Q I r h;obtain⟨a,j,rfl,hr,h0,h1,q⟩:=h;obtain⟨u,rfl,ru⟩:=vals1 r;cases ru;obtain⟨⟨t,u,v,hR⟩,-,-⟩:=(show yE X.prog X.w H s.heap a (.ext (vO a j)) from I.zr a _ hr)
 have hsz:Builtin.Range.rangeSize 0 j 1=((j.toNat:Nat):Int):=by rw[rangeSize_one];split <;> lia
 refine call_list_range (n:=j.toNat) (I.ok.hd hc) hR (small_one (by decide) (by decide) (by lia) (by lia)) hsz (by lia) λ h' tk acc c k e hi=>?_;refine⟨.ref s.heap.objs.size,_,I.laid (o:=.lst ((List.range j.toNat).map λ(k:Nat)=>V.int (k:Int))) k (Ah _) ⟨?_,acc.toList,c,?_,by simpa using e⟩,rfl,q _ (I.zr.fresh (Ah _))⟩
 .have:sizeLine=16777216:=rfl;simp;lia
 .obtain⟨hn,hi⟩:=hi;refine ST.Paired.mk (by simp[hn]) λ i a b ha hb=>?_;rw[AE] at ha;obtain⟨k',hk,rfl⟩:=AJ.mp ha;obtain⟨hk1,J9⟩:=AM.mp hk;simp at J9;subst J9;obtain⟨w,hw⟩:=hi i b (by simpa using hb);subst hw;exact⟨w,by simp⟩
end
end L2
namespace L5
open PySem PySem.Spec L2 L3
open PyProof.Rows hiding St
section
variable {X:Cx}{K:Ac}{e:Expr}{tA:z_}{pos p Fn p2:Pos}
def tP:xn:=λ ds S Q=>∃ j:Int,ds=[.int j]/\0<=j/\j<=16777216/\∀ l,S l=none->Q (.ref l) (ups S l (.lst (vf 0 j.toNat)))
noncomputable def sI:List T->Option T
 | [.int j]=>if 0<=j/\j<=16777216 then some (.lst (rangeT 0 j.toNat)) else none
 | _=>none
def Oz:vb zA sI tP:=λ S Z ys z ds Q hz hv e hq=>by
 unfold sI at e;split at e
 .obtain⟨d,rfl,h1⟩:=v7 hv;split at e
  .rename_i hc;cases e;cases h1.int;exact⟨_,rfl,hc.1,hc.2,λ l hl=>hq _ _ (.new hl _) (uz hz hl (fC _ _))⟩
  .cases e
 .cases e
def tP.mo:va tP:=λ ds S Q Q' hq ⟨j,h0,h1,h2,h3⟩=>⟨j,h0,h1,h2,λ l hl=>hq _ _ (h3 l hl)⟩
def Wd {H:Hp}(n:Nat):zh K H (vf 0 n) ((List.range n).map λ(k:Nat)=>V.int (k:Int)):=by
 unfold vf
 induction List.range n with
 | nil=>exact .nil
 | cons k l ih=>exact .cons (by simp only[ze];rw[Int.zero_add]) ih
def tP.fits:vR K tP (λ xs H Q=>∃ j,xs=[.int j]/\∀ r,H r=none->∃ r' j',[V.ref r]=[.ref r']/\(upd H r (.ext (vO r j))) r'=some (.ext (vO r' j'))/\0<=j'/\j'<=16777216/\
  ∀ l,(upd H r (.ext (vO r j))) l=none->Q (.ref l) (upd (upd H r (.ext (vO r j))) l (.lst ((List.range j'.toNat).map λ(k:Nat)=>V.int (k:Int))))):=λ xs ds H S Q h0 h2 h=>by
 obtain⟨j,rfl,c1,c2,h⟩:=h;obtain⟨x,hx,h1⟩:=h0.one;subst hx;simp only[ze] at h1;subst h1;refine⟨j,rfl,λ r hr=>⟨r,j,rfl,yr,c1,c2,λ l hl=>?_⟩⟩;have x1:Ext H (upd H r (.ext (vO r j))):=.new hr _;have Cw:l≠r:=λ z=>by subst z;rw[yr] at hl;cases hl
 have hlH:H l=none:=by rw[ya Cw] at hl;exact hl
 have x2:Ext (upd H r (.ext (vO r j))) (upd (upd H r (.ext (vO r j))) l (.lst ((List.range j.toNat).map λ(k:Nat)=>V.int (k:Int)))):=.new hl _;exact h l (h2.none hlH) _ _ (by simp only[ze]) (x1.trans x2) ((h2.new hr).ups x2 ⟨_,yr,Wd _⟩)
def UI (hm:X.mg "list"=none) (Hj:X.mg "range"=none) (ha:yZ X [e] tA) (hc:X.calm=true) (hg:Gl X "list") (GF:Gl X "range")
  (IY:starEach [e] X.env=(false,eval e X.env)::starEach [] X.env)
  (he:starEach [.Call (.Name "range" p2) [e] [] Fn] X.env=(false,eval (.Call (.Name "range" p2) [e] [] Fn) X.env)::starEach [] X.env) (Aq:(backTo pos (starEach [] X.env)).any (·.1)=false) (Ib:(backTo Fn (starEach [] X.env)).any (·.1)=false):
  PD X (.Call (.Name "list" p) [.Call (.Name "range" p2) [e] [] Fn] [] pos) (xv tP tA):=by
 have h:=pX (p:=p) (NV hc) hg hm PyProof.Rows.boot_list (tB (pX NR GF Hj boot_range ha.pa (by decide) (by decide) IY Ib) sF he) (by decide) (by decide) he Aq;exact⟨xv.mo tP.mo ha.mo,PE.imp h λ _ _ _ hu=>gW tP.mo tP.fits ha.mo hu⟩
end
end L5
namespace ST
open PySem PySem.SetTable PySem.Spec PyProof.Rows L2
def PZ {us HE:Ad}(p:HE.Perm us):∀ {ms:List Int},IntsAre us ms->∃ Gr,IntsAre HE Gr/\Gr.Perm ms:=by
 induction p with
 | nil=>intro ms h;exact⟨ms,h,.refl _⟩
 | cons x _ ih=>
  intro ms h;cases h with
  | cons n t h=>
   obtain⟨Gr,h1,h2⟩:=ih h;exact⟨n::Gr,.cons n t h1,h2.cons n⟩
 | swap x y l=>
  intro ms h;cases h with
  | cons n t h=>
   cases h with
   | cons m u h=>exact⟨m::n::_,.cons m u (.cons n t h),.swap _ _ _⟩
 | trans _ _ JO JN=>
  intro ms h;obtain⟨m1,h1,h2⟩:=JN h;obtain⟨m2,h3,h4⟩:=JO h1;exact⟨m2,h3,h4.trans h2⟩
def rV.at {prog:Program}{w:World}{h:Heap}{a:Addr}{xs:List (Int×Tok)}(S:rV prog w h a xs (tH w)):y9 w a (xs.map λ e=>Value.int e.1 e.2) h:=by
 obtain⟨⟨es,ep,t,ho,he,T,h1,h2,h3⟩,_⟩:=S;have hm:7<=t.mask/\t.mask<=127:=by rcases T.mask with e | e | e <;> lia
 have hlen:es.size=xs.length:=by have:=congrArg List.length he;simpa using this
 exact⟨es,ep,t,⟨ho,fits_of (n:=xs.length) hlen T (by simp) (by lia),T.wb,h1,h2⟩,by rw[he,Au];rfl⟩
theorem cP:∀ xs:List (Int×Tok),IntsAre (xs.map λ e=>Value.int e.1 e.2) (xs.map (·.1))
 | []=>.nil
 | e::xs=>.cons e.1 e.2 (cP xs)
theorem gJ:∀ {us:Ad}{ns:List Int},IntsAre us ns->Vals (ns.map V.int) us
 | _,_,.nil=>.nil
 | _,_,.cons n t h=>.cons ⟨t,rfl⟩ (gJ h)
section
variable {X:Cx}
def NM (hc:X.calm=true):yC X (.type "set") (λ xs H Q=>∃ p,∃ ns:List Int,xs=[.ref p]/\zJ X.K H p (ns.map V.int)/\ns.length<64/\
  ∀ (l:Addr) (us:Ad) (ms:List Int),H l=none->IntsAre us ms->ms.Nodup->(∀ n,n∈ms↔n∈ns)->Q (.ref l) (upd H l (.ext (y9 X.w l us)))):=by
 intro EV s Y H xs us Q I r h;obtain⟨p,ns,rfl,hq,FT,q⟩:=h;obtain⟨u,rfl,ru⟩:=vals1 r;cases ru;obtain⟨its,rv,pl,hz⟩:=I.list hq;have hl:=rv.length;rw[AB] at hl;have iA:IntsAre its ns:=intsAre_of rv;have nums:Nums its.toArray ns:=λ i v hv=>by
  have Hf:its[i]?=some v:=by simpa using hv
  have hi:i<ns.length:=by rw[hl];exact (AM.mp Hf).1
  obtain⟨u,e1,t,e2⟩:=rv.get (i:=i) (x:=V.int ns[i]) (by simp[hi]);rw[Hf] at e1;cases e1;exact⟨ns[i],t,e2,by simp[hi]⟩
 have hh:X.A.handled=none:=I.ok.hd hc;refine NN (A:=X.A) hh pl.isList nums (by rw[Az];lia) λ h' tk xs S U k=>?_;have kk:∀ b o,s.heap.get? b=some o->h'.get? b=some o:=λ b o e=>k b o (Al e) e;have Io:=S.at;refine⟨.ref s.heap.objs.size,_,I.laid (t':=tk) (o:=.ext (y9 X.w s.heap.objs.size (xs.map λ e=>Value.int e.1 e.2))) kk (Ah _) ?_,rfl,q _ _ (xs.map (·.1)) (I.zr.fresh (Ah _)) (cP xs) S.nd λ n=>⟨λ hn=>?_,λ hn=>?_⟩⟩
 .obtain⟨es,ep,t,St,e⟩:=id Io;exact⟨Io,⟨_,St.get⟩,λ h1 h2 S1 k=>S1.ux k⟩
 .obtain⟨e,he,rfl⟩:=Ai.mp hn;obtain⟨j,_,_,hj⟩:=U.own e he;exact BA hj
 .obtain⟨j,hj⟩:=D2.mp hn;exact U.all j n (by have:=(AM.mp hj).1;rw[Az];lia) hj
def NJ (hc:X.calm=true):yC X (.builtin "sorted") (λ xs H Q=>∃ l us,∃ ms:List Int,xs=[.ref l]/\H l=some (.ext (y9 X.w l us))/\IntsAre us ms/\ms.length<64/\
  ∀ (p:Addr) (ns:List Int),H p=none->ns.Perm ms->ns.Pairwise (·<=·)->Q (.ref p) (upd H p (.lst (ns.map V.int)))):=by
 intro EV s Y H xs us0 Q I r h;obtain⟨l,us,ms,rfl,hl,hm,FT,q⟩:=h;obtain⟨u,rfl,ru⟩:=vals1 r;cases ru;obtain⟨⟨es,ep,t,S,eu⟩,-,-⟩:=(show yE X.prog X.w H s.heap l (.ext (y9 X.w l us)) from I.zr l _ hl)
 have hlen:es.size=us.length:=by rw[<- eu];simp
 have EC:=hm.length;have hh:X.A.handled=none:=I.ok.hd hc;have hp:((comes X.w l es ep).toList.map (·.2)).Perm us:=by rw[<- eu];exact (o_ X.w l es ep).map _
 obtain⟨Gr,i1,i2⟩:=PZ hp hm;have Cz:=hp.length_eq;have hl24:sizeLine=16777216:=rfl;refine L4.f6 (N:=λ _=>False) (Out:=λ out=>∃ Gq,IntsAre out.toList Gq/\Gq.Perm Gr/\Gq.Pairwise (·<=·)) (λ Q' h=>ar (by exact hh) S (by rw[hlen,EC];lia) Q' h) (by rw[Cz,EC];lia) (λ h2 s6 k=>L4.N6 i1 h2 (by rw[Cz,EC];exact FT)) (λ h1=>⟨Gr,by simpa using i1,.refl _,?_⟩) λ out h' tk p ho hs GK k EU=>?_
 .have:Gr.length<2:=by rw[<- i1.length];exact h1
  match Gr,this with
  | [],_=>exact .nil
  | [_],_=>exact D9 _ _
 .obtain⟨ns,g1,g2,g3⟩:=ho;obtain⟨e,he⟩:=EU;refine⟨.ref p,_,I.laid (t':=tk) (o:=.lst (ns.map V.int)) (λ b o e=>k b o id e) GK ?_,rfl,q p ns (I.zr.fresh GK) (g2.trans i2) g3⟩;exact⟨by rw[AB,g2.length_eq,i2.length_eq];lia,out.toList,e,gJ g1,by simpa using he⟩
end
end ST
namespace L5
open PySem PySem.Spec L2 L3
open PyProof.Rows hiding St
noncomputable def insI (n:Int):List Int->List Int
 | []=>[n]
 | m::l=>if n<m then n::m::l else if n=m then m::l else m::insI n l
noncomputable def x_:List Int->List Int
 | []=>[]
 | n::ns=>insI n (x_ ns)
theorem j7 {n k:Int}:∀ {l:List Int},k∈insI n l↔k=n\/k∈l
 | []=>by simp[insI]
 | m::l=>by
  unfold insI;split
  .simp
  .split
   .rename_i h;subst h;simp
   .rw[Aj,j7,Aj];constructor
    .rintro (h | h | h)
     .exact .inr (.inl h)
     .exact .inl h
     .exact .inr (.inr h)
    .rintro (h | h | h)
     .exact .inr (.inl h)
     .exact .inl h
     .exact .inr (.inr h)
theorem mP {k:Int}:∀ {l:List Int},k∈x_ l↔k∈l
 | []=>.rfl
 | n::l=>by unfold x_;rw[j7,mP,Aj]
theorem cR {n:Int}:∀ {l:List Int},l.Pairwise (· < ·)->(insI n l).Pairwise (· < ·)
 | [],_=>D9 _ _
 | m::l,h=>by
  have h':=Bh.mp h;unfold insI;split
  .rename_i c;refine Bh.mpr ⟨λ x hx=>?_,h⟩;rcases Aj.mp hx with e | e
   .rw[e];exact c
   .exact Int.lt_trans c (h'.1 x e)
  .split
   .exact h
   .rename_i c1 c2;refine Bh.mpr ⟨λ x hx=>?_,cR h'.2⟩;rcases j7.mp hx with e | e
    .rw[e];lia
    .exact h'.1 x e
theorem gS:∀ l:List Int,(x_ l).Pairwise (· < ·)
 | []=>.nil
 | n::l=>cR (gS l)
def YD {l m:List Int}(h1:l.Nodup) (h2:l.Pairwise (·<=·)) (h3:m.Pairwise (· < ·)) (h:∀ k,k∈l↔k∈m):l=m:=by
 have nm:m.Nodup:=h3.imp λ h e=>by lia
 refine L4.mI (r:=λ a b:Int=>a<=b) (λ a b p q=>by lia) ((D3 h1 nm).mpr h) h2 (h3.imp λ h=>by lia)
section
variable {X:Cx}{K:Ac}{e:Expr}{tA:z_}{pos Fn p p2:Pos}
def oD:xn:=λ ds S Q=>ud ds S Q\/∃ d,∃ ns:List Int,ds=[d]/\(∀ ts,d≠.tup ts)/\zH d S=some (ns.map D.int)/\ns.length<64/\∀ l,S l=none->Q (.ref l) (ups S l (.lst ((x_ ns).map D.int)))
noncomputable def tq:List T->Option T
 | [.lst ts]=>match xV ts with
  | some ns=>if ns.length<64 then some (.lst ((x_ ns).map T.int)) else none
  | none=>m5 [.lst ts]
 | _=>none
def Ot:vb zA tq oD:=λ S Z ys z ds Q hz hv e hq=>by
 unfold tq at e;split at e
 .split at e
  .rename_i ns Cu;split at e
   .rename_i hc;cases e;cases rH Cu;obtain⟨d,rfl,h1⟩:=v7 hv;obtain⟨es,h2,h3⟩:=h1.seq rfl;cases vV.mp h3;refine .inr ⟨d,ns,rfl,?_,h2,hc,λ l hl=>hq _ _ (.new hl _) (uz hz hl (vV.mpr rfl))⟩;obtain⟨_,q | ⟨a,q,_⟩,_⟩:=h1.lst <;> subst q <;> exact λ _=>nofun
   .cases e
  .exact .inl (Ou S Z _ z ds Q hz hv e hq)
 .cases e
theorem oD.mo:va oD:=λ ds S Q Q' hq h=>by
 rcases h with h | ⟨d,ns,h1,h2,h3,h4,h5⟩
 .exact .inl (ud.mo ds S Q Q' hq h)
 .exact .inr ⟨d,ns,h1,h2,h3,h4,λ l hl=>hq _ _ (h5 l hl)⟩
def OI {w:World}{xs:List V}{H:Hp}{S:SS}{Q:VK}{d:D}{ns:List Int}(h0:zh K H [d] xs) (h2:zE K H S) (hn:∀ ts,d≠.tup ts) (e:zH d S=some (ns.map D.int)) (FT:ns.length<64) (h:∀ l,S l=none->xY K H Q (.ref l) (ups S l (.lst ((x_ ns).map D.int)))):
  ∃ p,∃ Gq:List Int,xs=[.ref p]/\zJ K H p (Gq.map V.int)/\Gq.length<64/\
   ∀ (l:Addr) (us:Ad) (ms:List Int),H l=none->IntsAre us ms->ms.Nodup->(∀ n,n∈ms↔n∈Gq)->
    ∃ l' HE,∃ Gr:List Int,[V.ref l]=[.ref l']/\(upd H l (.ext (ST.y9 w l us))) l'=some (.ext (ST.y9 w l' HE))/\IntsAre HE Gr/\Gr.length<64/\
     ∀ (p:Addr) (ns:List Int),(upd H l (.ext (ST.y9 w l us))) p=none->ns.Perm Gr->ns.Pairwise (·<=·)->Q (.ref p) (upd (upd H l (.ext (ST.y9 w l us))) p (.lst (ns.map V.int))):=by
 obtain⟨x,hx,h1⟩:=h0.one;subst hx;obtain⟨a,ys,rfl,g1,g2⟩:=sA h1 h2 e hn;rw[g2.ints] at g1;refine⟨a,ns,rfl,g1,FT,λ l us ms hf hi nd A8=>⟨l,us,ms,rfl,yr,hi,?_,λ p JL hp pm srt=>?_⟩⟩
 .have:=ST.jy ms ns nd λ x hx=>(A8 x).mp hx;lia
 .have x1:Ext H (upd H l (.ext (ST.y9 w l us))):=.new hf _;have Aq:p≠l:=λ z=>by subst z;rw[yr] at hp;cases hp
  have JZ:H p=none:=by rw[ya Aq] at hp;exact hp
  have x2:Ext (upd H l (.ext (ST.y9 w l us))) (upd (upd H l (.ext (ST.y9 w l us))) p (.lst (JL.map V.int))):=.new hp _;have heq:JL=x_ ns:=YD (pm.nodup_iff.mpr nd) srt (gS ns) λ k=>by rw[pm.mem_iff,A8,mP]
  refine h p (h2.none JZ) _ _ (by simp only[ze]) (x1.trans x2) ((h2.new hf).ups x2 ⟨_,yr,?_⟩);rw[<- heq];exact zh.jw JL
def Uw {k:Nat}(hr:yd k X.A) (hm:X.mg "sorted"=none) (Hj:X.mg "set"=none) (ha:yZ X [e] tA) (hc:X.calm=true) (hg:Gl X "sorted") (GF:Gl X "set")
  (IY:starEach [e] X.env=(false,eval e X.env)::starEach [] X.env)
  (he:starEach [.Call (.Name "set" p2) [e] [] Fn] X.env=(false,eval (.Call (.Name "set" p2) [e] [] Fn) X.env)::starEach [] X.env) (Aq:(backTo pos (starEach [] X.env)).any (·.1)=false) (Ib:(backTo Fn (starEach [] X.env)).any (·.1)=false):
  PD X (.Call (.Name "sorted" p) [.Call (.Name "set" p2) [e] [] Fn] [] pos) (xv oD tA):=by
 have h:=t9 (p:=p) (yC.or (ST.NK hc) (ST.NJ hc)) hg hm boot_sorted (tB (pX (yC.or (ST.NL hc hr.units) (ST.NM hc)) GF Hj PyProof.Rows.boot_set ha.pa (by decide) (by decide) IY Ib) sF he) (by decide) (by decide) he Aq;refine⟨xv.mo oD.mo ha.mo,PE.imp h fun Y H Q hu=>?_⟩;obtain⟨L,S,r1,r2,z⟩:=hu;refine xT.go ha.mo r1 r2 z λ ds S1 xs H1 h1 q1 e1 p1=>?_;rcases h1 with h1 | ⟨d,ns,rfl,c1,c2,c3,h1⟩
 .obtain⟨p,ys,rows,a1,a2,a3,a4,a5⟩:=ud.fits (w:=X.w) xs ds H1 S1 Q q1 p1 (ud.mo ds S1 _ _ (λ d S' z=>z.ext e1) h1);exact .inl ⟨p,ys,rows,a1,a2,a3,a4,λ l us ps b1 b2 b3 b4 b5=>.inl (a5 l us ps b1 b2 b3 b4 b5)⟩
 .obtain⟨p,Gq,a1,a2,a3,a4⟩:=OI (w:=X.w) q1 p1 c1 c2 c3 (λ l hl=>(h1 l hl).ext e1);exact .inr ⟨p,Gq,a1,a2,a3,λ l us ms b1 b2 b3 b4=>.inr (a4 l us ms b1 b2 b3 b4)⟩
end
end L5
namespace L5
open PySem PySem.Spec L2 L3
open PyProof.Rows hiding St
section
variable {X:Cx}{e st:Expr}
noncomputable def mM:Sm:=λ _=>none
def bW:y4:=λ _ _ _=>False
def VO {st:Stmt}:xQ X st bW:=⟨λ _ _ _ _ _ h=>h.elim,λ _ _ _ _ _ _ ⟨_,_,_,_,h⟩=>h.elim⟩
def Sh {R:Rk}:ye R mM bW:=λ S0 Z0 S Z L J o E F e P=>by cases e
end
end L5
namespace L5
open PySem L2 L3
def jS:Good2 zA tI lu:=jT (λ _ _ _=>wL) λ _ _ _=>nofun
def jU:Good2 zA jX ic:=jT (λ _ _ _=>wL) λ _ _ _=>nofun
end L5
namespace L5
open PySem PySem.Spec L2 L3
open PyProof.Rows hiding St
section
variable {X:Cx}{e:Expr}{te:zo}{pos p q:Pos}
def UO (T:Bt X.mg) (he:PD X e te) (hg:Gl X "isinstance") (GF:Gl X "str") (h1:starEach (e::[.Name "str" q]) X.env=(false,eval e X.env)::starEach [.Name "str" q] X.env) (h2:(backTo pos (starEach [.Name "str" q] X.env)).any (·.1)=false) (h3:starEach [.Name "str" q] X.env=(false,eval (.Name "str" q) X.env)::starEach [] X.env):
  PD X (.Call (.Name "isinstance" p) [e,.Name "str" q] [] pos) (qQ "str" te):=mJ (by simp) T.isinstance T.str PyProof.Rows.boot_str GF (by decide) (by decide) he hg h1 h2 h3
end
end L5
namespace L3
open PySem PyProof.Rows L2
section
variable {X:Cx}{pos:Pos}
noncomputable def wE (E:rh) (W:Nat->zY->SS->Prop) (m:Nat):rh:={ E with nx:=fun L' S'=>∃ m',m'<m/\W m' L' S',ct:=fun L' S'=>∃ m',m'<m/\W m' L' S',bk:=E.nx }
def oP (c:yt) (tb:y4):y4:=λ E L S=>∃ W:Nat->zY->SS->Prop,(∃ m,W m L S)/\∀ m L S,W m L S->
 c L S λ b S1=>if b=true then tb (wE E W m) L S1 else E.nx L S1
def oP.mo {c:yt}{tb:y4}(hc:wu c) (hb:uW tb):uW (oP c tb):=λ E E' L S hE ⟨W,w0,ws⟩=>
 ⟨W,w0,λ m L S hw=>hc L S _ _ (λ b S1 z=>wB (λ z=>hb (wE E W m) (wE E' W m) L S1 ⟨λ _ _ q=>q,hE.rt,hE.nx,λ _ _ q=>q⟩ z) (λ z=>hE.nx _ _ z) z) (ws m L S hw)⟩
def VJ {c:Expr}{body:List Stmt}{tc:yt}{tb:y4}(hp:PassesOwn (model X.prog X.w) X.A X.env X.xe) (hc:xo X c tc) (hb:wJ X body tb):xQ X (.While c body [] pos) (oP tc tb):=by
 refine⟨oP.mo hc.mo hb.mo,PS.imp (W6 hp hc.pt hb.ps) λ D Y H hu=>?_⟩;obtain⟨L,S,r1,r2,W,⟨m0,w0⟩,ws⟩:=hu;refine⟨λ m Y' H'=>Ext H H'/\∃ L S,y6 X.K H' L Y'/\zE X.K H' S/\W m L S,⟨m0,.refl _,L,S,r1,r2,w0⟩,?_⟩;rintro m Y2 H2 ⟨x2,L2,S2,q1,q2,w2⟩;refine xS.go hc.mo q1 q2 (ws m L2 S2 w2) λ k S3 H3 h3 e3 p3=>wB (λ z=>?_) (λ z=>?_) h3
 .refine⟨fun Y' H'=>Ext H H'/\∃ L S m',m'<m/\y6 X.K H' L Y'/\zE X.K H' S/\W m' L S,fun Y' H' ⟨a,L',S',m',b,c,d,e⟩=>⟨m',b,a,L',S',c,d,e⟩,L2,S3,q1.ext e3,p3,?_⟩;exact hb.mo (wE (uL X.K H D) W m) _ L2 S3 ⟨fun L5 S5 ⟨m',b,w5⟩ Y5 H5 b1 b2 b3=>⟨(x2.trans e3).trans b2,L5,S5,m',b,b1,b3,w5⟩,λ _ _ q=>xY.ext (x2.trans e3) q,λ _ _ q=>wG.ext (x2.trans e3) q,fun L5 S5 ⟨m',b,w5⟩ Y5 H5 b1 b2 b3=>⟨(x2.trans e3).trans b2,L5,S5,m',b,b1,b3,w5⟩⟩ z
 .exact z Y2 H3 (q1.ext e3) (x2.trans e3) p3
end
end L3
namespace L5
open PySem PyProof.Rows L2 L3
noncomputable def xr (is:List Nat) (c:Ev->Option Bool) (b:Sm):Nat->Ev->Option Out
 | 0,_=>none
 | n+1,J=>(c (yw is J)).bind λ k=>if k=true then (b (yw is J)).bind λ o=>match o with
   | .nx J2=>xr is c b n J2
   | .ct J2=>xr is c b n J2
   | .bk J2=>some (.nx (yw is J2))
   | .rt t=>some (.rt t)
  else some (.nx (yw is J))
def rn (n:Nat) (is:List Nat) (c:Ev->Option Bool) (b:Sm):Sm:=xr is c b n
def T_ {R:Rk} [Lo R] {n:Nat}{is:List Nat}{c:Ev->Option Bool}{tc:yt}{b:Sm}{tb:y4}(hc:wK c tc) (hb:ye R b tb):ye R (rn n is c b) (oP tc tb):=λ S0 Z0 S Z L J o E F e P=>by
 obtain⟨SB,b1,FB,b2⟩:=F.rebase;have lo:∀ S' d y,R SB S' Z0 y d->R S0 S' Z0 y d:=λ S' d y r=>Lo.lo b1 (λ _ z=>z) r;refine⟨λ m L' S'=>∃ Z' J',FR SB Z0 S' Z' L' J'/\xr is c b m J'=some o,⟨n,Z,J,FB,e⟩,λ m L' S' ⟨Z',J',F',e'⟩=>?_⟩;cases m with
 | zero=>cases e'
 | succ m=>
  unfold xr at e';obtain⟨k,c1,e'⟩:=Ak.mp e';have G:=F'.yw is;refine hc S' Z' L' _ k _ G.er c1 λ S3 s3=>?_;cases k with
  | true=>
   rw[if_pos rfl] at e' ⊢;obtain⟨o1,g2,e'⟩:=Ak.mp e';refine hb SB Z0 S3 Z' L' _ o1 _ (G.grow s3) g2 ?_;cases o1 with
   | nx J2=>exact λ S3 Z3 L3 F3=>⟨m,Co m,Z3,J2,F3,e'⟩
   | ct J2=>exact λ S3 Z3 L3 F3=>⟨m,Co m,Z3,J2,F3,e'⟩
   | bk J2=>cases e';exact λ S3 Z3 L3 F3=>P S3 Z3 L3 ((F3.yw is).back b1 F.z0)
   | rt y=>cases e';exact λ d S3 s3 r3=>P d S3 (b1.trans s3) (lo _ _ _ r3)
  | false=>
   rw[if_neg (by decide)] at e' ⊢;cases e';exact P S3 Z' L' ((G.grow s3).back b1 F.z0)
end L5
namespace ZP
open PySem PyProof.Rows
def QO (k:Bool) (l:Addr) (xs:An):Meets (Builtin.«enumerate.__new__» ⟨[.type "enumerate",.ref l],[]⟩) (λ _ R s=>SQ s.heap k l xs/\
   R (.ok (.ret (.ref (s.heap.push (vm k l)).objs.size))) { s with heap:=(s.heap.push (vm k l)).push { cls:=.type "enumerate",data:=.fields #[.none,.bool false,.ref s.heap.objs.size,rawInt 0,.none,.none] } }):=
 .of_wp λ prog w A R s h=>by
  obtain⟨hp,g,d,tk,os⟩:=s;obtain⟨q,h⟩:=h;have Eo:=sub_enumerate;have hL:SQ (Shared.heap ⟨hp,g,d,tk,os⟩) k l xs:=q;obtain⟨⟨c,zS,dt,sl⟩,hl,hc⟩:=q.cls;replace hc:c=.type (cond k "tuple" "list"):=hc;subst hc
  wp_walk using AutoSeq1.wpAny_loadPart' hl
  refine wpAny_stack_any λ st=>Ab ?_;split
  .rename_i c _ _ _ _ _;cases (c == Value.type "enumerate")
   .wp_walk using AutoSeq1.wpAny_loadPart' hl,made hL
    exact⟨_,rfl,h⟩
   .wp_walk using AutoSeq1.wpAny_loadPart' hl,made hL
    exact⟨_,rfl,h⟩
  .wp_walk using AutoSeq1.wpAny_loadPart' hl,made hL
   exact⟨_,rfl,h⟩
section
variable {prog:Program}{w:World}{A:Around}{E:Af}{s:Shared}
def O_ {k:Bool}{l:Addr}{xs:An}{Q:Af}(hL:SQ s.heap k l xs)
  (h:∀ h',IsEnum h' (s.heap.objs.size+1) s.heap.objs.size 0 .none->SI h' k s.heap.objs.size l 0->(∀ b o,s.heap.get? b=some o->h'.get? b=some o)->Q (.ref (s.heap.objs.size+1)) { s with heap:=h' }):
  wpAny (model prog w) A (call (.type "enumerate") [.ref l]) Q E s:=by
 refine callType_new F.called_enumerate (by decide) (F.typeCall_enumerate_1 _) (F.newCall_enumerate_1 _) (λ obj=>F.args_object_init_2 obj _) F.entry_enumerate_new (QO k l xs) ⟨hL,?_⟩;have hz:(s.heap.push (vm k l)).objs.size=s.heap.objs.size+1:=Heap.size_push ..;show _/\_;rw[hz];have he:IsEnum ((s.heap.push (vm k l)).push { cls:=.type "enumerate",data:=.fields #[.none,.bool false,.ref s.heap.objs.size,rawInt 0,.none,.none] }) (s.heap.objs.size+1) s.heap.objs.size 0 .none:=by
  have:=AG (s.heap.push (vm k l)) (o:={ cls:=.type "enumerate",data:=.fields #[.none,.bool false,.ref s.heap.objs.size,rawInt 0,.none,.none] }) rfl;rw[hz] at this;exact this
 exact⟨⟨_,he,rfl⟩,h _ he ⟨_,Ky _ (AG _ rfl),rfl,rfl⟩ λ b o x=>Ky _ (Ky _ x)⟩
def Ni (hh:A.handled=none) (k:Bool) (it l:Addr) (Ar:l≠it) (xs:An):Draws prog w A it [it,l] xs.size (λ i v=>xs[i]?=some v) (λ i h=>SI h k it l i/\SQ h k l xs) where
 live:=λ _ _ st=>let ⟨o,ho,_⟩:=st.1;⟨o,ho⟩
 frame:=λ _ _ _ st hk=>⟨st.1.on λ o e=>hk it (by simp) o e,st.2.on λ o e=>hk l (by simp) o e⟩
 item:=λ i s Q E hi st hQ=>draw st.1 st.2 (x:=xs[i]) (by simp[hi]) λ h' EI GJ=>hQ _ h' s.toks (by simp[hi]) ⟨EI,st.2.on λ o e=>(GJ.2 l Ar).trans e⟩ GJ
 done:=λ s Q E st hE=>oK hh st.1 st.2 (by simp) hE
end
end ZP
namespace L2
open PySem PySem.Spec PyProof.Rows ZP
section
variable {X:Cx}{EV:Ag}{Y:St}{H:Hp}{s:Shared}
def Zl (K:Ac) (k:Bool) (a:Addr):It:=
 ⟨λ i H=>∃ xs x,xB K H k a xs/\xs[i]?=some x,
   λ i H v H'=>∃ p x,v=.ref p/\H p=none/\H'=upd H p (.tup [.int i,x])/\∀ xs,xB K H k a xs->xs[i]?=some x,
   λ i H=>∃ xs,xB K H k a xs/\xs.length<=i⟩
def YT {P:Program}{w:World}{K:Ac}{es:List Expr}{kk} {pos:Pos}{k:Bool}{e it a:Addr}(EL:e≠it) (hea:e≠a) (hai:a≠it):
  Turn P w K (.Tuple es kk pos) (Zl K k a) [e,it] e (λ i h=>(∃ old,IsEnum h e it i old)/\SI h k it a i) where
 mem:=by simp
 obj:=λ i h st b hb=>by
  obtain⟨⟨old,q1⟩,o1,q2,_,d1⟩:=st;simp only[Aj,AR,or_false] at hb;rcases hb with e | e <;> subst e
  .exact⟨_,q1,λ v z=>by cases z⟩
  .exact⟨_,q2,λ v z=>by rw[d1] at z;cases z⟩
 keep:=λ i h h' st k=>⟨let ⟨old,q⟩:=st.1;⟨old,k e (by simp) _ q⟩,st.2.on λ o q=>k it (by simp) o q⟩
 item:=by
  intro X hP hw hK hc i EV s Y H E I hf st hg;subst hP hw hK;obtain⟨xs,x,g1,hx⟩:=hg;obtain⟨its,rv,q1⟩:=g1.of I;obtain⟨u1,e1,r1⟩:=rv.get hx;obtain⟨⟨old,he⟩,si⟩:=st;have Ao:i<its.toArray.size:=by have:=(AM.mp e1).1;simpa using this
  have D:=Ni (prog:=X.prog) (w:=X.w) (A:=X.A.in1) (show X.A.in1.handled=none from I.ok.hd hc) k it a hai its.toArray;refine wpAny_pyNext_enum_itemD D he ⟨si,q1⟩ Ao EL (by simp[EL,hea]) λ u h' tk hP ho GJ hT hsz hk=>⟨_,rfl,?_⟩;have hu:u=u1:=by simp only[List.getElem?_toArray,e1] at hP;exact (A7 hP).symm
  subst hu;have nT:s.heap.objs.size∉[e,it]:=λ hb=>by
   simp only[Aj,AR,or_false] at hb;obtain⟨oi,qi,_⟩:=si;rcases hb with z | z
   .exact absurd (Al he) (by rw[<- z];exact Bz _)
   .exact absurd (Al qi) (by rw[<- z];exact Bz _)
  have ne:s.heap.objs.size≠e:=λ z=>nT (by simp[z]);refine wpAny_letOwnedTupleGo_enum ho λ h2 IY sb=>?_;have fr:H s.heap.objs.size=none:=I.zr.fresh (Ah _);have I1:Inv X EV Y (upd H s.heap.objs.size (.tup [.int i,x])) { s with heap:=s.heap.push { cls:=.type "tuple",data:=.seq [.int i tk,u].toArray },toks:=s.toks }:=
   I.laid (o:=.tup [.int i,x]) (λ b u q=>Ky _ q) (Ah _) ⟨⟨by show 2<=sizeLine;decide,.new _⟩,[.int i tk,u],.cons ⟨tk,rfl⟩ (.cons r1 .nil),IsTup.new _ _⟩
  have GL:∀ b∈[e,it],upd H s.heap.objs.size (.tup [.int i,x]) b=none:=λ b hb=>by
   rw[ya (λ z=>nT (by rw[<- z];exact hb))];exact (hf b hb).1
  have kk:∀ b o,b∉[e,it]->(s.heap.push { cls:=.type "tuple",data:=.seq [.int i tk,u].toArray }).get? b=some o->h2.get? b=some o:=λ b o hb q=>by
   have BH:b≠e:=λ z=>hb (by simp[z]);have hbi:b≠it:=λ z=>hb (by simp[z]);by_cases Dj:b=s.heap.objs.size
   .subst Dj;rw[AG _ rfl] at q;cases q;exact sb.extBut _ _ BH hT
   .have q':s.heap.get? b=some o:=by rw[Heap.get?_push_ne _ _ _ Dj] at q;exact q
    exact sb.extBut _ _ BH (hk b o BH hbi q')
  have I2:=Inv.mi (h':=h2) (t':=tk+1) (fp:=[e,it]) I1 kk λ b hb=>⟨GL b hb,(hf b hb).2⟩;refine⟨.ref s.heap.objs.size,_,I2,rfl,⟨_,x,rfl,fr,rfl,λ zs hz=>by rw[hz.inj I g1];exact hx⟩,⟨⟨_,by simpa using IY⟩,GJ.1.on λ o q=>(sb.2 it (Ne.symm EL)).trans q⟩,GL⟩
 done:=by
  intro X hP hw hK hc i EV s Y H E I hf st hg;subst hP hw hK;obtain⟨xs,g1,hx⟩:=hg;obtain⟨its,rv,q1⟩:=g1.of I;have l1:=rv.length;obtain⟨⟨old,he⟩,si⟩:=st;have hT:s.TypeIs (.ref e) "enumerate":=⟨_,he,rfl⟩
  unfold pyNext;refine JA (KU (KN (name:=Str.ofString "__next__") hT F.slot_enumerate_next
   (KD F.slot_enumerate_next hT F.entry_enumerate_next ?_ (F.args_enumerate_next_1 _))))
  show wpAny _ _ (field (.ref e) 2 >>= _) _ _ _;refine JA (Kz he rfl (x:=.ref it) rfl ?_);refine JA (oK (show X.A.in1.handled=none from I.ok.hd hc) si q1 (by simp;lia) λ h' x J_ HZ=>?_);obtain⟨o,ho,hc⟩:=HZ;refine JA (K1 (T:="StopIteration") (b:=true) ⟨o,ho,hc⟩ isSubtype_stop ?_);exact Ab ⟨rfl,I.mi (t':=s.toks) (fp:=[e,it]) (λ b o hb q=>J_ b o (λ z=>hb (by simp[z])) q) hf⟩
 self:=λ _ _ _ _ _ st h=>let ⟨_,q⟩:=st.1;wpAny_pyIter_enum q h
def Oe (K:Ac) (ta:TA):TI:=fun Y H R=>ta Y H λ vs H1=>∃ a k,vs=[.ref a]/\(∃ xs,xB K H1 k a xs)/\R (Zl K k a) H1
def WV {a:Expr}{ta:TA}{p pos pos':Pos}{es:List Expr}{kk} (hg:Gl X "enumerate") (hm:X.mg "enumerate"=none) (ha:PA X [a] ta) (hs:starEach [a] X.env=[(false,eval a X.env)]:=by rfl):
  PI X (.Tuple es kk pos') (.Call (.Name "enumerate" p) [a] [] pos) (Oe X.K ta):=by
 intro EV s Y H R I h;refine Call_ (tJ I hg hm boot_enumerate (PyProof.Rows.callWith_type1 (zv (ha pos EV s Y H _ I h) λ us s1 ⟨vs,H1,I1,r1,q1⟩=>?_) (by rw[hs];rfl) rfl));obtain⟨a1,k,rfl,⟨xs,g1⟩,q⟩:=q1;cases r1 with
 | cons r rr=>
  cases rr;cases r;obtain⟨IK,_,q1⟩:=g1.of I1;have la:=q1.lt;refine ZP.O_ q1 λ h' E S up=>wpAny_pyIter_enum E ?_;have nw:∀ b∈[s1.heap.objs.size+1,s1.heap.objs.size],s1.heap.objs.size<=b:=λ b hb=>by
   simp only[Aj,AR,or_false] at hb;rcases hb with z | z <;> rw[z]
   .exact DB _
   .exact Ah _
  exact⟨_,[s1.heap.objs.size+1,s1.heap.objs.size],_,_,H1,rfl,I1.kept (t':=s1.toks) up,YT (Nat.succ_ne_self _) (Bw (B7 la)) (AA la),⟨⟨_,E⟩,S⟩,λ b hb=>I1.o8 (nw b hb) (I1.zr.fresh (nw b hb)),q⟩
end
end L2
namespace L5
open PySem PySem.Spec L2 L3
open PyProof.Rows hiding St
noncomputable def uK (k:Nat):List D->List D
 | []=>[]
 | d::ds=>.tup [.int k,d]::uK (k+1) ds
noncomputable def sQ (k:Nat):List T->List T
 | []=>[]
 | d::ds=>.tup [.int k,d]::sQ (k+1) ds
theorem bE:∀ (ds:List D) (k i:Nat),(uK k ds)[i]?=(ds[i]?).map λ d=>D.tup [.int ((k+i:Nat):Int),d]
 | [],k,i=>by simp[uK]
 | d::ds,k,0=>by simp[uK]
 | d::ds,k,i+1=>by
  unfold uK;rw[D5,D5,bE ds (k+1) i,show k+1+i=k+(i+1) from by lia]
theorem bD:∀ (ds:List D) (k:Nat),(uK k ds).length=ds.length
 | [],k=>rfl
 | d::ds,k=>by unfold uK;rw[Bg,bD ds];rfl
theorem fD {S:SS}:∀ {ts:List T}{ds:List D}(k:Nat),zg S ts ds->zg S (sQ k ts) (uK k ds)
 | [],ds,k,h=>by simp only[zg] at h;subst h;exact zg.nil
 | t::ts,ds,k,h=>by
  simp only[zg] at h;obtain⟨c,cs,rfl,h1,h2⟩:=h;exact zg.cons (sy (zg.cons (by simp only[Sn]) (zg.cons h1 zg.nil))) (fD (k+1) h2)
section
variable {X:Cx}{a:Expr}{tA:z_}{pos p pos':Pos}{es:List Expr}{kk:Nat}
def c8 (t:z_):xO:=fun L S R=>t L S λ ds S1=>∃ d xs,ds=[d]/\zH d S1=some xs/\R ⟨uK 0 xs,λ S=>zH d S=some xs⟩ S1
def Ud (hm:X.mg "enumerate"=none) (ha:yZ X [a] tA) (hg:Gl X "enumerate") (hs:starEach [a] X.env=[(false,eval a X.env)]):
  vP X (.Tuple es kk pos') (.Call (.Name "enumerate" p) [a] [] pos) (c8 tA):=by
 refine⟨fun L S Q Q' hq z=>ha.mo L S _ _ (λ ds S1 ⟨d,xs,h1,h2,h4⟩=>⟨d,xs,h1,h2,hq _ _ h4⟩) z,PI.imp (WV hg hm ha.pa hs) fun Y H R hu=>?_⟩;obtain⟨L,S,r1,r2,z⟩:=hu;refine xT.go ha.mo r1 r2 z λ ds S1 vs H1 h1 q1 e1 p1=>?_;obtain⟨d,xs,rfl,s1,h⟩:=h1;obtain⟨v,rfl,d1⟩:=q1.one;obtain⟨a1,us,rfl,g1,g2⟩:=zH.k d1 p1 s1;refine⟨a1,rF d,rfl,⟨us,g1⟩,h _ H1 e1 p1 λ i H2 S2 x1 x2 hk=>?_⟩;obtain⟨b1,Iv,q1,m1,m2⟩:=zH.k (ze.ext x1 d d1) x2 hk;cases q1;have l1:=m2.length;refine⟨λ dd hd=>?_,λ hl=>⟨Iv,m1,?_⟩⟩
 .rw[bE,Nat.zero_add] at hd;obtain⟨dx,hx,rfl⟩:=AJ.mp hd;obtain⟨x,HZ,rx⟩:=m2.get hx;refine⟨⟨Iv,x,m1,HZ⟩,λ v H' q=>?_⟩;obtain⟨pp,x',rfl,hp,rfl,f1⟩:=q;have ex:x'=x:=by have:=f1 _ m1;rw[HZ] at this;exact (A7 this).symm
  subst ex;refine⟨.new hp _,x2.new hp,?_⟩;simp only[ze];exact⟨pp,_,rfl,zN.of yr,zh.ext (.new hp _) _ (.cons (by simp only[ze]) (.cons rx .nil))⟩
 .have Gn:(uK 0 xs).length<=i:=hl;rw[bD] at Gn;lia
@[simp] noncomputable def sR:List T->Option (List T)
 | [x]=>(xE x).map λ xs=>sQ 0 xs
 | _=>none
def SG {g:Ev->Option (List T)}(h:s_ g tA):sZ false (xt sR g) (c8 tA):=λ S Z L J ts Q hE e hq=>by
 obtain⟨ys,e1,e2⟩:=Ak.mp e;refine h S Z L J ys _ hE e1 λ ds S1 s1 r1=>?_;unfold sR at e2;split at e2
 .obtain⟨xs,e3,rfl⟩:=AJ.mp e2;obtain⟨d,rfl,h1⟩:=v7 r1;obtain⟨es,g1,g2⟩:=h1.seq e3;exact⟨d,es,rfl,g1,hq _ S1 s1 (fD 0 g2) λ Ih s=>zH.sx g1 s⟩
 .cases e2
end
end L5
namespace TM
open PySem PyProof.Rows
def Nt (i:Int) (t:Tok) (l:Addr) (items:An) (n:Nat) (dd:Option Addr) (sl:Array (Option Value)):
  Meets (Builtin.«int.__rmul__» ⟨[.int i t,.ref l],[]⟩) (λ _ R s=>s.heap.get? l=some { cls:=.type "list",dict:=dd,data:=.seq items n,slots:=sl }/\R (.ok (.ret Value.notImplemented)) s):=
 .of_wp λ prog w A R s h=>by
  obtain⟨hp,g,d,tk,os⟩:=s;obtain⟨hl,h⟩:=h
  wp_walk
  exact⟨_,rfl,h⟩
def mulL (l:Addr) (items:An) (n:Nat) (x:Int) (u:Tok) (dd:Option Addr) (sl:Array (Option Value)) (hc0:¬(!Builtin.List.listFitsIndex x)=true) (HD:¬items.size*x.toNat>(2 ^ 63-1)/8) (Gi:¬Builtin.List.listTooLong (items.size*x.toNat)=true):
  Meets (Builtin.«list.__mul__» ⟨[.ref l,.int x u],[]⟩) (λ _ R s=>s.heap.get? l=some { cls:=.type "list",dict:=dd,data:=.seq items n,slots:=sl }/\R (.ok (.ret (Value.ref s.heap.objs.size))) { s with heap:=s.heap.push { cls:=.type "list",data:=.seq (List.foldl (λ x1 x2=>x1++x2) #[] (List.replicate (if items.isEmpty=true then 0 else x.toNat) items)) } }):=
 .of_wp λ prog w A R s h=>by
  obtain⟨hp,g,d,tk,os⟩:=s;obtain⟨hl,h⟩:=h;have hsz:=AutoListH.joined_fits Gi
  wp_walk;refine wpAny_ite_false (KA (Nat.not_lt.mpr hsz)) ?_;wp_walk;exact⟨_,rfl,h⟩
section
variable {prog:Program}{w:World}{A:Around}{E:Af}{s:Shared}
def YY {l:Addr}{its:Ad}{k:Int}{t:Tok}{Q:Af}(ht:PlainL s.heap l its.toArray) (Ar:its≠[]) (h0:0<=k) (hz:its.length*k.toNat<=sizeLine)  (hk:k<=1000000)
  (more:Q (.ref s.heap.objs.size) { s with heap:=s.heap.push { cls:=.type "list",data:=.seq (List.replicate k.toNat its).flatten.toArray } }):
  wpAny (model prog w) A (binaryOp .Mult (.ref l) (.int k t)) Q E s:=by
 obtain⟨⟨cls,dd,data,sl⟩,n,ho,hc,he,hd⟩:=id ht;simp only at hc hd he;subst hc hd he;have hl:sizeLine=16777216:=rfl;have DQ:its.toArray.isEmpty=false:=by cases its with
  | nil=>exact absurd rfl Ar
  | cons a r=>rfl
 have hf:List.foldl (λ x1 x2=>x1++x2) #[] (List.replicate (if its.toArray.isEmpty=true then 0 else k.toNat) its.toArray)=(List.replicate k.toNat its).flatten.toArray:=by
  rw[DQ,if_neg (by decide)];have:=j_ its k.toNat #[];simpa using this
 refine wpAny_binaryOp_repeat_ref (T:="list") (U:="int") (by decide) ⟨_,ho,rfl⟩ (λ s'=>typeIs_int s' k t) noFill_list_mul F.fills_int_mul F.slot_int_rmul repeat_list F.slot_int_index.lookup
  (call_meets F.slot_int_rmul (typeIs_int s k t) F.entry_int_rmul (F.args_int_rmul_2 _ _) (Nt k t l its.toArray n none sl)
   ⟨ho,rfl,⟨_,ho,rfl⟩,call_meets F.slot_list_mul ⟨_,ho,rfl⟩ F.entry_list_mul (F.args_list_mul_2 _ _)
    (mulL l its.toArray n k t none sl (by simp[Builtin.List.listFitsIndex];lia) (by simp;lia) (by simp[Builtin.List.listTooLong];lia)) ⟨ho,?_⟩⟩)
 rw[hf];exact more
end
end TM
namespace L2
open PySem PySem.Spec PyProof.Rows
def ji (K:Ac):R2:=λ x y H Q=>∃ a k xs,x=.ref a/\y=.int k/\zJ K H a xs/\xs≠[]/\0<=k/\k<=1000000/\xs.length*k.toNat<=sizeLine/\∀ p,H p=none->Q (.ref p) (upd H p (.lst (List.replicate k.toNat xs).flatten))
def T7 {X:Cx}:zT X (binaryOp .Mult) (ji X.K):=by
 intro EV s Y H x y v u Q I rx ry h;obtain⟨a,k,xs,rfl,rfl,hx,Ar,h1,h2,hz,q⟩:=h;cases rx;obtain⟨t,rfl⟩:=ry;obtain⟨its,r,ht,_⟩:=I.list hx;have hl:=r.length;refine TM.YY ht (λ z=>Ar (r.og.mp z)) h1 (by rw[<- hl];exact hz) h2 ?_;have hlen:(List.replicate k.toNat xs).flatten.length<=sizeLine:=by
  have:(List.replicate k.toNat xs).flatten.length=k.toNat*xs.length:=by simp
  rw[this,Dt];exact hz
 exact⟨.ref _,_,I.laid (t':=s.toks) (o:=.lst (List.replicate k.toNat xs).flatten) (λ b ob q=>Ky _ q) (Ah _) ⟨hlen,_,0,r.rep k.toNat,AG _ rfl⟩,rfl,q _ (I.zr.fresh (Ah _))⟩
end L2
namespace L5
open PySem PySem.Spec L2 L3
open PyProof.Rows hiding St
section
variable {X:Cx}{K:Ac}{a b:Expr}{ta tb:zo}{pos:Pos}
noncomputable def PC:D->Bool
 | .tup _=>true
 | _=>false
def lq:y7:=λ x y S Q=>∃ k ds,y=.int k/\PC x=false/\zH x S=some ds/\(ds≠[]/\0<=k/\k<=1000000/\ds.length*k.toNat<=sizeLine)/\∀ p,S p=none->Q (.ref p) (ups S p (.lst (List.replicate k.toNat ds).flatten))
def sP:y7:=λ x y S Q=>uH x y S Q\/lq x y S Q
noncomputable def uA:T->T->Option T
 | .lst ts,.int k=>if ts≠[]/\0<=k/\k<=1000000/\ts.length*k.toNat<=sizeLine then some (.lst (List.replicate k.toNat ts).flatten) else none
 | x,y=>j4 x y
theorem sP.mo:xi sP:=λ x y S Q Q' hq h=>by
 rcases h with h | ⟨k,ds,h1,h2,h3,h4,h5⟩
 .exact .inl (uH.mo x y S Q Q' hq h)
 .exact .inr ⟨k,ds,h1,h2,h3,h4,λ p hp=>hq _ _ (h5 p hp)⟩
def lq.fits:xj K lq (ji K):=λ x y d e H S Q h1 h2 h3 h=>by
 obtain⟨k,ds,rfl,ht,hs,⟨c1,c2,c3,c4⟩,h⟩:=h;simp only[ze] at h2;obtain⟨a,xs,rfl,g1,g2⟩:=sA h1 h3 hs λ ts z=>by subst z;cases ht
 have hl:=g2.length;refine⟨a,k,xs,rfl,h2,g1,λ z=>c1 (by subst z;cases ds with | nil=>rfl | cons _ _=>simp at hl),c2,c3,by rw[<- hl];exact c4,λ p hp=>?_⟩;exact h p (h3.none hp) _ _ (by simp only[ze]) (.new hp _) (h3.ups (.new hp _) ⟨_,yr,zh.ext (.new hp _) _ (zh.rep g2 _)⟩)
theorem sP.fits:xj K sP (λ x y H Q=>(rI v5 (λ i j=>.int (i*j)) x y H Q\/jh K x y H Q)\/ji K x y H Q):=λ x y d e H S Q h1 h2 h3 h=>by
 rcases h with h | h
 .exact .inl (uH.fits x y d e H S Q h1 h2 h3 h)
 .exact .inr (lq.fits x y d e H S Q h1 h2 h3 h)
def Ow:Good2 zA uA sP:=λ S Z x y z d e Q hz hx hy ef hq=>by
 unfold uA at ef;split at ef
 .rename_i ts k;split at ef
  .rename_i hc;cases ef;obtain⟨ds,g1,g2⟩:=hx.seq (ts:=ts) rfl;cases hy.int;have hl:=g2.len;refine .inr ⟨_,ds,rfl,?_,g1,⟨λ q=>hc.1 (by subst q;simpa using hl.symm),hc.2.1,hc.2.2.1,by rw[hl];exact hc.2.2.2⟩,λ p hp=>hq _ _ (.new hp _) (uz hz hp (zg.rep g2 _))⟩;cases d with
   | tup es=>exact absurd hx (by
     intro q;rcases q with q | ⟨us,p,FW,_,q,_⟩
     .simp only[Sn] at q;obtain⟨_,⟨q,_⟩ | ⟨_,q,_⟩,_⟩:=q <;> cases q
     .cases q)
   | _=>rfl
  .cases ef
 .exact .inl (cZ S Z x y z d e Q hz hx hy ef hq)
def U6 (ha:PD X a ta) (hb:PD X b tb):PD X (.BinOp a .Mult b pos) (yc sP ta tb):=sE ((TB.or T6).or T7) sP.fits sP.mo ha hb
end
end L5
namespace L3
open PySem PySem.Spec PyProof.Rows L2
section
variable {X:Cx}{K:Ac}{e o:Expr}{te to:zo}{apos Ae:Pos}
def sV (to te:zo):zo:=fun L S Q=>to L S λ x S1=>match x with
 | .ref p=>(∃ ds,S1 p=some (.lst ds))/\te L S1 λ y S2=>∃ q ds es,y=.ref q/\S2 p=some (.lst ds)/\S2 q=some (.lst es)/\ds.length+es.length<=sizeLine/\Q .zm (ups S2 p (.lst (ds++es)))
 | _=>False
def sV.mo (h:zV to) (h':zV te):zV (sV to te):=fun L S Q Q' hq z=>h L S _ _ (λ x S1 z=>by
 cases x with
 | ref p=>exact⟨z.1,h' L S1 _ _ (λ y S2 ⟨q,ds,es,a,b,c,d,w⟩=>⟨q,ds,es,a,b,c,d,hq _ _ w⟩) z.2⟩
 | _=>exact z) z
def Tc {e0:Expr}(C6:PE X e0 (mq X.K "list" eJ (zC X.K to) (mn (zC X.K te) ml))) (h:zV to) (h':zV te):PD X e0 (sV to te):=by
 refine⟨sV.mo h h',PE.imp C6 fun Y H Q hu=>?_⟩;obtain⟨L,S,r1,r2,z⟩:=hu;refine zC.go h r1 r2 z λ x S1 v H1 h1 q1 e1 p1=>?_;cases x with
 | ref p=>
  obtain⟨⟨ds,hd⟩,h1⟩:=h1;simp only[ze] at q1;subst q1;obtain⟨xs,g1,g2⟩:=p1 _ _ hd;refine⟨.inl ⟨rfl,xs,zJ.of g1⟩,?_⟩;refine zC.go h' (r1.ext e1) p1 h1 λ y S2 w H2 h2 q2 e2 p2=>?_;obtain⟨q,G4,es,rfl,b1,b2,b3,b4⟩:=h2;simp only[ze] at q2;subst q2;obtain⟨Fd,g3,g4⟩:=p2 _ _ b1;obtain⟨Iq,g5,g6⟩:=p2 _ _ b2;refine⟨p,q,Fd,Iq,rfl,rfl,g3,g5,by rw[<- g4.length,<- g6.length];exact b3,?_⟩;have e4:Ext H2 (upd H2 p (.lst (Fd++Iq))):=.lst g3 _;exact b4 _ _ (by simp only[ze]) ((e1.trans e2).trans e4) (p2.ups e4 ⟨_,yr,zh.ext e4 _ (g4.append g6)⟩)
 | _=>exact h1.elim
def UC (ho:PD X o to) (he:PD X e te)
  (FC:attributeBase o "extend" X.env (eval o X.env)=eval o X.env)
  (AD:((backTo Ae (starEach [e] X.env)).all (λ x=>!x.1)&&(backToKw Ae (keywordEach [] X.env)).all (λ x=>x.1.isSome)
   && decide ([e].length+([]:List Keyword).length+(if ([]:List Keyword).isEmpty then 0 else 1)<30))=true)
  (Fz:(apos.endLine == Ae.line)=true) (hs:starEach [e] X.env=(false,eval e X.env)::starEach [] X.env) (Fg:(backTo Ae (starEach [] X.env)).any (·.1)=false):
  PD X (.Call (.Attribute o "extend" apos) [e] [] Ae) (sV to te):=
 Tc (jo PySem.F.plainAttrs_list PySem.F.slot_list_extend PySem.F.type_list_extend QJ ho.pe (tB he.pe sF hs) FC AD Fz hs Fg) ho.mo he.mo
end
end L3
namespace L5
open PySem L2 L3
@[simp] noncomputable def ie (i:Nat) (f:Ev->Option T):Sm:=fun J=>match J[i]? with
 | some (some (.own (.lst ts)))=>(f J).bind λ y=>match y with
  | .lst us=>if ts.length+us.length<=sizeLine then some (.nx (J.set i (some (.own (.lst (ts++us)))))) else none
  | _=>none
 | _=>none
section
variable {R:Rk}{f:Ev->Option T}{te:zo}
def Sq (i:Nat) (hf:xh f te):ye R (ie i f) (oX (sV (yb i) te)):=λ S0 Z0 S Z L J o E F e P=>by
 unfold ie at e;split at e
 .rename_i ts h;obtain⟨y,e1,e2⟩:=Ak.mp e;split at e2
  .rename_i us;split at e2
   .rename_i hl;cases e2;obtain⟨p,ob,h1,h2,h3,h4⟩:=F.er.ow i _ h;obtain⟨ds,rfl⟩:∃ ds,ob=.lst ds:=by
     cases ob with
     | lst ds=>exact⟨ds,rfl⟩
     | zS _=>exact h3.elim
    replace h3:zg (zI S Z) ts ds:=h3;show sV (yb i) te L S _;unfold sV yb;rw[h1];refine⟨⟨ds,h2⟩,hf S Z L J _ _ F.er e1 λ d S1 s1 r1=>?_⟩;obtain⟨q,es,rfl,g1,g2,g3⟩:=r1.2 us rfl;have F1:=F.grow s1;have g4:zg (zI S1 Z) us es:=zg.sx (uF λ a z=>.inl z) us g3;refine⟨q,ds,es,rfl,s1 _ _ h2,g2,by rw[h3.len,g4.len];exact hl,P _ Z L (F1.mut (us:=.lst (ts++us)) (es:=.lst (ds++es)) i h h1 ((zg.sx (xW s1) ts h3).append g4))⟩
   .cases e2
  .cases e2
 .cases e
end
section
variable {α:Type}{P:List α->Prop}
def Mz (h:∀ a,P [a]) (us:List α) (hl:us.length=1):P us:=match us,hl with | [a],_=>h a
def My (h:∀ a b,P [a,b]) (us:List α) (hl:us.length=2):P us:=match us,hl with | [a,b],_=>h a b
def Mx (h:∀ a b c,P [a,b,c]) (us:List α) (hl:us.length=3):P us:=match us,hl with | [a,b,c],_=>h a b c
def Mw (h:∀ a b c d,P [a,b,c,d]) (us:List α) (hl:us.length=4):P us:=match us,hl with | [a,b,c,d],_=>h a b c d
end
end L5
namespace L5
open PySem PySem.Spec L2 L3
open PyProof.Rows hiding St
section
variable {P:Program}{w:World}{K:Ac}{mg:AI}{base h:Heap}{x:Str}{st:Stmt}
def Fx (K:Ac) (x:Str) (st:Stmt):Prop:=∃ (f:Addr) (oc:Value) (od:Option Addr) (kV dc pm:Value) (an:Option Addr) (cd ct:Value) (sl:Array (Option Value)),
 PySem.W.nsIn K mainGlobals x=some (some (.ref f))/\K.lookup f=some ⟨oc,od,.func (PySem.W.fnOf x x (uM st) (xZ st) (yg st) .none kV dc pm an cd ct),sl⟩/\PySem.W.codeIn K cd x=true/\PySem.W.keepIn K (.ref f)=true
def Fx.i {f:Addr}{oc:Value}{od:Option Addr}{kV dc pm:Value}{an:Option Addr}{cd ct:Value}{sl:Array (Option Value)}(a:PySem.W.nsIn K mainGlobals x=some (some (.ref f))) (l:K.lookup f=some ⟨oc,od,.func (PySem.W.fnOf x x (uM st) (xZ st) (yg st) .none kV dc pm an cd ct),sl⟩) (c:PySem.W.codeIn K cd x=true) (k:PySem.W.keepIn K (.ref f)=true):Fx K x st:=⟨f,oc,od,kV,dc,pm,an,cd,ct,sl,a,l,c,k⟩
def Fy (K:Ac) (mg:AI) (x:Str) (st:Stmt):Prop:=∃ (f:Addr) (fd:FuncData),vQ K x x st f fd/\mg x=some (.ref f)
def Fx.mk (H:Fx K x st) (X:K.In h) (G:h.Ns mainGlobals mg):Fy K mg x st:=by
 obtain⟨f,oc,od,kV,dc,pm,an,cd,ct,sl,a,l,c,k⟩:=H;exact⟨f,_,bj l c k,PySem.W.mg_of X G a⟩
theorem Fx.law {fa:Addr}{p:Str}(H:Fx K "law" st) (X:K.In h) (G:h.Ns mainGlobals mg) (EK:mg "law"=some (.ref fa)) (hb:∀ (kV dc pm:Value) (an:Option Addr) (cd ct:Value) (s:Shared) (v:Value),BindsTo s (PySem.W.fnOf "law" "law" (uM st) (xZ st) (yg st) .none kV dc pm an cd ct) ⟨[v],[]⟩ [(p,v)]):∃ fd:FuncData,vQ K "law" "law" st fa fd/\∀ (s:Shared) (v:Value),BindsTo s fd ⟨[v],[]⟩ [(p,v)]:=by
 obtain⟨f,oc,od,kV,dc,pm,an,cd,ct,sl,a,l,c,k⟩:=H;have e:=EK.symm.trans (PySem.W.mg_of X G a);cases e;exact⟨_,bj l c k,hb kV dc pm an cd ct⟩
def Cn (K:Ac) (x:Str) (t:V):Prop:=∃ u,PySem.W.nsIn K mainGlobals x=some (some u)/\L2.RelV t u
def Cn.i {t:V}{u:Value}(a:PySem.W.nsIn K mainGlobals x=some (some u)) (r:L2.RelV t u):Cn K x t:=⟨u,a,r⟩
def Cn.mk {t:V}(H:Cn K x t) (X:K.In h) (G:h.Ns mainGlobals mg):∃ u,mg x=some u/\L2.RelV t u:=by
 obtain⟨u,a,r⟩:=H;exact⟨u,PySem.W.mg_of X G a,r⟩
def OP {R:Rk} [Lo R] {N ps:List Str}{k n:Nat}{g:Sm}(F:Fy K mg x st) (Sc:uX N ps (yg st)) (hn:n=ps.length)
  (hb:∀ (kV doc pm:Value) (an:Option Addr) (Am ct:Value) (us:Ad),us.length=ps.length->bindArgs (PySem.W.fnOf x x (uM st) (xZ st) (yg st) .none kV doc pm an Am ct) ⟨us,[]⟩=pure (ps.zip us))
  (Fh:∀ (f:Addr) (Am:Value) (A:Around) (outer:List Env) (s:Shared) (H:Hp) (E:XK),yd k (A.deeper (envOfC x (yg st) s.heap.objs.size f Am))->
   ∃ t,wJ (wo xx P w K mg base N x (yg st) f Am A outer s H E).wQ (xZ st) t/\ye R g t):FD P w K mg base x (k+1) ps (zG R (zO N n g)):=by
 obtain⟨f,fd,F,hm⟩:=F;exact OQ F hm Sc hn hb (Fh f)
end
end L5
namespace L2
open PySem PySem.Spec PyProof.Rows
def k8 (lo c:Int) (n:Nat):It:=⟨λ i _=>i<n,λ i H x H'=>H'=H/\x=.int (lo+i*c),λ i _=>n<=i⟩
def YQ {P:Program}{w:World}{K:Ac}{tg:Expr}(it:Addr) (lo c:Int) (n:Nat):Turn P w K tg (k8 lo c n) [it] it (λ i h=>IsRangeIter h it (lo+(i:Nat)*c) ((n:Int)-(i:Nat)) c) where
 mem:=by simp
 obj:=λ i h st b hb=>by
  have e:b=it:=by simpa using hb
  subst e;exact⟨_,st,λ v z=>by
   have z':Data.fields _=Data.cell v:=z;cases z'⟩
 keep:=λ i h h' st k=>k it (by simp) _ st
 item:=by
  intro X hP hw hK hc i EV s Y H E I hf st hg;subst hP hw hK;obtain⟨f0,f1,f2,f3,f4,f5⟩:=hf it (by simp);have W:=Walks.range (prog:=X.prog) (w:=X.w) (I.ok.hd hc) it lo c n;refine W.item i s _ _ hg st λ v h' tk hv GC kk=>?_;obtain⟨t,rfl⟩:=hv;have I1:Inv X EV Y H { s with heap:=h',toks:=tk }:=I.turned (λ b o hb e=>kk b o (by simpa using hb) e) f0 f1 f3 f4 f5;exact⟨_,rfl,lh (s:={ s with heap:=h',toks:=tk }) (n:="range_iterator") GC rfl rfl (by decide) ⟨.int (lo+i*c),H,I1,⟨t,rfl⟩,⟨rfl,rfl⟩,GC,λ b hb=>(hf b hb).1⟩⟩
 done:=by
  intro X hP hw hK hc i EV s Y H E I hf st hg;subst hP hw hK;obtain⟨f0,f1,f2,f3,f4,f5⟩:=hf it (by simp);exact wpAny_pyNext_range_end (I.ok.hd hc) st (by have:n<=i:=hg;lia) λ h' eb=>⟨rfl,I.turned (t':=s.toks) (λ b o hb e=>eb b o hb e) f0 f1 f3 f4 f5⟩
 self:=λ _ _ _ _ _ st h=>wpAny_pyIter_rangeiter st h
noncomputable def vX (i j c:Int):Nat:=if i<j then ((j-i-1)/c+1).toNat else 0
def dI {i j c:Int}(hc:0<c):((vX i j c:Nat):Int)=Builtin.Range.rangeSize i j c:=by
 unfold vX Builtin.Range.rangeSize;rw[if_pos hc];split
 .rename_i h;have:0<=(j-i-1)/c:=Int.ediv_nonneg (by lia) (by lia);lia
 .rfl
def XF {a b c:Int}(ha:-(2 ^ 31)<=a) (ha':a<2 ^ 31) (hb:-(2 ^ 31)<=b) (HQ:b<2 ^ 31) (hc:0<c) (Ka:c<1000000):Builtin.Range.small a b c=true:=by
 have e:=dI (i:=a) (j:=b) hc;have h1:(b-a-1)/c<=(b-a-1)\/¬ a<b:=by
  by_cases h:a<b
  .exact .inl (Int.ediv_le_self _ (by lia))
  .exact .inr h
 have h2:0<=Builtin.Range.rangeSize a b c/\Builtin.Range.rangeSize a b c<=2 ^ 33:=by
  refine⟨by lia,?_⟩;unfold Builtin.Range.rangeSize;rw[if_pos hc];split <;> lia
 have h3:Builtin.Range.rangeSize a b c*c<=2 ^ 33*1000000:=by
  refine Int.le_trans (D0 h2.2 (by lia)) ?_;exact Int.mul_le_mul_of_nonneg_left (by lia) (by decide)
 have h4:0<=Builtin.Range.rangeSize a b c*c:=Dm h2.1 (by lia);unfold Builtin.Range.small;simp only[Builtin.Range.rangeFitsLong,Br,Dv,decide_eq_true_eq,beq_iff_eq,hc,if_true];lia
section
variable {X:Cx}{tg:Expr}
def Wh {EV:Ag}{Y:St}{H:Hp}{s:Shared}{R:It->Hp->Prop}{E:Af}{lo hi c:Int}{t u v:Tok}{tk:Nat}(I:Inv X EV Y H s) (h1:-(2 ^ 31)<=lo) (h2:lo<2 ^ 31) (h3:-(2 ^ 31)<=hi) (h4:hi<2 ^ 31) (h5:0<c) (h6:c<1000000)
  (q:R (k8 lo c (vX lo hi c)) H):wpAny (model X.prog X.w) X.A (pyIter (.ref s.heap.objs.size)) (iY X EV Y tg R) E { s with heap:=s.heap.push { cls:=.type "range",data:=.fields #[.int lo t,.int hi u,.int c v] },toks:=tk }:=by
 refine wpAny_pyIter_range (IsRange.new ..) (XF h1 h2 h3 h4 h5 h6) ?_;have I1:Inv X EV Y H { s with heap:=s.heap.push { cls:=.type "range",data:=.fields #[.int lo t,.int hi u,.int c v] },toks:=tk }:=I.kept λ b o e=>Ky _ e;refine⟨(s.heap.push { cls:=.type "range",data:=.fields #[.int lo t,.int hi u,.int c v] }).objs.size,[(s.heap.push { cls:=.type "range",data:=.fields #[.int lo t,.int hi u,.int c v] }).objs.size],_,_,H,rfl,
  I1.kept (t':=tk) λ b o e=>Ky _ e,YQ _ lo c (vX lo hi c),?_,λ b hb=>?_,q⟩
 .have e1:lo+((0:Nat):Int)*c=lo:=by simp
  have e2:((vX lo hi c:Nat):Int)-((0:Nat):Int)=Builtin.Range.rangeSize lo hi c:=by rw[dI h5];simp
  show IsRangeIter _ _ (lo+((0:Nat):Int)*c) (((vX lo hi c:Nat):Int)-((0:Nat):Int)) c;rw[e1,e2];exact AG _ rfl
 .have e:b=(s.heap.push { cls:=.type "range",data:=.fields #[.int lo t,.int hi u,.int c v] }).objs.size:=by simpa using hb
  subst e;exact I1.o8 (Ah _) (I1.zr.fresh (Ah _))
def Od (ta:TA):TI:=fun Y H R=>ta Y H λ vs H1=>∃ i j c:Int,vs=[.int i,.int j,.int c]/\(-(2 ^ 31)<=i/\i<2 ^ 31/\-(2 ^ 31)<=j/\j<2 ^ 31/\0<c/\c<1000000)/\R (k8 i c (vX i j c)) H1
def WT {a b c:Expr}{ta:TA}{p pos:Pos}(hg:Gl X "range") (hm:X.mg "range"=none) (ha:PA X [a,b,c] ta) (hs:starEach [a,b,c] X.env=[(false,eval a X.env),(false,eval b X.env),(false,eval c X.env)]:=by rfl) (GD:starEach [b,c] X.env=[(false,eval b X.env),(false,eval c X.env)]:=by rfl):
  PI X tg (.Call (.Name "range" p) [a,b,c] [] pos) (Od ta):=by
 intro EV s Y H R I h;refine Call_ (tJ I hg hm boot_range (PyProof.Rows.callWith_type1 (zv (ha pos EV s Y H _ I h) λ us s1 ⟨vs,H1,I1,r1,q1⟩=>?_) (by rw[hs,GD]) (by rw[GD];rfl)));obtain⟨i,j,c,e,⟨q1,q2,q3,q4,q5,q6⟩,q⟩:=q1;subst e;cases r1 with
 | cons r rr=>
  cases rr with
  | cons r' rr=>
   cases rr with
   | cons r2 rr=>
    cases rr;obtain⟨t,rfl⟩:=r;obtain⟨t',rfl⟩:=r';obtain⟨t2,rfl⟩:=r2;exact call_range_3 (by lia) (Wh I1 q1 q2 q3 q4 q5 q6 q) (.inl (PyProof.noPylong_small (by lia)))
end
end L2
namespace L3
open PySem PySem.Spec L2
open PyProof.Rows hiding St
section
variable {X:Cx}{K:Ac}{tg e a b c:Expr}{es:List Expr}{tA:z_}{pos p:Pos}
noncomputable def t8 (lo c:Int) (n:Nat):List D:=(List.range n).map λ(k:Nat)=>D.int (lo+(k:Int)*c)
def Wm {lo c:Int}{n i:Nat}{d:D}(h:(t8 lo c n)[i]?=some d):i<n/\d=.int (lo+(i:Int)*c):=by
 unfold t8 at h;rw[AE] at h;cases q:(List.range n)[i]? with
 | none=>rw[q] at h;cases h
 | some k=>
  rw[q] at h;obtain⟨h1,h2⟩:=AM.mp q;rw[Ce] at h1;rw[Dw] at h2;subst h2;cases h;exact⟨h1,rfl⟩
def nB.Wj {H1:Hp}{lo c:Int}{n:Nat}:nB K H1 (k8 lo c n) ⟨t8 lo c n,λ _=>True⟩:=λ i H S _ x2 _=>by
 refine⟨λ d hd=>?_,λ hl=>by rw[show (p8.mk (t8 lo c n) λ _=>True).items=t8 lo c n from rfl] at hl;unfold t8 at hl;rw[AB,Ce] at hl;exact hl⟩;obtain⟨h1,rfl⟩:=Wm hd;refine⟨h1,λ x H' q=>?_⟩;obtain⟨rfl,rfl⟩:=q;exact⟨.refl _,x2,by simp only[ze]⟩
def c7 (t:z_):xO:=fun L S R=>t L S λ ds S1=>match ds with
 | [.int i,.int j,.int c]=>(-(2 ^ 31)<=i/\i<2 ^ 31/\-(2 ^ 31)<=j/\j<2 ^ 31/\0<c/\c<1000000)/\R ⟨t8 i c (vX i j c),λ _=>True⟩ S1
 | _=>False
def zh.three {H:Hp}{d d' d2:D}{xs:List V}(h:zh K H [d,d',d2] xs):∃ x y z,xs=[x,y,z]/\ze K H d x/\ze K H d' y/\ze K H d2 z:=by
 simp only[zh] at h;obtain⟨x,r,rfl,h1,y,r',rfl,h2,z,r2,rfl,h3,rfl⟩:=h;exact⟨x,y,z,rfl,h1,h2,h3⟩
def Ua (hm:X.mg "range"=none) (ha:yZ X [a,b,c] tA) (hg:Gl X "range") (hs:starEach [a,b,c] X.env=[(false,eval a X.env),(false,eval b X.env),(false,eval c X.env)]) (GD:starEach [b,c] X.env=[(false,eval b X.env),(false,eval c X.env)]):vP X tg (.Call (.Name "range" p) [a,b,c] [] pos) (c7 tA):=by
 refine⟨fun L S Q Q' hq z=>ha.mo L S _ _ (λ ds S1 z=>?_) z,PI.imp (WT hg hm ha.pa hs GD) fun Y H R hu=>?_⟩
 .split at z
  .exact⟨z.1,hq _ _ z.2⟩
  .exact z.elim
 .obtain⟨L,S,r1,r2,z⟩:=hu;refine xT.go ha.mo r1 r2 z λ ds S1 xs H1 h1 q1 e1 p1=>?_;split at h1
  .obtain⟨x,y,w,rfl,q,q',q2⟩:=q1.three;simp only[ze] at q q' q2;subst q q' q2;exact⟨_,_,_,rfl,h1.1,h1.2 _ H1 e1 p1 .Wj⟩
  .exact h1.elim
def uJ:xn:=λ ds S Q=>match ds with
 | [.int i]=>Q (.int (if i<0 then -i else i)) S
 | _=>False
def uJ.mo:va uJ:=λ ds S Q Q' hq h=>by
 unfold uJ at h ⊢;split at h
 .exact hq _ _ h
 .exact h.elim
def uJ.fits:vR K uJ (λ xs H Q=>∃ i,xs=[.int i]/\Q (.int (if i<0 then -i else i)) H):=λ xs ds H S Q h0 h2 h=>by
 unfold uJ at h;split at h
 .obtain⟨x,rfl,h1⟩:=h0.one;simp only[ze] at h1;subst h1;exact⟨_,rfl,h _ H (by simp only[ze]) (.refl H) h2⟩
 .exact h.elim
def Tw (hm:X.mg "abs"=none) (ha:yZ X (e::es) tA) (hg:Gl X "abs") (he:starEach (e::es) X.env=(false,eval e X.env)::starEach es X.env) (Aq:(backTo pos (starEach es X.env)).any (·.1)=false):PD X (.Call (.Name "abs" p) (e::es) [] pos) (xv uJ tA):=
 u6 (t9 Ma hg hm boot_abs ha.pa (by decide) (by decide) he Aq) uJ.mo uJ.fits ha.mo
def uo (_ j:Int):Prop:=0<j/\j<2 ^ 200
def sf (i j:Int):Prop:=i.natAbs<2 ^ 200/\j.natAbs<2 ^ 200
instance (i j:Int):Decidable (uo i j):=by unfold uo;infer_instance
instance (i j:Int):Decidable (sf i j):=by unfold sf;infer_instance
def dZ {n:Nat}(h:n<2 ^ 200):n.log2<200:=by
 rcases D6 n with h0 | hp
 .rw[h0];decide
 .exact (Nat.log2_lt (Bw hp)).mpr h
def aJ {i:Int}(h:i.natAbs<2 ^ 200):Builtin.Int.intBits i<=2 ^ 20:=by
 have:=dZ h;unfold Builtin.Int.intBits;split <;> lia
def TN:zT X (binaryOp .FloorDiv) (rI uo λ i j=>.int (i/j)):=qx λ i j _ _ _ _ _ hc q=>by
 have h1:(0:Int)<j:=hc.1;have h2:j.natAbs<2 ^ 200:=by have:=hc.2;lia
 have h3:=dZ h2;exact floordiv_int (by lia) (by rw[Int.fdiv_eq_ediv_of_nonneg i (by lia)];exact q) (.inl (PyProof.noPylong_of_log2 (by lia)))
def T9:zT X (binaryOp .Mult) (rI sf λ i j=>.int (i*j)):=qx λ _ _ _ _ _ _ _ hc q=>mul_int q (PySem.IntMulOk.of_bits (aJ hc.1) (aJ hc.2))
variable {ta tb:zo}
def Ta (ha:PD X a ta) (hb:PD X b tb):PD X (.BinOp a .FloorDiv b pos) (yc (fI uo λ i j=>.int (i/j)) ta tb):=sE TN (fI.fits λ _ _ _=>by simp only[ze]) fI.mo ha hb
def U7 (ha:PD X a ta) (hb:PD X b tb):PD X (.BinOp a .Mult b pos) (yc (fI sf λ i j=>.int (i*j)) ta tb):=sE T9 (fI.fits λ _ _ _=>by simp only[ze]) fI.mo ha hb
end
end L3
namespace L5
open PySem PySem.Spec L2 L3
open PyProof.Rows hiding St
structure ZX (mg:AI):Prop extends Bq mg where
 abs:mg "abs"=none
@[simp] noncomputable def iU:List T->Option T
 | [.int i]=>some (.int (if i<0 then -i else i))
 | _=>none
def O6:vb zA iU uJ:=λ S Z ys z ds Q hz hv e hq=>by
 unfold iU at e;split at e
 .cases e;obtain⟨d,rfl,h1⟩:=v7 hv;cases h1.int;exact hq _ S (.refl S) (Cl.of (λ _=>nofun) xD)
 .cases e
@[simp] def xK:T->T->Option T:=sM uo λ i j=>.int (i/j)
@[simp] def vj:T->T->Option T:=sM sf λ i j=>.int (i*j)
def RX {fa fb:Ev->Option T}{ta tb:zo}(ha:yf fa ta) (hb:yf fb tb):xh (zb xK fa fb) (yc (fI uo λ i j=>.int (i/j)) ta tb):=tE (oz (λ _ _ _=>xD) λ _ _ _=>nofun) ha hb
def Rz {fa fb:Ev->Option T}{ta tb:zo}(ha:yf fa ta) (hb:yf fb tb):xh (zb vj fa fb) (yc (fI sf λ i j=>.int (i*j)) ta tb):=tE (oz (λ _ _ _=>xD) λ _ _ _=>nofun) ha hb
noncomputable def sL (j:Int):Bool:=decide (-1000000<=j)&&decide (j<1000000)
noncomputable def mE (lo c:Int) (n:Nat):List T:=(List.range n).map λ(k:Nat)=>T.int (lo+(k:Int)*c)
def XE {S:SS}(lo c:Int) (n:Nat):zg S (mE lo c n) (t8 lo c n):=by
 unfold mE t8
 induction List.range n with
 | nil=>exact .nil
 | cons k l ih=>exact .cons xD ih
noncomputable def pO:List T->Option (List T)
 | [.int i,.int j,.int c]=>if (sL i=true/\sL j=true)/\sL c=true/\0<c then some (mE i c (vX i j c)) else none
 | _=>none
def YC {S:SS}{Z:Addr->Prop}{a b c:T}{ds:List D}(h:qV S Z [a,b,c] ds):∃ d d' d2,ds=[d,d',d2]/\Vw S Z a d/\Vw S Z b d'/\Vw S Z c d2:=by
 obtain⟨d,cs,rfl,h1,d',cs2,rfl,h2,d2,cs3,rfl,h3,h4⟩:=h;cases h4;exact⟨d,d',d2,rfl,h1,h2,h3⟩
def SE {b:Bool}{g:Ev->Option (List T)}{tA:z_}(h:s_ g tA):sZ b (xt pO g) (c7 tA):=λ S Z L J ts Q hE e hq=>by
 obtain⟨ys,e1,e2⟩:=Ak.mp e;refine h S Z L J ys _ hE e1 λ ds S1 s1 r1=>?_;unfold pO at e2;split at e2
 .split at e2
  .rename_i hc;cases e2;obtain⟨d,d',d2,rfl,h1,h2,h3⟩:=YC r1;cases h1.int;cases h2.int;cases h3.int;simp only[sL,Br,decide_eq_true_eq] at hc;exact⟨⟨by lia,by lia,by lia,by lia,by lia,by lia⟩,hq _ S1 s1 (XE _ _ _) λ _ _=>trivial⟩
  .cases e2
 .cases e2
end L5
namespace L5
open PySem PySem.Spec L2 L3
noncomputable def wj:T->Bool
 | .err _ _ _=>true
 | _=>false
@[simp] theorem zai (c f:Str) (t:T):wj (.err c f t)=true:=rfl
@[simp] theorem zaf:wj .zm=false:=rfl
@[simp] theorem zak (b:Bool):wj (.bl b)=false:=rfl
@[simp] theorem zah (b:Int):wj (.int b)=false:=rfl
@[simp] theorem zae (b:Str):wj (.str b)=false:=rfl
@[simp] theorem zad (b:List T):wj (.tup b)=false:=rfl
@[simp] theorem zag (b:List T):wj (.lst b)=false:=rfl
@[simp] theorem zaj:wj .yR=false:=rfl
end L5
namespace ZP
open PySem PyProof.Rows
abbrev h_ (h:Heap) (z TI TO:Addr) (f0 f1:Value):Prop:=
 h.get? z=some { cls:=.type "zip",dict:=none,data:=.fields #[f0,f1,.bool false,.ref TI,.ref TO],slots:=#[] }
structure Bt (h:Heap) (k1 k2:Bool) (z TI TO i1 i2 l1 l2 T0:Addr) (n:Nat):Prop where
 z:∃ b:Bool,h_ h z TI TO (rawInt T0) (.bool b)
 ti:IsPair h TI (.ref i1) (.ref i2)
 to:∃ o,h.get? TO=some o
 s1:SI h k1 i1 l1 n
 s2:SI h k2 i2 l2 n
section
variable {prog:Program}{w:World}{A:Around}{E:Af}{s:Shared}
def Y8 {a:Addr}{o:Obj}{Q:Option Obj->Shared->Prop}(ha:s.heap.get? a=some o) (h:Q (some o) s):wpAny (model prog w) A (loadIfAlive a) Q E s:=fun Γ p _=>by
 show Q (s.heap.get? a) s;rw[ha];exact h
def d5 {z TI TO T0:Addr}{b:Bool}{o:Obj}{Q:Bool->Shared->Prop}(hz:h_ s.heap z TI TO (rawInt T0) (.bool b)) (h0:s.heap.get? T0=some o)
  (hQ:∀ h',h_ h' z TI TO (rawInt T0) (.bool true)->Heap.SameBut z s.heap h'->Q false { s with heap:=h' }):wpAny (model prog w) A (Builtin.SmallTypes.ownedTupleIsFree (.ref z)) Q E s:=by
 unfold Builtin.SmallTypes.ownedTupleIsFree;refine JA (m:=field (.ref z) 0) (Kz hz rfl (x:=rawInt T0) rfl ?_);refine JA (m:=loadIfAlive T0) (Y8 h0 ?_);simp only[Option.isNone_some,AY,if_false];refine JA (m:=field (.ref z) 1) (Kz hz rfl (x:=.bool b) rfl ?_);cases b with
 | true=>exact Ab (hQ _ hz ⟨rfl,λ _ _=>rfl⟩)
 | false=>
  refine JA (KS hz (by simp) λ g1 GZ e1=>Ab (hQ g1 GZ e1))
def PB {k1 k2:Bool}{z TI TO i1 i2 l1 l2 T0:Addr}{n:Nat}{xs ys:An}{x y:Value}{o0:Obj}{Q:Option Value->Shared->Prop}(D:uY z TI TO i1 i2 l1 l2) (S:Bt s.heap k1 k2 z TI TO i1 i2 l1 l2 T0 n)
  (h0:s.heap.get? T0=some o0) (h1:SQ s.heap k1 l1 xs) (h2:SQ s.heap k2 l2 ys) (hx:xs[n]?=some x) (hy:ys[n]?=some y)
  (hQ:∀ h',Bt h' k1 k2 z TI TO i1 i2 l1 l2 T0 (n+1)->IsPair h' s.heap.objs.size x y->(∀ c o,c∉[z,TI,TO,i1,i2]->s.heap.get? c=some o->h'.get? c=some o)->h'.objs.size=s.heap.objs.size+1->Q (some (.ref s.heap.objs.size)) { s with heap:=h' }):
  wpAny (model prog w) A (pyNext (.ref z)) Q E s:=by
 obtain⟨nd,f1,f2⟩:=D;simp only[Be,Aj,AR,or_false,not_or,CQ,and_true,not_false_eq_true] at nd f1 f2;obtain⟨⟨n1,n2,n3,n4⟩,⟨n5,n6,n7⟩,⟨n8,n9⟩,HJ⟩:=nd;obtain⟨a1,a2,a3,a4,a5⟩:=f1;obtain⟨b1,b2,b3,b4,b5⟩:=f2;obtain⟨⟨b,hz⟩,BV,⟨oT,CM⟩,s1,s2⟩:=S;have hT:s.TypeIs (.ref z) "zip":=⟨_,hz,rfl⟩
 unfold pyNext;refine JA (KU (KN (name:=Str.ofString "__next__") hT F.slot_zip_next (KD F.slot_zip_next hT F.entry_zip_next ?_ (F.args_zip_next_1 _))));refine JA (m:=field (.ref z) 2) (Kz hz rfl (x:=.bool false) rfl ?_);refine JA (m:=field (.ref z) 3) (Kz hz rfl (x:=.ref TI) rfl ?_);refine JA (m:=seqItems? (.ref TI)) (KL BV rfl ?_);refine JA (m:=Builtin.SmallTypes.ownedTupleIsFree (.ref z)) (d5 hz h0 λ g1 GZ e1=>?_);simp only[AY,if_false];refine JA ?_;simp only[List.forIn_toArray,Cj,CY];refine JA (JA (KC (JA (m:=Builtin.SmallTypes.nextOf (.ref i1)) (draw (s1.on λ o q=>e1.extBut _ _ (Ne.symm n3) q) (h1.on λ o q=>e1.extBut _ _ a1 q) hx λ g2 Jj e2=>Ab ?_))));refine Ab ?_;have up:∀ c o,c≠z->c≠i1->s.heap.get? c=some o->g2.get? c=some o:=λ c o c1 c2 q=>e2.extBut _ _ c2 (e1.extBut _ _ c1 q);refine JA (JA (KC (JA (m:=Builtin.SmallTypes.nextOf (.ref i2)) (draw (s2.on λ o q=>up _ o (Ne.symm n4) (Ne.symm HJ) q) (h2.on λ o q=>up _ o b1 b4 q) hy λ g4 JG e4=>Ab ?_))));refine Ab (Ab ?_);refine JA (wpAny_newTuple ?_ (show 2<=sizeLine by decide));have sz:g4.objs.size=s.heap.objs.size:=by rw[e4.1,e2.1,e1.1]
 refine Ab ⟨.ref g4.objs.size,rfl,Ab ?_⟩;show Q (some (.ref g4.objs.size)) _;rw[sz];have up4:∀ c o,c∉[z,TI,TO,i1,i2]->s.heap.get? c=some o->g4.get? c=some o:=λ c o hc q=>by
  simp only[Aj,AR,or_false,not_or] at hc;exact e4.extBut _ _ hc.2.2.2.2 (up c o hc.1 hc.2.2.2.1 q)
 refine hQ _ ⟨⟨true,Ky _ (e4.extBut _ _ n4 (e2.extBut _ _ n3 GZ))⟩,Ky _ (e4.extBut _ _ n7 (up _ _ (Ne.symm n1) n6 BV)),⟨oT,Ky _ (e4.extBut _ _ n9 (up _ _ (Ne.symm n2) n8 CM))⟩,Jj.on λ o q=>Ky _ (e4.extBut _ _ HJ q),JG.on λ o q=>Ky _ q⟩ ?_ (λ c o hc q=>Ky _ (up4 c o hc q)) (by rw[Heap.size_push,sz]);have:(g4.push { cls:=.type "tuple",data:=.seq #[x,y] }).get? g4.objs.size=some { cls:=.type "tuple",data:=.seq #[x,y] }:=AG _ rfl;rw[sz] at this;exact this
def X2 {k1 k2:Bool}{z TI TO i1 i2 l1 l2 T0:Addr}{n:Nat}{xs ys:An}{o0:Obj}{Q:Option Value->Shared->Prop}(hh:A.handled=none) (D:uY z TI TO i1 i2 l1 l2) (S:Bt s.heap k1 k2 z TI TO i1 i2 l1 l2 T0 n)
  (h0:s.heap.get? T0=some o0) (h1:SQ s.heap k1 l1 xs) (h2:SQ s.heap k2 l2 ys) (hx:xs[n]?=none)
  (hQ:∀ h',(∀ c o,c∉[z,TI,TO,i1,i2]->s.heap.get? c=some o->h'.get? c=some o)->Q none { s with heap:=h' }):
  wpAny (model prog w) A (pyNext (.ref z)) Q E s:=by
 obtain⟨nd,f1,f2⟩:=D;simp only[Be,Aj,AR,or_false,not_or,CQ,and_true,not_false_eq_true] at nd f1 f2;obtain⟨⟨n1,n2,n3,n4⟩,⟨n5,n6,n7⟩,⟨n8,n9⟩,HJ⟩:=nd;obtain⟨a1,a2,a3,a4,a5⟩:=f1;obtain⟨⟨b,hz⟩,BV,⟨oT,CM⟩,s1,s2⟩:=S;have hT:s.TypeIs (.ref z) "zip":=⟨_,hz,rfl⟩
 unfold pyNext;refine JA (KU (KN (name:=Str.ofString "__next__") hT F.slot_zip_next (KD F.slot_zip_next hT F.entry_zip_next ?_ (F.args_zip_next_1 _))));refine JA (m:=field (.ref z) 2) (Kz hz rfl (x:=.bool false) rfl ?_);refine JA (m:=field (.ref z) 3) (Kz hz rfl (x:=.ref TI) rfl ?_);refine JA (m:=seqItems? (.ref TI)) (KL BV rfl ?_);refine JA (m:=Builtin.SmallTypes.ownedTupleIsFree (.ref z)) (d5 hz h0 λ g1 GZ e1=>?_);simp only[AY,if_false];refine JA ?_;simp only[List.forIn_toArray,Cj,CY];refine JA (JA (KC (JA (m:=Builtin.SmallTypes.nextOf (.ref i1)) (oK hh (s1.on λ o q=>e1.extBut _ _ (Ne.symm n3) q) (h1.on λ o q=>e1.extBut _ _ a1 q) hx λ g2 ex e2 he=>?_))));obtain⟨oe,q1,q2⟩:=he;refine JA (K1 (T:="StopIteration") (b:=true) ⟨oe,q1,q2⟩ isSubtype_stop (Ab (hQ _ λ c o hc q=>?_)));simp only[Aj,AR,or_false,not_or] at hc;exact e2 _ _ hc.2.2.2.1 (e1.extBut _ _ hc.1 q)
end
def uU (h:Heap) (fp:List Addr) (N:Nat) (xs ys acc:An):Prop:=∀ (j:Nat) v,acc[j]?=some v->∃ b x y,v=.ref b/\(N<=b/\b∉fp)/\IsPair h b x y/\xs[j]?=some x/\ys[j]?=some y
def uU.on {h h':Heap}{fp:List Addr}{N:Nat}{xs ys acc:An}(p:uU h fp N xs ys acc) (k:∀ c o,c∉fp->h.get? c=some o->h'.get? c=some o):uU h' fp N xs ys acc:=λ j v e=>
 let ⟨b,x,y,e1,e2,e3,e4⟩:=p j v e;⟨b,x,y,e1,e2,k b _ e2.2 e3,e4⟩
theorem uU.push {h:Heap}{fp:List Addr}{N:Nat}{xs ys acc:An}{b:Addr}{x y:Value}(p:uU h fp N xs ys acc) (hb:N<=b/\b∉fp) (hi:IsPair h b x y) (hx:xs[acc.size]?=some x) (hy:ys[acc.size]?=some y):uU h fp N xs ys (acc.push (.ref b)):=λ j v e=>by
 rw[DZ] at e;split at e
 .rename_i q;cases e;subst q;exact⟨b,x,y,rfl,hb,hi,hx,hy⟩
 .exact p j v e
def Zt (h:Heap) (k1 k2:Bool) (z TI TO i1 i2 l1 l2:Addr) (acc:An):Prop:=
 (acc.size=0/\At h k1 k2 z TI TO i1 i2 l1 l2 .none 0)\/∃ T0,acc[0]?=some (.ref T0)/\Bt h k1 k2 z TI TO i1 i2 l1 l2 T0 acc.size
theorem Zt.lt {h:Heap}{k1 k2:Bool}{z TI TO i1 i2 l1 l2:Addr}{acc:An}(Z:Zt h k1 k2 z TI TO i1 i2 l1 l2 acc):∀ b∈[z,TI,TO,i1,i2],b<h.objs.size:=λ b hb=>by
 simp only[Aj,AR,or_false] at hb;rcases Z with ⟨_,S⟩ | ⟨_,_,S⟩
 .obtain⟨q1,q2,⟨_,_,q3⟩,q4,q5⟩:=S;rcases hb with e | e | e | e | e <;> subst e
  .exact Al q1
  .exact Al q2
  .exact Al q3
  .exact q4.lt
  .exact q5.lt
 .obtain⟨⟨_,q1⟩,q2,⟨_,q3⟩,q4,q5⟩:=S;rcases hb with e | e | e | e | e <;> subst e
  .exact Al q1
  .exact Al q2
  .exact Al q3
  .exact q4.lt
  .exact q5.lt
def Bt.keep {h h':Heap}{k1 k2:Bool}{z TI TO i1 i2 l1 l2 T0:Addr}{n:Nat}(S:Bt h k1 k2 z TI TO i1 i2 l1 l2 T0 n) (f:∀ b∈[z,TI,TO,i1,i2],∀ o,h.get? b=some o->h'.get? b=some o):Bt h' k1 k2 z TI TO i1 i2 l1 l2 T0 n:=
 ⟨let ⟨b,e⟩:=S.z;⟨b,f z (by simp) _ e⟩,f TI (by simp) _ S.ti,let ⟨o,e⟩:=S.to;⟨o,f TO (by simp) _ e⟩,S.s1.on (f i1 (by simp)),S.s2.on (f i2 (by simp))⟩
section
variable {prog:Program}{w:World}{A:Around}{R:Result->Shared->Prop}{E:Af}{s:Shared}{k1 k2:Bool}{z TI TO i1 i2 l1 l2 S:Addr}{xs ys acc:An}
def P0 {x y:Value}{Q:Option Value->Shared->Prop}{fp:List Addr}(D:uY z TI TO i1 i2 l1 l2) (Z:Zt s.heap k1 k2 z TI TO i1 i2 l1 l2 acc) {N:Nat}(P:uU s.heap fp N xs ys acc) (h1:SQ s.heap k1 l1 xs) (h2:SQ s.heap k2 l2 ys) (hx:xs[acc.size]?=some x) (hy:ys[acc.size]?=some y)
  (hQ:∀ h',Zt h' k1 k2 z TI TO i1 i2 l1 l2 (acc.push (.ref s.heap.objs.size))->IsPair h' s.heap.objs.size x y->(∀ c o,c∉[z,TI,TO,i1,i2]->s.heap.get? c=some o->h'.get? c=some o)->Q (some (.ref s.heap.objs.size)) { s with heap:=h' }):
  wpAny (model prog w) A (pyNext (.ref z)) Q E s:=by
 rcases Z with ⟨e,S0⟩ | ⟨T0,e0,S0⟩
 .rw[e] at hx hy;refine item D S0 h1 h2 hx hy λ h' S' T' up=>hQ h' (.inr ⟨s.heap.objs.size,?_,?_⟩) T' up
  .rw[DZ,if_pos e.symm]
  .rw[Dl,e];obtain⟨q1,q2,⟨_,_,q3⟩,q4,q5⟩:=S';exact⟨⟨false,q1⟩,q2,⟨_,q3⟩,q4,q5⟩
 .obtain⟨b,x',y',e,_,hi,_⟩:=P 0 _ e0;cases e;refine PB D S0 hi h1 h2 hx hy λ h' S' T' up _=>hQ h' (.inr ⟨T0,?_,?_⟩) T' up
  .rw[DZ,if_neg,e0];have:=(Array.getElem?_eq_some_iff.mp e0).1;lia
  .rw[Dl];exact S'
def gather {m N:Nat}(res:Value) (hh:A.handled=none) (D:uY z TI TO i1 i2 l1 l2) (hS:S∉[z,TI,TO,i1,i2]) (h1S:l1≠S) (h2S:l2≠S) (DG:xs.size=m) (DE:ys.size=m) (hm:m<=sizeLine):
  ∀ (k:Nat) (s:Shared) (acc:An) (c:Nat),acc.size+k=m->Zt s.heap k1 k2 z TI TO i1 i2 l1 l2 acc->SQ s.heap k1 l1 xs->SQ s.heap k2 l2 ys->s.heap.get? S=some { cls:=.type "list",dict:=none,data:=.seq acc c,slots:=#[] }->
  N<=s.heap.objs.size->uU s.heap (S::[z,TI,TO,i1,i2]) N xs ys acc->
  (∀ h' GR c',(∀ b o,b∉S::[z,TI,TO,i1,i2]->s.heap.get? b=some o->h'.get? b=some o)->h'.get? S=some { cls:=.type "list",dict:=none,data:=.seq GR c',slots:=#[] }->GR.size=m->uU h' (S::[z,TI,TO,i1,i2]) N xs ys GR->R (.ok (.ret res)) { s with heap:=h' })->
  codeAny (model prog w) A (.builtin "list.extend.loop" ⟨[.ref S,.ref z,res],[]⟩) R s:=by
 have Hx:∀ {h h':Heap},(∀ c o,c∉[z,TI,TO,i1,i2]->h.get? c=some o->h'.get? c=some o)->∀ c o,c∉S::[z,TI,TO,i1,i2]->h.get? c=some o->h'.get? c=some o:=λ f c o hc q=>f c o (λ z=>hc (Av _ z)) q;intro k
 induction k with
 | zero=>
  intro s acc c hk Z q1 q2 hs hN P hR;refine codeAny_builtin F.entry_extend_loop ?_;rw[Around.under_plainId F.plain_extend_loop _];show wpAny _ A.in1 (pyNext (.ref z) >>= _) _ _ s;have fin:∀ h',(∀ c o,c∉[z,TI,TO,i1,i2]->s.heap.get? c=some o->h'.get? c=some o)->R (.ok (.ret res)) { s with heap:=h' }:=λ h' up=>hR h' acc c (Hx up) (up S _ hS hs) (by lia) (P.on (Hx up));have hx:xs[acc.size]?=none:=by rw[Array.getElem?_eq_none_iff];lia
  refine JA ?_;rcases Z with ⟨e,S0⟩ | ⟨T0,e0,S0⟩
  .rw[e] at hx;exact stop hh D S0 q1 q2 (.inl hx) λ h' up=>Ab (fin h' up)
  .obtain⟨b,x,y,e,_,hi,_⟩:=P 0 _ e0;cases e;exact X2 hh D S0 hi q1 q2 hx λ h' up=>Ab (fin h' up)
 | succ k ih=>
  intro s acc c hk Z q1 q2 hs hN P hR;refine codeAny_builtin F.entry_extend_loop ?_;rw[Around.under_plainId F.plain_extend_loop _];show wpAny _ A.in1 (pyNext (.ref z) >>= _) _ _ s;have DF:acc.size<xs.size:=by lia
  have hys:acc.size<ys.size:=by lia
  have nN:s.heap.objs.size∉S::[z,TI,TO,i1,i2]:=λ hb=>by
   rcases Aj.mp hb with e | hb
   .exact absurd (Al hs) (by rw[e];exact Bz _)
   .exact absurd (Z.lt _ hb) (Bz _)
  refine JA (P0 D Z P q1 q2 (AV DF) (AV hys) λ h' Z' T' up=>?_);have I_:=up S _ hS hs;have P':=(P.on (Hx up)).push ⟨hN,nN⟩ T' (AV DF) (AV hys);show wpAny _ A.in1 (updateSeq S (·.push (.ref s.heap.objs.size)) >>= _) _ _ _;have He:∀ b o,b≠S->h'.get? b=some o->(h'.update S (Obj.mapSeq (·.push (.ref s.heap.objs.size)))).get? b=some o:=λ b o hb e=>(KW _ _ (Ne.symm hb)).trans e;have ne:∀ b∈[z,TI,TO,i1,i2],b≠S:=λ b hb e=>hS (e▸hb);refine JA (K0 I_ rfl (Ab ⟨plainId_quiet F.plain_extend_loop _,ih _ (acc.push (.ref s.heap.objs.size)) _ (by rw[Dl];lia) ?_ ?_ ?_ (KO _ I_ rfl) ?_ ?_ λ h'' GR c' k1 k2 k3 k4=>?_⟩)
   (by lia) (by show (acc.push _).size<=sizeLine+1;rw[Dl];lia))
  .rcases Z' with ⟨e,_⟩ | ⟨T0,e0,S0⟩
   .simp at e
   .exact .inr ⟨T0,e0,S0.keep λ b hb o e=>He b o (ne b hb) e⟩
  .exact (q1.on λ o e=>He _ o h1S (up l1 o D.f1 e))
  .exact (q2.on λ o e=>He _ o h2S (up l2 o D.f2 e))
  .rw[Heap.size_update];exact A6 hN (A5 (Al T'))
  .exact P'.on λ c o hc e=>He c o (λ e=>hc (e▸Ap)) e
  .exact hR h'' GR c' (λ b o hb e=>k1 b o hb (He b o (λ e=>hb (e▸Ap)) (Hx up b o hb e))) k2 k3 k4
def Q2:typeLookup (.type "zip") "__len__"=pure none:=by rw[typeLookup_type,builtinLookup_eq_fast];kernel_rfl
def Q3:typeLookup (.type "zip") "__length_hint__"=pure none:=by rw[typeLookup_type,builtinLookup_eq_fast];kernel_rfl
def N9 {m:Nat}{Q:List Value->Shared->Prop}(hh:A.handled=none) (D:uY z TI TO i1 i2 l1 l2) (S0:At s.heap k1 k2 z TI TO i1 i2 l1 l2 .none 0) (q1:SQ s.heap k1 l1 xs) (q2:SQ s.heap k2 l2 ys) (DG:xs.size=m) (DE:ys.size=m) (hm:m<=sizeLine)
  (h:∀ h' acc,(∀ b o,b∉[z,TI,TO,i1,i2]->s.heap.get? b=some o->h'.get? b=some o)->acc.size=m->uU h' [z,TI,TO,i1,i2] s.heap.objs.size xs ys acc->s.heap.objs.size<=h'.objs.size->Q acc.toList { s with heap:=h' }):wpAny (model prog w) A (collect (.ref z)) Q E s:=by
 have Z0:Zt s.heap k1 k2 z TI TO i1 i2 l1 l2 #[]:=.inl ⟨rfl,S0⟩;have hS:s.heap.objs.size∉[z,TI,TO,i1,i2]:=λ hb=>absurd (Z0.lt _ hb) (Bz _);have hSI:s.heap.objs.size≠z:=λ e=>hS (by simp[e]);unfold collect;refine JA (wpAny_runValue (codeAny_builtin F.entry_proto_collect ?_));rw[Around.under_plainId F.plain_proto_collect _];show wpAny _ A.in1 (newList [] >>= λ l=>again (.builtin "list.__iadd__" ⟨[l,.ref z],[]⟩)) _ _ s;refine JA (KI ?_);refine Ab ⟨plainId_quiet F.plain_list_iadd _,codeAny_builtin F.entry_list_iadd ?_⟩;rw[Around.under_plainId F.plain_list_iadd _];show wpAny _ A.in1 (Builtin.List.listExtendWith (.ref s.heap.objs.size) (.ref z) (.ref s.heap.objs.size)) _ _ _;unfold Builtin.List.listExtendWith;have up:∀ b o,s.heap.get? b=some o->(s.heap.push { cls:=.type "list",data:=.seq ([]:Ad).toArray }).get? b=some o:=λ b o e=>Ky _ e;refine JA (KQ (T:="zip") ⟨_,up _ _ S0.z,rfl⟩ ?_);have h1:Builtin.List.listSameRef (.ref s.heap.objs.size) (.ref z)=false:=by simp[Builtin.List.listSameRef,hSI]
 have h2:(Value.type "zip" == Value.type "list")=false:=by decide
 have h3:(Value.type "zip" == Value.type "tuple")=false:=by decide
 simp only[h1,h2,h3,Bool.or_false,AY,if_false];refine JA (wpAny_pyIter_zip (up _ _ S0.z) ?_);refine JA (KC ?_);unfold Builtin.List.listLengthHint;have hT:Shared.TypeIs { s with heap:=s.heap.push { cls:=.type "list",data:=.seq ([]:Ad).toArray } } (.ref z) "zip":=⟨_,up _ _ S0.z,rfl⟩
 refine JA (K4 hT Q2 ?_);show wpAny _ A.in1 (specialOf (Value.ref z) (Str.ofString "__length_hint__") >>= _) _ _ _;refine JA (K4 hT Q3 ?_);refine Ab ?_;show wpAny _ A.in1 (rule "list.extend.makes-room" >>= λ _=>Builtin.List.listTouch (.ref s.heap.objs.size) >>= λ _=>
  again (.builtin "list.extend.loop" ⟨[.ref s.heap.objs.size,.ref z,.ref s.heap.objs.size],[]⟩)) _ _ _
 refine JA (KP ?_);have hS₁:(s.heap.push { cls:=.type "list",data:=.seq ([]:Ad).toArray }).get? s.heap.objs.size=some { cls:=.type "list",data:=.seq ([]:Ad).toArray }:=AG _ rfl;refine JA ?_;show wpAny _ A.in1 (updateSeq s.heap.objs.size (·.push .none) >>= λ _=>updateSeq s.heap.objs.size (·.pop)) _ _ _;refine JA (K0 hS₁ rfl ?_);have hS₂:=KO (Obj.mapSeq (·.push Value.none)) hS₁ rfl;refine K0 hS₂ rfl ?_;have hS₃:=KO (Obj.mapSeq (·.pop)) hS₂ rfl;have He:∀ b o,b≠s.heap.objs.size->s.heap.get? b=some o->
   (((s.heap.push { cls:=.type "list",data:=.seq ([]:Ad).toArray }).update s.heap.objs.size (Obj.mapSeq (·.push Value.none))).update s.heap.objs.size (Obj.mapSeq (·.pop))).get? b=some o:=
  λ b o hb e=>(KW _ _ (Ne.symm hb)).trans ((KW _ _ (Ne.symm hb)).trans (up b o e))
 have old:∀ b o,s.heap.get? b=some o->(((s.heap.push { cls:=.type "list",data:=.seq ([]:Ad).toArray }).update s.heap.objs.size (Obj.mapSeq (·.push Value.none))).update s.heap.objs.size (Obj.mapSeq (·.pop))).get? b=some o:=λ b o e=>He b o (AA (Al e)) e;refine Ab ⟨plainId_quiet F.plain_extend_loop _,gather (k1:=k1) (k2:=k2) (N:=s.heap.objs.size) _ (by exact hh) D hS (AA q1.lt) (AA q2.lt) DG DE hm m _ #[] _ (by simp)
  (.inl ⟨rfl,S0.keep λ b _ o e=>old b o e⟩) (q1.on λ o e=>old _ o e) (q2.on λ o e=>old _ o e) hS₃ (by rw[Heap.size_update,Heap.size_update,Heap.size_push];exact DB _) (λ j v e=>by simp at e) λ h' GR c' k1 k2 k3 k4=>?_⟩
 show wpAny _ A (load s.heap.objs.size >>= _) _ _ _;refine JA (wpAny_load k2 ?_);refine Ab (h h' GR (λ b o hb e=>k1 b o (λ z=>(Aj.mp z).elim (AA (Al e)) hb) (old b o e)) k3 (λ j v e=>?_) (A5 (Al k2)));obtain⟨b,x,y,e1,e2,e3⟩:=k4 j v e;exact⟨b,x,y,e1,⟨e2.1,λ z=>e2.2 (Av _ z)⟩,e3⟩
end
end ZP
namespace ZP
open PySem PySem.W PySem.Calls PyProof.Rows L2 L4
noncomputable def sH (ns:List Int) (i j:Nat):Bool:=decide (ns.getD i 0<ns.getD j 0)
def QB (ns:List Int):Ord (sH ns):=by
 refine⟨λ a b c h1 h2=>?_,λ a b h=>?_⟩
 .unfold Le sH at *;have:=of_decide_eq_false h1;have:=of_decide_eq_false h2;exact KA (by lia)
 .unfold Le sH at *;have:=of_decide_eq_true h;exact KA (by lia)
def rY (h:Heap):List Value->List Int->Prop:=Paired λ v n=>∃ b t y,v=.ref b/\IsPair h b (.int n t) y
theorem rY.oA {h:Heap}:∀ {vs:Ad}{ns:List Int},rY h vs ns->∃ fs,KatTups h vs fs/\fs.length=vs.length/\∀ v∈fs,∃ n t,v=Value.int n t
 | _,_,.nil=>⟨[],KatTups.nil,rfl,λ _ hv=>absurd hv (by simp)⟩
 | _,_,.cons (b:=n) ⟨b,t,y,hv,hi⟩ r=>by
  obtain⟨fs,h1,h2,h3⟩:=rY.oA r;subst hv;exact⟨.int n t::fs,KatTups.cons hi rfl rfl rfl h1,by simp[h2],λ v hv=>(Aj.mp hv).elim (λ e=>⟨n,t,e⟩) (h3 v)⟩
def getD_inj {ns:List Int}(nd:ns.Nodup) {i j:Nat}(hi:i<ns.length) (hj:j<ns.length) (h:ns.getD i 0=ns.getD j 0):i=j:=by
 simp only[Ay,Aw hi,Aw hj,Option.getD_some] at h;exact (Ee nd).mp h
def i_ (vs:Ad) (ns:List Int) (out:An):Prop:=
 ∃ idx:List Nat,idx.Perm (List.range vs.length)/\out.toList=idx.map (λ i=>vs.getD i Value.none)/\(idx.map λ i=>ns.getD i 0).Pairwise (·<=·)
section
variable {prog:Program}{w:World}{A:Around}{E:Af}{s:Shared}
def rY.ask {vs:Ad}{ns:List Int}{b:Bool}(r:rY s.heap vs ns) (nd:ns.Nodup) {i j:Nat}(hi:i<vs.length) (hj:j<vs.length) {C:Bool->Shared->Prop}(h:C (sH ns i j) s):kas_ask prog w A (tuples' b) vs i j C s:=by
 have hl:=Paired.length r;obtain⟨b1,t1,y1,e1,g1⟩:=Paired.at' r hi Value.none (0:Int);obtain⟨b2,t2,y2,e2,g2⟩:=Paired.at' r hj Value.none (0:Int);unfold kas_ask;rw[e1,e2];refine kat_lt g1 rfl g2 rfl ?_;refine kat_cons (SeqAt.EqAt.int_int _ t1 _ t2 prog w _ _ (kat_go (λ e=>kat_yes ?_) λ e=>kat_no ?_))
 .have e':ns.getD i 0=ns.getD j 0:=by simpa using e
  have ij:=getD_inj nd (by lia) (by lia) e';subst ij;rw[e1] at e2;cases e2;cases (show some _=some _ from g1.symm.trans g2);refine kat_cons (SeqAt.EqAt.same y1 prog w _ _ (kat_yes (kat_nil ?_)));have:sH ns i i=false:=by unfold sH;exact KA (by lia)
  rw[this] at h;exact h
 .cases b&&(0:Nat) == 0 with
  | true=>exact kat_lt_int h
  | false=>exact kat_one _ _ (lt_int h)
def N5 {vs:Ad}{ns:List Int}(r:rY s.heap vs ns) (nd:ns.Nodup) (h2:2<=vs.length) (FT:vs.length<64):Core prog w A E vs (i_ vs ns) s:=by
 obtain⟨fs,t,hl,hf⟩:=r.oA;unfold Core;refine kat_kind (T:=.type "int") t (by lia) (λ v hv=>?_) rfl ⟨rfl,?_⟩
 .obtain⟨n,t,rfl⟩:=hf v hv;exact Looks.of_pure rfl
 .refine kat_run (ks:=vs) (Q:=λ st G6=>G6=s/\failedOf st=none/\i_ vs ns ((arrOf st).map (·.2))/\(arrOf st).size=vs.length) (G:=λ p G6=>G6=s/\y_ vs.length p/\wI (sH ns) p vs.length) rfl h2 FT (λ p st s' hs ha Dg hg=>?_) ?_
  .obtain⟨h1,h3,h4⟩:=hg;refine⟨h1,Dg,⟨p.toList,?_,?_,?_⟩,by rw[ha,CD];exact hs⟩
   .have:=Array.Perm.toList h3;simpa using this
   .rw[kat_snds rfl ha]
   .rw[A4,Ci];intro i j hi hj A3;have:=h4 i j (A5 A3) (by rw[<- hs];simpa using hj);simp only[Bj] at hi hj;unfold Le sH at this;have:=of_decide_eq_false this;simp only[CW,AV hi,AV hj,Option.getD_some] at this;simp only[B8];lia
  .exact kG (λ i j C hi hj hC=>r.ask nd hi hj hC) (yk.mono (λ p hp=>⟨rfl,hp⟩) (f7 (QB ns) (by lia)))
variable {k1 k2:Bool}{z TI TO i1 i2 l1 l2:Addr}{xs ys:An}
def sortedZ {ns:List Int}{Q:Af}(hh:A.handled=none) (D:uY z TI TO i1 i2 l1 l2) (S0:At s.heap k1 k2 z TI TO i1 i2 l1 l2 .none 0) (q1:SQ s.heap k1 l1 xs) (q2:SQ s.heap k2 l2 ys) (DG:xs.size=ns.length) (hI:∀ (i:Nat) n,ns[i]?=some n->∃ t,xs[i]?=some (.int n t)) (nd:ns.Nodup) (DE:ys.size=ns.length) (hm:ns.length<64)
  (fin:∀ h' l n (bs:List Addr) (idx:List Nat),(∀ b o,b∉[z,TI,TO,i1,i2]->s.heap.get? b=some o->h'.get? b=some o)->s.heap.objs.size<=l->bs.length=ns.length->(∀ (j:Nat) b,bs[j]?=some b->s.heap.objs.size<=b/\b≠l/\∃ x y,IsPair h' b x y/\xs[j]?=some x/\ys[j]?=some y)->
   idx.Perm (List.range ns.length)->(idx.map λ i=>ns.getD i 0).Pairwise (·<=·)->h'.get? l=some { cls:=.type "list",data:=.seq (idx.map λ i=>Value.ref (bs.getD i 0)).toArray n }->Q (.ref l) { s with heap:=h' }):
  wpAny (model prog w) A (call (.builtin "sorted") [.ref z]) Q E s:=by
 have Bl:ns.length<=sizeLine:=by
  have:sizeLine=16777216:=rfl;lia
 refine Calls.call_function_entry kind_sorted plain_sorted entry_sorted (args_sorted1 _) ?_;unfold Builtin.«sorted»;refine JA (m:=checkCount "sorted" 1 1 _) (Ab (JA (N9 (by exact hh) D S0 q1 q2 DG DE Bl λ h1 acc up hz P mono=>?_)));have El:acc.toList.length=ns.length:=by simpa using hz
 refine JA (wpAny_newList ?_ (by lia));have there:(h1.push (seqObj "list" acc.toList.toArray 0)).get? h1.objs.size=some (seqObj "list" acc.toList.toArray 0):=AG _ rfl;have keep:∀ b o,h1.get? b=some o->(h1.push (seqObj "list" acc.toList.toArray 0)).get? b=some o:=λ b o q=>Ky _ q;have qt:∀ h6:Heap,(∀ b o,h1.get? b=some o->h6.get? b=some o)->rY h6 acc.toList ns:=λ h6 k=>by
  refine ST.Paired.mk El λ i v n hv hn=>?_;obtain⟨b,x,y,e1,_,e3,e4,_⟩:=P i v (by simpa using hv);obtain⟨t,e5⟩:=hI i n hn;rw[e4] at e5;cases e5;exact⟨b,t,y,e1,k _ _ e3⟩
 show wpAny _ _ _ _ _ { s with heap:=h1.push (seqObj "list" acc.toList.toArray 0) };refine JA (KC (KD slot_list_sort ⟨_,there,rfl⟩ entry_list_sort (cg (Out:=i_ acc.toList ns) there (by lia) (λ h2 s6 k=>N5 (qt _ λ b o q=>k b o (AA (Al q)) (keep b o q)) nd h2 (by lia)) (λ h1=>?_) λ out g1 g2=>⟨_,rfl,?_⟩) (args_list_sort _)))
 .refine⟨List.range acc.toList.length,.refl _,?_,?_⟩
  .refine BU (by simp) λ i h1 h2=>?_;simp at h1;simp[h1]
  .rw[A4,Ci];intro i j hi hj A3;simp at hi hj h1;lia
 .obtain⟨idx,p1,p2,p3⟩:=g1;rw[El] at p1;refine Ab ⟨_,rfl,?_⟩;have key:∀ v∈acc.toList,∃ b,v=Value.ref b:=λ v hv=>by
   obtain⟨i,hi,e⟩:=BI.mp hv;obtain⟨b,_,_,e1,_⟩:=P i v (by rw[<- Bi,Aw hi,e]);exact⟨b,e1⟩
  have old:∀ b o,b≠h1.objs.size->h1.get? b=some o->(sortedHeap (h1.push (seqObj "list" acc.toList.toArray 0)) h1.objs.size acc.toList out).get? b=some o:=λ b o hb q=>by
   unfold sortedHeap;rw[KZ _ _ _ _ hb];refine Ky _ (Ky _ ?_);rw[KZ _ _ _ _ hb];exact keep b o q
  let rf:Value->Addr:=λ v=>match v with | .ref b=>b | _=>0
  have hrf:∀ i,i<ns.length->acc.toList.getD i Value.none=Value.ref ((acc.toList.map rf).getD i 0):=λ i hi=>by
   have GQ:i<acc.toList.length:=by lia
   obtain⟨b,e⟩:=key acc.toList[i] (Cc GQ);rw[Ay,Ay,AE,Aw GQ,e];rfl
  have Kq:out.toList=idx.map λ i=>Value.ref ((acc.toList.map rf).getD i 0):=by
   rw[p2];exact Cg λ i hi=>hrf i (by simpa using p1.mem_iff.mp hi)
  obtain⟨ep,g6⟩:∃ ep,((((h1.push (seqObj "list" acc.toList.toArray 0)).update h1.objs.size (Obj.mapSeq λ _=>#[])).push (seqObj "tuple" acc.toList.toArray 0)).push (seqObj "list" #[] 0)).get? h1.objs.size=some (seqObj "list" #[] ep):=⟨_,Ky _ (Ky _ (get?_update_seq there (λ _=>#[])))⟩
  obtain⟨en,gf⟩:∃ en,(sortedHeap (h1.push (seqObj "list" acc.toList.toArray 0)) h1.objs.size acc.toList out).get? h1.objs.size=some { cls:=.type "list",data:=.seq (idx.map λ i=>Value.ref ((acc.toList.map rf).getD i 0)).toArray en }:=by
   have:=get?_update_seq g6 (λ _=>out);rw[<- Kq,Array.toArray_toList];exact⟨_,this⟩
  refine fin _ h1.objs.size en (acc.toList.map rf) idx (λ b o hb q=>old b o (AA (Al (up b o hb q))) (up b o hb q)) mono (by rw[AB];exact El) (λ j b hb=>?_) p1 p3 gf
  .rw[AE] at hb;obtain⟨v,e1,e2⟩:=AJ.mp hb;obtain⟨c,x,y,e3,e4,e5,e6⟩:=P j v (by simpa using e1);subst e3;cases e2;have:=Al e5;exact⟨e4.1,AA this,x,y,old _ _ (AA this) e5,e6⟩
end
end ZP
namespace L2
open PySem PySem.Spec PyProof.Rows ZP
section
variable {X:Cx}{EV:Ag}{Y:St}{H:Hp}{s:Shared}
def Inv.many {H':Hp}{h':Heap}{t':Nat}(I:Inv X EV Y H s) (k:∀ b u,s.heap.get? b=some u->h'.get? b=some u) (hH:∀ b,b<s.heap.objs.size->H' b=H b)
  (new:∀ b o,s.heap.objs.size<=b->H' b=some o->yE X.prog X.w H' h' b o):Inv X EV Y H' { s with heap:=h',toks:=t' }:=by
 have old:∀ b o,H b=some o->H' b=some o:=λ b o e=>by rw[hH b (I.zr.lt e)];exact e
 refine I.un ⟨λ b o q _ _ _=>k b o q,λ b o q _ _ _=>⟨o.slots,k b o q⟩,λ b o q n _=>by rw[hH b (Al q)];exact n,λ b o q _=>⟨o,k b o q⟩,λ b xs q=>old b _ q,λ b o u q=>old b _ q,λ b ps q=>⟨#[],by rw[old b _ q];simp⟩⟩ λ b o e=>?_;rcases Bc b s.heap.objs.size with hb | hb
 .rw[hH b hb] at e;exact (I.zr b o e).ux (λ c v _ q=>k c v q) (λ c q=>old c _ q) λ c xs q=>old c _ q
 .exact new b o hb e
abbrev e9 (K:Ac):List V->Hp->VK->Prop:=λ vs H Q=>∃ a1 a2 k1 k2,∃ (ns:List Int) (ys:List V),vs=[.ref a1,.ref a2]/\xB K H k1 a1 (ns.map V.int)/\xB K H k2 a2 ys/\ys.length=ns.length/\ns.length<64/\ns.Nodup/\
 ∀ (l:Addr) (idx:List Nat) (bs:List Addr) (H':Hp),H l=none->(∀ b,H b≠none->H' b=H b)->bs.length=ns.length->(∀ (i:Nat) b,bs[i]?=some b->H' b=some (.tup [V.int (ns.getD i 0),ys.getD i .zm]))->H' l=some (.lst (idx.map λ i=>V.ref (bs.getD i 0)))->
  idx.Perm (List.range ns.length)->(idx.map λ i=>ns.getD i 0).Pairwise (·<=·)->Q (.ref l) H'
def Vj {a b:Expr}{ta:TA}{p pos p2 Fn:Pos}(hc:X.calm=true) (hg:Gl X "sorted") (hm:X.mg "sorted"=none) (GF:Gl X "zip") (Hj:X.mg "zip"=none) (ha:PA X [a,b] ta)
  (he:starEach [.Call (.Name "zip" p2) [a,b] [] Fn] X.env=(false,eval (.Call (.Name "zip" p2) [a,b] [] Fn) X.env)::starEach [] X.env:=by rfl) (Aq:(backTo pos (starEach [] X.env)).any (·.1)=false:=by rfl)
  (hs:starEach [a,b] X.env=[(false,eval a X.env),(false,eval b X.env)]:=by rfl) (GD:starEach [b] X.env=[(false,eval b X.env)]:=by rfl) (Cv:backTo pos (starEach [] X.env)=[]:=by rfl):
  PE X (.Call (.Name "sorted" p) [.Call (.Name "zip" p2) [a,b] [] Fn] [] pos) (pH (e9 X.K) ta):=by
 intro EV s Y H Q I h;refine K5 (tJ I hg hm boot_sorted (PyProof.Rows.callWith_builtin1 ?_ he Aq) (by decide) (by decide));rw[he];show wpAny _ _ (spliced ((false,eval (.Call (.Name "zip" p2) [a,b] [] Fn) X.env)::backTo pos (starEach [] X.env))) _ _ s;rw[Cv];refine Calls.spliced_cons ?_;refine K5 (tJ I GF Hj boot_zip (PyProof.Rows.callWith_type1 (zv (ha Fn EV s Y H _ I h) λ us s1 ⟨vs,H1,I1,r1,q1⟩=>?_) (by rw[hs,GD]) (by rw[GD];rfl)) (by decide) (by decide));obtain⟨a1,a2,k1,k2,ns,ys,rfl,g1,g2,hl,FT,nd,q⟩:=q1;cases r1 with
 | cons r rr=>
 cases rr with
 | cons r' rr=>
 cases rr;cases r;cases r';obtain⟨IK,v1,q1⟩:=g1.of I1;obtain⟨Jn,v2,q2⟩:=g2.of I1;have l1:=v1.length;have l2:=v2.length;rw[AB] at l1;refine ZP.new q1 q2 λ h1 z TI TO i1 i2 nw D S up=>?_;refine Calls.spliced_nil ?_;refine ZP.sortedZ (ns:=ns) (by exact I1.ok.hd hc) D S (q1.on λ o e=>up _ o e) (q2.on λ o e=>up _ o e) (by simpa using l1.symm) (λ i n hn=>?_) nd (by simp;lia) FT λ h' l en bs idx old Gn hbl hb hp Ep hgl=>?_
 .obtain⟨u,e1,e2⟩:=v1.get (i:=i) (x:=V.int n) (by rw[AE,hn];rfl);obtain⟨t,rfl⟩:=e2;exact⟨t,by simpa using e1⟩
 have JC:s1.heap.objs.size<=h1.objs.size:=by
  have:=nw z (by simp);have:=Al S.z;exact A6 ‹_› (A5 this)
 have keep:∀ c o,s1.heap.get? c=some o->h'.get? c=some o:=λ c o e=>old c o (λ hc=>absurd (nw c hc) (Nat.not_le.mpr (Al e))) (up c o e);have at_:∀ (i:Nat) c,bs[i]?=some c->∃ t y,IsPair h' c (.int (ns.getD i 0) t) y/\RelV (ys.getD i .zm) y:=λ i c hc=>by
  obtain⟨_,_,x,y,e1,e2,e3⟩:=hb i c hc;have hi:i<ns.length:=by have:=(AM.mp hc).1;lia
  obtain⟨u,f1,f2⟩:=v1.get (i:=i) (x:=V.int ns[i]) (by rw[AE,Aw hi];rfl);obtain⟨t,rfl⟩:=f2;obtain⟨u2,f3,f4⟩:=v2.get (i:=i) (x:=ys.getD i .zm) (by rw[Ay,Aw (by lia)];rfl);have e4:IK.toArray[i]?=some (.int ns[i] t):=by simpa using f1
  have e5:Jn.toArray[i]?=some u2:=by simpa using f3
  rw[e2] at e4;cases e4;rw[e3] at e5;cases e5;have en:ns.getD i 0=ns[i]:=by simp[hi]
  rw[en];exact⟨t,_,e1,f4⟩
 have inj:∀ (i j:Nat) c,bs[i]?=some c->bs[j]?=some c->i=j:=λ i j c hi hj=>by
  obtain⟨t,y,e1,_⟩:=at_ i c hi;obtain⟨t',y',e2,_⟩:=at_ j c hj;have e3:=e1.symm.trans e2;simp only[Option.some.injEq,Obj.mk.injEq,Data.seq.injEq,Array.mk.injEq,List.cons.injEq,Value.int.injEq] at e3;have GQ:=(AM.mp hi).1;have Gp:=(AM.mp hj).1;refine getD_inj nd (by lia) (by lia) ?_;exact e3.2.2.1.1.1.1
 let H':Hp:=λ c=>if c=l then some (.lst (idx.map λ i=>V.ref (bs.getD i 0))) else if c∈bs then some (.tup [V.int (ns.getD (bs.idxOf c) 0),ys.getD (bs.idxOf c) .zm]) else H1 c
 have Hl:H' l=some (.lst (idx.map λ i=>V.ref (bs.getD i 0))):=if_pos rfl;have Hb:∀ (i:Nat) c,bs[i]?=some c->H' c=some (.tup [V.int (ns.getD i 0),ys.getD i .zm]):=λ i c hc=>by
  have hm:=BA hc;have Ao:=CP.mpr hm;have e:bs.idxOf c=i:=inj _ _ c (by rw[Aw Ao,DY Ao]) hc;show (if c=l then _ else if c∈bs then _ else _)=_;rw[if_neg (hb i c hc).2.1,if_pos hm,e]
 have Ho:∀ c,c<s1.heap.objs.size->H' c=H1 c:=λ c hc=>by
  show (if c=l then _ else if c∈bs then _ else _)=_;rw[if_neg (λ e=>by rw[e] at hc;exact absurd (A_ hc JC) (Nat.not_lt.mpr Gn)),if_neg (λ hm=>?_)];obtain⟨i,hi⟩:=List.getElem?_of_mem hm;exact absurd (A_ hc JC) (Nat.not_lt.mpr (hb i c hi).1)
 refine⟨.ref l,H',I1.many (t':=s1.toks) keep Ho λ c o hc e=>?_,rfl,q l idx bs H' (I1.zr.fresh (A6 JC Gn)) (λ c hn=>Ho c ?_) hbl Hb Hl hp Ep⟩
 .by_cases e1:c=l
  .subst e1;rw[Hl] at e;cases e;refine⟨by rw[AB,hp.length_eq,Ce];exact A6 (A5 FT) (by decide),_,en,?_,hgl⟩;refine ST.Paired.mk (by simp) λ j x y hx hy=>?_;rw[AE] at hx hy;obtain⟨i,hi,rfl⟩:=AJ.mp hx;rw[hi] at hy;cases hy;exact rfl
  .by_cases e2:c∈bs
   .obtain⟨i,hi⟩:=List.getElem?_of_mem e2;rw[Hb i c hi] at e;cases e;obtain⟨t,y,f1,f2⟩:=at_ i c hi;exact⟨⟨(show 2<=sizeLine by decide),_,f1,rfl⟩,[.int (ns.getD i 0) t,y],.cons ⟨t,rfl⟩ (.cons f2 .nil),_,f1,rfl,_,rfl⟩
   .have e3:H' c=H1 c:=by
     show (if c=l then _ else if c∈bs then _ else _)=_;rw[if_neg e1,if_neg e2]
    rw[e3,I1.zr.fresh hc] at e;cases e
 .cases q0:H1 c with
  | none=>exact absurd q0 hn
  | some u=>exact I1.zr.lt q0
end
end L2
namespace L5
open PySem PySem.Spec L2 L3
open PyProof.Rows hiding St
section
variable {X:Cx}{K:Ac}{a b:Expr}{tA:z_}{pos p Fn p2:Pos}
def sO:xn:=λ ds S Q=>∃ d e,∃ (ns:List Int) (es:List D),ds=[d,e]/\zH d S=some (ns.map D.int)/\zH e S=some es/\es.length=ns.length/\ns.length<64/\ns.Nodup/\
 ∀ l (idx:List Nat),S l=none->idx.Perm (List.range ns.length)->(idx.map λ i=>ns.getD i 0).Pairwise (·<=·)->Q (.ref l) (ups S l (.lst (idx.map λ i=>D.tup [.int (ns.getD i 0),es.getD i .zm])))
def sO.mo:va sO:=λ ds S Q Q' hq ⟨d,e,ns,es,h0,h1,h2,h3,h4,h5,h6⟩=>⟨d,e,ns,es,h0,h1,h2,h3,h4,h5,λ l idx a b c=>hq _ _ (h6 l idx a b c)⟩
def sO.fits:vR K sO (e9 K):=λ xs ds H S Q h0 h2 h=>by
 obtain⟨d,e,ns,es,rfl,s1,s2,hl,FT,nd,h⟩:=h;obtain⟨v,u,rfl,d1,d2⟩:=h0.two;obtain⟨a1,us,rfl,g1,g2⟩:=zH.k d1 h2 s1;obtain⟨a2,ws,rfl,g3,g4⟩:=zH.k d2 h2 s2;cases zh.ints g2;have l4:=g4.length;refine⟨a1,a2,rF d,rF e,ns,ws,rfl,g1,g3,by lia,FT,nd,λ l idx bs H' hf hH hbl hb Gn hp hs=>?_⟩;have ext:Ext H H':=⟨λ c x q=>by rw[hH c (by rw[q];simp)];exact q,λ c o u q=>by rw[hH c (by rw[q];simp)];exact q,λ c u q=>by rw[hH c (by rw[q];simp)];exact q,λ c u q=>by rw[hH c (by rw[q];simp)];exact q⟩
 refine h l idx (h2.none hf) hp hs _ H' (by simp only[ze]) ext λ c o q=>?_;by_cases hc:c=l
 .subst hc;rw[tj] at q;cases q;refine⟨_,Gn,?_⟩;have Ao:∀ i∈idx,i<ns.length:=λ i hi=>by simpa using hp.mem_iff.mp hi
  clear hp hs Gn
  induction idx with
  | nil=>exact .nil
  | cons i idx ih=>
   have hi:=Ao i Ap;obtain⟨y,e1,e2⟩:=g4.get (i:=i) (d:=es.getD i .zm) (by rw[Ay,Aw (by lia)];rfl);refine .cons ?_ (ih λ j hj=>Ao j (Av _ hj));simp only[ze];refine⟨_,_,rfl,zN.of (hb i (bs.getD i 0) (by rw[Ay,Aw (by lia)];rfl)),?_⟩;refine .cons (by simp only[ze]) (.cons ?_ .nil);have e3:ws.getD i V.zm=y:=by simp[e1]
   rw[e3];exact ze.ext ext _ e2
 .rw[ur hc] at q;exact (h2 c o q).keep ext λ v q=>by rw[hH c (by rw[q];simp)];exact q
def Uv (hm:X.mg "sorted"=none) (Hj:X.mg "zip"=none) (ha:yZ X [a,b] tA) (hc:X.calm=true) (hg:Gl X "sorted") (GF:Gl X "zip")
  (he:starEach [.Call (.Name "zip" p2) [a,b] [] Fn] X.env=(false,eval (.Call (.Name "zip" p2) [a,b] [] Fn) X.env)::starEach [] X.env) (Aq:(backTo pos (starEach [] X.env)).any (·.1)=false)
  (hs:starEach [a,b] X.env=[(false,eval a X.env),(false,eval b X.env)]) (GD:starEach [b] X.env=[(false,eval b X.env)]) (Cv:backTo pos (starEach [] X.env)=[]):
  PD X (.Call (.Name "sorted" p) [.Call (.Name "zip" p2) [a,b] [] Fn] [] pos) (xv sO tA):=
 u6 (Vj hc hg hm GF Hj ha.pa he Aq hs GD Cv) sO.mo sO.fits ha.mo
noncomputable def qk (ns:List Int) (ts:List T):List (Int×T):=(ns.zip ts).mergeSort λ x y=>decide (x.1<=y.1)
def fq (ns:List Int) (ts:List T):(qk ns ts).Perm (ns.zip ts):=D8 _ _
def Xw (ns:List Int) (ts:List T):(qk ns ts).Pairwise λ x y=>x.1<=y.1:=by
 have:=D7 (le:=λ x y:Int×T=>decide (x.1<=y.1)) (λ x y z h1 h2=>by simp at h1 h2 ⊢;lia) (λ x y=>by simp;lia) (ns.zip ts);exact this.imp λ h=>by simpa using h
def fm {ns:List Int}{ts:List T}(hl:ts.length=ns.length) (nd:ns.Nodup) {l:List (Int×T)}(hp:l.Perm (ns.zip ts)) (hs:l.Pairwise λ x y=>x.1<=y.1):l=qk ns ts:=by
 have nd':((ns.zip ts).map Prod.fst).Nodup:=by rw[List.map_fst_zip (by lia)];exact nd
 have up:∀ {m:List (Int×T)},m.Perm (ns.zip ts)->m.Pairwise (λ x y=>x.1<=y.1)->m.Pairwise λ x y=>x.1<y.1:=λ{m} p s=>by
  have n1:(m.map Prod.fst).Nodup:=((p.map _).nodup_iff).mpr nd';have n2:m.Pairwise λ x y=>x.1≠y.1:=by rw[List.Nodup,A4] at n1;exact n1
  exact (s.and n2).imp λ h=>by lia
 exact L4.mI (r:=λ x y=>x.1<y.1) (λ x y h1 h2=>by lia) (hp.trans (fq ns ts).symm) (up hp hs) (up (fq ns ts) (Xw ns ts))
noncomputable def qj:List T->Option T
 | [x,y]=>(xE x).bind λ xs=>(xV xs).bind λ ns=>(xE y).bind λ ts=>if ts.length=ns.length/\ns.length<64/\ns.Nodup then some (.lst ((qk ns ts).map λ q=>.tup [.int q.1,q.2])) else none
 | _=>none
def Oq:vb zA qj sO:=λ S Z ys z ds Q hz hv e hq=>by
 unfold qj at e;split at e
 .obtain⟨d,d2,rfl,h1,h2⟩:=kK hv;obtain⟨xs,e1,e⟩:=Ak.mp e;obtain⟨ns,e2,e⟩:=Ak.mp e;obtain⟨ts,e3,e⟩:=Ak.mp e;split at e
  .rename_i hc;cases e;cases rH e2;obtain⟨es1,g1,g2⟩:=h1.seq e1;obtain⟨es,g3,g4⟩:=h2.seq e3;cases vV.mp g2;have l4:=g4.len;refine⟨d,d2,ns,es,rfl,g1,g3,by lia,hc.2.1,hc.2.2,λ l idx hl hp hs=>hq _ _ (.new hl _) (uz hz hl ?_)⟩;have Ao:∀ i∈idx,i<ns.length:=λ i hi=>by simpa using hp.mem_iff.mp hi
   have eq:qk ns ts=idx.map λ i=>(ns.getD i 0,ts.getD i .zm):=by
    refine (fm hc.1 hc.2.2 ?_ (by rw[A4] at hs ⊢;exact hs)).symm;have:(ns.zip ts)=(List.range ns.length).map λ i=>(ns.getD i 0,ts.getD i .zm):=by
     refine BU (by simp;lia) λ i h1 h2=>?_;have h3:i<ns.length/\i<ts.length:=by simp at h1;lia
     simp[h3.1,h3.2]
    rw[this];exact hp.map _
   rw[eq,Au];clear eq hp hs
   induction idx with
   | nil=>exact .nil
   | cons i idx ih=>
    have hi:=Ao i Ap;obtain⟨y,f1,f2⟩:=g4.o5 (i:=i) (t:=ts.getD i .zm) (by rw[Ay,Aw (by lia)];rfl);refine .cons ?_ (ih λ j hj=>Ao j (Av _ hj));refine sy (.cons xD (.cons ?_ .nil));have f3:es.getD i D.zm=y:=by simp[f1]
    rw[f3];exact f2
  .cases e
 .cases e
end
end L5
namespace L3
open PySem PySem.Spec PyProof.Rows L2
theorem zh.erase {K:Ac}{H:Hp}:∀ {ds:List D}{xs:List V}(k:Nat),zh K H ds xs->zh K H (ds.eraseIdx k) (xs.eraseIdx k)
 | [],xs,k,h=>by simp only[zh] at h;subst h;simpa using (show zh K H [] [] by simp only[zh])
 | d::ds,xs,0,h=>by
  simp only[zh] at h;obtain⟨x,r,rfl,h1,h2⟩:=h;simpa using h2
 | d::ds,xs,k+1,h=>by
  simp only[zh] at h;obtain⟨x,r,rfl,h1,h2⟩:=h;rw[CS,CS];exact .cons h1 (zh.erase k h2)
section
variable {X:Cx}{K:Ac}{o e:Expr}{to te:zo}{apos Ae:Pos}
def oS (to te:zo):zo:=fun L S Q=>to L S λ x S1=>match x with
 | .ref p=>(∃ ds,S1 p=some (.lst ds))/\te L S1 λ y S2=>∃ k:Nat,∃ ds d,y=.int k/\S2 p=some (.lst ds)/\k<2 ^ 62/\ds[k]?=some d/\Q d (ups S2 p (.lst (ds.eraseIdx k)))
 | _=>False
def U0 {e0:Expr}(C6:PE X e0 (mq X.K "list" eA (zC X.K to) (mn (zC X.K te) ml))) (h:zV to) (h':zV te):PD X e0 (oS to te):=by
 refine⟨fun L S Q Q' hq z=>h L S _ _ (λ x S1 z=>by
  cases x with
  | ref p=>exact⟨z.1,h' L S1 _ _ (λ y S2 ⟨k,ds,d,a,b,c,d',w⟩=>⟨k,ds,d,a,b,c,d',hq _ _ w⟩) z.2⟩
  | _=>exact z) z,PE.imp C6 fun Y H Q hu=>?_⟩
 obtain⟨L,S,r1,r2,z⟩:=hu;refine zC.go h r1 r2 z λ x S1 v H1 h1 q1 e1 p1=>?_;cases x with
 | ref p=>
  obtain⟨⟨ds,hd⟩,h1⟩:=h1;simp only[ze] at q1;subst q1;obtain⟨xs,g1,g2⟩:=p1 _ _ hd;refine⟨.inl ⟨rfl,xs,zJ.of g1⟩,?_⟩;refine zC.go h' (r1.ext e1) p1 h1 λ y S2 w H2 h2 q2 e2 p2=>?_;obtain⟨k,G4,d,rfl,b1,b2,b3,b4⟩:=h2;simp only[ze] at q2;subst q2;obtain⟨Fd,g3,g4⟩:=p2 _ _ b1;obtain⟨y,f1,f2⟩:=g4.get b3;have hk:=(AM.mp f1).1;refine⟨p,Fd,k,k,y,rfl,rfl,g3,by lia,by lia,?_,f1,?_⟩
  .have n0:¬ ((k:Int)<0):=by lia
   have n1:(decide (0<=(k:Int))&&decide ((k:Int)<Fd.length))=true:=by simp;lia
   unfold seqIndex?;simp only[if_neg n0,if_pos n1,B6]
  .have e4:Ext H2 (upd H2 p (.lst (Fd.eraseIdx k))):=.lst g3 _;exact b4 _ _ (ze.ext e4 d f2) ((e1.trans e2).trans e4) (p2.ups e4 ⟨_,yr,zh.ext e4 _ (zh.erase k g4)⟩)
 | _=>exact h1.elim
def UB (ho:PD X o to) (he:PD X e te)
  (FC:attributeBase o "pop" X.env (eval o X.env)=eval o X.env)
  (AD:((backTo Ae (starEach [e] X.env)).all (λ x=>!x.1)&&(backToKw Ae (keywordEach [] X.env)).all (λ x=>x.1.isSome)
   && decide ([e].length+([]:List Keyword).length+(if ([]:List Keyword).isEmpty then 0 else 1)<30))=true)
  (Fz:(apos.endLine == Ae.line)=true) (hs:starEach [e] X.env=(false,eval e X.env)::starEach [] X.env) (Fg:(backTo Ae (starEach [] X.env)).any (·.1)=false):
  PD X (.Call (.Attribute o "pop" apos) [e] [] Ae) (oS to te):=
 U0 (jo PySem.F.plainAttrs_list PySem.F.slot_list_pop PySem.F.type_list_pop QH ho.pe (tB he.pe sF hs) FC AD Fz hs Fg) ho.mo he.mo
end
end L3
namespace L5
open PySem L2 L3
@[simp] noncomputable def iL (i j:Nat) (f:Ev->Option T):Sm:=fun J=>match J[i]?,J[j]? with
 | some (some (.own (.lst ts))),some (some (.own (.lst us)))=>(f J).bind λ y=>match y with
  | .int n=>if i≠j/\ts.length<sizeLine/\0<=n/\n.toNat<us.length/\us.length<2 ^ 62 then some (.nx ((J.set j (some (.own (.lst (us.eraseIdx n.toNat))))).set i (some (.own (.lst (ts++[us.getD n.toNat .zm])))))) else none
  | _=>none
 | _,_=>none
theorem zg.erase {S:SS}:∀ {ts:List T}{ds:List D}(k:Nat),zg S ts ds->zg S (ts.eraseIdx k) (ds.eraseIdx k)
 | [],ds,k,h=>by simp only[zg] at h;subst h;simpa using zg.nil
 | t::ts,ds,0,h=>by
  simp only[zg] at h;obtain⟨c,cs,rfl,h1,h2⟩:=h;simpa using h2
 | t::ts,ds,k+1,h=>by
  simp only[zg] at h;obtain⟨c,cs,rfl,h1,h2⟩:=h;rw[CS,CS];exact .cons h1 (zg.erase k h2)
def S8 {R:Rk}{f:Ev->Option T}{te:zo}(i j:Nat) (hf:yf f te):ye R (iL i j f) (oX (uj (yb i) (oS (yb j) te))):=λ S0 Z0 S Z L J o E F e P=>by
 unfold iL at e;split at e
 .rename_i ts us hi hj;obtain⟨y,e1,e2⟩:=Ak.mp e;split at e2
  .rename_i n;split at e2
   .rename_i hc;cases e2;obtain⟨nij,hl,hn,hk,hu⟩:=hc;obtain⟨p,ob,h1,h2,h3,h4⟩:=F.er.ow i _ hi;obtain⟨q,oc,g1,g2,g3,g4⟩:=F.er.ow j _ hj;obtain⟨ds,rfl⟩:∃ ds,ob=.lst ds:=by
     cases ob with
     | lst ds=>exact⟨ds,rfl⟩
     | zS _=>exact h3.elim
    obtain⟨es,rfl⟩:∃ ds,oc=.lst ds:=by
     cases oc with
     | lst ds=>exact⟨ds,rfl⟩
     | zS _=>exact g3.elim
    replace h3:zg (zI S Z) ts ds:=h3;replace g3:zg (zI S Z) us es:=g3;show uj (yb i) (oS (yb j) te) L S _;unfold uj oS yb;rw[h1];refine⟨⟨ds,h2⟩,?_⟩;rw[g1];refine⟨⟨es,g2⟩,hf S Z L J _ _ F.er e1 λ d S1 s1 r1=>?_⟩;cases r1.int;have F1:=F.grow s1;have g3':=zg.sx (xW (Z:=Z) s1) us g3;obtain⟨c,c1,c2⟩:=g3'.o5 (i:=n.toNat) (t:=us.getD n.toNat .zm) (by rw[Ay,Aw hk];rfl);refine⟨n.toNat,es,c,by rw[CI hn],s1 _ _ g2,by lia,c1,?_⟩;have F2:=F1.mut (us:=.lst (us.eraseIdx n.toNat)) (es:=.lst (es.eraseIdx n.toNat)) j hj g1 (zg.erase _ g3');have IX:(J.set j (some (.own (.lst (us.eraseIdx n.toNat)))))[i]?=some (some (.own (.lst ts))):=by rw[Ed (Ne.symm nij)];exact hi
    obtain⟨p',ob',k1,k2,k3,k4⟩:=F2.er.ow i _ IX;rw[h1] at k1;cases k1;obtain⟨G4,rfl⟩:∃ ds,ob'=.lst ds:=by
     cases ob' with
     | lst ds=>exact⟨ds,rfl⟩
     | zS _=>exact k3.elim
    replace k3:zg _ ts G4:=k3;dsimp only;rw[k2];refine⟨by rw[k3.len];exact hl,P _ Z L (F2.mut (us:=.lst (ts++[us.getD n.toNat .zm])) (es:=.lst (G4++[c])) i IX h1 (k3.append (.cons ?_ .nil)))⟩;rw[show zI (ups S1 q (.lst (es.eraseIdx n.toNat))) Z=zI S1 Z from cY g4];exact c2
   .cases e2
  .cases e2
 .cases e
end L5
namespace L2
open PySem PySem.Spec PyProof.Rows
section
variable {prog:Program}{w:World}{A:Around}{s:Shared}
def PY {its:Ad}{ns:List Int}(h:IntsAre its ns):∀ {i:Nat},i<ns.length->∃ t,its[i]?=some (.int (ns.getD i 0) t):=by
 induction h with
 | nil=>intro i hi;simp at hi
 | cons n t _ ih=>
  intro i hi;cases i with
  | zero=>exact⟨t,rfl⟩
  | succ i=>exact ih (by simpa using hi)
theorem cT {its:An}{ns:List Int}{k:Int}{t:Tok}{E:Af}{Q:Option PySem.Fin×Unit->Shared->Prop}{body:Nat->Option PySem.Fin×Unit->Sem (ForInStep (Option PySem.Fin×Unit))}
  (hb:∀ (i:Nat) y,its[i]?=some y->body i (none,())=eqBool y (.int k t) >>= λ e=>if e=true then retInt (i:Int) >>= λ r=>pure (ForInStep.done (some r,())) else pure (ForInStep.yield (none,())))
  (hi:IntsAre its.toList ns) (hk:k∈ns) (h:Q (some (.done (.ret (.int (ns.idxOf k:Nat) s.toks))),()) { s with toks:=s.toks+1 }):
  ∀ (m i:Nat),i+m=ns.length->i<=ns.idxOf k->wpAny (model prog w) A (forIn (List.range' i m 1) ((none,()):Option PySem.Fin×Unit) body) Q E s
 | 0,i,h1,h2=>by have:=CP.mpr hk;lia
 | m+1,i,h1,h2=>by
  obtain⟨u,hu⟩:=PY hi (i:=i) (by lia);rw[Bi] at hu;rw[List.range'_succ,Cj];refine JA ?_;rw[hb _ _ hu];refine JA (SeqAt.EqAt.int_int (ns.getD i 0) u k t prog w _ _ ?_);by_cases e:ns.getD i 0=k
  .have ei:ns.idxOf k=i:=by
    have Ao:=CP.mpr hk;rcases Bc i (ns.idxOf k) with q | q
    .have:=List.not_of_lt_findIdx (p:=(· == k)) (xs:=ns) (i:=i) q;rw[Ay,Aw (by lia)] at e;simp at this e;exact absurd e this
    .lia
   rw[if_pos (by simpa using e)];refine JA (JA (wpAny_mkInt (Ab (Ab (Ab ?_)))));rw[ei] at h;exact h
  .rw[if_neg (by simpa using e)];refine Ab (cT hb hi hk h m (i+1) (by lia) ?_);rcases Bc i (ns.idxOf k) with q | q
   .lia
   .have ei:i=ns.idxOf k:=by lia
    have Ao:=CP.mpr hk;refine absurd ?_ e;rw[ei,Ay,Aw Ao];exact DY Ao
def YV {l:Addr}{its:Ad}{o:Obj}{n:Nat}{ns:List Int}{k:Int}{t:Tok}{E:Af}{P:PySem.Fin->Shared->Prop}(ho:s.heap.get? l=some o) (hd:o.data=.seq its.toArray n) (hi:IntsAre its ns) (hk:k∈ns)
  (h:P (.done (.ret (.int (ns.idxOf k:Nat) s.toks))) { s with toks:=s.toks+1 }):wpAny (model prog w) A (Builtin.«tuple.index» ⟨[.ref l,.int k t],[]⟩) P E s:=by
 unfold Builtin.«tuple.index»;obtain⟨hp,g,d,tk,os⟩:=s
 wp_walk using wpAny_loadPart' ho
 rw[hd];refine Ab (Ab ?_);refine JA (m:=pure 0) (Ab ?_);refine JA (m:=pure its.toArray.size) (Ab ?_);refine JA ?_;rw[Nat.min_self,Std.Legacy.Range.forIn_eq_forIn_range'];have hl:=hi.length;refine cT (its:=its.toArray) (t:=t) (λ i y h=>by rw[h]) (by simpa using hi) hk ?_ _ 0 ?_ (AQ _)
 .exact Ab h
 .simp[Std.Legacy.Range.size];lia
variable {X:Cx}
def eG (K:Ac):V->List V->Hp->VK->Prop:=λ x vs H Q=>∃ (l:Addr) (ns:List Int) (k:Int),x=.ref l/\vs=[.int k]/\zN K H l (ns.map V.int)/\k∈ns/\Q (.int (ns.idxOf k:Nat)) H
def QI:Zf X "tuple.index" (eG X.K):=by
 intro EV s Y H x vs v us Q I rx rv h;obtain⟨l,ns,k,rfl,rfl,hq,hk,q⟩:=h;cases rx;obtain⟨u,rfl,ru⟩:=rv.one;obtain⟨t,rfl⟩:=ru;obtain⟨its,r,⟨o,ho,hc,n,hd⟩,_⟩:=I.tuple hq;exact KD F.slot_tuple_index ⟨o,ho,hc⟩ F.entry_tuple_index (YV ho hd (intsAre_of r) hk ⟨_,rfl,⟨.int _,H,I.tok _,⟨_,rfl⟩,q⟩⟩) (F.args_tuple_index_2 _ _)
def Xn (K:Ac) (to:TE) (t:TA):TE:=fun Y H Q=>to Y H λ x H1=>(∃ p,x=.ref p/\∃ xs,zN K H1 p xs)/\t Y H1 λ xs H2=>eG K x xs H2 Q
def Inv.Q5 {EV:Ag}{Y:St}{H:Hp}{a:Addr}{xs:List V}(I:Inv X EV Y H s) (h:zN X.K H a xs):s.TypeIs (.ref a) "tuple"/\∃ o,s.heap.get? a=some o/\o.dict=none:=by
 obtain⟨_,_,⟨o,ho,hc,_⟩,_⟩:=I.tuple h;refine⟨⟨o,ho,hc⟩,?_⟩;rcases h with h | ⟨o,its,n,hk,hc,hs,hz,r⟩
 .exact (h.ok I.zr).1.2
 .exact⟨o,I.wR a o hk,hc.2⟩
variable {o e:Expr}{to:TE}{t:TA}{apos Ae:Pos}
def Vt (ho:PE X o to) (ha:PA X [e] t)
  (FC:attributeBase o "index" X.env (eval o X.env)=eval o X.env:=by rfl)
  (AD:((backTo Ae (starEach [e] X.env)).all (λ x=>!x.1)&&(backToKw Ae (keywordEach [] X.env)).all (λ x=>x.1.isSome)
   && decide ([e].length+([]:List Keyword).length+(if ([]:List Keyword).isEmpty then 0 else 1)<30))=true:=by rfl)
  (Fz:(apos.endLine == Ae.line)=true:=by rfl) (hs:starEach [e] X.env=(false,eval e X.env)::starEach [] X.env:=by rfl) (Fg:(backTo Ae (starEach [] X.env)).any (·.1)=false:=by rfl):
  PE X (.Call (.Attribute o "index" apos) [e] [] Ae) (Xn X.K to t):=by
 intro EV s Y H Q I h;refine wpAny_Call_method_late FC AD Fz rfl (zv (ho EV s Y H _ I h) λ v s1 ⟨x,H1,I1,r1,⟨p,e1,xs,sq⟩,q1⟩=>?_);subst e1;cases r1;obtain⟨h1,h2⟩:=I1.Q5 sq;refine⟨"tuple","tuple.index",PySem.F.plainAttrs_tuple,F.slot_tuple_index,F.type_tuple_index,h1,λ a e=>by cases e;exact h2,?_⟩;have hA:=ha Ae EV s1 Y H1 _ I1 q1;rw[hs] at hA ⊢;refine Calls.callWith_builtin (by show (false||(backTo Ae (starEach [] X.env)).any (·.1))=false;rw[Fg] <;> rfl) (Calls.evalArgs_plain ?_);exact zv hA λ us s2 ⟨vs,H2,I2,r2,q2⟩=>QI EV s2 Y H2 (.ref p) vs (.ref p) us Q I2 rfl r2 q2
end
end L2
namespace L3
open PySem PySem.Spec L2
open PyProof.Rows hiding St
section
variable {X:Cx}{o e:Expr}{to te:zo}{apos Ae:Pos}
def ae (to te:zo):zo:=fun L S Q=>to L S λ x S1=>∃ ns:List Int,x=.tup (ns.map D.int)/\te L S1 λ y S2=>∃ k,y=.int k/\k∈ns/\Q (.int (ns.idxOf k:Nat)) S2
def US (ho:PD X o to) (he:PD X e te)
  (FC:attributeBase o "index" X.env (eval o X.env)=eval o X.env)
  (AD:((backTo Ae (starEach [e] X.env)).all (λ x=>!x.1)&&(backToKw Ae (keywordEach [] X.env)).all (λ x=>x.1.isSome)
   && decide ([e].length+([]:List Keyword).length+(if ([]:List Keyword).isEmpty then 0 else 1)<30))=true)
  (Fz:(apos.endLine == Ae.line)=true) (hs:starEach [e] X.env=(false,eval e X.env)::starEach [] X.env) (Fg:(backTo Ae (starEach [] X.env)).any (·.1)=false):
  PD X (.Call (.Attribute o "index" apos) [e] [] Ae) (ae to te):=by
 refine⟨fun L S Q Q' hq z=>ho.mo L S _ _ (λ x S1 ⟨ns,h1,h2⟩=>⟨ns,h1,he.mo L S1 _ _ (λ y S2 ⟨k,h1,h2,h3⟩=>⟨k,h1,h2,hq _ _ h3⟩) h2⟩) z,PE.imp (Vt ho.pe (tB he.pe sF hs) FC AD Fz hs Fg) fun Y H Q hu=>?_⟩;obtain⟨L,S,r1,r2,z⟩:=hu;refine zC.go ho.mo r1 r2 z λ x S1 v H1 h1 q1 e1 p1=>?_;obtain⟨ns,rfl,h1⟩:=h1;have q1':=q1;simp only[ze] at q1;obtain⟨a,xs,rfl,sq,rd⟩:=q1;cases rd.ints;refine⟨⟨_,rfl,_,sq⟩,?_⟩;refine zC.go he.mo (r1.ext e1) p1 h1 λ y S2 w H2 h2 q2 e2 p2=>?_;obtain⟨k,rfl,g3,g4⟩:=h2;have q3:=ze.ext e2 _ q1';simp only[ze] at q2 q3;subst q2;obtain⟨b,HS,eb,sq2,rd2⟩:=q3;cases eb;cases rd2.ints;exact⟨a,ns,k,rfl,rfl,sq2,g3,g4 _ H2 (by simp only[ze]) (e1.trans e2) p2⟩
end
end L3
namespace L5
open PySem PySem.Spec L2 L3
open PyProof.Rows hiding St
noncomputable def rJ:T->T->Option T
 | .tup ts,.int k=>(xV ts).bind λ ns=>if k∈ns then some (.int (ns.idxOf k:Nat)) else none
 | _,_=>none
def RU {fa fb:Ev->Option T}{ta tb:zo}(ha:yf fa ta) (hb:yf fb tb):xh (zb rJ fa fb) (ae ta tb):=λ S Z L J y Q hE e hq=>by
 unfold zb at e;obtain⟨x,e1,e⟩:=Ak.mp e;obtain⟨z,e2,e⟩:=Ak.mp e;unfold rJ at e;split at e
 .obtain⟨ns,i1,i2⟩:=Ak.mp e;split at i2
  .rename_i hk;cases i2;have ei:=rH i1;subst ei;refine ha S Z L J _ _ hE e1 λ d S1 s1 r1=>?_;obtain⟨ds,rfl,r3⟩:=Vw.tup r1;cases vV.mp r3;refine⟨ns,rfl,hb S1 Z L J _ _ (hE.grow s1) e2 λ d2 S2 s2 r2=>?_⟩;cases r2.int;exact⟨_,rfl,hk,hq _ S2 (s1.trans s2) (Cl.of (λ _=>nofun) xD)⟩
  .cases i2
 .cases e
end L5
namespace L3
open PySem PySem.Spec L2
open PyProof.Rows hiding St
section
variable {X:Cx}{e:Expr}{es:List Expr}{tA:z_}{pos p:Pos}
def vh (i:Nat) {x:Str}(hN:X.N[i]?=some x:=by rfl) (hv:ko X.env.scope x:=by first | exact Or.inl rfl | exact Or.inr (Or.inl rfl) | exact Or.inr (Or.inr rfl)) (hd:(x == ("__debug__":Str))=false:=by decide) (Bv:(x == ("__classdict__":Str))=false:=by decide):PD X (.Name x pos) (yb i):=Uq i (pv i hN hv hd Bv)
def Tj {x:Str}{k k':Nat}{ps:List Str}{sp:tU}(F:FD X.prog X.w X.K X.mg X.base x k ps sp) (hr:yd k' X.A) (ha:yZ X (e::es) tA) (hk:k<=k') (hg:Gl X x) (B5:(x == ("__debug__":Str))=false)
  (he:starEach (e::es) X.env=(false,eval e X.env)::starEach es X.env) (Aq:(backTo pos (starEach es X.env)).any (·.1)=false):PD X (.Call (.Name x p) (e::es) [] pos) (l8 sp tA):=Tn F (hr.mono hk) ha hg B5 he Aq
end
def bu {N P:List Str}{sc:Scope}(h1:sc.kind=.function:=by rfl) (h2:sc.isCoroutine=false:=by rfl) (h3:sc.isGenerator=false:=by rfl) (h4:N.Nodup:=by decide +kernel) (h5:N.take P.length=P:=by rfl) (h6:∀ x∈P,sc.names.lookup x=some .local\/sc.names.lookup x=some .cell:=by decide +kernel) (h7:∀ y∈sc.names,y.2≠.free:=by decide +kernel):uX N P sc:=⟨h1,h2,h3,h4,h5,h6,h7⟩
end L3
namespace L5
open L2 L3
def jv {R:Rk}{g:Sm}{t:y4}(h:ye R g t:=by
 repeat' first
  | (with_reducible first | exact Rc _ | apply Qu | apply Ru | apply RV)
  | (with_reducible first | exact dr _ | refine tE (R:=xm) c_ ?_ ?_ | refine ju (R:=xm) ?_ | apply du | apply dv)
  | ((try first | refine xp.fr ?_ | refine xp.fe ?_);with_reducible first | exact RS _ | refine tE (R:=zA) (by with_reducible first | exact good_add | exact jR | exact O4 | exact O3 | exact O2 | exact jS | exact jU | exact Ow | exact cZ) ?_ ?_ | refine ju (R:=zA) ?_ | refine Qf (R:=zA) (by with_reducible first | exact O1 | exact Oo | exact O0 | exact Oy | exact Ox | exact O5 | exact Ov | exact Ot | exact Oz | exact O6 | exact Oq) ?_ | apply Rf | apply RU | apply Rj | apply R0 | apply RY | apply R4 | exact Qm _ | exact Rl _ | exact Rv | apply R6 | apply RT | apply Ry | refine Qe (by with_reducible first | exact jR | exact jS | exact jU) (by with_reducible first | exact jR | exact jS | exact jU) ?_ ?_ ?_ | apply Rq | apply Rn | exact Qc _ | apply RX | apply Rz)
  | (refine xp.er ?_;with_reducible first | exact dr _ | refine tE (R:=xm) c_ ?_ ?_ | refine ju (R:=xm) ?_ | apply du | apply dv)
  | (with_reducible first | apply Sf | apply Sz | apply Sj | exact Sd | apply Sg | apply S8 | apply S7 | apply Sy | apply So | apply T_ | exact dq _ | apply Ss | exact Sh | apply Sk | apply Sb | apply Sq | exact Sv _ | apply Su | apply Si)
  | (with_reducible first | exact S_ | apply Ra | exact SX | apply SY | apply Rg | apply Ri | apply R_ | apply RZ | apply Qb | exact Rh | exact SM _ | exact SH | apply SJ | exact SN | apply SO | apply SF | apply SA | apply SD | apply SG | apply S9 | apply SE | exact SW | apply SV)
  | (first | exact SU _ | apply SK | apply SR)
  | exact ye.fv (dq _)
  | exact Bool.false):ye R g t:=h
end L5
namespace L5
open PySem PySem.Spec L2 L3
open PyProof.Rows hiding St
def Cm (mg:AI) (x:Str) (t:V):Prop:=∃ u,mg x=some u/\L2.RelV t u
def Hs (_:List (List Str×List (Option Nat))):Prop:=True
noncomputable def Hq (s:Scope) (n:List Str):Bool:=s.names.all (λ y=>!(decide (y.2=.local)||decide (y.2=.free)||decide (y.2=.cell))||y.1 == ".0"||n.elem y.1)&&(s.names.filter λ y=>decide (y.2=.local)||decide (y.2=.free)||decide (y.2=.cell)).length == n.length+1
def Ht (_:List Str) (_:List (Option Nat)):Prop:=True
section
variable {n:List Str}{p:List (Option Nat)}{x y z:List Str×List (Option Nat)}{r:List (List Str×List (Option Nat))}
def Hs.a (_:Hs ((n,p)::r)):Ht n p:=trivial
def Hs.b (_:Hs (x::(n,p)::r)):Ht n p:=trivial
def Hs.c (_:Hs (x::y::(n,p)::r)):Ht n p:=trivial
def Hs.d (_:Hs (x::y::z::(n,p)::r)):Ht n p:=trivial
def Hs.e {u:List Str×List (Option Nat)}(_:Hs (x::y::z::u::(n,p)::r)):Ht n p:=trivial
end
section
variable {X:Cx}{N' N:List Str}{pick:List (Option Nat)}{scope Ip:Scope}{tg iter elt:Expr}{ifs:List Expr}{ti:xO}{g:yT}{GN:yt}{te:zo}{pos:Pos}
def pl (_:Ht N' pick) (_:X.env.scope=Ip) (_:X.N=N) (Sc:tf X N' pick scope) (_:Hq scope N'=true) (hi:vP X tg iter ti) (hg:∀ cl C s H fp,N'.Nodup->vx (yi X N' scope cl C s H fp) tg g) (hf:∀ cl C s H fp,N'.Nodup->qZ (yi X N' scope cl C s H fp) ifs GN) (he:∀ cl C s H fp,N'.Nodup->PD (yi X N' scope cl C s H fp) elt te)
  (nd:N'.Nodup) (hc:X.calm=true) (hs:∀ x,foldedSetIterable iter X.env x=pure x):
  PD X (.ListComp elt [⟨tg,iter,ifs,0⟩] scope pos) (uh pick ti g GN te):=UE Sc hc hi (λ cl C s H fp=>hg cl C s H fp nd) (λ cl C s H fp=>hf cl C s H fp nd) (λ cl C s H fp=>he cl C s H fp nd) hs
def Vb {a b:Expr}{k:Nat}{t:xP}(h:qY X [a,b] t) (hc:X.calm=true) (hn:(assignEach [a,b] X.env).length=2) (AX:(assignEach [a,b] X.env).findIdx? (·.1)=none):vx X (.Tuple [a,b] k pos) (qI 2 t):=eY h hc hn AX
def Va {a b c:Expr}{k:Nat}{t:xP}(h:qY X [a,b,c] t) (hc:X.calm=true) (hn:(assignEach [a,b,c] X.env).length=3) (AX:(assignEach [a,b,c] X.env).findIdx? (·.1)=none):vx X (.Tuple [a,b,c] k pos) (qI 3 t):=eY h hc hn AX
def UX {x y:Str}(h:Cm X.mg x (.str y)) (hg:Gl X x:=by rfl) (hd:(x == ("__debug__":Str))=false:=by decide):PD X (.Name x pos) (dC (.str y)):=let ⟨_,a,b⟩:=h;UW a b hg hd
def UZ {x:Str}{n:Int}(h:Cm X.mg x (.int n)) (hg:Gl X x:=by rfl) (hd:(x == ("__debug__":Str))=false:=by decide):PD X (.Name x pos) (dC (.int n)):=let ⟨_,a,b⟩:=h;UY a b hg hd
def pU {i:Nat}{y:Str}{py Bb:Pos}(_:Ht N' pick) (_:X.env.scope=Ip) (_:X.N=N) (hn:X.N.Nodup) (Sc:tf X N' pick scope)
  (BW:swapsWith (.ListComp elt [⟨tg,iter,ifs,0⟩] scope pos) (some (.Name y py)) Bb.line X.env=pure true) (_:Hq scope N'=true)
  (hi:vP X tg iter ti) (hg:∀ cl C s H fp,N'.Nodup->vx (yi X N' scope cl C s H fp) tg g) (hf:∀ cl C s H fp,N'.Nodup->qZ (yi X N' scope cl C s H fp) ifs GN) (he:∀ cl C s H fp,N'.Nodup->PD (yi X N' scope cl C s H fp) elt te)
  (nd:N'.Nodup) (hc:X.calm=true) (hy:X.N[i]?=some y) (hx:Loc X.env.scope y)
  (B4:X.fn y=true\/X.env.scope.names.lookup y=some .local) (hs:∀ x,foldedSetIterable iter X.env x=pure x):
  xQ X (.Assign [.Name y py] (.ListComp elt [⟨tg,iter,ifs,0⟩] scope pos) Bb) (wH (uh pick ti g GN te) (hName i)):=VP Sc hc hi (λ cl C s H fp=>hg cl C s H fp nd) (λ cl C s H fp=>hf cl C s H fp nd) (λ cl C s H fp=>he cl C s H fp nd) hn hy hx BW B4 hs
end
def pA {p:Prop}(h:p:=by
 repeat' first
  | exact rfl
  | (show PD _ _ _;first | (show PD _ (.Name _ _) _;first | exact vh 0 | exact vh 1 | exact vh 2 | exact vh 3 | exact vh 4 | exact vh 5 | exact vh 6 | exact vh 7 | exact vh 8 | exact vh 9 | exact vh 10 | exact vh 11 | exact vh 12 | exact UX (by assumption) | exact UZ (by assumption)) | exact UR | exact Tr | exact Uu | exact U4 | (show PD _ (.Subscript (.Name "lows" _) _ _) _;apply Tf hr) | (show PD _ (.Call _ [.Name "lows" _] _ _) _;apply Te T.len) | exact Tg | apply Th hr | apply Uy | apply UM | apply Us | apply UH | (show PD _ (.Call _ _ _ _) _;first | (apply Tj;assumption) | apply UK T.len | apply UI T.list T.range | apply UJ T.list | apply Ur T.tuple | apply UA T.max | apply U9 T.min | apply Tu T.all | apply Uw hr T.sorted U.set | apply Uv T.sorted U.zip | apply US | apply UB | apply Ux T.sorted | apply UP T | apply UQ T | apply UO T | apply UN T | apply Tw U.abs | apply UD | apply UC) | (show PD _ (.BinOp _ _ _ _) _;first | (have:=hB;first | apply Ta | apply U7) | apply Tv | apply Ut | apply U8 | apply Tb | apply U6 | apply Uz) | (show PD _ (.Compare _ _ _ _) _;first | apply UG hr | apply Td hr | apply UL | apply U_ | apply UT hr | apply Ti qw qw fit_le fit_le xl.mo xl.mo) | apply Tt | apply U1 | apply U3 | apply U5 | apply UU | (apply pl (Hs.a hc) hS hN;exact uO hS hN;decide +kernel) | (apply pl (Hs.b hc) hS hN;exact uO hS hN;decide +kernel) | (apply pl (Hs.c hc) hS hN;exact uO hS hN;decide +kernel) | (apply pl (Hs.d hc) hS hN;exact uO hS hN;decide +kernel) | (apply pl (Hs.e hc) hS hN;exact uO hS hN;decide +kernel) | (apply pl (Hs.a hc) rfl rfl;exact oZ;decide +kernel) | (apply pl (Hs.b hc) rfl rfl;exact oZ;decide +kernel) | (apply pl (Hs.c hc) rfl rfl;exact oZ;decide +kernel) | (apply pl (Hs.d hc) rfl rfl;exact oZ;decide +kernel) | (apply pl (Hs.e hc) rfl rfl;exact oZ;decide +kernel))
  | (show yZ _ _ _;first | exact Um | apply Uo)
  | (show xo _ _ _;first | (show xo _ (.Compare _ _ _ _) _;first | apply VA hr | apply VE hr | apply V9 hr | apply VB | apply VD hr | apply VC | apply VF qw qw fit_le fit_le xl.mo xl.mo) | apply V8 | (apply tV.pt;first | apply eW | apply eX) | apply V7)
  | apply eW | apply eX | apply V5 | apply V6
  | (show wJ _ _ _;first | exact VH | apply VG | apply VI)
  | (show xQ _ _ _;first | apply VN | apply VS | apply VT PassesOwn.never rfl | apply VJ PassesOwn.never | (apply pU (Hs.a hc) hS hN nd;exact uO hS hN;rfl;decide +kernel) | (apply pU (Hs.b hc) hS hN nd;exact uO hS hN;rfl;decide +kernel) | (apply pU (Hs.c hc) hS hN nd;exact uO hS hN;rfl;decide +kernel) | (apply pU (Hs.d hc) hS hN nd;exact uO hS hN;rfl;decide +kernel) | (apply pU (Hs.e hc) hS hN nd;exact uO hS hN;rfl;decide +kernel) | (show xQ _ (.Assign [.Subscript (.Name "lows" _) _ _] _ _) _;apply VV hr) | apply VL | apply VQ | apply VU | apply VW | exact (VO:xQ _ (.Raise _ _ _) _))
  | apply Ui | apply Vb | apply Va | apply Ug | exact Ue
  | (show vP _ _ _ _;first | apply Ub T.range | apply Ua T.range | apply VZ U.zip | apply Ud U.enumerate | apply V_)
  | exact Ul | exact VY | apply Uk | apply VX
  | exact hr | exact nd | intro _ _ _ _ _ nd | exact λ _=>rfl | exact λ _ _=>rfl | exact Or.inl rfl | exact Or.inr rfl | exact⟨rfl,rfl,rfl,rfl⟩ | decide
  | exact (rfl:(_:List Str)[0]?=_) | exact (rfl:(_:List Str)[1]?=_) | exact (rfl:(_:List Str)[2]?=_) | exact (rfl:(_:List Str)[3]?=_) | exact (rfl:(_:List Str)[4]?=_) | exact (rfl:(_:List Str)[5]?=_) | exact (rfl:(_:List Str)[6]?=_) | exact (rfl:(_:List Str)[7]?=_) | exact (rfl:(_:List Str)[8]?=_) | exact (rfl:(_:List Str)[9]?=_) | exact (rfl:(_:List Str)[10]?=_) | exact (rfl:(_:List Str)[11]?=_) | exact (rfl:(_:List Str)[12]?=_)):p:=h
section
variable {P:Program}{w:World}{K:Ac}{mg:AI}{base:Heap}{x:Str}{st:Stmt}{N ps:List Str}{k n:Nat}{g:Sm}{R:Rk}[Lo R]
def zZ (hs:List (List Str×List (Option Nat))) (F:Fy K mg x st)
  (Fh:∀ (f:Addr) (Am:Value) (A:Around) (outer:List Env) (s:Shared) (H:Hp) (E:XK),Hs hs->N.Nodup->(wo xx P w K mg base N x (yg st) f Am A outer s H E).wQ.N=N->(wo xx P w K mg base N x (yg st) f Am A outer s H E).wQ.env.scope=yg st->yd k (A.deeper (envOfC x (yg st) s.heap.objs.size f Am))->
   ∃ t,wJ (wo xx P w K mg base N x (yg st) f Am A outer s H E).wQ (xZ st) t/\ye R g t:=by intro f Am A outer s H E hc nd hN hS hr;exact⟨_,pA,jv⟩)
  (Sc:uX N ps (yg st):=by exact bu) (hn:n=ps.length:=by rfl)
  (hb:∀ (kV doc pm:Value) (an:Option Addr) (Am ct:Value) (us:Ad),us.length=ps.length->bindArgs (PySem.W.fnOf x x (uM st) (xZ st) (yg st) .none kV doc pm an Am ct) ⟨us,[]⟩=pure (ps.zip us):=by intro _ _ _ _ _ _;first | exact Mz λ _=>rfl | exact My λ _ _=>rfl | exact Mx λ _ _ _=>rfl | exact Mw λ _ _ _ _=>rfl):FD P w K mg base x (k+1) ps (zG R (zO N n g)):=
 OP F Sc hn hb λ f Am A outer s H E hr=>Fh f Am A outer s H E trivial Sc.nd rfl rfl hr
def OH {f:Addr}{fd:FuncData}(hs:List (List Str×List (Option Nat))) (F:vQ K x x st f fd)
  (Fh:∀ (Am:Value) (A:Around) (outer:List Env) (s:Shared) (H:Hp) (E:XK),Hs hs->N.Nodup->(wo xx P w K mg base N x (yg st) f Am A outer s H E).wQ.N=N->(wo xx P w K mg base N x (yg st) f Am A outer s H E).wQ.env.scope=yg st->yd k (A.deeper (envOfC x (yg st) s.heap.objs.size f Am))->
   ∃ t,wJ (wo xx P w K mg base N x (yg st) f Am A outer s H E).wQ (xZ st) t/\ye R g t:=by intro Am A outer s H E hc nd hN hS hr;exact⟨_,pA,jv⟩)
  (Sc:uX N ps (yg st):=by exact bu) (hn:n=ps.length:=by rfl):vz P w K mg base xx (k+1) f fd ps (uu K (zG R (zO N n g))):=
 bw F Sc hn λ Am A outer s H E hr=>Fh Am A outer s H E trivial Sc.nd rfl rfl hr
end
end L5
namespace RN
open L5
abbrev Bd:=List (Int×Int)
def yB (b c:Bd):Prop:=∀ q,zK b q=true->zK c q=true
def yB.refl (b:Bd):yB b b:=λ _ h=>h
def yB.of {b c:Bd}(h:∀ p∈b,∃ r∈c,r.1<=p.1/\r.2<=p.2):yB b c:=λ q x=>by
 obtain⟨p,hp,h1,h2⟩:=yo.mp x;obtain⟨r,hr,h3,h4⟩:=h p hp;exact yo.mpr ⟨r,hr,by lia,by lia⟩
def yB.at {b c:Bd}(h:yB b c) {p:Int×Int}(hp:p∈b):∃ r∈c,r.1<=p.1/\r.2<=p.2:=yo.mp (h p (yo.mpr ⟨p,hp,AN _,AN _⟩))
structure Gd (A B:Int) (b:Bd):Prop where
 qD:yU b
 yQ:∀ p∈b,(0<=p.1/\p.1<=A)/\0<=p.2/\p.2<=B
noncomputable def yS:Bd:=[(0,0)]
def N2 {q:Int×Int}:zK yS q=true↔0<=q.1/\0<=q.2:=by
 rw[yo];unfold yS;simp
theorem Gd.yS {A B:Int}(hA:0<=A) (hB:0<=B):Gd A B yS:=⟨by unfold RN.yS yU;simp,λ p hp=>by
 unfold RN.yS at hp;cases AW.mp hp;exact⟨⟨AN _,hA⟩,AN _,hB⟩⟩
def Gd.Pb {A B:Int}{b:Bd}(h:Gd A B b):yB b RN.yS:=yB.of λ p hp=>⟨(0,0),by unfold RN.yS;simp,(h.yQ p hp).1.1,(h.yQ p hp).2.1⟩
theorem Gd.eq {A B:Int}{b c:Bd}(h:Gd A B b) (h':Gd A B c) (x:yB b c) (y:yB c b):b=c:=yU.eq h.qD h'.qD λ q=>by
 rw[Bs];exact⟨x q,y q⟩
def Gd.least {A B:Int}{ps:Bd}(h:∀ p∈ps,(0<=p.1/\p.1<=A)/\0<=p.2/\p.2<=B):Gd A B (w9 ps):=⟨jG ps,λ p hp=>h p (Q_ hp)⟩
def cn {ps qs:Bd}(h:∀ p∈ps,∃ r∈qs,r.1<=p.1/\r.2<=p.2):yB (w9 ps) (w9 qs):=λ q x=>by
 rw[q8] at x ⊢;exact yB.of h q x
theorem cF:∀ {b:Bd}{lo hi:Int},yU b->(∀ p∈b,lo<=p.1/\p.1<=hi)->(b.length:Int)<=hi+1-lo\/b=[]
 | [],_,_,_,_=>.inr rfl
 | p::b,lo,hi,h,hb=>by
  have h1:=Bh.mp h;have hp:=hb p Ap;refine .inl ?_;rcases cF (lo:=p.1+1) (hi:=hi) h1.2 (λ q hq=>⟨by have:=(h1.1 q hq).1;lia,(hb q (Av _ hq)).2⟩) with x | x
  .rw[Bg];lia
  .subst x;simp;lia
theorem cE:∀ {b:Bd}{lo hi:Int},yU b->(∀ p∈b,lo<=p.2/\p.2<=hi)->(b.length:Int)<=hi+1-lo\/b=[]
 | [],_,_,_,_=>.inr rfl
 | p::b,lo,hi,h,hb=>by
  have h1:=Bh.mp h;have hp:=hb p Ap;refine .inl ?_;rcases cE (lo:=lo) (hi:=p.2-1) h1.2 (λ q hq=>⟨(hb q (Av _ hq)).1,by have:=(h1.1 q hq).2;lia⟩) with x | x
  .rw[Bg];lia
  .subst x;simp;lia
def Gd.rE {A B:Int}{b:Bd}(h:Gd A B b) (hA:0<=A):(b.length:Int)<=A+1:=by
 rcases cF (lo:=0) (hi:=A) h.qD (λ p hp=>(h.yQ p hp).1) with x | x
 .lia
 .subst x;simp;lia
def Gd.QZ {A B:Int}{b:Bd}(h:Gd A B b) (hB:0<=B):(b.length:Int)<=B+1:=by
 rcases cE (lo:=0) (hi:=B) h.qD (λ p hp=>(h.yQ p hp).2) with x | x
 .lia
 .subst x;simp;lia
noncomputable def yu (x:Int):Int:=if x>0 then x else 0
def mO (x:Int):0<=yu x:=by unfold yu;split <;> lia
def j0 {x y:Int}(h:x<=y):yu x<=yu y:=by unfold yu;split <;> split <;> lia
def QC {x g:Int}(h:0<=x) (hg:0<=g):yu (x-g)<=x:=by unfold yu;split <;> lia
def yP (a b:Int) (p:Int×Int):Int×Int:=(yu (p.1-a),yu (p.2-b))
noncomputable def wV (A B:Int) (p:Int×Int):Bool:=decide (p.1<=A)&&decide (p.2<=B)
def rQ (A B a b:Int) (bd:Bd):Bd:=w9 ((bd.map (yP a b)).filter (wV A B))
def M3 (A B a b:Int) (bd:Bd):Gd A B (rQ A B a b bd):=Gd.least λ p hp=>by
 obtain⟨h1,h2⟩:=AU.mp hp;obtain⟨q,_,rfl⟩:=Ai.mp h1;have h3:(yP a b q).1<=A/\(yP a b q).2<=B:=by simpa [wV] using h2
 exact⟨⟨mO _,h3.1⟩,mO _,h3.2⟩
def aZ (A B a b:Int) {bd bd':Bd}(h:yB bd bd'):yB (rQ A B a b bd) (rQ A B a b bd'):=cn λ p hp=>by
 obtain⟨h1,h2⟩:=AU.mp hp;obtain⟨q,hq,rfl⟩:=Ai.mp h1;obtain⟨r,hr,r1,r2⟩:=h.at hq;have h3:(yP a b q).1<=A/\(yP a b q).2<=B:=by simpa [wV] using h2
 have m1:(yP a b r).1<=(yP a b q).1:=j0 (by lia);have m2:(yP a b r).2<=(yP a b q).2:=j0 (by lia);exact⟨yP a b r,AU.mpr ⟨Ai.mpr ⟨r,hr,rfl⟩,by simp[wV];lia⟩,m1,m2⟩
def vJ (b c:Bd):Bd:=w9 (b++c)
def Ng (b c:Bd) (q:Int×Int):zK (vJ b c) q=(zK b q||zK c q):=by unfold vJ;rw[q8,N1]
def Nf {A B:Int}{b c:Bd}(h:Gd A B b) (h':Gd A B c):Gd A B (vJ b c):=Gd.least λ p hp=>by
 rcases AZ.mp hp with x | x
 .exact h.yQ p x
 .exact h'.yQ p x
noncomputable def mR (p q:Int×Int):Int×Int:=(if q.1>p.1 then q.1 else p.1,if q.2>p.2 then q.2 else p.2)
def vt (b c:Bd):Bd:=w9 (b.flatMap λ p=>c.map (mR p))
def aE (b c:Bd) (q:Int×Int):zK (vt b c) q=(zK b q&&zK c q):=by
 unfold vt;rw[q8,Bs,Br,yo,yo,yo];constructor
 .rintro⟨p,hp,h1,h2⟩;obtain⟨x,hx,hp⟩:=BS.mp hp;obtain⟨y,hy,rfl⟩:=Ai.mp hp;unfold mR at h1 h2;dsimp only at h1 h2;refine⟨⟨x,hx,?_,?_⟩,⟨y,hy,?_,?_⟩⟩ <;> (first | (split at h1 <;> lia) | (split at h2 <;> lia))
 .rintro⟨⟨x,hx,h1,h2⟩,⟨y,hy,h3,h4⟩⟩;refine⟨mR x y,BS.mpr ⟨x,hx,Ai.mpr ⟨y,hy,rfl⟩⟩,?_,?_⟩
  .show (if y.1>x.1 then y.1 else x.1)<=q.1;split <;> lia
  .show (if y.2>x.2 then y.2 else x.2)<=q.2;split <;> lia
def Mo {A B:Int}{b c:Bd}(h:Gd A B b) (h':Gd A B c):Gd A B (vt b c):=Gd.least λ p hp=>by
 obtain⟨x,hx,hp⟩:=BS.mp hp;obtain⟨y,hy,rfl⟩:=Ai.mp hp;have a1:=h.yQ x hx;have a2:=h'.yQ y hy;unfold mR;dsimp only;refine⟨⟨?_,?_⟩,?_,?_⟩ <;> split <;> lia
def xM (bs:List Bd):Bd:=bs.foldl vJ []
def rO (bs:List Bd):Bd:=bs.foldl vt yS
theorem ir:∀ (bs:List Bd) (b:Bd) (q:Int×Int),zK (bs.foldl vJ b) q=true↔zK b q=true\/∃ c∈bs,zK c q=true
 | [],b,q=>by simp
 | c::bs,b,q=>by
  rw[Dq,ir bs,Ng,Dv];constructor
  .rintro ((h | h) | ⟨d,hd,h⟩)
   .exact .inl h
   .exact .inr ⟨c,Ap,h⟩
   .exact .inr ⟨d,Av _ hd,h⟩
  .rintro (h | ⟨d,hd,h⟩)
   .exact .inl (.inl h)
   .rcases Aj.mp hd with e | e
    .subst e;exact .inl (.inr h)
    .exact .inr ⟨d,e,h⟩
theorem qN {A B:Int}:∀ (bs:List Bd) (b:Bd),Gd A B b->(∀ c∈bs,Gd A B c)->Gd A B (bs.foldl vJ b)
 | [],b,h,_=>h
 | c::bs,b,h,hb=>qN bs _ (Nf h (hb c Ap)) λ d hd=>hb d (Av _ hd)
def Gd.nil {A B:Int}:Gd A B []:=⟨by unfold yU;simp,λ p hp=>by cases hp⟩
theorem iC:∀ (bs:List Bd) (b:Bd) (q:Int×Int),zK (bs.foldl vt b) q=true↔zK b q=true/\∀ c∈bs,zK c q=true
 | [],b,q=>by simp
 | c::bs,b,q=>by
  rw[Dq,iC bs,aE,Br];constructor
  .rintro⟨⟨h1,h2⟩,h3⟩;exact⟨h1,λ d hd=>by
    rcases Aj.mp hd with e | e
    .subst e;exact h2
    .exact h3 d e⟩
  .rintro⟨h1,h2⟩;exact⟨⟨h1,h2 c Ap⟩,λ d hd=>h2 d (Av _ hd)⟩
theorem ka {A B:Int}:∀ (bs:List Bd) (b:Bd),Gd A B b->(∀ c∈bs,Gd A B c)->Gd A B (bs.foldl vt b)
 | [],b,h,_=>h
 | c::bs,b,h,hb=>ka bs _ (Mo h (hb c Ap)) λ d hd=>hb d (Av _ hd)
noncomputable def xU (pu:Bool) (g t:Int):Int×Int:=if pu=true then (t,g) else (g,t)
noncomputable def yv (pu:Bool) (p:Int×Int):Int:=if pu=true then p.2 else p.1
noncomputable def yN (pu:Bool) (p:Int×Int):Int:=if pu=true then p.1 else p.2
noncomputable def xA (pu:Bool) (zB give get:Int):Nat->Int->Int->Bd
 | 0,_,_=>[]
 | n+1,g,t=>if g<=zB then xU pu g t::xA pu zB give get n (g+give) (yu (t-get)) else []
def WE {pu:Bool}{g t g' t':Int}(h:g'<=g) (h':t'<=t):(xU pu g' t').1<=(xU pu g t).1/\(xU pu g' t').2<=(xU pu g t).2:=by
 cases pu
 .exact⟨h,h'⟩
 .exact⟨h',h⟩
theorem ax (pu:Bool) (zB give get:Int):∀ (n:Nat) (g t g' t':Int),g'<=g->t'<=t->∀ e∈xA pu zB give get n g t,∃ r∈xA pu zB give get n g' t',r.1<=e.1/\r.2<=e.2
 | 0,_,_,_,_,_,_,e,he=>by cases he
 | n+1,g,t,g',t',h1,h2,e,he=>by
  unfold xA at he ⊢;split at he
  .rw[if_pos (by lia)];rcases Aj.mp he with x | x
   .subst x;exact⟨_,Ap,WE h1 h2⟩
   .obtain⟨r,hr,r1⟩:=ax pu zB give get n _ _ (g' + give) (yu (t'-get)) (by lia) (j0 (by lia)) e x;exact⟨r,Av _ hr,r1⟩
  .cases he
theorem i5 (pu:Bool) (zB give get most:Int) (hg:1<=give) (De:0<=get):∀ (n:Nat) (g t:Int),0<=g->0<=t->t<=most->∀ e∈xA pu zB give get n g t,(0<=yv pu e/\yv pu e<=zB)/\0<=yN pu e/\yN pu e<=most
 | 0,_,_,_,_,_,e,he=>by cases he
 | n+1,g,t,h1,h2,h3,e,he=>by
  unfold xA at he;split at he
  .rcases Aj.mp he with x | x
   .subst x;cases pu <;> exact⟨⟨h1,by assumption⟩,h2,h3⟩
   .exact i5 pu zB give get most hg De n _ _ (by lia) (mO _) (Int.le_trans (QC h2 De) h3) e x
  .cases he
theorem ay (pu:Bool) (zB give get:Int) (hg:1<=give):∀ (n:Nat) (g t:Int),g<=zB+1->((xA pu zB give get n g t).length:Int)<=zB+1-g
 | 0,g,t,h=>by simp[xA];lia
 | n+1,g,t,h=>by
  unfold xA;split
  .rw[Bg];by_cases hh:g+give<=zB+1
   .have:=ay pu zB give get hg n (g+give) (yu (t-get)) hh;lia
   .have e:xA pu zB give get n (g+give) (yu (t-get))=[]:=by
     cases n with
     | zero=>rfl
     | succ n=>unfold xA;rw[if_neg (by lia)]
    rw[e];simp;lia
  .simp;lia
structure Wy where
 f:Nat
 t:Nat
 a:Int
 b:Int
structure Sl where
 p:Nat
 pu:Bool
 gv:Int
 gt:Int
structure zw where
 A:Int
 B:Int
 os:List Bool
 ws:List Wy
 ss:List Sl
structure zw.Ok (F:zw):Prop where
 a0:0<=F.A
 a1:F.A<=12
 b0:0<=F.B
 b1:F.B<=12
 n1:1<=F.os.length
 n8:F.os.length<=8
 ws:∀ w∈F.ws,w.f<F.os.length/\w.t<F.os.length
 pB:F.ws.length<=60
 ss:∀ s∈F.ss,1<=s.gv/\0<=s.gt
 sl:F.ss=[]\/(F.A+1)*(F.B+1)<64
 s8:F.ss.length<=60
noncomputable def zw.zB (F:zw) (pu:Bool):Int:=if pu=true then F.B else F.A
def yG (F:zw) (s:Sl) (p:Int×Int):Bd:=xA s.pu (F.zB s.pu) s.gv s.gt 100 (yv s.pu p) (yN s.pu p)
def tS (F:zw) (s:Sl) (bd:Bd):Bd:=w9 (bd.flatMap (yG F s))
def NF (F:zw) (s:Sl) {b c:Bd}(h:yB b c):yB (tS F s b) (tS F s c):=cn λ p hp=>by
 obtain⟨x,hx,hp⟩:=BS.mp hp;obtain⟨r,hr,r1,r2⟩:=h.at hx;obtain⟨e,he,e1⟩:=ax s.pu (F.zB s.pu) s.gv s.gt 100 (yv s.pu x) (yN s.pu x) (yv s.pu r) (yN s.pu r) (by unfold yv;split <;> assumption) (by unfold yN;split <;> assumption) p hp;exact⟨e,BS.mpr ⟨r,hr,he⟩,e1⟩
def ND {F:zw}{s:Sl}(hs:1<=s.gv/\0<=s.gt) {p:Int×Int}(hp:(0<=p.1/\p.1<=F.A)/\0<=p.2/\p.2<=F.B):∀ e∈yG F s p,(0<=e.1/\e.1<=F.A)/\0<=e.2/\e.2<=F.B:=λ e he=>by
 obtain⟨p,pu,gv,gt⟩:=s;unfold yG zw.zB at he;cases pu with
 | true=>exact (i5 true F.B gv gt F.A hs.1 hs.2 100 _ _ hp.2.1 hp.1.1 hp.1.2 e he).symm
 | false=>exact i5 false F.A gv gt F.B hs.1 hs.2 100 _ _ hp.1.1 hp.2.1 hp.2.2 e he
def i7 {F:zw}{s:Sl}(hs:1<=s.gv/\0<=s.gt) {b:Bd}(h:Gd F.A F.B b):Gd F.A F.B (tS F s b):=Gd.least λ p hp=>by
 obtain⟨x,hx,hp⟩:=BS.mp hp;exact ND hs (h.yQ x hx) p hp
def yI (F:zw) (last:List Bd) (p:Nat):List Bd:=(F.ws.filter λ w=>decide (w.f=p)).map λ w=>rQ F.A F.B w.a w.b (last.getD w.t [])
noncomputable def zw.Fp (F:zw) (p:Nat):Option Sl:=F.ss.find? λ s=>decide (s.p=p)
def yy (F:zw) (last:List Bd) (p:Nat):Bd:=
 if F.os.getD p false=true then match F.Fp p with
  | none=>xM (yI F last p)
  | some s=>tS F s (xM (yI F last p))
 else rO (yI F last p)
def qU (F:zw) (last:List Bd) (p:Nat):∀ c∈yI F last p,Gd F.A F.B c:=λ c hc=>by
 obtain⟨w,_,rfl⟩:=Ai.mp hc;exact M3 ..
def jz {F:zw}(ok:F.Ok) (last:List Bd) (p:Nat):Gd F.A F.B (yy F last p):=by
 unfold yy;have h1:Gd F.A F.B (xM (yI F last p)):=qN _ _ Gd.nil (qU F last p);split
 .split
  .exact h1
  .rename_i s e;exact i7 (ok.ss s (DX e)) h1
 .exact ka _ _ (Gd.yS ok.a0 ok.b0) (qU F last p)
def Q8 (F:zw) {l m:List Bd}(p:Nat) (h:∀ w∈F.ws,w.f=p->yB (l.getD w.t []) (m.getD w.t [])):yB (yy F l p) (yy F m p):=by
 have h1:yB (xM (yI F l p)) (xM (yI F m p)):=λ q hq=>by
  unfold xM at hq ⊢;rw[ir] at hq ⊢;rcases hq with x | ⟨c,hc,x⟩
  .exact .inl x
  .obtain⟨w,hw,rfl⟩:=Ai.mp hc;obtain⟨w1,w2⟩:=AU.mp hw;exact .inr ⟨_,Ai.mpr ⟨w,hw,rfl⟩,aZ _ _ _ _ (h w w1 (by simpa using w2)) q x⟩
 unfold yy;split
 .split
  .exact h1
  .exact NF F _ h1
 .intro q hq;unfold rO at hq ⊢;rw[iC] at hq ⊢;refine⟨hq.1,λ c hc=>?_⟩;obtain⟨w,hw,rfl⟩:=Ai.mp hc;obtain⟨w1,w2⟩:=AU.mp hw;exact aZ _ _ _ _ (h w w1 (by simpa using w2)) q (hq.2 _ (Ai.mpr ⟨w,hw,rfl⟩))
def Q7 (F:zw) {l m:List Bd}(p:Nat) (h:∀ w∈F.ws,w.f=p->l.getD w.t []=m.getD w.t []):yy F l p=yy F m p:=by
 have:yI F l p=yI F m p:=by
  unfold yI;refine Cg λ w hw=>?_;obtain⟨w1,w2⟩:=AU.mp hw;rw[h w w1 (by simpa using w2)]
 unfold yy;rw[this]
noncomputable def box:List (Int×Int):=(List.range 13).flatMap λ(i:Nat)=>(List.range 13).map λ(j:Nat)=>((i:Int),(j:Int))
def mu (b:Bd):Nat:=box.countP (zK b)
def Mn {p:Int×Int}(h:(0<=p.1/\p.1<=12)/\0<=p.2/\p.2<=12):p∈box:=by
 obtain⟨x,y⟩:=p;dsimp only at h;refine BS.mpr ⟨x.toNat,AK.mpr (by lia),Ai.mpr ⟨y.toNat,AK.mpr (by lia),?_⟩⟩;rw[CI h.1.1,CI h.2.1]
theorem aq {α:Type}{p q:α->Bool}:∀ {l:List α},(∀ x,q x=true->p x=true)->(∃ x∈l,p x=true/\q x=false)->l.countP q<l.countP p
 | [],_,⟨x,hx,_⟩=>by cases hx
 | a::l,h,⟨x,hx,h1,h2⟩=>by
  have hle:l.countP q<=l.countP p:=List.countP_mono_left λ y _=>h y;rw[List.countP_cons,List.countP_cons];rcases Aj.mp hx with e | e
  .subst e;rw[if_neg (by rw[h2];decide),if_pos h1];lia
  .have:=aq h ⟨x,e,h1,h2⟩;by_cases c:q a=true
   .rw[if_pos c,if_pos (h a c)];lia
   .rw[if_neg c];split <;> lia
def QF {A B:Int}(hA:A<=12) (hB:B<=12) {b c:Bd}(hb:Gd A B b) (hc:Gd A B c) (h:yB b c) (Ar:b≠c):mu b<mu c:=by
 refine aq h ?_;by_cases x:∃ p∈c,zK b p=false
 .obtain⟨p,hp,e⟩:=x;have q:=hc.yQ p hp;exact⟨p,Mn ⟨⟨q.1.1,by lia⟩,q.2.1,by lia⟩,yo.mpr ⟨p,hp,AN _,AN _⟩,e⟩
 .exact absurd (hb.eq hc h (yB.of λ p hp=>by
   cases e:zK b p with
   | true=>exact yo.mp e
   | false=>exact absurd ⟨p,hp,e⟩ x)) Ar
def QG (b:Bd):mu b<=169:=by
 have:box.length=169:=by decide
 rw[<- this];exact List.countP_le_length
def vk (l:List Bd):Nat:=(l.map mu).sum
theorem dJ:∀ (l:List Bd),vk l<=169*l.length
 | []=>by simp[vk]
 | b::l=>by
  have h1:=dJ l;have h2:=QG b;unfold vk at h1 ⊢;rw[Ax,List.sum_cons,Bg];lia
theorem j5 {A B:Int}(hA:A<=12) (hB:B<=12):∀ {l m:List Bd},l.length=m.length->(∀ b∈l,Gd A B b)->(∀ b∈m,Gd A B b)->(∀ i,yB (l.getD i []) (m.getD i []))->l≠m->vk l<vk m
 | [],[],_,_,_,_,h=>absurd rfl h
 | [],_::_,h,_,_,_,_=>by simp at h
 | _::_,[],h,_,_,_,_=>by simp at h
 | b::l,c::m,hl,gb,gc,h,Ar=>by
  have Gn:l.length=m.length:=by simpa using hl
  have h0:yB b c:=h 0;have hs:∀ i,yB (l.getD i []) (m.getD i []):=λ i=>by simpa using h (i+1)
  have key:vk l<=vk m:=by
   by_cases e:l=m
   .rw[e];exact Ah _
   .exact A5 (j5 hA hB Gn (λ x hx=>gb x (Av _ hx)) (λ x hx=>gc x (Av _ hx)) hs e)
  show (List.map mu (b::l)).sum<(List.map mu (c::m)).sum;rw[Ax,List.sum_cons,Ax,List.sum_cons];by_cases e:b=c
  .subst e;have:l≠m:=λ q=>Ar (by rw[q]);have:=j5 hA hB Gn (λ x hx=>gb x (Av _ hx)) (λ x hx=>gc x (Av _ hx)) hs this;unfold vk at this;lia
  .have:=QF hA hB (gb b Ap) (gc c Ap) h0 e;unfold vk at key;lia
noncomputable def ua (F:zw) (fresh:List Nat) (p:Nat):Bool:=F.ws.any λ w=>decide (w.f=p)&&fresh.contains w.t
def zU (F:zw) (last:List Bd) (fresh:List Nat):List Bd:=(List.range last.length).map λ p=>if ua F fresh p=true then yy F last p else last.getD p []
noncomputable def xk (last Gv:List Bd):List Nat:=(List.range Gv.length).filter λ p=>decide (Gv.getD p []≠last.getD p [])
def sD (F:zw):Nat->List (List Bd)->List Bd->List Nat->Option (List (List Bd))
 | 0,_,_,_=>none
 | n+1,Fu,last,fresh=>if fresh=[] then some (Fu++[last]) else
   let fo:=zU F last fresh
   let fr:=xk last fo
   if fr=[] then some (Fu++[last]) else sD F n (Fu++[last]) fo fr
structure St (F:zw) (last:List Bd) (fresh:List Nat):Prop where
 len:last.length=F.os.length
 gd:∀ b∈last,Gd F.A F.B b
 fr:∀ p<F.os.length,ua F fresh p=false->(∃ w∈F.ws,w.f=p)->yy F last p=last.getD p []
 le:∀ p<F.os.length,(∃ w∈F.ws,w.f=p)->yB (yy F last p) (last.getD p [])
def qK {α:Type}(f:Nat->α) (n p:Nat) (d:α) (h:p<n):((List.range n).map f).getD p d=f p:=by
 rw[Ay,AE,List.getElem?_range h];rfl
def sG (F:zw) (last:List Bd) (fresh:List Nat):(zU F last fresh).length=last.length:=by unfold zU;simp
def St.at {F:zw}{last:List Bd}{fresh:List Nat}(s:St F last fresh) {p:Nat}(hp:p<F.os.length) (hw:∃ w∈F.ws,w.f=p):(zU F last fresh).getD p []=yy F last p:=by
 unfold zU;rw[qK _ _ _ _ (by rw[s.len];exact hp)];split
 .rfl
 .rename_i h;exact (s.fr p hp (by simpa using h) hw).symm
def Oj {F:zw}{fresh:List Nat}{p:Nat}(h:ua F fresh p=true):∃ w∈F.ws,w.f=p:=by
 unfold ua at h;obtain⟨w,h1,h2⟩:=Bk.mp h;exact⟨w,h1,by simp at h2;exact h2.1⟩
def St.no {F:zw}{last:List Bd}{fresh:List Nat}(s:St F last fresh) {p:Nat}(hp:p<F.os.length) (hw:¬ ∃ w∈F.ws,w.f=p):(zU F last fresh).getD p []=last.getD p []:=by
 unfold zU;rw[qK _ _ _ _ (by rw[s.len];exact hp),if_neg (λ h=>hw (Oj h))]
def St.aw {F:zw}{last:List Bd}{fresh:List Nat}(s:St F last fresh) (p:Nat):yB ((zU F last fresh).getD p []) (last.getD p []):=by
 by_cases hp:p<F.os.length
 .by_cases hw:∃ w∈F.ws,w.f=p
  .rw[s.at hp hw];exact s.le p hp hw
  .rw[s.no hp hw];exact yB.refl _
 .have h1:(zU F last fresh).getD p []=[]:=by
   rw[Ay,List.getElem?_eq_none (by rw[sG,s.len];lia)];rfl
  rw[h1];intro q x;cases x
def St.next {F:zw}(ok:F.Ok) {last:List Bd}{fresh:List Nat}(s:St F last fresh):St F (zU F last fresh) (xk last (zU F last fresh)) where
 len:=by rw[sG,s.len]
 gd:=λ b hb=>by
  unfold zU at hb;obtain⟨p,hp,rfl⟩:=Ai.mp hb;split
  .exact jz ok last p
  .have Ao:=AK.mp hp;rw[Ay,Aw Ao];exact s.gd _ (Cc Ao)
 fr:=λ p hp hn hw=>by
  rw[s.at hp hw];refine Q7 F p λ w w1 w2=>?_;have hwt:=(ok.ws w w1).2;by_cases e:(zU F last fresh).getD w.t []=last.getD w.t []
  .exact e
  .have:ua F (xk last (zU F last fresh)) p=true:=by
    unfold ua;refine Bk.mpr ⟨w,w1,?_⟩;have:w.t∈xk last (zU F last fresh):=by
     unfold xk;exact AU.mpr ⟨AK.mpr (by rw[sG,s.len];exact hwt),by simpa using e⟩
    simp[w2,this]
   rw[this] at hn;cases hn
 le:=λ p hp hw=>by
  rw[s.at hp hw];exact Q8 F p λ w w1 w2=>s.aw w.t
def bp {last fo:List Bd}(hl:fo.length=last.length) (h:xk last fo≠[]):fo≠last:=λ e=>h (by
 subst e;unfold xk;simp)
def start (F:zw):List Bd:=List.replicate F.os.length yS
theorem St.start {F:zw}(ok:F.Ok):St F (start F) (List.range F.os.length) where
 len:=by unfold RN.start;simp
 gd:=λ b hb=>by rw[List.eq_of_mem_replicate hb];exact Gd.yS ok.a0 ok.b0
 fr:=λ p hp hn ⟨w,w1,w2⟩=>by
  have:ua F (List.range F.os.length) p=true:=by
   unfold ua;refine Bk.mpr ⟨w,w1,?_⟩;have:=(ok.ws w w1).2;simp[w2,this]
  rw[this] at hn;cases hn
 le:=λ p hp hw=>by
  have e:(RN.start F).getD p []=yS:=by
   unfold RN.start;rw[Ay,CG,if_pos hp];rfl
  rw[e];exact (jz ok _ p).Pb
theorem fW {F:zw}(ok:F.Ok):∀ (n:Nat) (Fu:List (List Bd)) (last:List Bd) (fresh:List Nat),St F last fresh->vk last<n->
  ∃ more GY,sD F n Fu last fresh=some (Fu++last::more)/\(∀ r∈last::more,r.length=F.os.length/\∀ b∈r,Gd F.A F.B b)/\(last::more).getLast?=some GY/\more.length<=vk last
 | 0,_,_,_,_,h=>by lia
 | n+1,Fu,last,fresh,s,h=>by
  unfold sD;split
  .exact⟨[],last,rfl,λ r hr=>by cases AW.mp hr;exact⟨s.len,s.gd⟩,rfl,AQ _⟩
  .dsimp only;split
   .exact⟨[],last,rfl,λ r hr=>by cases AW.mp hr;exact⟨s.len,s.gd⟩,rfl,AQ _⟩
   .rename_i hf;have s':=s.next ok;have Ao:vk (zU F last fresh)<vk last:=j5 ok.a1 ok.b1 (sG ..) s'.gd s.gd s.aw (bp (sG ..) hf);obtain⟨more,GY,e1,e2,e3,e4⟩:=fW ok n (Fu++[last]) _ _ s' (by lia);refine⟨zU F last fresh::more,GY,by rw[e1];simp,λ r hr=>?_,by rw[List.getLast?_cons_cons];exact e3,by rw[Bg];lia⟩;rcases Aj.mp hr with e | e
    .subst e;exact⟨s.len,s.gd⟩
    .exact e2 r e
def km {A B a b:Int}{bd:Bd}(h0:∀ p∈bd,0<=p.1/\0<=p.2) {q:Int×Int}(hq:(0<=q.1/\q.1<=A)/\0<=q.2/\q.2<=B):zK (rQ A B a b bd) q=true↔zK bd (q.1+a,q.2+b)=true:=by
 unfold rQ;rw[q8,yo,yo];constructor
 .rintro⟨p,hp,h1,h2⟩;obtain⟨hp,_⟩:=AU.mp hp;obtain⟨r,hr,rfl⟩:=Ai.mp hp;refine⟨r,hr,?_,?_⟩
  .unfold yP yu at h1;dsimp only at h1 ⊢;split at h1 <;> lia
  .unfold yP yu at h2;dsimp only at h2 ⊢;split at h2 <;> lia
 .rintro⟨r,hr,h1,h2⟩;dsimp only at h1 h2;have e1:(yP a b r).1<=q.1:=by unfold yP yu;dsimp only;split <;> lia
  have e2:(yP a b r).2<=q.2:=by unfold yP yu;dsimp only;split <;> lia
  refine⟨yP a b r,AU.mpr ⟨Ai.mpr ⟨r,hr,rfl⟩,?_⟩,e1,e2⟩;unfold wV;rw[KG (by lia),KG (by lia)];rfl
theorem i6 (pu:Bool) (zB give get:Int) (hg:1<=give) (De:0<=get):∀ (n:Nat) (g t:Int),0<=t->zB-g<n->∀ (G T:Int),G<=zB->
  ((∃ e∈xA pu zB give get n g t,yv pu e<=G/\yN pu e<=T)↔∃ k:Nat,g+k*give<=G/\yu (t-k*get)<=T)
 | 0,g,t,ht,hn,G,T,hG=>by
  constructor
  .rintro⟨e,he,_⟩;cases he
  .rintro⟨k,h1,_⟩;exfalso;have:0<=(k:Int)*give:=Dm (by lia) (by lia);lia
 | n+1,g,t,ht,hn,G,T,hG=>by
  have gv:∀ x y,yv pu (xU pu x y)=x:=λ x y=>by cases pu <;> rfl
  have gt:∀ x y,yN pu (xU pu x y)=y:=λ x y=>by cases pu <;> rfl
  have ih:=i6 pu zB give get hg De n (g+give) (yu (t-get)) (mO _) (by lia) G T hG;have mm:∀ k:Nat,yu (yu (t-get)-k*get)=yu (t-(k+1:Nat)*get):=λ k=>by
   have:0<=(k:Int)*get:=Dm (by lia) De;have e:((k+1:Nat):Int)*get=k*get+get:=by rw[Int.natCast_succ,Int.add_mul];lia
   rw[e];unfold yu;split <;> split <;> (try split) <;> lia
  have gg:∀ k:Nat,g+give+k*give=g+(k+1:Nat)*give:=λ k=>by
   rw[Int.natCast_succ,Int.add_mul];lia
  unfold xA;split
  .rename_i hgb;constructor
   .rintro⟨e,he,h1,h2⟩;rcases Aj.mp he with rfl | he
    .rw[gv] at h1;rw[gt] at h2;refine⟨0,by simpa using h1,?_⟩;unfold yu;split <;> simp at * <;> lia
    .obtain⟨k,k1,k2⟩:=ih.mp ⟨e,he,h1,h2⟩;exact⟨k+1,by rw[<- gg];exact k1,by rw[<- mm];exact k2⟩
   .rintro⟨k,k1,k2⟩;cases k with
    | zero=>
     refine⟨_,Ap,by rw[gv];simpa using k1,?_⟩;rw[gt];unfold yu at k2;split at k2 <;> simp at * <;> lia
    | succ k=>
     obtain⟨e,he,h1⟩:=ih.mpr ⟨k,by rw[gg];exact k1,by rw[mm];exact k2⟩;exact⟨e,Av _ he,h1⟩
  .rename_i hgb;constructor
   .rintro⟨e,he,_⟩;cases he
   .rintro⟨k,h1,_⟩;exfalso;have:0<=(k:Int)*give:=Dm (by lia) (by lia);lia
def lj {pu:Bool}{p q:Int×Int}:(p.1<=q.1/\p.2<=q.2)↔yv pu p<=yv pu q/\yN pu p<=yN pu q:=by
 cases pu
 .exact Iff.rfl
 .exact And.comm
def az {F:zw}{s:Sl}(hs:1<=s.gv/\0<=s.gt) (hA:F.A<=12) (hB:F.B<=12) {b:Bd}(hb:∀ p∈b,0<=p.1/\0<=p.2) {q:Int×Int}(hq:(0<=q.1/\q.1<=F.A)/\0<=q.2/\q.2<=F.B):
  zK (tS F s b) q=true↔∃ k:Nat,zK b (xU s.pu (yv s.pu q-k*s.gv) (yN s.pu q+k*s.gt))=true:=by
 have ES:F.zB s.pu<=12:=by unfold zw.zB;split <;> assumption
 have hqb:yv s.pu q<=F.zB s.pu:=by unfold yv zw.zB;split <;> lia
 have hq0:0<=yv s.pu q/\0<=yN s.pu q:=by unfold yv yN;split <;> lia
 have gv:∀ x y,yv s.pu (xU s.pu x y)=x:=λ x y=>by cases s.pu <;> rfl
 have gt:∀ x y,yN s.pu (xU s.pu x y)=y:=λ x y=>by cases s.pu <;> rfl
 unfold tS;rw[q8,yo];constructor
 .rintro⟨e,he,Jc⟩;obtain⟨p,hp,he⟩:=BS.mp he;obtain⟨h1,h2⟩:=lj (pu:=s.pu).mp Jc;have p0:=hb p hp;have g0:0<=yv s.pu p/\0<=yN s.pu p:=by unfold yv yN;split <;> lia
  obtain⟨k,k1,k2⟩:=(i6 s.pu (F.zB s.pu) s.gv s.gt hs.1 hs.2 100 _ _ g0.2 (by lia) _ _ hqb).mp ⟨e,he,h1,h2⟩;refine⟨k,yo.mpr ⟨p,hp,lj (pu:=s.pu).mpr ⟨by rw[gv];lia,?_⟩⟩⟩;rw[gt];unfold yu at k2;split at k2 <;> lia
 .rintro⟨k,hk⟩;obtain⟨p,hp,Jc⟩:=yo.mp hk;obtain⟨h1,h2⟩:=lj (pu:=s.pu).mp Jc;rw[gv] at h1;rw[gt] at h2;have p0:=hb p hp;have g0:0<=yv s.pu p/\0<=yN s.pu p:=by unfold yv yN;split <;> lia
  obtain⟨e,he,h3⟩:=(i6 s.pu (F.zB s.pu) s.gv s.gt hs.1 hs.2 100 (yv s.pu p) (yN s.pu p) g0.2 (by lia) (yv s.pu q) (yN s.pu q) hqb).mpr ⟨k,by lia,by unfold yu;split <;> lia⟩;exact⟨e,BS.mpr ⟨p,hp,he⟩,lj (pu:=s.pu).mpr h3⟩
noncomputable def zx (F:zw):Nat->List Bd
 | 0=>start F
 | k+1=>(List.range F.os.length).map λ p=>yy F (zx F k) p
theorem x9 (F:zw):∀ k,(zx F k).length=F.os.length
 | 0=>by unfold zx start;simp
 | k+1=>by unfold zx;simp
def Q6 {F:zw}{last:List Bd}{fresh:List Nat}(s:St F last fresh) (hw:∀ p<F.os.length,∃ w∈F.ws,w.f=p):zU F last fresh=(List.range F.os.length).map λ p=>yy F last p:=by
 refine BU (by rw[sG,s.len];simp) λ i h1 h2=>?_;have hi:i<F.os.length:=by simpa using h2
 have e:=s.at hi (hw i hi);rw[Ay,Aw h1] at e;simpa using e
def OC {last fo:List Bd}(hl:fo.length=last.length) (h:xk last fo=[]):fo=last:=by
 refine BU hl λ i h1 h2=>?_;have:i∉xk last fo:=by rw[h];simp
 unfold xk at this;rw[AU] at this;have e:fo.getD i []=last.getD i []:=Classical.byContradiction λ Ar=>this ⟨AK.mpr h1,by simpa using Ar⟩;rw[Ay,Aw h1,Ay,Aw h2] at e;simpa using e
noncomputable def v9 (sw:Bool) (q:Int×Int):Int×Int:=if sw=true then (q.2,q.1) else q
noncomputable def zM (sw:Bool) (b:Bd):Bd:=if sw=true then (b.map λ q=>(q.2,q.1)).reverse else b
def lA (sw:Bool) (b:Bd) (q:Int×Int):zK (zM sw b) q=zK b (v9 sw q):=by
 cases sw with
 | false=>rfl
 | true=>
  rw[Bs,yo,yo];constructor
  .rintro⟨p,hp,h1,h2⟩;have GK:p∈(b.map λ q=>(q.2,q.1)).reverse:=hp;rw[DW] at GK;obtain⟨r,hr,rfl⟩:=Ai.mp GK;exact⟨r,hr,h2,h1⟩
  .rintro⟨p,hp,h1,h2⟩;refine⟨(p.2,p.1),?_,h2,h1⟩;show (p.2,p.1)∈(b.map λ q=>(q.2,q.1)).reverse;rw[DW];exact Ai.mpr ⟨p,hp,rfl⟩
def fx {sw:Bool}{b:Bd}(h:yU b):yU (zM sw b):=by
 cases sw with
 | false=>exact h
 | true=>
  show yU (b.map λ q=>(q.2,q.1)).reverse;unfold yU at h ⊢;rw[List.pairwise_reverse,A4];exact h.imp λ BR=>⟨BR.2,BR.1⟩
def fu (sw:Bool) (b:Bd):zM sw (zM sw b)=b:=by
 cases sw with
 | false=>rfl
 | true=>
  show (((b.map λ q=>(q.2,q.1)).reverse).map λ q=>(q.2,q.1)).reverse=b;rw[List.map_reverse,List.reverse_reverse,Au];exact List.map_id'' (λ _=>rfl) b
def Xy {sw:Bool}{b c:Bd}(h:zM sw b=zM sw c):b=c:=by rw[<- fu sw b,h,fu]
noncomputable def xb (o:Nat->Nat) (sw:Bool) (w:Wy):Wy:=⟨o w.f,o w.t,if sw=true then w.b else w.a,if sw=true then w.a else w.b⟩
noncomputable def xC (o:Nat->Nat) (sw:Bool) (s:Sl):Sl:=⟨o s.p,xor sw s.pu,s.gv,s.gt⟩
structure xw (F G:zw) (o:Nat->Nat) (sw:Bool):Prop where
 n:G.os.length=F.os.length
 A:G.A=if sw=true then F.B else F.A
 B:G.B=if sw=true then F.A else F.B
 on:∀ p<F.os.length,o p<F.os.length
 inj:∀ p<F.os.length,∀ q<F.os.length,o p=o q->p=q
 tm:∀ j<F.os.length,∃ p<F.os.length,o p=j
 os:∀ p<F.os.length,G.os.getD (o p) false=F.os.getD p false
 w1:∀ w∈F.ws,xb o sw w∈G.ws
 w2:∀ v∈G.ws,∃ w∈F.ws,v=xb o sw w
 st:∀ p<F.os.length,G.Fp (o p)=(F.Fp p).map (xC o sw)
def pb (A B:Int) (q:Int×Int):Prop:=(0<=q.1/\q.1<=A)/\0<=q.2/\q.2<=B
section
variable {F G:zw}{o:Nat->Nat}{sw:Bool}{l m:List Bd}
def xw.box (I:xw F G o sw) {q:Int×Int}(h:pb G.A G.B q):pb F.A F.B (v9 sw q):=by
 unfold pb at *;rw[I.A,I.B] at h;unfold v9;cases sw <;> simp_all
def xw.gd (I:xw F G o sw) {b:Bd}(h:Gd F.A F.B b):Gd G.A G.B (zM sw b):=by
 refine⟨fx h.qD,λ p hp=>?_⟩;rw[I.A,I.B];cases sw with
 | false=>exact h.yQ p hp
 | true=>
  have GK:p∈(b.map λ q=>(q.2,q.1)).reverse:=hp;rw[DW] at GK;obtain⟨r,hr,rfl⟩:=Ai.mp GK;exact⟨(h.yQ r hr).2,(h.yQ r hr).1⟩
def xw.eqB (I:xw F G o sw) {b c:Bd}(hb:Gd G.A G.B b) (hc:Gd F.A F.B c) (h:∀ q,pb G.A G.B q->(zK b q=true↔zK c (v9 sw q)=true)):b=zM sw c:=by
 have hs:=I.gd hc;refine Gd.eq hb hs (yB.of λ p hp=>?_) (yB.of λ p hp=>?_)
 .have:=(h p (hb.yQ p hp)).mp (yo.mpr ⟨p,hp,AN _,AN _⟩);rw[<- lA] at this;exact yo.mp this
 .refine yo.mp ((h p (hs.yQ p hp)).mpr ?_);rw[<- lA];exact yo.mpr ⟨p,hp,AN _,AN _⟩
def bF (hl:∀ w∈F.ws,Gd F.A F.B (l.getD w.t [])) {p:Nat}{q:Int×Int}(hq:pb F.A F.B q):
  zK (xM (yI F l p)) q=true↔∃ w∈F.ws,w.f=p/\zK (l.getD w.t []) (q.1+w.a,q.2+w.b)=true:=by
 have nn:∀ w∈F.ws,∀ x∈l.getD w.t [],0<=x.1/\0<=x.2:=λ w hw x hx=>⟨((hl w hw).yQ x hx).1.1,((hl w hw).yQ x hx).2.1⟩;rw[xM,ir];constructor
 .rintro (h | ⟨c,hc,h⟩)
  .cases h
  .unfold yI at hc;obtain⟨w,hw,rfl⟩:=Ai.mp hc;obtain⟨HA,Hz⟩:=AU.mp hw;exact⟨w,HA,of_decide_eq_true Hz,(km (nn w HA) hq).mp h⟩
 .rintro⟨w,hw,e,h⟩;exact .inr ⟨_,Ai.mpr ⟨w,AU.mpr ⟨hw,KG e⟩,rfl⟩,(km (nn w hw) hq).mpr h⟩
def aY (hl:∀ w∈F.ws,Gd F.A F.B (l.getD w.t [])) {p:Nat}{q:Int×Int}(hq:pb F.A F.B q):
  zK (rO (yI F l p)) q=true↔∀ w∈F.ws,w.f=p->zK (l.getD w.t []) (q.1+w.a,q.2+w.b)=true:=by
 have nn:∀ w∈F.ws,∀ x∈l.getD w.t [],0<=x.1/\0<=x.2:=λ w hw x hx=>⟨((hl w hw).yQ x hx).1.1,((hl w hw).yQ x hx).2.1⟩;rw[rO,iC];constructor
 .rintro⟨_,h⟩ w hw e;exact (km (nn w hw) hq).mp (h _ (Ai.mpr ⟨w,AU.mpr ⟨hw,KG e⟩,rfl⟩))
 .intro h;refine⟨N2.mpr ⟨hq.1.1,hq.2.1⟩,λ c hc=>?_⟩;unfold yI at hc;obtain⟨w,hw,rfl⟩:=Ai.mp hc;obtain⟨HA,Hz⟩:=AU.mp hw;exact (km (nn w HA) hq).mpr (h w HA (of_decide_eq_true Hz))
def Xx (sw:Bool) (q:Int×Int) (w:Wy):v9 sw (q.1+(xb o sw w).a,q.2+(xb o sw w).b)=((v9 sw q).1+w.a,(v9 sw q).2+w.b):=by cases sw <;> rfl
def xw.step (I:xw F G o sw) (FU:F.Ok) (h:∀ t<F.os.length,m.getD (o t) []=zM sw (l.getD t [])) {w:Wy}(hw:w∈F.ws) (q:Int×Int):
  zK (m.getD (xb o sw w).t []) (q.1+(xb o sw w).a,q.2+(xb o sw w).b)=zK (l.getD w.t []) ((v9 sw q).1+w.a,(v9 sw q).2+w.b):=by
 show zK (m.getD (o w.t) []) _=_;rw[h w.t (FU.ws w hw).2,lA,Xx]
def xw.next (I:xw F G o sw) (FU:F.Ok) (GX:G.Ok) (hl:∀ t<F.os.length,Gd F.A F.B (l.getD t [])) (h:∀ t<F.os.length,m.getD (o t) []=zM sw (l.getD t [])) {p:Nat}(hp:p<F.os.length):
  yy G m (o p)=zM sw (yy F l p):=by
 have J8:∀ w∈F.ws,Gd F.A F.B (l.getD w.t []):=λ w hw=>hl w.t (FU.ws w hw).2;have hlG:∀ w∈G.ws,Gd G.A G.B (m.getD w.t []):=λ v hv=>by
  obtain⟨w,hw,rfl⟩:=I.w2 v hv;show Gd _ _ (m.getD (o w.t) []);rw[h w.t (FU.ws w hw).2];exact I.gd (J8 w hw)
 have gF:Gd F.A F.B (xM (yI F l p)):=qN _ _ Gd.nil (qU F l p);have gG:Gd G.A G.B (xM (yI G m (o p))):=qN _ _ Gd.nil (qU G m (o p));have eE:xM (yI G m (o p))=zM sw (xM (yI F l p)):=I.eqB gG gF λ q hq=>by
  rw[bF hlG hq,bF J8 (I.box hq)];constructor
  .rintro⟨v,hv,e,c⟩;obtain⟨w,hw,rfl⟩:=I.w2 v hv;rw[I.step FU h hw] at c;exact⟨w,hw,I.inj _ (FU.ws w hw).1 _ hp e,c⟩
  .rintro⟨w,hw,e,c⟩;exact⟨_,I.w1 w hw,by rw[<- e];rfl,by rw[I.step FU h hw];exact c⟩
 unfold yy;rw[I.os p hp];by_cases ho:F.os.getD p false=true
 .rw[if_pos ho,if_pos ho,I.st p hp];cases hs:F.Fp p with
  | none=>exact eE
  | some s=>
   have GJ:=FU.ss s (DX hs);have ht':1<=(xC o sw s).gv/\0<=(xC o sw s).gt:=GJ;show tS G (xC o sw s) (xM (yI G m (o p)))=zM sw (tS F s (xM (yI F l p)));rw[eE];refine I.eqB (i7 ht' (I.gd gF)) (i7 GJ gF) λ q hq=>?_;rw[az ht' GX.a1 GX.b1 (λ x hx=>⟨((I.gd gF).yQ x hx).1.1,((I.gd gF).yQ x hx).2.1⟩) hq,az GJ FU.a1 FU.b1 (λ x hx=>⟨(gF.yQ x hx).1.1,(gF.yQ x hx).2.1⟩) (I.box hq)];have e1:∀ x y,v9 sw (xU (xor sw s.pu) x y)=xU s.pu x y:=λ x y=>by cases sw <;> cases s.pu <;> rfl
   have e2:yv (xor sw s.pu) q=yv s.pu (v9 sw q):=by cases sw <;> cases s.pu <;> rfl
   have e3:yN (xor sw s.pu) q=yN s.pu (v9 sw q):=by cases sw <;> cases s.pu <;> rfl
   refine exists_congr λ k=>?_;show zK (zM sw (xM (yI F l p))) (xU (xor sw s.pu) (yv (xor sw s.pu) q-k*s.gv) (yN (xor sw s.pu) q+k*s.gt))=true↔_;rw[lA,e1,e2,e3]
 .rw[if_neg ho,if_neg ho];have z:∀ {F:zw},F.Ok->∀ (l:List Bd) (p:Nat),Gd F.A F.B (rO (yI F l p)):=λ ok l p=>ka _ _ (Gd.yS ok.a0 ok.b0) (qU _ l p);refine I.eqB (z GX m (o p)) (z FU l p) λ q hq=>?_;rw[aY hlG hq,aY J8 (I.box hq)];constructor
  .intro c w hw e;rw[<- I.step FU h hw];exact c _ (I.w1 w hw) (by rw[<- e];rfl)
  .intro c v hv e;obtain⟨w,hw,rfl⟩:=I.w2 v hv;rw[I.step FU h hw];exact c w hw (I.inj _ (FU.ws w hw).1 _ hp e)
theorem cA {F:zw}(ok:F.Ok):∀ (k t:Nat),t<F.os.length->Gd F.A F.B ((zx F k).getD t [])
 | 0,t,ht=>by
  have e:(zx F 0).getD t []=yS:=by
   show (start F).getD t []=_;unfold start;rw[Ay,CG,if_pos ht];rfl
  rw[e];exact Gd.yS ok.a0 ok.b0
 | k+1,t,ht=>by
  have e:(zx F (k+1)).getD t []=yy F (zx F k) t:=qK _ _ _ _ ht;rw[e];exact jz ok _ _
theorem xw.zx (I:xw F G o sw) (FU:F.Ok) (GX:G.Ok):∀ (k p:Nat),p<F.os.length->(RN.zx G k).getD (o p) []=zM sw ((RN.zx F k).getD p [])
 | 0,p,hp=>by
  have e:∀ {F:zw}{t:Nat},t<F.os.length->(RN.zx F 0).getD t []=yS:=λ{F t} ht=>by
   show (start F).getD t []=_;unfold start;rw[Ay,CG,if_pos ht];rfl
  rw[e (by rw[I.n];exact I.on p hp),e hp];cases sw <;> rfl
 | k+1,p,hp=>by
  have e:∀ {F:zw}{t:Nat},t<F.os.length->(RN.zx F (k+1)).getD t []=yy F (RN.zx F k) t:=λ ht=>qK _ _ _ _ ht;rw[e (by rw[I.n];exact I.on p hp),e hp];exact I.next FU GX (cA FU k) (λ t ht=>I.zx FU GX k t ht) hp
def lx {l m:List Bd}(h:l.length=m.length) (e:∀ i<l.length,l.getD i []=m.getD i []):l=m:=BU h λ i h1 h2=>by
 have:=e i h1
 rwa [Ay,Aw h1,Ay,Aw h2] at this
def xw.same (I:xw F G o sw) (FU:F.Ok) (GX:G.Ok) (k:Nat):RN.zx G (k+1)=RN.zx G k↔RN.zx F (k+1)=RN.zx F k:=by
 constructor
 .intro h;refine lx (by rw[x9,x9]) λ p hp=>?_;rw[x9] at hp;refine Xy (sw:=sw) ?_;rw[<- I.zx FU GX _ p hp,<- I.zx FU GX _ p hp,h]
 .intro h;refine lx (by rw[x9,x9]) λ j hj=>?_;rw[x9,I.n] at hj;obtain⟨p,hp,rfl⟩:=I.tm j hj;rw[I.zx FU GX _ p hp,I.zx FU GX _ p hp,h]
def Last (F:zw) (m:Nat):Prop:=RN.zx F (m+1)=RN.zx F m/\∀ k<m,RN.zx F (k+1)≠RN.zx F k
def xw.last (I:xw F G o sw) (FU:F.Ok) (GX:G.Ok) {m k:Nat}(hF:Last F m) (hG:Last G k):k=m:=by
 rcases CU k m with q | q | q
 .exact absurd ((I.same FU GX k).mp hG.1) (hF.2 k q)
 .exact q
 .exact absurd ((I.same FU GX m).mpr hF.1) (hG.2 m q)
end
theorem fX {F:zw}(ok:F.Ok) (hw:∀ p<F.os.length,∃ w∈F.ws,w.f=p):∀ (n:Nat) (Fu:List (List Bd)) (k:Nat) (fresh:List Nat) (res:List (List Bd)),St F (zx F k) fresh->fresh≠[]->Fu=(List.range k).map (zx F)->(∀ j<k,zx F (j+1)≠zx F j)->
  sD F n Fu (zx F k) fresh=some res->∃ m,res=(List.range (m+1)).map (zx F)/\Last F m
 | 0,_,_,_,_,_,_,_,_,h=>by cases h
 | n+1,Fu,k,fresh,res,s,hf,ht,hk,h=>by
  unfold sD at h;rw[if_neg hf] at h;dsimp only at h;have e:zU F (zx F k) fresh=zx F (k+1):=Q6 s hw;have et:Fu++[zx F k]=(List.range (k+1)).map (zx F):=by rw[ht,DV,Bo];rfl
  rw[e,et] at h;split at h
  .rename_i BF;cases h;exact⟨k,rfl,OC (by rw[x9,x9]) BF,hk⟩
  .rename_i BF;have s':=s.next ok;rw[e] at s';refine fX ok hw n _ (k+1) _ res s' BF rfl (λ j hj=>?_) h;rcases Bc j k with q | q
   .exact hk j q
   .have:j=k:=by lia
    subst this;exact bp (by rw[x9,x9]) BF
end RN
namespace zW
open PySem L2 L3 L5
abbrev gB:Sm:=
 (retS (vL (FI "int" (zc 0)) (dw (FI "bool" (zc 0)))))
def tZ:List T->Option T:=zO ["thing"] 1 gB
abbrev nh:Ev->Option T:=
 yj [none,none] (xt qf (za (zc 0) (za (m6 (zc 0) (some (cI 1)) none) zf))) (wx 2 (yO (zu 0) (yO (zu 1) vi))) yH (zb vY (zc 0) (zc 1))
abbrev gE:Sm:=
 (retS (zj (uP λ bs=>bs.all id) (za nh zf)))
def sa:List T->Option T:=zO ["things"] 1 gE
abbrev Lg:Sm:=
 (retS (vL (FI "str" (zc 0)) (zb (v_ false) (zc 0) (tupS (za (cS (.str "keeper")) (za (cS (.str "taker")) zf))))))
def gi:List T->Option T:=zO ["thing"] 1 Lg
abbrev Yb:Sm:=
 (retS (zj yM (za (zb zi (zc 0) (cI 1)) zf)))
def r_:List T->Option T:=zO ["floor"] 1 Yb
abbrev Y0:Sm:=
 (retS (vL (zb jX (zb zi (zc 0) (cI 0)) (zb zi (zc 1) (cI 0))) (zb jX (zb zi (zc 0) (cI 1)) (zb zi (zc 1) (cI 1)))))
def nR:List T->Option T:=zO ["pair","other"] 2 Y0
abbrev nk:Sm:=
 (yY (qO (wF (yV (zc 1))) (yx (zb vY (zb zi (zc 2) (cI 1)) (zb zi (zb zi (zc 1) (qy (cI 1))) (cI 1))))) (xN 1 (zl 2)) yX)
abbrev Yg:Sm:=
 (zq (vw 1 (xH zf))
 (zq (wU [2] (yn (zj wy (za (zc 0) zf))) (zu 2) nk)
 (retS (zj xq (za (zc 1) zf)))))
def tY:List T->Option T:=zO ["pairs","least","pair"] 1 Yg
abbrev rP:Sm:=
 (zq (xN 4 (cV (yx (zb (zR false) (zc 3) (cI 0))) (tupS (za (zl 5) (za (zl 6) zf))) (tupS (za (zl 6) (za (zl 5) zf)))))
 (zq (zQ 5 (zb yh (zc 5) (zb zi (zc 1) (cI 2))))
 (zQ 6 (zj qz (za (cI 0) (za (zb vT (zc 6) (zb zi (zc 1) (cI 3))) zf))))))
abbrev Yc:Sm:=
 (zq (zQ 3 (zb zi (zc 1) (cI 1)))
 (zq (vw 4 (xH zf))
 (zq (zQ 5 (zb zi (zc 2) (zc 3)))
 (zq (zQ 6 (zb zi (zc 2) (zb vT (cI 1) (zc 3))))
 (zq (rn 1000000 [] (yx (zb tI (zc 5) (zb zi (zc 0) (zc 3)))) rP)
 (r9 4))))))
def nD:List T->Option T:=zO ["brims","stall","pair","purse","pairs","given","got"] 3 Yc
abbrev Yn:Sm:=
 (zq (yY (yx (zb vY (zc 1) (zj yM (za (zc 0) zf)))) (retS (zb zi (zc 0) (zc 1))) yX)
 (retS (cI 0)))
def uZ:List T->Option T:=zO ["_law_script","_law_k"] 2 Yn
abbrev aQ:Sm:=
 (zq (xN 2 (zb ym (zc 3) (zb x8 (cI 10) (cI 6))))
 (zQ 3 (zb xK (zc 3) (zb x8 (cI 10) (cI 6)))))
abbrev aP:Sm:=
 (zq (zQ 3 (zb ym (zb yh (zb yh (zb vj (zc 3) (cI 52027)) (zb xK (zc 3) (zb x8 (cI 10) (cI 22)))) (zb vj (cI 13) (zc 4))) (zb yh (zb x8 (cI 10) (cI 45)) (cI 9))))
 (xN 2 (zb xK (zb vj (zc 3) (zb yh (zb xK (zc 3) (zb x8 (cI 10) (cI 23))) (cI 7))) (zb x8 (cI 10) (cI 9)))))
abbrev Yj:Sm:=
 (zq (vw 2 (xH zf))
 (zq (zQ 3 (zj iU (za (zb xK (zc 0) (cI 2)) zf)))
 (zq (yY (yx (zb (zR false) (zb ym (zc 0) (cI 2)) (cI 1))) (zq (wU [4] (xt wO (za (zc 1) zf)) (zu 4) aQ)
 (r9 2)) yX)
 (zq (zQ 3 (zb yh (zb ym (zc 3) (zb yh (zb x8 (cI 10) (cI 45)) (cI 9))) (cI 77003)))
 (zq (wU [4] (xt wO (za (zc 1) zf)) (zu 4) aP)
 (r9 2))))))
def pk:List T->Option T:=zO ["_law_cell","_law_count","_law_found","_law_number","_law_k"] 2 Yj
abbrev Yo:Sm:=
 (retS (zj oj (za (cI 12) (za (zb yh (zb vT (zb ym (zb ym (zc 0) (cI 25)) (zb yh (zb uA (cI 2) (zc 1)) (cI 1))) (zc 1)) (zb ym (zb wW (zc 0) (cI 25)) (cI 2))) zf))))
def px:List T->Option T:=zO ["_law_number","_law_most"] 2 Yo
abbrev Lf:Sm:=
 (retS (zb zi (xH (za (tupS (za (cI 3) (za (cI 2) zf))) (za (tupS (za (cI 2) (za (cI 3) zf))) (za (tupS (za (cI 4) (za (cI 1) zf))) (za (tupS (za (cI 1) (za (cI 4) zf))) (za (tupS (za (cI 3) (za (cI 2) zf))) (za (tupS (za (cI 2) (za (cI 3) zf))) (za (tupS (za (cI 8) (za (cI 1) zf))) (za (tupS (za (cI 3) (za (cI 2) zf))) (za (tupS (za (cI 2) (za (cI 3) zf))) (za (tupS (za (cI 4) (za (cI 1) zf))) zf))))))))))) (zb ym (zc 0) (cI 10))))
def nF:List T->Option T:=zO ["_law_number"] 1 Lf
abbrev lR:Ev->Option T:=
 yj [none,none] (yn (zc 0)) (wx 2 (yO (zu 0) (yO (zu 1) vi))) yH (tupS (za (zl 1) (za (zl 0) zf)))
abbrev Yi:Sm:=
 (retS (zj xq (za (zj wy (za lR zf)) zf)))
def qa:List T->Option T:=zO ["_law_border"] 1 Yi
abbrev qT:Sm:=
 (zq (iL 3 2 (zb ym (zc 0) (zj yM (za (zc 2) zf))))
 (zQ 0 (zb wW (zc 0) (cI 9))))
abbrev Yl:Sm:=
 (zq (vw 2 (zj sI (za (zc 1) zf)))
 (zq (vw 3 (xH zf))
 (zq (rn 1000000 [] (yx (zb (zR true) (zc 2) (xH zf))) qT)
 (retS (zj xq (za (zc 3) zf))))))
def nH:List T->Option T:=zO ["_law_number","_law_many","_law_left","_law_order_here"] 2 Yl
abbrev gA:Sm:=
 (retS (vL (zj tZ (za (zl 0) zf)) (i8 tI tI (zc 1) (zc 0) (zc 2))))
def qb:List T->Option T:=zO ["thing","least","most"] 3 gA
abbrev lZ:Ev->Option T:=
 yj [none] (yn (zc 0)) (zu 0) yH (zj gi (za (zl 0) zf))
abbrev Y4:Sm:=
 (zq (yY (qO (wF (yV (FI "tuple" (zc 0)))) (wF (yx (i8 tI tI (cI 1) (zj yM (za (zc 0) zf)) (cI 8))))) (retS (cS (.bl false))) yX)
 (retS (zj (uP λ bs=>bs.all id) (za lZ zf))))
def nV:List T->Option T:=zO ["thing"] 1 Y4
abbrev aD:Ev->Option T:=
 yj [none] (yn (zc 0)) (zu 0) yH (tupS (za (zb zi (zc 0) (cI 0)) (za (cI 0) (za (zb zi (zc 0) (cI 1)) zf))))
abbrev aC:Ev->Option T:=
 yj [none] (yn (zc 1)) (zu 0) yH (tupS (za (zb zi (zc 0) (cI 0)) (za (cI 1) (za (zb zi (zc 0) (cI 1)) zf))))
abbrev kg:Sm:=
 (zq (bJ 3 (zc 6) (zj oj (za (zc 7) (za (bL 3 (zc 6) (zl 7)) zf))))
 (yY (yx (zb (zR false) (iy 3) (cI 2))) (xN 4 (tupS (za (zl 5) (za (zj qz (za (iz 3 (cI 0)) (za (iz 3 (cI 1)) zf))) zf)))) yX))
abbrev Yv:Sm:=
 (zq (zQ 2 (zb yh aD aC))
 (zq (bK 3)
 (zq (vw 4 (xH zf))
 (zq (wU [5,6,7] (yn (zj wy (za (zc 2) zf))) (wx 3 (yO (zu 5) (yO (zu 6) (yO (zu 7) vi)))) kg)
 (jY 4 (retS (zj tY (za (zl 4) zf))))))))
def nL:List T->Option T:=zO ["border","other","steps","lows","shared","first","side","second"] 2 Yv
abbrev Yt:Sm:=
 (retS (zj tY (za (zb yh (zj listS (za (zc 0) zf)) (zj listS (za (zc 1) zf))) zf)))
def nJ:List T->Option T:=zO ["border","other"] 2 Yt
abbrev lV:Ev->Option T:=
 yj [none,some 1] (yn (zc 2)) (zu 0) yH (tupS (za (zj qz (za (cI 0) (za (zb vT (zb zi (zc 0) (cI 0)) (zb zi (zc 1) (cI 2))) zf))) (za (zj qz (za (cI 0) (za (zb vT (zb zi (zc 0) (cI 1)) (zb zi (zc 1) (cI 3))) zf))) zf)))
abbrev lJ:Ev->Option T:=
 yj [none,some 0] (yn (zc 3)) (zu 0) (yV (zj nR (za (zl 1) (za (zl 0) zf)))) (zl 0)
abbrev Yz:Sm:=
 (zq (zQ 3 lV)
 (retS (zj tY (za lJ zf))))
def nQ:List T->Option T:=zO ["brims","way","border","pairs"] 3 Yz
abbrev lT:Ev->Option T:=
 yj [none] (yn (zc 0)) (zu 0) yH (zj tZ (za (zl 0) zf))
abbrev Yq:Sm:=
 (retS (vL (FI "tuple" (zc 0)) (vL (zb (zR false) (zj yM (za (zc 0) zf)) (cI 4)) (zj (uP λ bs=>bs.all id) (za lT zf)))))
def kC:List T->Option T:=zO ["thing"] 1 Yq
abbrev Yh:Sm:=
 (retS (tupS (za (zl 0) (za (zb ym (zb ym (zc 2) (cI 8)) (zc 1)) (za (zj px (za (zb ym (zb wW (zc 2) (cI 8)) (cI 50)) (za (zl 3) zf))) (za (zj px (za (zb ym (zb wW (zc 2) (cI 400)) (cI 50)) (za (zl 3) zf))) zf))))))
def rg:List T->Option T:=zO ["_law_place","_law_many","_law_number","_law_size"] 4 Yh
abbrev iB:Ev->Option T:=
 yj [none,none] (xt qf (za (zc 0) (za (zc 1) zf))) (wx 2 (yO (zu 0) (yO (zu 1) vi))) yH (zj qb (za (zl 0) (za (zb zi (zc 1) (cI 0)) (za (zb zi (zc 1) (cI 1)) zf))))
abbrev gC:Sm:=
 (zq (yY (qO (wF (yV (FI "tuple" (zc 0)))) (yx (zb (zR true) (zj yM (za (zc 0) zf)) (zj yM (za (zc 1) zf))))) (retS (cS (.bl false))) yX)
 (retS (zj (uP λ bs=>bs.all id) (za iB zf))))
def qc:List T->Option T:=zO ["thing","bounds"] 2 gC
abbrev Yu:Sm:=
 (yY (wF (yV (zj qb (za (zl 1) (za (cI 0) (za (zb vT (zj r_ (za (zl 0) zf)) (cI 1)) zf)))))) mM yX)
def nK:List T->Option T:=zO ["floor","place"] 2 Yu
abbrev kh:Sm:=
 (zQ 1 (zj nJ (za (zl 1) (za (zl 2) zf))))
abbrev Yx:Sm:=
 (zq (zQ 1 (tupS zf))
 (zq (wU [2] (yn (zl 0)) (zu 2) kh)
 (retS (zl 1))))
def nM:List T->Option T:=zO ["borders","joined","border"] 1 Yx
abbrev ki:Sm:=
 (zQ 1 (zj nL (za (zl 1) (za (zl 2) zf))))
abbrev Yy:Sm:=
 (zq (zQ 1 (tupS (za (tupS (za (cI 0) (za (cI 0) zf))) zf)))
 (zq (wU [2] (yn (zl 0)) (zu 2) ki)
 (retS (zl 1))))
def nP:List T->Option T:=zO ["borders","joined","border"] 1 Yy
abbrev kf:Sm:=
 (xN 6 (zj rg (za (zl 8) (za (zl 4) (za (zb zi (zc 3) (zb yh (zb yh (cI 3) (zb uA (cI 4) (zc 8))) (zc 11))) (za (zl 10) zf))))))
abbrev qS:Sm:=
 (zq (zQ 9 (zb zi (zc 3) (zb yh (cI 2) (zb uA (cI 4) (zc 8)))))
 (zq (xN 5 (zb zi (xH (za (cS (.str "keeper")) (za (cS (.str "taker")) zf))) (zb ym (zc 9) (cI 2))))
 (zq (zQ 10 (zb zi (xH (za (cI 2) (za (cI 3) (za (cI 3) (za (cI 12) zf))))) (zb ym (zb wW (zc 9) (cI 2)) (cI 4))))
 (zq (wU [11] (xt wO (za (zb yh (cI 1) (zb ym (zb wW (zc 9) (cI 8)) (cI 3))) zf)) (zu 11) kf)
 (yY (bI (yx (zb (zR false) (zb zi (zc 5) (zc 8)) (cS (.str "keeper")))) (yx (zb (zR false) (zb ym (zb wW (zc 9) (cI 24)) (cI 3)) (cI 0)))) (xN 7 (tupS (za (zl 8) (za (zb ym (zb wW (zc 9) (cI 72)) (cI 2)) (za (zb yh (cI 1) (zb ym (zb wW (zc 9) (cI 144)) (cI 4))) (za (zb ym (zb wW (zc 9) (cI 576)) (cI 5)) zf)))))) yX)))))
abbrev kd:Sm:=
 (xN 6 (zj rg (za (zb ym (zb ym (zb wW (zb zi (zc 3) (cI 0)) (cI 64)) (cI 8)) (zc 4)) (za (zl 4) (za (zb zi (zc 3) (zb yh (cI 34) (zc 11))) (za (cI 3) zf))))))
abbrev Ym:Sm:=
 (zq (zQ 3 (zj pk (za (zl 0) (za (cI 43) zf))))
 (zq (zQ 4 (zb yh (cI 1) (zb ym (zb zi (zc 3) (cI 0)) (zc 1))))
 (zq (vw 5 (xH zf))
 (zq (vw 6 (xH zf))
 (zq (vw 7 (xH zf))
 (zq (wU [8,9,10,11] (xt wO (za (zc 4) zf)) (zu 8) qS)
 (zq (yY (yx (zb (zR false) (zb ym (zb wW (zb zi (zc 3) (cI 0)) (cI 8)) (cI 8)) (cI 1))) (wU [11] (xt wO (za (zj oj (za (cI 9) (za (zb vT (cI 24) (zj yM (za (zc 6) zf))) zf))) zf)) (zu 11) kd) yX)
 (zq (zQ 12 (tupS (za (zb ym (zb zi (zc 3) (cI 1)) (zb yh (zc 2) (cI 1))) (za (zb ym (zb wW (zb zi (zc 3) (cI 1)) (cI 13)) (zb yh (zc 2) (cI 1))) zf))))
 (retS (tupS (za (zl 12) (za (zj xq (za (zc 5) zf)) (za (zj xq (za (zj tq (za (zc 6) zf)) zf)) (za (zj xq (za (zc 7) zf)) zf))))))))))))))
def pq:List T->Option T:=zO ["_law_cell","_law_most","_law_brim","_law_xs","_law_many","_law_owners","_law_ways","_law_stalls","_law_place","_law_number","_law_size","_law_k","_law_brims"] 3 Ym
abbrev lY:Ev->Option T:=
 yj [none,some 1] (yn (zc 0)) (zu 0) yH (zj qc (za (zl 0) (za (zl 1) zf)))
abbrev Y3:Sm:=
 (retS (vL (FI "tuple" (zc 0)) (zj (uP λ bs=>bs.all id) (za lY zf))))
def qe:List T->Option T:=zO ["thing","bounds"] 2 Y3
abbrev Y5:Sm:=
 (retS (zj qc (za (zl 0) (za (tupS (za (tupS (za (cI 0) (za (cI 12) zf))) (za (tupS (za (cI 0) (za (cI 12) zf))) zf))) zf))))
def nW:List T->Option T:=zO ["thing"] 1 Y5
abbrev lM:Ev->Option T:=
 yj [none,none,some 1] (xt sR (za (zb zi (zc 0) (cI 2)) zf)) (wx 2 (yO (zu 0) (yO (zu 1) vi))) (yx (zb (zR false) (zb zi (zc 1) (cI 0)) (zc 2))) (zl 0)
abbrev ZY:Sm:=
 (zq (iw (zj nK (za (zl 0) (za (zl 1) zf))))
 (retS lM))
def nC:List T->Option T:=zO ["floor","place"] 2 ZY
abbrev nj:Sm:=
 (yY (yx (zb (zR false) (zb zi (zc 2) (cI 0)) (zc 1))) (retS (zl 2)) yX)
abbrev ZZ:Sm:=
 (zq (iw (zj nK (za (zl 0) (za (zl 1) zf))))
 (zq (wU [2] (yn (zb zi (zc 0) (cI 3))) (zu 2) nj)
 (retS (cS .zm))))
def rZ:List T->Option T:=zO ["floor","place","stall"] 2 ZZ
abbrev lW:Ev->Option T:=
 yj [none] (yn (zc 0)) (zu 0) yH (zb zi (zc 0) (cI 0))
abbrev lK:Ev->Option T:=
 yj [none,some 4] (xt wO (za (zc 1) zf)) (zu 0) yH (zb (v_ false) (zc 0) (zc 1))
abbrev Y1:Sm:=
 (zq (zQ 2 (tupS (za (cI 0) (za (zb vT (zc 1) (cI 1)) zf))))
 (zq (zQ 3 (tupS (za (qy (cI 12)) (za (cI 12) zf))))
 (zq (yY (wF (yV (zj qe (za (zl 0) (za (tupS (za (zl 2) (za (zl 2) (za (zl 3) (za (zl 3) zf))))) zf))))) (retS (cS (.bl false))) yX)
 (zq (zQ 4 lW)
 (retS (vL (zb tI (zj yM (za (zc 0) zf)) (cI 24)) (vL (zj sa (za (zl 0) zf)) (zj (uP λ bs=>bs.all id) (za lK zf)))))))))
def nS:List T->Option T:=zO ["thing","places","place","coins","starts"] 2 Y1
abbrev lX:Ev->Option T:=
 yj [none] (yn (zc 0)) (zu 0) yH (zb zi (zc 0) (cI 0))
abbrev lL:Ev->Option T:=
 yj [none,some 1] (yn (zc 0)) (zu 0) yH (zb (zR false) (zb zi (zc 1) (zb zi (zc 0) (cI 0))) (cS (.str "keeper")))
abbrev Y2:Sm:=
 (zq (zQ 2 (tupS (za (cI 0) (za (zb vT (zj yM (za (zc 1) zf)) (cI 1)) zf))))
 (zq (yY (wF (yV (zj qe (za (zl 0) (za (tupS (za (zl 2) (za (tupS (za (cI 0) (za (cI 1) zf))) (za (tupS (za (cI 1) (za (cI 12) zf))) (za (tupS (za (cI 0) (za (cI 12) zf))) zf))))) zf))))) (retS (cS (.bl false))) yX)
 (retS (vL (zj sa (za lX zf)) (zj (uP λ bs=>bs.all id) (za lL zf))))))
def nU:List T->Option T:=zO ["thing","owners","place"] 2 Y2
abbrev kj:Sm:=
 (ie 4 (zj nD (za (zb zi (zc 0) (cI 0)) (za (zl 3) (za (zl 5) zf)))))
abbrev gD:Sm:=
 (zq (zQ 3 (zj rZ (za (zl 0) (za (zl 1) zf))))
 (zq (yY (yx (zb (ou false) (zc 3) (cS .zm))) (retS (zl 2)) yX)
 (zq (vw 4 (xH zf))
 (zq (wU [5] (yn (zl 2)) (zu 5) kj)
 (jY 4 (retS (zj tY (za (zl 4) zf))))))))
def p7:List T->Option T:=zO ["floor","place","border","stall","pairs","pair"] 3 gD
abbrev Yr:Sm:=
 (zq (yY (qO (wF (yV (FI "tuple" (zc 0)))) (yx (zb (zR true) (zj yM (za (zc 0) zf)) (cI 4)))) (retS (cS (.bl false))) yX)
 (zq (yY (qO (wF (yV (zj nW (za (zb zi (zc 0) (cI 0)) zf)))) (wF (yV (zj nV (za (zb zi (zc 0) (cI 1)) zf))))) (retS (cS (.bl false))) yX)
 (retS (vL (zj nS (za (zb zi (zc 0) (cI 2)) (za (zj yM (za (zb zi (zc 0) (cI 1)) zf)) zf))) (zj nU (za (zb zi (zc 0) (cI 3)) (za (zb zi (zc 0) (cI 1)) zf)))))))
def nI:List T->Option T:=zO ["thing"] 1 Yr
abbrev lP:Ev->Option T:=
 yj [none,some 0] (yn (zj nC (za (zl 0) (za (zl 1) zf)))) (zu 0) yH (zb zi (zb zi (zc 1) (cI 2)) (zc 0))
abbrev lG:Ev->Option T:=
 yj [none,some 0,some 2] (yn (zc 3)) (zu 0) yH (zj nQ (za (zb zi (zc 1) (cI 0)) (za (zl 0) (za (zb zi (zc 2) (zb zi (zc 0) (cI 1))) zf))))
abbrev Ye:Sm:=
 (zq (zQ 3 lP)
 (zq (zQ 4 lG)
 (zq (yY (yx (zb (zR false) (zb zi (zb zi (zc 0) (cI 1)) (zc 1)) (cS (.str "keeper")))) (retS (zj p7 (za (zl 0) (za (zl 1) (za (zj nM (za (zl 4) zf)) zf))))) yX)
 (retS (zj nP (za (zl 4) zf))))))
def nE:List T->Option T:=zO ["floor","place","last","ways","ahead"] 3 Ye
abbrev lO:Ev->Option T:=
 yj [none,some 2] (yn (zb zi (zc 0) (cI 2))) (zu 0) (yx (zb (v_ false) (zb zi (zc 0) (cI 1)) (zc 1))) (zb zi (zc 0) (cI 0))
abbrev ke:Sm:=
 (dS 3 (zc 4) (zj nE (za (zl 0) (za (zl 4) (za (zl 1) zf)))))
abbrev Yd:Sm:=
 (zq (vw 3 (zj listS (za (zc 1) zf)))
 (zq (wU [4] (yn (zj tq (za lO zf))) (zu 4) ke)
 (r9 3)))
def ph:List T->Option T:=zO ["floor","last","fresh","following","place"] 3 Yd
abbrev lU:Ev->Option T:=
 yj [none] (yn (zb yh (zc 2) (zc 3))) (zu 0) yH (zj kC (za (zl 0) zf))
abbrev Ys:Sm:=
 (zq (yY (wF (yV (zj (uP λ bs=>bs.all id) (za lU zf)))) mM yX)
 (zq (zQ 4 (tupS (za (zl 0) (za (zj xq (za (zc 1) zf)) (za (zj xq (za (zj wy (za (zc 2) zf)) zf)) (za (zj xq (za (zj wy (za (zc 3) zf)) zf)) zf))))))
 (zq (yY (wF (yV (zj nI (za (zl 4) zf)))) mM yX)
 (retS (zl 4)))))
def qd:List T->Option T:=zO ["brims","owners","ways","stalls","floor"] 4 Ys
abbrev ng:Ev->Option T:=
 yj [none,none,some 3] (xt sR (za (zc 4) zf)) (wx 2 (yO (zu 0) (yO (zu 1) vi))) (yx (zb (zR true) (zc 1) (zb zi (zc 2) (zc 0)))) (zl 0)
abbrev uR:Sm:=
 (zq (zQ 3 (zb zi (zc 1) (qy (cI 1))))
 (zq (zQ 4 (zj ph (za (zl 0) (za (zl 3) (za (zl 2) zf)))))
 (zq (zQ 2 ng)
 (yY (yV (zc 2)) (xN 1 (zl 4)) yX))))
abbrev Z_:Sm:=
 (zq (vw 1 (xH (za (zb uA (xH (za (tupS (za (tupS (za (cI 0) (za (cI 0) zf))) zf)) zf)) (zj r_ (za (zl 0) zf))) zf)))
 (zq (zQ 2 (zj sI (za (zj r_ (za (zl 0) zf)) zf)))
 (zq (rn 1000000 [3,4] (yV (zc 2)) uR)
 (r9 1))))
def vc:List T->Option T:=zO ["floor","told","fresh","last","following"] 1 Z_
abbrev lQ:Ev->Option T:=
 yj [none] (yn (zb zi (zc 0) (cI 2))) (zu 0) yH (tupS (za (zb zi (zc 0) (cI 0)) (za (zb zi (zc 0) (cI 1)) (za (zb zi (zc 0) (cI 3)) (za (zb zi (zc 0) (cI 2)) zf)))))
abbrev lH:Ev->Option T:=
 yj [none] (yn (zb zi (zc 0) (cI 3))) (zu 0) yH (tupS (za (zb zi (zc 0) (cI 0)) (za (zb vT (cI 1) (zb zi (zc 0) (cI 1))) (za (zb zi (zc 0) (cI 2)) (za (zb zi (zc 0) (cI 3)) zf)))))
abbrev Yf:Sm:=
 (zq (zQ 1 lQ)
 (zq (zQ 2 lH)
 (retS (zj qd (za (tupS (za (zb zi (zb zi (zc 0) (cI 0)) (cI 1)) (za (zb zi (zb zi (zc 0) (cI 0)) (cI 0)) zf))) (za (zb zi (zc 0) (cI 1)) (za (zl 1) (za (zl 2) zf))))))))
def pj:List T->Option T:=zO ["floor","ways","stalls"] 1 Yf
abbrev lN:Ev->Option T:=
 yj [none,none] (yn (zj qj (za (zc 1) (za (zb zi (zc 0) (cI 1)) zf)))) (wx 2 (yO (zu 0) (yO (zu 1) vi))) yH (zl 1)
abbrev lF:Ev->Option T:=
 yj [none,some 1] (yn (zb zi (zc 0) (cI 2))) (zu 0) yH (tupS (za (zb zi (zc 1) (zb zi (zc 0) (cI 0))) (za (zb zi (zc 1) (zb zi (zc 0) (cI 1))) (za (zb zi (zc 0) (cI 2)) (za (zb zi (zc 0) (cI 3)) zf)))))
abbrev lD:Ev->Option T:=
 yj [none,some 1] (yn (zb zi (zc 0) (cI 3))) (zu 0) yH (tupS (za (zb zi (zc 1) (zb zi (zc 0) (cI 0))) (za (zb zi (zc 0) (cI 1)) (za (zb zi (zc 0) (cI 2)) (za (zb zi (zc 0) (cI 3)) zf)))))
abbrev Ya:Sm:=
 (zq (zQ 2 lN)
 (zq (zQ 3 lF)
 (zq (zQ 4 lD)
 (retS (zj qd (za (zb zi (zc 0) (cI 0)) (za (zl 2) (za (zl 3) (za (zl 4) zf)))))))))
def pd:List T->Option T:=zO ["floor","order","owners","ways","stalls"] 2 Ya
abbrev Yw:Sm:=
 (retS (zb zi (zj vc (za (zl 0) zf)) (qy (cI 1))))
def t_:List T->Option T:=zO ["floor"] 1 Yw
abbrev lS:Ev->Option T:=
 yj [none] (yn (zc 0)) (zu 0) yH (zj qa (za (zl 0) zf))
abbrev lI:Ev->Option T:=
 yj [none] (yn (zc 2)) (zu 0) yH lS
abbrev lE:Ev->Option T:=
 yj [none,some 0,some 1] (xt wO (za (zj yM (za (zc 1) zf)) zf)) (zu 0) yH (zb zi (zc 1) (zb rJ (zc 2) (zc 0)))
abbrev lC:Ev->Option T:=
 yj [none,some 1] (yn (zc 2)) (zu 0) yH lE
abbrev lB:Ev->Option T:=
 yj [none,some 2,some 1] (xt wO (za (zj yM (za (zc 1) zf)) zf)) (zu 0) yH (zj qa (za (zb zi (zb zi (zc 1) (qy (cI 1))) (zb rJ (zc 2) (zc 0))) zf))
abbrev Yk:Sm:=
 (zq (zQ 2 (zj vc (za (zl 0) zf)))
 (zq (zQ 3 (zj pj (za (zl 0) zf)))
 (zq (yY (yx (zb (zR true) (zj vc (za (zl 3) zf)) lI)) (retS (cS (.bl false))) yX)
 (zq (zQ 4 (zj pd (za (zl 0) (za (zl 1) zf))))
 (zq (yY (yx (zb (zR true) (zj vc (za (zl 4) zf)) lC)) (retS (cS (.bl false))) yX)
 (zq (zQ 5 (zj t_ (za (zj pj (za (zl 4) zf)) zf)))
 (zq (yY (yx (zb (zR true) (zc 5) lB)) (retS (cS (.bl false))) yX)
 (retS (zb (zR false) (zc 5) (zj t_ (za (zj pd (za (zl 3) (za (zl 1) zf))) zf)))))))))))
def nG:List T->Option T:=zO ["_law_floor_here","_law_order_here","_law_told","_law_mirror","_law_moved","_law_found"] 2 Yk
abbrev nq:Sm:=
 (zq (zQ 4 (zj pq (za (zj uZ (za (zl 0) (za (zl 3) zf))) (za (zl 1) (za (zl 2) zf)))))
 (yY (wF (yV (zj nG (za (zl 4) (za (zj nH (za (zj uZ (za (zl 0) (za (zb yh (zc 3) (cI 1)) zf))) (za (zj yM (za (zb zi (zc 4) (cI 1)) zf)) zf))) zf))))) (retS (cS (.bl false))) yX))
abbrev Yp:Sm:=
 (zq (fg (zj nF (za (zj uZ (za (zl 0) (za (cI 0) zf))) zf)) (wx 2 (yO (zu 1) (yO (zu 2) vi))))
 (zq (wU [3,4] (xt pO (za (cI 1) (za (zj qz (za (cI 2) (za (zj oj (za (zj yM (za (zc 0) zf)) (za (cI 60) zf))) zf))) (za (cI 20) zf)))) (zu 3) nq)
 (retS (cS (.bl true)))))
def pz:List T->Option T:=zO ["_law_script","_law_most","_law_brim","_law_k","_law_floor_here"] 1 Yp
def XD (ps:List (Int×Int)) (h:ps.length<64):wy [.lst (ps.map zk)]=some (.lst ((tw ps).map zk)):=by
 show (ve (ps.map zk)).bind _=_;rw[Wa,Bf,if_pos ⟨by simpa using h,λ r hr=>by obtain⟨p,_,rfl⟩:=Ai.mp hr;simp[yK]⟩,<- fA,Au];rfl
def Ol {qs p:List (Int×Int)}{x:Int×Int}(hr:∀ r,qs++yz r (qs.getLast?.map (·.2))=yz (p++r) none) (hb:uQ (qs.getLast?.map (·.2)) x.2=true) (r:List (Int×Int)):
  (qs++[x])++yz r ((qs++[x]).getLast?.map (·.2))=yz (p++[x]++r) none:=by
 have:=hr (x::r);rw[show yz (x::r) (qs.getLast?.map (·.2))=x::yz r (some x.2) by rw[yz,if_pos hb]] at this;simpa using this
def Om {qs p:List (Int×Int)}{x:Int×Int}(hr:∀ r,qs++yz r (qs.getLast?.map (·.2))=yz (p++r) none) (hb:uQ (qs.getLast?.map (·.2)) x.2=false) (r:List (Int×Int)):
  qs++yz r (qs.getLast?.map (·.2))=yz (p++[x]++r) none:=by
 have:=hr (x::r);rw[show yz (x::r) (qs.getLast?.map (·.2))=yz r (qs.getLast?.map (·.2)) by rw[yz,if_neg (by rw[hb];nofun)]] at this;simpa using this
def k9 (ps:List (Int×Int)) (hl:ps.length<64):tY [.lst (ps.map zk)]=some (.tup ((w9 ps).map zk)):=by
 obtain⟨J',h1,qs,h2,h3,h4⟩:=vZ (is:=[2]) (g:=zu 2) (b:=nk) zk (λ p J=>∃ qs:List (Int×Int),J=[some (.im (.lst (ps.map zk))),some (.own (.lst (qs.map zk))),none]/\qs.length<=p.length/\
   ∀ r,qs++yz r (qs.getLast?.map (·.2))=yz (p++r) none) (tw ps) [some (.im (.lst (ps.map zk))),some (.own (.lst [])),none] ⟨[],by simp,by simp,λ r=>by simp⟩ (by
  rintro p x q e J ⟨qs,rfl,hq,hr⟩;have hlen:p.length<64:=by
   have:=congrArg List.length e;rw[(ja ps).length_eq] at this;simp at this;lia
  have app:uQ (qs.getLast?.map (·.2)) x.2=true->∃ Hw:List (Int×Int),yw [2] [some (.im (.lst (ps.map zk))),some (.own (.lst (qs.map zk++[zk x]))),some (.im (zk x))]=[some (.im (.lst (ps.map zk))),some (.own (.lst (Hw.map zk))),none]/\Hw.length<=(p++[x]).length/\∀ r,Hw++yz r (Hw.getLast?.map (·.2))=yz (p++[x]++r) none:=λ hb=>
   ⟨qs++[x],by simp,by simp;lia,Ol hr hb⟩
  rcases List.eq_nil_or_concat qs with rfl | ⟨init,l,rfl⟩
  .refine⟨_,?_,app (by simp[uQ])⟩;simp[turn,nk]
  .simp only[List.concat_eq_append] at *;by_cases hb:x.2<l.2
   .refine⟨_,?_,app (by simp[uQ,hb])⟩;simp at hq;simp[turn,nk,zk,hb,vY];lia
   .refine⟨[some (.im (.lst (ps.map zk))),some (.own (.lst ((init++[l]).map zk))),some (.im (zk x))],?_,init++[l],by simp,by simp at hq ⊢;lia,Om hr (by simp[uQ];lia)⟩;simp[turn,nk,zk,hb,vY])
 have h5:=h4 [];simp[yz] at h5;unfold tY Yg;simp[XD ps hl,h1,h2,h5,w9]
def MV (b o:List (Int×Int)) (hl:b.length+o.length<64):nJ [.tup (b.map zk),.tup (o.map zk)]=some (.tup ((w9 (b++o)).map zk)):=by
 have h:=k9 (b++o) (by simpa using hl);rw[Bo] at h;have:b.length+o.length<=16777216:=by lia
 unfold nJ Yt;simp[h,this]
noncomputable def r0 (p:Int×Int):List Int:=[p.1,0,p.2]
noncomputable def r1 (p:Int×Int):List Int:=[p.1,1,p.2]
noncomputable def yL (l:Option Int) (v:Int):Int:=match l with
 | none=>v
 | some m=>if m<v then m else v
noncomputable def vB (l:Option Int) (sh:List (Int×Int)) (f:Int->Int×Int):List (Int×Int):=match l with
 | some m=>sh++[f m]
 | none=>sh
structure Sw (b o:List (Int×Int)) (p:List (List Int)) (l0 l1:Option Int) (sh:List (Int×Int)):Prop where
 jA:∀ x,r0 x∈p->∃ m,l0=some m/\m<=x.2
 j9:∀ x,r1 x∈p->∃ m,l1=some m/\m<=x.2
 iJ:∀ m,l0=some m->∃ x,r0 x∈p/\x.2=m
 iI:∀ m,l1=some m->∃ x,r1 x∈p/\x.2=m
 len:sh.length<=p.length
 snd:∀ s∈sh,(∃ x,r0 x∈p/\x.1<=s.1/\x.2<=s.2)/\∃ x,r1 x∈p/\x.1<=s.1/\x.2<=s.2
 all:∀ x y,r0 x∈p->r1 y∈p->∃ s∈sh,(s.1<=x.1\/s.1<=y.1)/\(s.2<=x.2\/s.2<=y.2)
def mG {x y:Int×Int}(h:r0 x=r0 y):x=y:=by
 unfold r0 at h;injection h with h1 h2;injection h2 with _ h2;injection h2 with h2 _;exact Prod.ext h1 h2
def mF {x y:Int×Int}(h:r1 x=r1 y):x=y:=by
 unfold r1 at h;injection h with h1 h2;injection h2 with _ h2;injection h2 with h2 _;exact Prod.ext h1 h2
def qq {x y:Int×Int}(h:r0 x=r1 y):False:=by
 unfold r0 r1 at h;injection h with h1 h2;injection h2 with h2 _;lia
def uB {p:List (List Int)}{a x:List Int}(h:a∈p++[x]):a∈p\/a=x:=by simpa using h
def Sw.X5 {b o:List (Int×Int)}{p:List (List Int)}{l0 l1:Option Int}{sh:List (Int×Int)}(h:Sw b o p l0 l1 sh) (x:Int×Int) (hx:∀ y,r0 y∈p->y.1<=x.1) (hy:∀ y,r1 y∈p->y.1<=x.1):
  Sw b o (p++[r0 x]) (some (yL l0 x.2)) l1 (vB l1 sh λ m=>(x.1,if m>yL l0 x.2 then m else yL l0 x.2)):=by
 have lo:yL l0 x.2<=x.2/\∀ m,l0=some m->yL l0 x.2<=m:=by
  unfold yL;cases l0 with
  | none=>exact⟨AN _,nofun⟩
  | some m=>dsimp only;split <;> refine⟨by lia,λ m' e=>?_⟩ <;> cases e <;> lia
 have la:∃ y,r0 y∈p++[r0 x]/\y.2=yL l0 x.2:=by
  unfold yL;cases l0 with
  | none=>exact⟨x,by simp,rfl⟩
  | some m=>
   dsimp only;split
   .obtain⟨y,h1,h2⟩:=h.iJ m rfl;exact⟨y,by simp[h1],h2⟩
   .exact⟨x,by simp,rfl⟩
 have Ha:∀ s∈sh,(∃ x',r0 x'∈p++[r0 x]/\x'.1<=s.1/\x'.2<=s.2)/\∃ x',r1 x'∈p++[r0 x]/\x'.1<=s.1/\x'.2<=s.2:=λ s hs=>by
  obtain⟨⟨a,a1,a2⟩,c,c1,c2⟩:=h.snd s hs;exact⟨⟨a,by simp[a1],a2⟩,c,by simp[c1],c2⟩
 refine⟨λ y hm=>?_,λ y hm=>?_,λ m e=>?_,λ m e=>?_,?_,λ s hs=>?_,λ y z hm hz=>?_⟩
 .rcases uB hm with q | q
  .obtain⟨m,e,q2⟩:=h.jA y q;exact⟨_,rfl,by have:=lo.2 m e;lia⟩
  .cases mG q;exact⟨_,rfl,lo.1⟩
 .rcases uB hm with q | q
  .exact h.j9 y q
  .exact (qq q.symm).elim
 .cases e;exact la
 .obtain⟨y,q1,q2⟩:=h.iI m e;exact⟨y,by simp[q1],q2⟩
 .have:=h.len;cases l1 <;> simp[vB] <;> lia
 .cases l1 with
  | none=>exact Ha s hs
  | some m=>
   rcases AZ.mp hs with q | q
   .exact Ha s q
   .obtain rfl:s=_:=by simpa using q
    obtain⟨y,y1,y2⟩:=la;obtain⟨z,z1,z2⟩:=h.iI m rfl;have Ef:=hy z z1;refine⟨⟨y,y1,?_,by dsimp only;split <;> lia⟩,z,by simp[z1],Ef,by dsimp only;split <;> lia⟩;rcases uB y1 with w | w
    .exact hx y w
    .cases mG w;exact AN _
 .have Jp:r1 z∈p:=by
   rcases uB hz with q | q
   .exact q
   .exact (qq q.symm).elim
  rcases uB hm with q | q
  .obtain⟨s,s1,s2⟩:=h.all y z q Jp;refine⟨s,?_,s2⟩;cases l1 <;> simp[vB,s1]
  .cases mG q;obtain⟨m,e,hm⟩:=h.j9 z Jp;subst e;refine⟨_,A2 _ Ap,.inl (AN _),?_⟩;have:=lo.1;dsimp only;split <;> lia
def Sw.swap {b o:List (Int×Int)}{p:List (List Int)}{l0 l1:Option Int}{sh:List (Int×Int)}(x:Int×Int) (h:Sw b o p l0 l1 sh) (hx:∀ y,r0 y∈p->y.1<=x.1) (hy:∀ y,r1 y∈p->y.1<=x.1):
  Sw b o (p++[r1 x]) l0 (some (yL l1 x.2)) (vB l0 sh λ m=>(x.1,if yL l1 x.2>m then yL l1 x.2 else m)):=by
 have lo:yL l1 x.2<=x.2/\∀ m,l1=some m->yL l1 x.2<=m:=by
  unfold yL;cases l1 with
  | none=>exact⟨AN _,nofun⟩
  | some m=>dsimp only;split <;> refine⟨by lia,λ m' e=>?_⟩ <;> cases e <;> lia
 have la:∃ y,r1 y∈p++[r1 x]/\y.2=yL l1 x.2:=by
  unfold yL;cases l1 with
  | none=>exact⟨x,by simp,rfl⟩
  | some m=>
   dsimp only;split
   .obtain⟨y,h1,h2⟩:=h.iI m rfl;exact⟨y,by simp[h1],h2⟩
   .exact⟨x,by simp,rfl⟩
 have Ha:∀ s∈sh,(∃ x',r0 x'∈p++[r1 x]/\x'.1<=s.1/\x'.2<=s.2)/\∃ x',r1 x'∈p++[r1 x]/\x'.1<=s.1/\x'.2<=s.2:=λ s hs=>by
  obtain⟨⟨a,a1,a2⟩,c,c1,c2⟩:=h.snd s hs;exact⟨⟨a,by simp[a1],a2⟩,c,by simp[c1],c2⟩
 refine⟨λ y hm=>?_,λ y hm=>?_,λ m e=>?_,λ m e=>?_,?_,λ s hs=>?_,λ y z hm hz=>?_⟩
 .rcases uB hm with q | q
  .exact h.jA y q
  .exact (qq q).elim
 .rcases uB hm with q | q
  .obtain⟨m,e,q2⟩:=h.j9 y q;exact⟨_,rfl,by have:=lo.2 m e;lia⟩
  .cases mF q;exact⟨_,rfl,lo.1⟩
 .obtain⟨y,q1,q2⟩:=h.iJ m e;exact⟨y,by simp[q1],q2⟩
 .cases e;exact la
 .have:=h.len;cases l0 <;> simp[vB] <;> lia
 .cases l0 with
  | none=>exact Ha s hs
  | some m=>
   rcases AZ.mp hs with q | q
   .exact Ha s q
   .obtain rfl:s=_:=by simpa using q
    obtain⟨y,y1,y2⟩:=la;obtain⟨z,z1,z2⟩:=h.iJ m rfl;have Ef:=hx z z1;refine⟨⟨z,by simp[z1],Ef,by dsimp only;split <;> lia⟩,y,y1,?_,by dsimp only;split <;> lia⟩;rcases uB y1 with w | w
    .exact hy y w
    .cases mF w;exact AN _
 .have Jt:r0 y∈p:=by
   rcases uB hm with q | q
   .exact q
   .exact (qq q).elim
  rcases uB hz with q | q
  .obtain⟨s,s1,s2⟩:=h.all y z Jt q;refine⟨s,?_,s2⟩;cases l0 <;> simp[vB,s1]
  .cases mF q;obtain⟨m,e,hm⟩:=h.jA y Jt;subst e;refine⟨_,A2 _ Ap,.inr (AN _),?_⟩;have:=lo.1;dsimp only;split <;> lia
structure Lw (d:List (Key×T)) (l0 l1:Option Int):Prop where
 v0:xa d (.inl 0)=l0.map T.int
 v1:xa d (.inl 1)=l1.map T.int
 len:d.length=(if l0.isSome then 1 else 0)+if l1.isSome then 1 else 0
def Lw.Ww {d:List (Key×T)}{l0 l1:Option Int}(h:Lw d l0 l1) (v:Int):Lw (vA d (.inl 0) (.int v)) (some v) l1:=by
 refine⟨by rw[md];simp,by rw[md];simpa using h.v1,?_⟩;rw[ck,h.v0,h.len];cases l0 <;> cases l1 <;> simp
def Lw.Wv {d:List (Key×T)}{l0 l1:Option Int}(h:Lw d l0 l1) (v:Int):Lw (vA d (.inl 1) (.int v)) l0 (some v):=by
 refine⟨by rw[md];simpa using h.v0,by rw[md];simp,?_⟩;rw[ck,h.v1,h.len];cases l0 <;> cases l1 <;> simp
def lp {rows p q:List (List Int)}{x:List Int}(e:L4.yW rows=p++x::q) {a:List Int}(ha:a∈p) {i j:Int}{as xs:List Int}(h1:a=i::as) (h2:x=j::xs):i<=j:=by
 have h:=L4.pK rows;rw[e,Dz] at h;have:=h.2.2 a ha x Ap;subst h1 h2;rw[HT.uD] at this;by_cases c:j=i
 .lia
 .rw[if_neg c] at this;have:=of_decide_eq_false this;lia
def M_ (b o:List (Int×Int)) (hl:b.length+o.length<64):∃ sh:List (Int×Int),nL [.tup (b.map zk),.tup (o.map zk)]=some (.tup ((w9 sh).map zk))/\sh.length<64/\∀ q,zK sh q=(zK b q&&zK o q):=by
 let a0:W:=.im (.tup (b.map zk))
 let a1:W:=.im (.tup (o.map zk))
 let rows:=b.map r0++o.map r1
 let a2:W:=.im (.lst (rows.map zt))
 have hlen:rows.length<64:=by simp[rows];exact hl
 have hs:wy [.lst (rows.map zt)]=some (.lst ((L4.yW rows).map zt)):=by
  show ((ve (rows.map zt)).bind λ rs=>_)=_;rw[mC,Bf,if_pos ⟨hlen,λ r hr=>by
   rcases AZ.mp hr with h | h <;> obtain⟨_,_,rfl⟩:=Ai.mp h <;> simp[r0,r1]⟩]
 have JJ:(L4.yW rows).length=rows.length:=(L4.vU rows).length_eq;obtain⟨J1,h1,d,l0,l1,sh,e1,w1,s1⟩:=vZ (is:=[5,6,7]) (g:=wx 3 (yO (zu 5) (yO (zu 6) (yO (zu 7) vi)))) (b:=kg) zt (λ p J=>∃ d l0 l1 sh,J=[some a0,some a1,some a2,some (.own (.zS d)),some (.own (.lst (sh.map zk))),none,none,none]/\Lw d l0 l1/\Sw b o p l0 l1 sh) (L4.yW rows) [some a0,some a1,some a2,some (.own (.zS [])),some (.own (.lst [])),none,none,none]
  ⟨[],none,none,[],by simp,⟨rfl,rfl,rfl⟩,⟨nofun,nofun,nofun,nofun,by simp,nofun,nofun⟩⟩ (by
  rintro p x q e J ⟨d,l0,l1,sh,rfl,hw,BW⟩;have hx:x∈rows:=(L4.vU rows).mem_iff.mp (by rw[e];simp);have Aq:p.length<64:=by
   have:=congrArg List.length e;rw[JJ] at this;simp at this;lia
  have Bl:sh.length<16777216:=by have:=BW.len;lia
  have Dh:d.length<16777216:=by rw[hw.len];split <;> split <;> lia
  rcases AZ.mp hx with hm | hm
  .obtain⟨y,_,rfl⟩:=Ai.mp hm;have st:=BW.X5 y (λ z hz=>lp e hz rfl rfl) (λ z hz=>lp e hz rfl rfl);have HB:=hw.Ww (yL l0 y.2);refine⟨[some a0,some a1,some a2,some (.own (.zS (vA d (.inl 0) (.int (yL l0 y.2))))),some (.own (.lst ((vB l1 sh λ m=>(y.1,if m>yL l0 y.2 then m else yL l0 y.2)).map zk))),some (.im (.int y.1)),some (.im (.int 0)),some (.im (.int y.2))],?_,_,_,_,_,(by simp),HB,st⟩;have hr:zt (r0 y)=.tup [.int y.1,.int 0,.int y.2]:=rfl;have v0:=HB.v0;have v1:=HB.v1;have ln:=HB.len;cases l0 <;> cases l1 <;> simp[turn,kg,hr,hw.v0,Dh,Bl,yL,vB,zR,dep,eqT] at v0 v1 ln ⊢ <;> simp[v0,v1,ln,zk,vB]
  .obtain⟨y,_,rfl⟩:=Ai.mp hm;have st:=BW.swap y (λ z hz=>lp e hz rfl rfl) (λ z hz=>lp e hz rfl rfl);have HB:=hw.Wv (yL l1 y.2);refine⟨[some a0,some a1,some a2,some (.own (.zS (vA d (.inl 1) (.int (yL l1 y.2))))),some (.own (.lst ((vB l0 sh λ m=>(y.1,if yL l1 y.2>m then yL l1 y.2 else m)).map zk))),some (.im (.int y.1)),some (.im (.int 1)),some (.im (.int y.2))],?_,_,_,_,_,(by simp),HB,st⟩;have hr:zt (r1 y)=.tup [.int y.1,.int 1,.int y.2]:=rfl;have v0:=HB.v0;have v1:=HB.v1;have ln:=HB.len;cases l0 <;> cases l1 <;> simp[turn,kg,hr,hw.v1,Dh,Bl,yL,vB,zR,dep,eqT] at v0 v1 ln ⊢ <;> simp[v0,v1,ln,zk,vB])
 have DI:sh.length<64:=by have:=s1.len;lia
 refine⟨sh,?_,DI,λ q=>?_⟩
 .subst e1;have HD:aD [some a0,some a1,none,none,none,none,none,none]=some (.lst ((b.map r0).map zt)):=by
   rw[Au];exact yF zk (zt ∘ r0) b (by simp[a0]) (by lia) λ y _=>by simp[zk,zt,r0]
  have Gi:aC [some a0,some a1,none,none,none,none,none,none]=some (.lst ((o.map r1).map zt)):=by
   rw[Au];exact yF zk (zt ∘ r1) o (by simp[a1]) (by lia) λ y _=>by simp[zk,zt,r1]
  have hF:=k9 sh DI;have z:b.length+o.length<=16777216:=by lia
  simp only[a0,a1,a2,rows,Bo] at HD Gi hs h1;unfold nL Yv;simp[HD,Gi,z,hs,h1,hF] at HD Gi hs h1 ⊢;simp[HD,Gi,z,hs,h1,hF]
 .have m0:∀ x,r0 x∈L4.yW rows↔x∈b:=λ x=>by
   rw[(L4.vU rows).mem_iff];constructor
   .intro h;rcases AZ.mp h with h | h <;> obtain⟨y,hy,e⟩:=Ai.mp h
    .cases mG e;exact hy
    .exact (qq e.symm).elim
   .exact λ h=>CH _ (List.mem_map_of_mem h)
  have m1:∀ x,r1 x∈L4.yW rows↔x∈o:=λ x=>by
   rw[(L4.vU rows).mem_iff];constructor
   .intro h;rcases AZ.mp h with h | h <;> obtain⟨y,hy,e⟩:=Ai.mp h
    .exact (qq e).elim
    .cases mF e;exact hy
   .exact λ h=>A2 _ (List.mem_map_of_mem h)
  rw[Bs,Br,yo,yo,yo];constructor
  .rintro⟨s,hs,g1,g2⟩;obtain⟨⟨x,x1,x2,x3⟩,y,y1,y2,y3⟩:=s1.snd s hs;exact⟨⟨x,(m0 x).mp x1,by lia,by lia⟩,y,(m1 y).mp y1,by lia,by lia⟩
  .rintro⟨⟨x,x1,x2,x3⟩,y,y1,y2,y3⟩;obtain⟨s,s1,g1,g2⟩:=s1.all x y ((m0 x).mpr x1) ((m1 y).mpr y1);exact⟨s,s1,by lia,by lia⟩
theorem sU {α:Type}(enc:α->T) (n:Nat) (h:∀ x,dep (enc x)<=n):∀ xs:List α,xu (xs.map enc)<=n
 | []=>by simp[xu]
 | x::xs=>by
  have:=h x;have:=sU enc n h xs;simp only[Ax,xu];lia
def bQ (p:Int×Int):dep (zk p)<=1:=by simp[zk,dep,xu]
def bP (ps:List (Int×Int)):dep (.tup (ps.map zk))<=60:=by
 have:=sU zk 1 bQ ps;simp only[dep];lia
end zW
namespace zW
open PySem L2 L3 L5 RN
def bT (b:Bd):T:=.tup (b.map zk)
def rT (r:List Bd):T:=.lst (r.map bT)
noncomputable def kt (b:Bool):T:=if b=true then .str "keeper" else .str "taker"
noncomputable def zD (w:Wy):T:=.tup [.int w.f,.int w.t,.int w.a,.int w.b]
noncomputable def w6 (b:Bool):Int:=if b=true then 1 else 0
def zF (s:Sl):T:=.tup [.int s.p,.int (w6 s.pu),.int s.gv,.int s.gt]
def zp (F:zw):T:=.tup [.tup [.int F.A,.int F.B],.tup (F.os.map kt),.tup (F.ws.map zD),.tup (F.ss.map zF)]
def eq_int (i j:Int) (neg:Bool):zR neg (.int i) (.int j)=some (.bl (cond neg (!decide (i=j)) (decide (i=j)))):=by
 simp[zR,dep,eqT];cases neg <;> simp[Bool.beq_eq_decide_eq]
def Zs (F:zw):r_ [zp F]=some (.int F.os.length):=by
 simp[r_,Yb,zp]
def Lc (q p:Int×Int):nR [zk q,zk p]=some (.bl (wD q p)):=by
 by_cases h1:p.1<=q.1 <;> by_cases h2:p.2<=q.2 <;> simp[nR,Y0,zk,wD,h1,h2]
def qR {α:Type}(g:α->Bool) (xs:List α):wY (xs.map λ x=>T.bl (g x))=some (xs.map g):=by
 have:=aH (xs.map g)
 rwa [Au] at this
def Lb (A B:Int) (w:Wy) (bd:Bd) (hl:bd.length<64):nQ [.tup [.int A,.int B],zD w,bT bd]=some (bT (rQ A B w.a w.b bd)):=by
 have h1:lV [some (.im (.tup [.int A,.int B])),some (.im (zD w)),some (.im (bT bd)),none]=some (.lst ((bd.map (yP w.a w.b)).map zk)):=by
  rw[Au];unfold lV;refine yF zk _ bd (by simp[bT]) (by lia) λ p _=>?_;simp[zk,zD,yP,yu,qE]
 have h2:lJ [some (.im (.tup [.int A,.int B])),some (.im (zD w)),some (.im (bT bd)),some (.im (.lst ((bd.map (yP w.a w.b)).map zk)))]=some (.lst (((bd.map (yP w.a w.b)).filter (wV A B)).map zk)):=by
  have:=mU zk (λ p=>if wV A B p=true then some (zk p) else none) (pick:=[none,some 0]) (it:=yn (zc 3)) (g:=zu 0) (c:=yV (zj nR (za (zl 1) (za (zl 0) zf)))) (f:=zl 0) (J:=[some (.im (.tup [.int A,.int B])),some (.im (zD w)),some (.im (bT bd)),some (.im (.lst ((bd.map (yP w.a w.b)).map zk)))]) (bd.map (yP w.a w.b)) (by simp) (by simp;lia) (λ p _=>by
   have e:T.tup [.int A,.int B]=zk (A,B):=rfl;have ga:wD (A,B) p=wV A B p:=rfl;simp only[tK,e];simp[Lc,ga];cases wV A B p <;> simp)
  unfold lJ;rw[this,show ∀ l:List (Int×Int),l.filterMap (λ p=>if wV A B p=true then some (zk p) else none)=(l.filter (wV A B)).map zk from λ l=>by
   induction l with
   | nil=>rfl
   | cons a l ih=>by_cases h:wV A B a=true <;> simp[Ck,h,ih]]
 have h3:=k9 ((bd.map (yP w.a w.b)).filter (wV A B)) (Nat.lt_of_le_of_lt (Dk _ _) (by simpa using hl));unfold nQ Yz;generalize lV=d1 at h1 ⊢;generalize lJ=d2 at h2 ⊢;generalize tY=ff at h3 ⊢;generalize (bd.map (yP w.a w.b)).map zk=L1 at h1 h2;generalize (((bd.map (yP w.a w.b)).filter (wV A B)).map zk)=L2 at h2 h3;simp[h1,h2,h3];rfl
def MU (b c:Bd) (hl:b.length+c.length<64):nJ [bT b,bT c]=some (bT (vJ b c)):=MV b c hl
def MZ (b c:Bd) (hl:b.length+c.length<64):nL [bT b,bT c]=some (bT (vt b c)):=by
 obtain⟨sh,h1,_,h2⟩:=M_ b c hl;have:w9 sh=vt b c:=yU.eq (jG _) (jG _) λ q=>by
  rw[q8,h2,<- aE]
 rw[<- this];exact h1
def MT {A B:Int}(hA:0<=A/\A<=12) (bs:List Bd) (h:∀ b∈bs,Gd A B b):nM [.lst (bs.map bT)]=some (bT (xM bs)):=by
 obtain⟨J',h1,h2⟩:=vZ (is:=[2]) (g:=zu 2) (b:=kh) bT (λ p J=>J=[some (.im (.lst (bs.map bT))),some (.im (bT (p.foldl vJ []))),none]) bs [some (.im (.lst (bs.map bT))),some (.im (bT [])),none] rfl (by
  rintro p x q e J rfl;have g1:Gd A B (p.foldl vJ []):=qN p [] Gd.nil λ c hc=>h c (by rw[e];simp[hc]);have g2:Gd A B x:=h x (by rw[e];simp);have l1:=g1.rE hA.1;have l2:=g2.rE hA.1;refine⟨[some (.im (.lst (bs.map bT))),some (.im (bT (vJ (p.foldl vJ []) x))),some (.im (bT x))],?_,by simp⟩;simp[turn,kh,MU (p.foldl vJ []) x (by lia)])
 subst h2;unfold nM Yx;generalize kh=bb at h1 ⊢;have e:bT []=.tup []:=rfl;rw[e] at h1;simp[h1,xM]
def MY {A B:Int}(hA:0<=A/\A<=12) (hB:0<=B) (bs:List Bd) (h:∀ b∈bs,Gd A B b):nP [.lst (bs.map bT)]=some (bT (rO bs)):=by
 obtain⟨J',h1,h2⟩:=vZ (is:=[2]) (g:=zu 2) (b:=ki) bT (λ p J=>J=[some (.im (.lst (bs.map bT))),some (.im (bT (p.foldl vt yS))),none]) bs [some (.im (.lst (bs.map bT))),some (.im (bT yS)),none] rfl (by
  rintro p x q e J rfl;have g1:Gd A B (p.foldl vt yS):=ka p yS (Gd.yS hA.1 hB) λ c hc=>h c (by rw[e];simp[hc]);have g2:Gd A B x:=h x (by rw[e];simp);have l1:=g1.rE hA.1;have l2:=g2.rE hA.1;refine⟨[some (.im (.lst (bs.map bT))),some (.im (bT (vt (p.foldl vt yS) x))),some (.im (bT x))],?_,by simp⟩;simp[turn,ki,MZ (p.foldl vt yS) x (by lia)])
 subst h2;unfold nP Yy;generalize ki=bb at h1 ⊢;have e:bT yS=.tup [.tup [.int 0,.int 0]]:=rfl;rw[e] at h1;simp[h1,rO]
theorem dW {α:Type}{is:List Nat}{g:T->Ev->Option Ev}{b:Sm}(enc ret:α->T) (test:α->Bool) (J0:Ev):∀ (xs:List α) (J:Ev),yw is J=J0->
  (∀ x∈xs,∃ J',yw is J'=J0/\turn g b (enc x) J0=some (if test x=true then .rt (ret x) else .nx J'))->
  xI is g b (xs.map enc) J=some (match xs.find? test with | some x=>.rt (ret x) | none=>.nx J0)
 | [],J,h,_=>by rw[Bp,List.find?_nil,xI,h]
 | x::xs,J,h,ht=>by
  rw[Ax,dX,h];obtain⟨J',h1,h2⟩:=ht x Ap;rw[h2,B9];by_cases c:test x=true
  .rw[if_pos c,c];rfl
  .rw[if_neg c];rw[Bool.not_eq_true] at c;rw[c];exact dW enc ret test J0 xs J' h1 λ y hy=>ht y (Av _ hy)
def MD (i a b:Int):qb [.int i,.int a,.int b]=some (.bl (decide (a<=i)&&decide (i<=b))):=by
 have h:tZ [.int i]=some (.bl true):=by simp[tZ,gB,wg]
 by_cases h1:a<=i <;> by_cases h2:i<=b <;> simp[qb,gA,h,h1,h2]
def Zv (F:zw) (p:Nat) (h:p<F.os.length):nK [zp F,.int p]=some .zm:=by
 have h1:=MD p 0 ((F.os.length:Int)-1);rw[show decide ((0:Int)<=p)=true from KG (by lia),show decide ((p:Int)<=(F.os.length:Int)-1)=true from KG (by lia)] at h1;have h2:=Zs F;unfold nK Yu;generalize zp F=fl at *;simp[h1,h2]
def NC (pu:Bool) (A B:Int) (sp gv gt:Int) (x y:Int) (hg:1<=gv) (b0 b1:T) (hb:zi b0 (.int (w6 pu))=some (.int (if pu=true then B else A))) (GD:zi b1 (.int 2)=some (.int gv)) (hs3:zi b1 (.int 3)=some (.int gt)) (pr:T):
  ∀ (n m:Nat) (g t:Int) (acc:Bd),(if pu=true then B else A)+1-g<=n->n<m->acc.length+n<=1000->
  ∃ g' t',xr [] (yx (zb tI (zc 5) (zb zi (zc 0) (zc 3)))) rP m [some (.im b0),some (.im b1),some (.im pr),some (.im (.int (w6 pu))),some (.own (.lst (acc.map zk))),some (.im (.int g)),some (.im (.int t))]
   = some (.nx [some (.im b0),some (.im b1),some (.im pr),some (.im (.int (w6 pu))),some (.own (.lst ((acc++xA pu (if pu=true then B else A) gv gt n g t).map zk))),some (.im (.int g')),some (.im (.int t'))]):=by
 have Bn:∀ (m:Nat) (g t:Int) (acc:Bd),¬ g<=(if pu=true then B else A)->xr [] (yx (zb tI (zc 5) (zb zi (zc 0) (zc 3)))) rP (m+1) [some (.im b0),some (.im b1),some (.im pr),some (.im (.int (w6 pu))),some (.own (.lst (acc.map zk))),some (.im (.int g)),some (.im (.int t))]
   = some (.nx [some (.im b0),some (.im b1),some (.im pr),some (.im (.int (w6 pu))),some (.own (.lst (acc.map zk))),some (.im (.int g)),some (.im (.int t))]):=λ m g t acc hn=>by
  unfold xr;simp only[zi] at hb;simp[hb,hn]
 intro n
 induction n with
 | zero=>
  intro m g t acc h1 h2 h3;obtain⟨m,rfl⟩:∃ k,m=k+1:=⟨m-1,by lia⟩
  refine⟨g,t,?_⟩;rw[Bn m g t acc (by lia)];simp[xA]
 | succ n ih=>
  intro m g t acc h1 h2 h3;obtain⟨m,rfl⟩:∃ k,m=k+1:=⟨m-1,by lia⟩
  by_cases hc:g<=(if pu=true then B else A)
  .obtain⟨g',t',e⟩:=ih m (g+gv) (yu (t-gt)) (acc++[xU pu g t]) (by lia) (by lia) (by simp;lia);refine⟨g',t',?_⟩;have Hu:rP [some (.im b0),some (.im b1),some (.im pr),some (.im (.int (w6 pu))),some (.own (.lst (acc.map zk))),some (.im (.int g)),some (.im (.int t))]=some (.nx [some (.im b0),some (.im b1),some (.im pr),some (.im (.int (w6 pu))),some (.own (.lst ((acc++[xU pu g t]).map zk))),some (.im (.int (g+gv))),some (.im (.int (yu (t-gt))))]):=by
    simp only[zi] at GD hs3;have hl:acc.length<16777216:=by lia
    unfold rP;cases pu <;> simp[w6,eq_int,GD,hs3,hl,qE,yu,xU,zk]
   unfold xr;simp only[zi] at hb;generalize rP=bb at *;have e2:xA pu (if pu=true then B else A) gv gt (n+1) g t=xU pu g t::xA pu (if pu=true then B else A) gv gt n (g+gv) (yu (t-gt)):=by
    rw[xA,if_pos hc]
   rw[e2];simp only[DA,List.singleton_append] at e;simp[hb,hc,Hu];simpa using e
  .refine⟨g,t,?_⟩;rw[Bn m g t acc hc,xA,if_neg hc,C2]
def MX {F:zw}(ok:F.Ok) (s:Sl) (hs:1<=s.gv/\0<=s.gt) (p:Int×Int) (h0:0<=p.1/\0<=p.2):nD [.tup [.int F.A,.int F.B],zF s,zk p]=some (.lst ((yG F s p).map zk)):=by
 obtain⟨sp,pu,gv,gt⟩:=s;have a1:=ok.a1;have b1:=ok.b1;obtain⟨g',t',h⟩:=NC pu F.A F.B sp gv gt p.1 p.2 hs.1 (.tup [.int F.A,.int F.B]) (zF ⟨sp,pu,gv,gt⟩) (by cases pu <;> simp[w6]) (by simp[zF]) (by simp[zF]) (zk p) 100 1000000 (yv pu p) (yN pu p) [] (by cases pu <;> simp[yv] <;> lia) (by decide) (by simp);unfold nD Yc rn;generalize hb:rP=bb at h ⊢;unfold yG zw.zB;simp only[Bp,List.nil_append] at h;cases pu <;> simp[zF,w6,zk,yv,yN] at h ⊢ <;> simp[h]
def MG (F:zw) (p:Nat) (h:p<F.os.length) (hl:F.ss.length<=60):rZ [zp F,.int p]=some (match F.Fp p with | some s=>zF s | none=>.zm):=by
 have Gn:=dW (is:=[2]) (g:=zu 2) (b:=nj) zF zF (λ s=>decide (s.p=p)) [some (.im (zp F)),some (.im (.int p)),none] F.ss [some (.im (zp F)),some (.im (.int p)),none] (by simp) λ s _=>⟨[some (.im (zp F)),some (.im (.int p)),some (.im (zF s))],by simp,by
  by_cases c:s.p=p
  .simp[turn,nj,zF,eq_int,c]
  .have c':¬ ((s.p:Int)=(p:Int)):=by lia
   simp[turn,nj,zF,eq_int,c,c']⟩
 have h1:=Zv F p h;have h2:zi (zp F) (.int 3)=some (.tup (F.ss.map zF)):=by simp[zp]
 unfold rZ ZZ;generalize nj=bb,zp F=fl at *;simp only[zi] at h2;unfold zw.Fp;generalize F.ss.find? _=o at *;simp[h1,h2,Gn];cases o <;> simp
theorem bB:∀ (ws:List Wy) (k:Nat),sQ k (ws.map zD)=(ws.zipIdx k).map λ wi=>T.tup [.int (wi.2:Int),zD wi.1]
 | [],k=>rfl
 | w::ws,k=>by
  rw[Ax,sQ,bB ws (k+1),Dn,Ax]
theorem kF (f:Wy->Bool):∀ (ws:List Wy) (k:Nat),((ws.zipIdx k).filter λ wi=>f wi.1).map (λ wi=>wi.1)=ws.filter f
 | [],k=>rfl
 | w::ws,k=>by
  rw[Dn,List.filter_cons,List.filter_cons];by_cases c:f w=true
  .rw[if_pos (by exact c),if_pos c,Ax,kF f ws]
  .rw[if_neg (by exact c),if_neg c,kF f ws]
def ME (F:zw) (p:Nat) (h:p<F.os.length) (hl:F.ws.length<=60):nC [zp F,.int p]=some (.lst (((F.ws.zipIdx).filter λ wi=>decide (wi.1.f=p)).map λ wi=>T.int (wi.2:Int))):=by
 have hc:lM [some (.im (zp F)),some (.im (.int p))]=some (.lst (((F.ws.zipIdx).filter λ wi=>decide (wi.1.f=p)).map λ wi=>T.int (wi.2:Int))):=by
  have:=mU (λ wi:Wy×Nat=>T.tup [.int (wi.2:Int),zD wi.1]) (λ wi=>if wi.1.f=p then some (T.int (wi.2:Int)) else none) (pick:=[none,none,some 1]) (it:=xt sR (za (zb zi (zc 0) (cI 2)) zf)) (g:=wx 2 (yO (zu 0) (yO (zu 1) vi))) (c:=yx (zb (zR false) (zb zi (zc 1) (cI 0)) (zc 2))) (f:=zl 0) (J:=[some (.im (zp F)),some (.im (.int p))]) (F.ws.zipIdx) (by
   rw[<- bB];simp[zp]) (by simp;lia) (λ wi _=>by
   by_cases c:wi.1.f=p
   .simp[zD,eq_int,c]
   .have c':¬ ((wi.1.f:Int)=(p:Int)):=by lia
    simp[zD,eq_int,c,c'])
  unfold lM;rw[this];congr 2
  induction F.ws.zipIdx with
  | nil=>rfl
  | cons a l ih=>by_cases c:a.1.f=p <;> simp[Ck,c,ih]
 have h1:=Zv F p h;unfold nC ZY;generalize lM=cc,zp F=fl at *;generalize List.map (λ wi:Wy×Nat=>T.int (wi.2:Int)) _=LL at *;simp[h1,hc]
theorem b9:∀ (b c:Bd),xg (b.map zk) (c.map zk)=decide (b=c)
 | [],[]=>by simp[xg]
 | [],_::_=>by simp[xg]
 | _::_,[]=>by simp[xg]
 | p::b,q::c=>by
  have h:=b9 b c;have e:eqT (zk p) (zk q)=decide (p=q):=by
   obtain⟨p1,p2⟩:=p;obtain⟨q1,q2⟩:=q;by_cases h1:p1=q1 <;> by_cases h2:p2=q2 <;> simp[zk,eqT,xg,h1,h2]
  rw[Ax,Ax,xg,e,h];by_cases h1:p=q <;> by_cases h2:b=c <;> simp[h1,h2]
def QA (b c:Bd):zR true (bT b) (bT c)=some (.bl (decide (b≠c))):=by
 have h1:dep (bT b)<=60:=bP b;have h2:dep (bT c)<=60:=bP c;unfold zR;rw[if_pos ⟨h1,h2⟩];show some (T.bl (!(xg (b.map zk) (c.map zk))))=_;rw[b9];by_cases h:b=c <;> simp[h]
def mY (l:List Bd) (p:Nat) (h:p<l.length):zi (rT l) (.int p)=some (bT (l.getD p [])):=by
 show L2.zL (l.map bT) (p:Int)=_;refine vv ?_;rw[AE,Aw h,Ay,Aw h];rfl
def MW {F:zw}(ok:F.Ok) (p:Nat) (hp:p<F.os.length) (b:Bd) (hb:Gd F.A F.B b):p7 [zp F,.int p,bT b]=some (bT (match F.Fp p with | none=>b | some s=>tS F s b)):=by
 have h1:=MG F p hp ok.s8;cases hs:F.Fp p with
 | none=>
  rw[hs] at h1;unfold p7 gD;generalize rZ=f1 at h1 ⊢;generalize zp F=fl,bT b=bb at *;have is1:ou false .zm .zm=some (.bl true):=rfl;simp[h1,is1]
 | some s=>
  rw[hs] at h1;replace h1:rZ [zp F,.int p]=some (zF s):=h1;have A8:s∈F.ss:=DX hs;have hsz:=ok.ss s A8;have FT:(F.A+1)*(F.B+1)<64:=by
   rcases ok.sl with x | x
   .rw[x] at A8;cases A8
   .exact x
  have a0:=ok.a0;have b0:=ok.b0;have Ew:∀ x∈b,((yG F s x).length:Int)<=F.zB s.pu+1:=λ x hx=>by
   have q:=hb.yQ x hx;have:=ay s.pu (F.zB s.pu) s.gv s.gt hsz.1 100 (yv s.pu x) (yN s.pu x) (by unfold zw.zB yv;split <;> lia);have g0:0<=yv s.pu x:=by unfold yv;split <;> lia
   unfold yG;lia
  have AH:∀ q:Bd,(∀ x∈q,x∈b)->((q.flatMap (yG F s)).length:Int)<=q.length*(F.zB s.pu+1):=λ q=>by
   induction q with
   | nil=>intro _;simp
   | cons x q ih=>
    intro hq;have i1:=ih λ y hy=>hq y (Av _ hy);have i2:=Ew x (hq x Ap);rw[List.flatMap_cons,Cd,Bg,Int.natCast_add,Int.natCast_add,Int.add_mul];lia
  have hlen:(b.flatMap (yG F s)).length<64:=by
   have h2:=AH b λ _ h=>h;have l1:=hb.rE a0;have l2:=hb.QZ b0;have:((b.flatMap (yG F s)).length:Int)<64:=by
    refine DU h2 (DU ?_ FT);unfold zw.zB;split
    .exact D0 l1 (by lia)
    .rw[Int.mul_comm (F.A+1)];exact D0 l2 (by lia)
   lia
  have ES:zi (zp F) (.int 0)=some (.tup [.int F.A,.int F.B]):=by simp[zp]
  obtain⟨J',h2,h3⟩:=vZ (is:=[5]) (g:=zu 5) (b:=kj) zk (λ q J=>J=[some (.im (zp F)),some (.im (.int p)),some (.im (bT b)),some (.im (zF s)),some (.own (.lst ((q.flatMap (yG F s)).map zk))),none]) b [some (.im (zp F)),some (.im (.int p)),some (.im (bT b)),some (.im (zF s)),some (.own (.lst [])),none] rfl (by
   rintro q x r e J rfl;have hx:x∈b:=by rw[e];simp
   have q1:=hb.yQ x hx;have hF:=MX ok s hsz x ⟨q1.1.1,q1.2.1⟩;have Im:(q.flatMap (yG F s)).length+(yG F s x).length<=16777216:=by
    have e2:(b.flatMap (yG F s)).length=(q.flatMap (yG F s)).length+((yG F s x).length+(r.flatMap (yG F s)).length):=by rw[e];simp
    lia
   refine⟨[some (.im (zp F)),some (.im (.int p)),some (.im (bT b)),some (.im (zF s)),some (.own (.lst (((q++[x]).flatMap (yG F s)).map zk))),some (.im (zk x))],?_,by simp⟩;have e3:((q++[x]).flatMap (yG F s)).map zk=(q.flatMap (yG F s)).map zk++(yG F s x).map zk:=by simp
   rw[e3];unfold turn kj;have l3:((q.flatMap (yG F s)).map zk).length+((yG F s x).map zk).length<=16777216:=by simpa using Im
   generalize nD=ff,(q.flatMap (yG F s)).map zk=L1,(yG F s x).map zk=L2,zp F=fl at *;simp only[zi] at ES;simp[ES,hF,l3])
  subst h3;have hF:=k9 (b.flatMap (yG F s)) hlen;have nn:ou false (zF s) .zm=some (.bl false):=rfl;unfold p7 gD;generalize kj=bb,tY=ff,rZ=f1,(b.flatMap (yG F s)).map zk=L1 at *;have hbT:xE (bT b)=some (b.map zk):=rfl;generalize bT b=bt,zp F=fl,zF s=st at *;simp[h1,nn,hbT,h2,hF];rfl
def MP {F:zw}(ok:F.Ok) (p:Nat) (hp:p<F.os.length) (l:List Bd) (hl:l.length=F.os.length) (hg:∀ b∈l,Gd F.A F.B b):nE [zp F,.int p,rT l]=some (bT (yy F l p)):=by
 have h1:=ME F p hp ok.pB;have Hz:zi (zp F) (.int 2)=some (.tup (F.ws.map zD)):=by simp[zp]
 have hw0:zi (zp F) (.int 0)=some (.tup [.int F.A,.int F.B]):=by simp[zp]
 have HA:zi (zp F) (.int 1)=some (.tup (F.os.map kt)):=by simp[zp]
 have c1:lP [some (.im (zp F)),some (.im (.int p)),some (.im (rT l)),none,none]=some (.lst ((F.ws.filter λ w=>decide (w.f=p)).map zD)):=by
  rw[<- kF (λ w=>decide (w.f=p)) F.ws 0,Au];unfold lP;refine yF (λ wi:Wy×Nat=>T.int (wi.2:Int)) _ ((F.ws.zipIdx).filter λ wi=>decide (wi.1.f=p)) ?_ (A6 (Dk _ _) (by rw[List.length_zipIdx];have:=ok.pB;lia)) λ wi CK=>?_
  .generalize nC=ff at *;simp[h1]
  .have hm:=(AU.mp CK).1;have hg:=List.mem_zipIdx_iff_getElem?.mp hm;have:L2.zL (F.ws.map zD) (wi.2:Int)=some (zD wi.1):=by
    exact vv (by rw[AE,hg];rfl)
   generalize zp F=fl at *;simp only[zi] at Hz;simp[Hz,this]
 have c2:lG [some (.im (zp F)),some (.im (.int p)),some (.im (rT l)),some (.im (.lst ((F.ws.filter λ w=>decide (w.f=p)).map zD))),none]=some (.lst ((yI F l p).map bT)):=by
  unfold yI;rw[Au];unfold lG;refine yF zD _ (F.ws.filter λ w=>decide (w.f=p)) (by simp) (A6 (Dk _ _) (by have:=ok.pB;lia)) λ w hw=>?_;have hm:=(AU.mp hw).1;have ht:w.t<l.length:=by rw[hl];exact (ok.ws w hm).2
  have e1:=mY l w.t ht;have gb:Gd F.A F.B (l.getD w.t []):=by
   rw[Ay,Aw ht];exact hg _ (Cc ht)
  have l13:=gb.rE ok.a0;have a12:=ok.a1;have hF:=Lb F.A F.B w (l.getD w.t []) (by lia);have e2:zi (zD w) (.int 1)=some (.int (w.t:Int)):=by simp[zD]
  obtain⟨bd,hbd⟩:∃ bd,l.getD w.t []=bd:=⟨_,rfl⟩
  rw[hbd] at e1 gb hF;have ET:(l[w.t]?).getD []=bd:=by rw[<- hbd,Ay]
  generalize nQ=ff,zp F=fl,rT l=rt,zD w=wt at *;simp only[zi] at hw0 e1 e2;simp[hw0,e1,e2,hF,ET]
 have Ki:=qU F l p;have c3:=MT ⟨ok.a0,ok.a1⟩ (yI F l p) Ki;have c4:=MY ⟨ok.a0,ok.a1⟩ ok.b0 (yI F l p) Ki;have c5:=MW ok p hp (xM (yI F l p)) (qN _ _ Gd.nil Ki);have ho:L2.zL (F.os.map kt) (p:Int)=some (kt (F.os.getD p false)):=by
  refine vv ?_;rw[AE,Aw hp,Ay,Aw hp];rfl
 have hk:∀ b:Bool,zR false (kt b) (.str "keeper")=some (.bl b):=λ b=>by cases b <;> rfl
 unfold nE Ye;generalize lP=d1,lG=d2,nM=f1,nP=f2,p7=f3,((F.ws.filter λ w=>decide (w.f=p)).map zD)=L1,zp F=fl,rT l=rt at *;unfold yy;have G9:=hk (F.os.getD p false);generalize F.os.getD p false=kb at *;generalize kt kb=ktb at *;generalize (T.str "keeper")=ks at *;simp only[zi] at HA;cases kb with
 | true=>
  simp[c1,c2,HA,ho,G9,c3,c5]
  all_goals (cases F.Fp p <;> rfl)
 | false=>simp[c1,c2,HA,ho,G9,c4]
theorem ia {α β:Type}(c:α->Bool) (g:α->β):∀ l:List α,l.filterMap (λ x=>if c x=true then some (g x) else none)=(l.filter c).map g
 | []=>rfl
 | a::l=>by by_cases h:c a=true <;> simp[Ck,h,ia c g l]
def P_ (t:Nat) (fr:List Nat):v_ false (.int t) (.lst (fr.map λ(k:Nat)=>T.int (k:Int)))=some (.bl (fr.contains t)):=by
 have d1:xu (fr.map λ(k:Nat)=>T.int (k:Int))<=60:=by
  refine sU _ 60 (λ x=>?_) fr;simp[dep]
 have d0:dep (.int (t:Int))<=60:=by simp[dep]
 unfold v_;show (if dep (.int (t:Int))<=60/\xu (fr.map λ(k:Nat)=>T.int (k:Int))<=60 then _ else _)=_;rw[if_pos ⟨d0,d1⟩];show some (T.bl ((fr.map λ(k:Nat)=>T.int (k:Int)).any λ x=>eqT x (.int t)))=_;congr 2;rw[Bs,Bk,List.contains_iff_mem];constructor
 .rintro⟨x,hx,h⟩;obtain⟨k,hk,rfl⟩:=Ai.mp hx;have:(k:Int)=(t:Int):=by simpa [eqT] using h
  have:k=t:=by lia
  subst this;exact hk
 .intro h;exact⟨_,Ai.mpr ⟨t,h,rfl⟩,by simp[eqT]⟩
def MO {F:zw}(ok:F.Ok) (last:List Bd) (fr:List Nat) (hl:last.length=F.os.length) (hg:∀ b∈last,Gd F.A F.B b):
  ph [zp F,rT last,.lst (fr.map λ(k:Nat)=>T.int (k:Int))]=some (rT (zU F last fr)):=by
 have Hz:zi (zp F) (.int 2)=some (.tup (F.ws.map zD)):=by simp[zp]
 have c1:lO [some (.im (zp F)),some (.im (rT last)),some (.im (.lst (fr.map λ(k:Nat)=>T.int (k:Int)))),some (.own (.lst (last.map bT))),none]=some (.lst (((F.ws.filter λ w=>fr.contains w.t).map λ w=>(w.f:Int)).map T.int)):=by
  have:=mU zD (λ w=>if fr.contains w.t=true then some (T.int (w.f:Int)) else none) (pick:=[none,some 2]) (it:=yn (zb zi (zc 0) (cI 2))) (g:=zu 0) (c:=yx (zb (v_ false) (zb zi (zc 0) (cI 1)) (zc 1))) (f:=zb zi (zc 0) (cI 0)) (J:=[some (.im (zp F)),some (.im (rT last)),some (.im (.lst (fr.map λ(k:Nat)=>T.int (k:Int)))),some (.own (.lst (last.map bT))),none]) F.ws (by
    generalize zp F=fl at *;simp only[zi] at Hz;simp[Hz]) (by have:=ok.pB;lia) (λ w _=>by
   have hi:=P_ w.t fr;generalize (T.lst (fr.map λ(k:Nat)=>T.int (k:Int)))=ft,fr.contains w.t=cb at *;cases cb <;> simp[zD,hi])
  unfold lO;rw[this];rw[ia (λ w:Wy=>fr.contains w.t) (λ w:Wy=>T.int (w.f:Int)),Au];rfl
 have DH:tq [.lst (((F.ws.filter λ w=>fr.contains w.t).map λ w=>(w.f:Int)).map T.int)]=some (.lst ((x_ ((F.ws.filter λ w=>fr.contains w.t).map λ w=>(w.f:Int))).map T.int)):=by
  show (match xV (((F.ws.filter λ w=>fr.contains w.t).map λ w=>(w.f:Int)).map T.int) with | some ns=>_ | none=>_)=_;rw[ox];refine if_pos ?_;have:=Dk (λ w:Wy=>fr.contains w.t) F.ws;have:=ok.pB;simp only[AB];lia
 have A8:∀ k∈x_ ((F.ws.filter λ w=>fr.contains w.t).map λ w=>(w.f:Int)),∃ p:Nat,k=(p:Int)/\p<F.os.length/\ua F fr p=true:=λ k hk=>by
  obtain⟨w,hw,rfl⟩:=Ai.mp (mP.mp hk);obtain⟨w1,w2⟩:=AU.mp hw;exact⟨w.f,rfl,(ok.ws w w1).1,Bk.mpr ⟨w,w1,by simpa using w2⟩⟩
 have Ek:∀ p:Nat,ua F fr p=true->(p:Int)∈x_ ((F.ws.filter λ w=>fr.contains w.t).map λ w=>(w.f:Int)):=λ p h=>by
  obtain⟨w,w1,w2⟩:=Bk.mp h;have w3:w.f=p/\fr.contains w.t=true:=by simpa using w2
  exact mP.mpr (Ai.mpr ⟨w,AU.mpr ⟨w1,w3.2⟩,by rw[w3.1]⟩)
 generalize x_ ((F.ws.filter λ w=>fr.contains w.t).map λ w=>(w.f:Int))=up at *;have ft:∃ t,(T.lst (fr.map λ(k:Nat)=>T.int (k:Int)))=t:=⟨_,rfl⟩
 obtain⟨J',h1,h2⟩:=vZ (is:=[4]) (g:=zu 4) (b:=ke) T.int (λ pre J=>J=[some (.im (zp F)),some (.im (rT last)),some (.im (.lst (fr.map λ(k:Nat)=>T.int (k:Int)))),some (.own (.lst (((List.range last.length).map λ(p:Nat)=>if (p:Int)∈pre then yy F last p else last.getD p []).map bT))),none]) up
   [some (.im (zp F)),some (.im (rT last)),some (.im (.lst (fr.map λ(k:Nat)=>T.int (k:Int)))),some (.own (.lst (last.map bT))),none] (by
  have e:(List.range last.length).map (λ(p:Nat)=>if (p:Int)∈([]:List Int) then yy F last p else last.getD p [])=last:=by
   refine BU (by simp) λ i h1 h2=>?_;simp[h2]
  rw[e];rfl) (by
  rintro pre k q e J rfl;obtain⟨p,rfl,hp,hw⟩:=A8 k (by rw[e];simp);have hF:=MP ok p hp last hl hg;refine⟨[some (.im (zp F)),some (.im (rT last)),some (.im (.lst (fr.map λ(k:Nat)=>T.int (k:Int)))),some (.own (.lst (((List.range last.length).map λ(i:Nat)=>if (i:Int)∈pre++[(p:Int)] then yy F last i else last.getD i []).map bT))),some (.im (.int p))],?_,by simp⟩;have Es:(((List.range last.length).map λ(i:Nat)=>if (i:Int)∈pre then yy F last i else last.getD i []).map bT).set p (bT (yy F last p))=((List.range last.length).map λ(i:Nat)=>if (i:Int)∈pre++[(p:Int)] then yy F last i else last.getD i []).map bT:=by
   refine BU (by simp) λ i h1 h2=>?_;rw[List.getElem_set];simp only[List.getElem_map,Dw,AZ,AW];by_cases c:p=i
   .subst c;simp
   .have c':¬ ((i:Int)=(p:Int)):=by lia
    simp[c,c']
  have BP:wA (((List.range last.length).map λ(i:Nat)=>if (i:Int)∈pre then yy F last i else last.getD i []).map bT).length (p:Int)=some p:=by
   unfold wA;simp only[AB,Ce];rw[if_pos (by lia),if_pos (by lia),B6]
  rw[<- Es];unfold turn ke;generalize nE=ff,(((List.range last.length).map λ(i:Nat)=>if (i:Int)∈pre then yy F last i else last.getD i []).map bT)=LL,zp F=fl,rT last=rl,(T.lst (fr.map λ(k:Nat)=>T.int (k:Int)))=ftt at *;simp[hF,BP])
 subst h2;have fin:((List.range last.length).map λ(p:Nat)=>if (p:Int)∈up then yy F last p else last.getD p [])=zU F last fr:=by
  unfold zU;refine Cg λ p hp=>?_;by_cases c:ua F fr p=true
  .rw[if_pos c,if_pos (Ek p c)]
  .rw[if_neg c,if_neg λ h=>c (by obtain⟨p',e,_,h'⟩:=A8 _ h;exact (show p'=p by lia)▸h')]
 rw[fin] at h1;have IV:listS [rT last]=some (.lst (last.map bT)):=rfl;unfold ph Yd;generalize lO=cc,ke=bb,(((F.ws.filter λ w=>fr.contains w.t).map λ w=>(w.f:Int)).map T.int)=L1,CL:up.map T.int=L2,last.map bT=L3,zp F=fl at *;have Er:xE (rT last)=some L3:=by simpa using IV
 generalize rT last=rl,(T.lst (fr.map λ(k:Nat)=>T.int (k:Int)))=ftt at *;simp[Er,c1,DH,h1,rT]
theorem bC {α:Type}(enc:α->T) (d:α) (fo:List α):∀ (l:List α) (k:Nat),(∀ i,l.getD i d=fo.getD (k+i) d)->sQ k (l.map enc)=(List.range l.length).map λ(p:Nat)=>T.tup [.int ((k+p:Nat):Int),enc (fo.getD (k+p) d)]
 | [],k,_=>rfl
 | b::l,k,h=>by
  have h0:=h 0;rw[Ax,sQ,bC enc d fo l (k+1) λ i=>by have:=h (i+1);rw[show k+1+i=k+(i+1) from by lia];simpa using this];rw[Bg,List.range_succ_eq_map,Ax,Au];have e:b=fo.getD k d:=by simpa using h0
  congr 1
  .rw[e];rfl
  .refine Cg λ p _=>?_;simp only[Function.comp];rw[show k+1+p=k+Nat.succ p from by lia]
noncomputable def xf (fr:List Nat):T:=.lst (fr.map λ(k:Nat)=>T.int (k:Int))
def Mj (a:T) (b c:Option L5.W) (last fo:List Bd) (hl:fo.length=last.length) (h16:fo.length<=10000):ng [some (.im a),b,c,some (.im (rT last)),some (.im (rT fo))]=some (xf (xk last fo)):=by
 have:=mU (λ p:Nat=>T.tup [.int (p:Int),bT (fo.getD p [])]) (λ p=>if decide (fo.getD p []≠last.getD p [])=true then some (T.int (p:Int)) else none) (pick:=[none,none,some 3]) (it:=xt sR (za (zc 4) zf)) (g:=wx 2 (yO (zu 0) (yO (zu 1) vi))) (c:=yx (zb (zR true) (zc 1) (zb zi (zc 2) (zc 0)))) (f:=zl 0) (J:=[some (.im a),b,c,some (.im (rT last)),some (.im (rT fo))]) (List.range fo.length) (by
   have:=bC bT [] fo fo 0 λ i=>by rw[Nat.zero_add]
   simp only[Nat.zero_add] at this;have e:sR [rT fo]=some (sQ 0 (fo.map bT)):=rfl;rw[<- this];generalize sR=en at *;simp[e]) (by simp;lia) (λ p hp=>by
  have GK:p<last.length:=by rw[<- hl];exact AK.mp hp
  have h1:=mY last p GK;have h2:=QA (fo.getD p []) (last.getD p []);generalize fo.getD p []=x,last.getD p []=y,rT last=rl at *;generalize decide (x≠y)=d at *;simp only[zi] at h1;cases d <;> simp[h1,h2])
 unfold ng;rw[this,ia (λ p:Nat=>decide (fo.getD p []≠last.getD p [])) (λ p:Nat=>T.int (p:Int))];rfl
theorem fV {F:zw}(ok:F.Ok):∀ (n:Nat) (pre:List (List Bd)) (last:List Bd) (fr:List Nat) (res:List (List Bd)),St F last fr->sD F n pre last fr=some res->pre.length+n<=10000->∀ (m:Nat),n<m->∀ x3 x4:Option L5.W,
  ∃ Jv,xr [3,4] (yV (zc 2)) uR m [some (.im (zp F)),some (.own (.lst ((pre++[last]).map rT))),some (.im (xf fr)),x3,x4]=some (.nx [some (.im (zp F)),some (.own (.lst (res.map rT))),some (.im Jv),none,none])
 | 0,_,_,_,_,_,h,_,_,_,_,_=>by cases h
 | n+1,pre,last,fr,res,s,h,hn,m,hm,x3,x4=>by
  have Bn:∀ (m:Nat) (Fu:List (List Bd)) (x3 x4:Option L5.W),xr [3,4] (yV (zc 2)) uR (m+1) [some (.im (zp F)),some (.own (.lst (Fu.map rT))),some (.im (xf [])),x3,x4]=some (.nx [some (.im (zp F)),some (.own (.lst (Fu.map rT))),some (.im (xf [])),none,none]):=λ m Fu x3 x4=>by
   unfold xr;simp[xf]
  obtain⟨m,rfl⟩:∃ k,m=k+1:=⟨m-1,by lia⟩
  unfold sD at h;by_cases BF:fr=[]
  .rw[if_pos BF] at h;cases h;subst BF;exact⟨_,Bn m _ x3 x4⟩
  .rw[if_neg BF] at h;dsimp only at h;have hlen:=s.len;have n8:=ok.n8;have hF:=MO ok last fr s.len s.gd;have Gs:zi (.lst ((pre++[last]).map rT)) (.int (-1))=some (rT last):=by
    show L2.zL ((pre++[last]).map rT) (-1)=_;rw[Bo];exact kl _ _
   have hc:=λ b c=>Mj (zp F) b c last (zU F last fr) (sG ..) (by rw[sG,s.len];lia);have Ar:sk (xf fr)=some true:=by
    cases fr with
    | nil=>exact absurd rfl BF
    | cons a l=>rfl
   have hb:∃ GS,uR [some (.im (zp F)),some (.own (.lst ((pre++[last]).map rT))),some (.im (xf fr)),none,none]=some (.nx [some (.im (zp F)),some (.own (.lst (GS.map rT))),some (.im (xf (xk last (zU F last fr)))),some (.im (rT last)),some (.im (rT (zU F last fr)))])/\GS=if xk last (zU F last fr)=[] then pre++[last] else pre++[last]++[zU F last fr]:=by
    have Im:((pre++[last]).map rT).length<16777216:=by simp;lia
    by_cases hf:xk last (zU F last fr)=[]
    .refine⟨pre++[last],?_,by rw[if_pos hf]⟩;have ht:sk (xf (xk last (zU F last fr)))=some false:=by rw[hf];rfl
     unfold uR;generalize ng=cc,ph=ff,(pre++[last]).map rT=L1,xf (xk last (zU F last fr))=f2 at *;unfold xf at *;simp only[zi] at Gs;generalize (T.lst (fr.map λ(k:Nat)=>T.int (k:Int)))=f1,rT (zU F last fr)=r2,rT last=r1 at *;simp only[xE] at Gs;simp[-sk,Gs,hF,hc,ht]
    .refine⟨pre++[last]++[zU F last fr],?_,by rw[if_neg hf]⟩;have ht:sk (xf (xk last (zU F last fr)))=some true:=by
      cases e:xk last (zU F last fr) with
      | nil=>exact absurd e hf
      | cons a l=>rfl
     have e2:(pre++[last]++[zU F last fr]).map rT=(pre++[last]).map rT++[rT (zU F last fr)]:=by simp
     rw[e2];unfold uR;generalize ng=cc,ph=ff,(pre++[last]).map rT=L1,xf (xk last (zU F last fr))=f2 at *;unfold xf at *;simp only[zi] at Gs;generalize (T.lst (fr.map λ(k:Nat)=>T.int (k:Int)))=f1,rT (zU F last fr)=r2,rT last=r1 at *;simp only[xE] at Gs;simp[-sk,Gs,hF,hc,ht,Im]
   obtain⟨GS,Hu,Ie⟩:=hb;have key:∀ R,xr [3,4] (yV (zc 2)) uR m [some (.im (zp F)),some (.own (.lst (GS.map rT))),some (.im (xf (xk last (zU F last fr)))),some (.im (rT last)),some (.im (rT (zU F last fr)))]=R->xr [3,4] (yV (zc 2)) uR (m+1) [some (.im (zp F)),some (.own (.lst ((pre++[last]).map rT))),some (.im (xf fr)),x3,x4]=R:=λ R e=>by
    rw[xr];generalize hbb:uR=bb at *;generalize DM:xr [3,4] (yV (zc 2)) bb m=lw at *;have hf:yw [3,4] [some (.im (zp F)),some (.own (.lst ((pre++[last]).map rT))),some (.im (xf fr)),x3,x4]=[some (.im (zp F)),some (.own (.lst ((pre++[last]).map rT))),some (.im (xf fr)),none,none]:=rfl;rw[hf];have ht:yV (zc 2) [some (.im (zp F)),some (.own (.lst ((pre++[last]).map rT))),some (.im (xf fr)),none,none]=some true:=by
     generalize xf fr=f1 at *;simp[-sk,Ar]
    rw[ht,Bf,if_pos rfl,Hu,Bf];exact e
   by_cases hf:xk last (zU F last fr)=[]
   .rw[if_pos hf] at h Ie;cases h;subst Ie;rw[hf] at key;obtain⟨m,rfl⟩:∃ k,m=k+1:=⟨m-1,by lia⟩
    exact⟨_,key _ (Bn m _ _ _)⟩
   .rw[if_neg hf] at h Ie;subst Ie;obtain⟨Jv,e⟩:=fV ok n (pre++[last]) (zU F last fr) (xk last (zU F last fr)) res (s.next ok) h (by simp;lia) m (by lia) (some (.im (rT last))) (some (.im (rT (zU F last fr))));exact⟨Jv,key _ e⟩
def MI {F:zw}(ok:F.Ok):∃ more,vc [zp F]=some (.lst ((RN.start F::more).map rT))/\(∀ r∈RN.start F::more,r.length=F.os.length/\∀ b∈r,Gd F.A F.B b)/\more.length<=2000/\sD F 2000 [] (RN.start F) (List.range F.os.length)=some (RN.start F::more):=by
 have hmu:=dJ (RN.start F);have Bl:(RN.start F).length=F.os.length:=by unfold RN.start;simp
 have n8:=ok.n8;have n1:=ok.n1;obtain⟨more,GY,e1,e2,_,e4⟩:=fW ok 2000 [] (RN.start F) (List.range F.os.length) (St.start ok) (by lia);obtain⟨Jv,e⟩:=fV ok 2000 [] (RN.start F) (List.range F.os.length) _ (St.start ok) e1 (by simp) 1000000 (by decide) none none;refine⟨more,?_,e2,by lia,e1⟩;have hp:=Zs F;have AX:rT (RN.start F)=.lst (List.replicate F.os.length (.tup [.tup [.int 0,.int 0]])):=by
  unfold rT RN.start;rw[List.map_replicate];rfl
 have hmul:uA (.lst [.tup [.tup [.int 0,.int 0]]]) (.int F.os.length)=some (rT (RN.start F)):=by
  rw[AX];unfold uA;dsimp only;rw[if_pos ⟨by simp,by lia,by lia,QV (by simp;lia)⟩];have:∀ n:Nat,(List.replicate n [T.tup [.tup [.int 0,.int 0]]]).flatten=List.replicate n (.tup [.tup [.int 0,.int 0]]):=λ n=>by
   induction n with
   | zero=>rfl
   | succ n ih=>rw[BK,BK,B_,ih];rfl
  rw[B6,this]
 have BX:sI [.int F.os.length]=some (xf (List.range F.os.length)):=by
  show (if 0<=(F.os.length:Int)/\(F.os.length:Int)<=16777216 then some (T.lst (rangeT 0 (F.os.length:Int).toNat)) else none)=_;rw[if_pos ⟨by lia,by lia⟩];show some (T.lst ((List.range (F.os.length:Int).toNat).map λ(k:Nat)=>T.int (0+(k:Int))))=_;rw[B6];unfold xf;simp
 unfold vc Z_ rn;generalize uR=bb,r_=ff,sI=lr at *;simp only[List.nil_append,Ax,Bp] at e;generalize xf (List.range F.os.length)=f1 at *;rw[Ax];generalize rT (RN.start F)=r0,zp F=fl,DM:xr [3,4] (yV (zc 2)) bb 1000000=lw,uA=mw at *;simp[hp,hmul,BX,e]
def oh (i j:Int):uA (.int i) (.int j)=if v5 i j then some (.int (i*j)) else none:=rfl
def PX {r:List Int}{rs:List (List Int)}:xV ((r::rs).map zt)=none:=rfl
def X8 (rs:List (List Int)) (h0:rs≠[]) (hl:rs.length<64) (hn:∀ r∈rs,r≠[]):tq [.lst (rs.map zt)]=some (.lst ((L4.yW (wc rs)).map zt)):=by
 cases rs with
 | nil=>exact absurd rfl h0
 | cons r rs=>
  show (match xV ((r::rs).map zt) with
   | some ns=>if ns.length<64 then some (T.lst ((x_ ns).map T.int)) else none
   | none=>m5 [T.lst ((r::rs).map zt)])=_
  rw[PX];show (ve ((r::rs).map zt)).bind _=_;rw[mC,Bf,if_pos ⟨hl,hn⟩]
def dm {f:T->T->Option T}{fa fb:Ev->Option T}{J:Ev}{x y:T}{r:Option T}(h1:fa J=some x) (h2:fb J=some y) (h:f x y=r):zb f fa fb J=r:=by
 show (fa J).bind _=r;rw[h1];show (fb J).bind _=r;rw[h2];exact h
def WG (n:Nat) (h:n<=1000):x8 (.int 10) (.int (n:Int))=some (.int (10 ^ n)):=by
 have hc:rm 10 (n:Int):=⟨by lia,by lia,by decide⟩
 show (if rm 10 (n:Int) then some (T.int (10 ^ (n:Int).toNat)) else none)=_;rw[if_pos hc,B6]
def pT (n:Nat) (h:n<=1000) (J:Ev):zb x8 (cI 10) (cS (.int (n:Int))) J=some (.int (10 ^ n)):=dm rfl rfl (WG n h)
def X4 (c:Int) (n:Nat) (hn:n<=100) (o6:Ev->Option T) (q6:Int) (h6:∀ J,o6 J=some (.int q6)) (g6:0<q6/\q6<2 ^ 200) (Gz:Int):
  ∃ (v:Int) (xs:List Int),xI [4] (zu 4) (zq (xN 2 (zb ym (zc 3) o6)) (zQ 3 (zb xK (zc 3) o6))) ((List.range n).map λ(k:Nat)=>T.int (0+(k:Int))) [some (.im (.int c)),some (.im (.int n)),some (.own (.lst [])),some (.im (.int Gz)),none]
   = some (.nx [some (.im (.int c)),some (.im (.int n)),some (.own (.lst (xs.map T.int))),some (.im (.int v)),none])/\xs.length=n:=by
 obtain⟨J',h1,v,xs,h2,h3⟩:=vZ (is:=[4]) (g:=zu 4) (b:=(zq (xN 2 (zb ym (zc 3) o6)) (zQ 3 (zb xK (zc 3) o6)))) (λ k:Nat=>T.int (0+(k:Int))) (λ p J=>∃ (v:Int) (xs:List Int),J=[some (.im (.int c)),some (.im (.int n)),some (.own (.lst (xs.map T.int))),some (.im (.int v)),none]/\xs.length=p.length)
   (List.range n) [some (.im (.int c)),some (.im (.int n)),some (.own (.lst [])),some (.im (.int Gz)),none] ⟨Gz,[],rfl,rfl⟩ (by
  rintro p k q e J ⟨v,xs,rfl,r1⟩;have hp:p.length<n:=by have:=congrArg List.length e;simp at this;lia
  have hl:(xs.map T.int).length<16777216:=by simp;lia
  have d6:uo v q6:=g6;have p6:=g6.1;refine⟨[some (.im (.int c)),some (.im (.int n)),some (.own (.lst ((xs++[v%q6]).map T.int))),some (.im (.int (v/q6))),some (.im (.int (0+(k:Int))))],?_,v/q6,xs++[v%q6],by simp,by simp[r1]⟩;have e2:(xs++[v%q6]).map T.int=xs.map T.int++[.int (v%q6)]:=by simp
  rw[e2];generalize xs.map T.int=L,(0+(k:Int))=kk at *;simp[turn,h6,hl,d6,p6])
 subst h2;exact⟨v,xs,h1,by simpa using h3⟩
def X3 (c:Int) (n:Nat) (hn:n<=100) (oM IE ID o9:Ev->Option T) (M HX GW q9:Int) (hM:∀ J,oM J=some (.int M)) (Jb:∀ J,IE J=some (.int HX)) (Ja:∀ J,ID J=some (.int GW)) (h9:∀ J,o9 J=some (.int q9))
  (gM:0<M/\M<2 ^ 180) (Km:0<HX/\HX<2 ^ 200) (Kl:0<GW/\GW<2 ^ 200) (g9:0<q9/\q9<2 ^ 200) (Gz:Int) (EA:0<=Gz/\Gz<2 ^ 181):
  ∃ (v:Int) (xs:List Int),xI [4] (zu 4) (zq (zQ 3 (zb ym (zb yh (zb yh (zb vj (zc 3) (cI 52027)) (zb xK (zc 3) IE)) (zb vj (cI 13) (zc 4))) oM)) (xN 2 (zb xK (zb vj (zc 3) (zb yh (zb xK (zc 3) ID) (cI 7))) o9))) ((List.range n).map λ(k:Nat)=>T.int (0+(k:Int))) [some (.im (.int c)),some (.im (.int n)),some (.own (.lst [])),some (.im (.int Gz)),none]
   = some (.nx [some (.im (.int c)),some (.im (.int n)),some (.own (.lst (xs.map T.int))),some (.im (.int v)),none])/\xs.length=n:=by
 obtain⟨J',h1,v,xs,h2,h3,h4⟩:=vZ (is:=[4]) (g:=zu 4) (b:=(zq (zQ 3 (zb ym (zb yh (zb yh (zb vj (zc 3) (cI 52027)) (zb xK (zc 3) IE)) (zb vj (cI 13) (zc 4))) oM)) (xN 2 (zb xK (zb vj (zc 3) (zb yh (zb xK (zc 3) ID) (cI 7))) o9)))) (λ k:Nat=>T.int (0+(k:Int)))
   (λ p J=>∃ (v:Int) (xs:List Int),J=[some (.im (.int c)),some (.im (.int n)),some (.own (.lst (xs.map T.int))),some (.im (.int v)),none]/\xs.length=p.length/\0<=v/\v<2 ^ 181)
   (List.range n) [some (.im (.int c)),some (.im (.int n)),some (.own (.lst [])),some (.im (.int Gz)),none] ⟨Gz,[],rfl,rfl,EA⟩ (by
  rintro p k q e J ⟨v,xs,rfl,r1,r2,r3⟩;have hp:p.length<n:=by have:=congrArg List.length e;simp at this;lia
  have hk:k<n:=AK.mp (by rw[e];simp);have hl:(xs.map T.int).length<16777216:=by simp;lia
  generalize hu:(v*52027+v/HX+13*(0+(k:Int)))%M=u;have u0:0<=u:=by rw[<- hu];exact Bx _ (by lia)
  have u1:u<M:=by rw[<- hu];exact BN _ gM.1
  have d22:uo v HX:=Km;have m1:sf v 52027:=⟨by lia,by decide⟩
  have m2:sf 13 (0+(k:Int)):=⟨by decide,by lia⟩
  have pM:=gM.1;have d23:uo u GW:=Kl;have w0:0<=u/GW:=Int.ediv_nonneg u0 (by lia);have w1:u/GW<=u:=Int.ediv_le_self _ u0;have m3:sf u (u/GW+7):=⟨by lia,by lia⟩
  have d9:uo (u*(u/GW+7)) q9:=g9;refine⟨[some (.im (.int c)),some (.im (.int n)),some (.own (.lst ((xs++[u*(u/GW+7)/q9]).map T.int))),some (.im (.int u)),some (.im (.int (0+(k:Int))))],?_,u,xs++[u*(u/GW+7)/q9],by simp,by simp[r1],u0,by lia⟩;have e2:(xs++[u*(u/GW+7)/q9]).map T.int=xs.map T.int++[.int (u*(u/GW+7)/q9)]:=by simp
  rw[e2];generalize xs.map T.int=L,(0+(k:Int))=kk at *;simp[turn,hM,Jb,Ja,h9,hl,d22,m1,m2,pM,hu,d23,m3,d9])
 subst h2;exact⟨v,xs,h1,by simpa using h3⟩
def M7 (i:Int):0<=(if i<0 then -i else i):=by split <;> lia
def MF (c:Int) (n:Nat) (hn:n<=100):∃ xs:List Int,pk [.int c,.int n]=some (.lst (xs.map T.int))/\xs.length=n:=by
 obtain⟨q6,h6,g6⟩:∃ q:Int,(∀ J,zb x8 (cI 10) (cI 6) J=some (.int q))/\0<q/\q<2 ^ 200:=⟨_,pT 6 (by decide),AF⟩
 obtain⟨q9,h9,g9⟩:∃ q:Int,(∀ J,zb x8 (cI 10) (cI 9) J=some (.int q))/\0<q/\q<2 ^ 200:=⟨_,pT 9 (by decide),AF⟩
 obtain⟨HX,Jb,Km⟩:∃ q:Int,(∀ J,zb x8 (cI 10) (cI 22) J=some (.int q))/\0<q/\q<2 ^ 200:=⟨_,pT 22 (by decide),AF⟩
 obtain⟨GW,Ja,Kl⟩:∃ q:Int,(∀ J,zb x8 (cI 10) (cI 23) J=some (.int q))/\0<q/\q<2 ^ 200:=⟨_,pT 23 (by decide),AF⟩
 obtain⟨M,hM,gM⟩:∃ q:Int,(∀ J,zb yh (zb x8 (cI 10) (cI 45)) (cI 9) J=some (.int q))/\0<q/\q<2 ^ 180:=⟨10 ^ 45+9,fun J=>dm (pT 45 (by decide) J) rfl rfl,AF⟩
 have hr:=pP n (by lia);unfold pk Yj aQ aP;have a0:=M7 (c/2);generalize ha:(if c/2<0 then -(c/2) else c/2)=num at *;have hnm0:0<=num%M:=Bx _ (by lia);have hnm1:num%M<M:=BN _ gM.1;have pM:=gM.1;have d2:uo c 2:=⟨by decide,by decide⟩
 obtain⟨v1,F6,e1,l1⟩:=X4 c n hn _ q6 h6 g6 num;obtain⟨v2,HS,e2,l2⟩:=X3 c n hn _ _ _ _ M HX GW q9 hM Jb Ja h9 gM Km Kl g9 (num%M+77003) ⟨by lia,by lia⟩;generalize zb yh (zb x8 (cI 10) (cI 45)) (cI 9)=oM,zb x8 (cI 10) (cI 6)=o6,zb x8 (cI 10) (cI 9)=o9,zb x8 (cI 10) (cI 22)=IE,zb x8 (cI 10) (cI 23)=ID at *;generalize Hu:(zq (xN 2 (zb ym (zc 3) o6)) (zQ 3 (zb xK (zc 3) o6)))=b1 at *;generalize Ie:(zq (zQ 3 (zb ym (zb yh (zb yh (zb vj (zc 3) (cI 52027)) (zb xK (zc 3) IE)) (zb vj (cI 13) (zc 4))) oM)) (xN 2 (zb xK (zb vj (zc 3) (zb yh (zb xK (zc 3) ID) (cI 7))) o9)))=b2 at *;by_cases h:c%2=1
 .refine⟨F6,?_,l1⟩;generalize F6.map T.int=L1,(List.range n).map (λ(k:Nat)=>T.int (0+(k:Int)))=R at *;simp[d2,ha,h,hr,e1,eq_int]
 .refine⟨HS,?_,l2⟩;generalize HS.map T.int=L2',(List.range n).map (λ(k:Nat)=>T.int (0+(k:Int)))=R at *;simp[d2,ha,h,hr,hM,pM,e2,eq_int]
def Zw (x:Int) (m:Nat) (h:m<=12):∃ y,px [.int x,.int m]=some (.int y)/\-12<=y/\y<=12:=by
 have m1:v5 2 (m:Int):=.inl ⟨by decide,by decide⟩;have m2:(0:Int)<2*(m:Int)+1:=by lia
 have d:xG x 25:=⟨by decide,by decide⟩
 have a0:=Bx (x%25) (b:=2*(m:Int)+1) (by lia);have b0:0<=x/25%2:=Bx _ (by decide);refine⟨if x%25%(2*(m:Int)+1)-m+x/25%2<12 then x%25%(2*(m:Int)+1)-m+x/25%2 else 12,by simp[px,Yo,oh,m1,m2,d],?_,?_⟩
 .split <;> lia
 .split <;> lia
def vS (many:Nat) (r:List Int):Prop:=∃ (f t:Nat) (a b:Int),r=[(f:Int),(t:Int),a,b]/\f<many/\t<many/\(-12<=a/\a<=12)/\-12<=b/\b<=12
def Zo (place many:Nat) (num:Int) (sz:Nat) (hp:place<many) (hs:sz<=12):∃ r,(vS many r/\r.head?=some (place:Int))/\rg [.int place,.int many,.int num,.int sz]=some (zt r):=by
 have d8:xG num 8:=⟨by decide,by decide⟩
 have Kv:xG num 400:=⟨by decide,by decide⟩
 obtain⟨a,ha,a1⟩:=Zw (num/8%50) sz hs;obtain⟨b,hb,b1⟩:=Zw (num/400%50) sz hs;have C8:(0:Int)<many:=by lia
 have t0:0<=num%8%many:=Bx _ (by lia);have t1:num%8%many<many:=BN _ C8;have Jt:0<many:=by lia
 refine⟨[(place:Int),((num%8%many).toNat:Int),a,b],⟨⟨place,(num%8%many).toNat,a,b,rfl,hp,by lia,a1,b1⟩,rfl⟩,?_⟩;rw[CI t0];have hr:zt [(place:Int),num%8%many,a,b]=.tup [.int place,.int (num%8%many),.int a,.int b]:=rfl;rw[hr];unfold rg Yh;generalize px=fa at *;simp[d8,Kv,ha,hb,Jt]
def oq {xs:List Int}{j:Nat}(h:j<xs.length):∃ v,L2.zL (xs.map T.int) (j:Int)=some (.int v):=⟨xs.getD j 0,vv (by simp[h])⟩
def cy (b:Bool):zR false (kt b) (.str "keeper")=some (.bl b):=by
 have h:(("taker":Str) == ("keeper":Str))=false:=by decide
 cases b
 .show zR false (.str "taker") (.str "keeper")=_;simp[zR,dep,eqT,h]
 .show zR false (.str "keeper") (.str "keeper")=_;simp[zR,dep,eqT]
def aU (b:Sm) (n many pl:Nat) (E:List T->Option L5.W->Ev) (hE:∀ r x,yw [11] (E r x)=E r none) (hn:n<=100)
  (ht:∀ k<n,∀ rows:List T,rows.length<=1000->∃ r,(vS many r/\r.head?=some (pl:Int))/\turn (zu 11) b (.int (0+(k:Int))) (E rows none)=some (.nx (E (rows++[zt r]) (some (.im (.int (0+(k:Int))))))))
  (rows:List (List Int)) (hl:rows.length<=100) (hr:∀ r∈rows,vS many r):
  ∃ EZ:List (List Int),xI [11] (zu 11) b ((List.range n).map λ(k:Nat)=>T.int (0+(k:Int))) (E (rows.map zt) none)=some (.nx (E (EZ.map zt) none))/\EZ.length=rows.length+n/\(∀ r∈EZ,vS many r)/\(∀ r∈rows,r∈EZ)/\(0<n->∃ r∈EZ,r.head?=some (pl:Int)):=by
 obtain⟨J',h1,EZ,h2,h3,h4,h5,h6⟩:=vZ (is:=[11]) (g:=zu 11) (b:=b) (λ k:Nat=>T.int (0+(k:Int))) (λ p J=>∃ EZ:List (List Int),J=E (EZ.map zt) none/\EZ.length=rows.length+p.length/\(∀ r∈EZ,vS many r)/\(∀ r∈rows,r∈EZ)/\(0<p.length->∃ r∈EZ,r.head?=some (pl:Int)))
   (List.range n) (E (rows.map zt) none) ⟨rows,hE _ _,rfl,hr,λ _ h=>h,λ h=>absurd h (by simp)⟩ (by
  rintro p k q e J ⟨EZ,rfl,u1,u2,u3,u4⟩;have hp:p.length<n:=by have:=congrArg List.length e;simp at this;lia
  have hk:k<n:=AK.mp (by rw[e];simp);obtain⟨r,⟨v1,v3⟩,v2⟩:=ht k hk (EZ.map zt) (by simp;lia);refine⟨_,v2,EZ++[r],by rw[hE];simp,by simp only[Cd,List.length_singleton,u1];lia,λ r' HC=>?_,λ r' h=>CH _ (u3 r' h),λ _=>⟨r,by simp,v3⟩⟩;rcases AZ.mp HC with h | h
  .exact u2 r' h
  .cases AW.mp h;exact v1)
 subst h2;exact⟨EZ,h1,by simpa using h3,h4,h5,λ h=>h6 (by simpa using h)⟩
def WM (c mo br:T) (xs:List Int) (hx:xs.length=43) (many:Nat) (hm:many<=8) (os:List Bool) (rows:List (List Int)) (Gy:List T) (k:Nat) (hk:k<many) (ho:os.length=k) (DL:rows.length<=3*k) (hr:∀ r∈rows,vS many r) (hs:Gy.length<=k):
  ∃ (b:Bool) (EZ:List (List Int)) (Gk:List T) (nu sz:Int),turn (zu 8) qS (.int (0+(k:Int))) [some (.im c),some (.im mo),some (.im br),some (.im (.lst (xs.map T.int))),some (.im (.int many)),some (.own (.lst (os.map kt))),some (.own (.lst (rows.map zt))),some (.own (.lst Gy)),none,none,none,none,none]
   = some (.nx [some (.im c),some (.im mo),some (.im br),some (.im (.lst (xs.map T.int))),some (.im (.int many)),some (.own (.lst ((os++[b]).map kt))),some (.own (.lst (EZ.map zt))),some (.own (.lst Gk)),some (.im (.int (0+(k:Int)))),some (.im (.int nu)),some (.im (.int sz)),none,none])
   /\ EZ.length<=3*(k+1)/\(∀ r∈EZ,vS many r)/\(∀ r∈rows,r∈EZ)/\(∃ r∈EZ,r.head?=some (k:Int))/\Gk.length<=k+1/\(Gk=Gy\/(b=true/\∃ s:RN.Sl,(s.p=k/\(1<=s.gv/\s.gv<=12)/\0<=s.gt/\s.gt<=12)/\Gk=Gy++[zF s])):=by
 obtain⟨v,hv⟩:=oq (xs:=xs) (j:=2+4*k) (by lia);have Hf:L2.zL (xs.map T.int) (2+4*(k:Int))=some (.int v):=hv;obtain⟨b,hb⟩:∃ b:Bool,L2.zL [T.str "keeper",T.str "taker"] (v%2)=some (kt b):=by
  rcases Int.emod_two_eq v with h | h <;> rw[h]
  .exact⟨true,rfl⟩
  .exact⟨false,rfl⟩
 obtain⟨sz,hsz,sz1⟩:∃ sz:Nat,L2.zL [T.int 2,T.int 3,T.int 3,T.int 12] (v/2%4)=some (.int (sz:Int))/\sz<=12:=by
  have h0:0<=v/2%4:=Bx _ (by decide);have h1:v/2%4<4:=BN _ (by decide);generalize v/2%4=z at *;obtain h | h | h | h:z=0\/z=1\/z=2\/z=3:=by lia
  all_goals subst h
  .exact⟨2,rfl,by decide⟩
  .exact⟨3,rfl,by decide⟩
  .exact⟨3,rfl,by decide⟩
  .exact⟨12,rfl,by decide⟩
 obtain⟨n1,J7,n0,n3⟩:∃ n:Nat,1+v/8%3=(n:Int)/\0<n/\n<=3:=⟨(1+v/8%3).toNat,by lia,by lia,by lia⟩
 obtain⟨EZ,g1,g2,g3,g4,g5⟩:=aU kf n1 many k (λ rs x=>[some (.im c),some (.im mo),some (.im br),some (.im (.lst (xs.map T.int))),some (.im (.int many)),some (.own (.lst ((os++[b]).map kt))),some (.own (.lst rs)),some (.own (.lst Gy)),some (.im (.int (k:Int))),some (.im (.int v)),some (.im (.int sz)),x,none]) (λ _ _=>rfl) (by lia)
  (λ k' G9 rs DJ=>by
   obtain⟨v2,JS⟩:=oq (xs:=xs) (j:=3+4*k+k') (by lia);have H_:L2.zL (xs.map T.int) (3+4*(k:Int)+(0+(k':Int)))=some (.int v2):=by rw[<- JS];congr 1;lia
   obtain⟨r,JY,JX⟩:=Zo k many v2 sz hk (by lia);refine⟨r,JY,?_⟩;have m1:v5 4 (k:Int):=.inl ⟨by decide,by decide⟩;have Cq:rs.length<16777216:=by lia
   unfold turn kf;generalize rg=fw,xs.map T.int=XL,(os++[b]).map kt=OL,zt r=rr,(0+(k':Int))=kk at *;generalize hk4:(k:Int)=kI at *;simp[oh,m1,H_,JX,Cq])
  rows (by lia) hr
 have BX:=pP n1 (by lia);have B2:(os.map kt).length<16777216:=by simp;lia
 have BP:L2.zL ((os++[b]).map kt) (k:Int)=some (kt b):=vv (by rw[Bo,Cb (by simp;lia)];simp[ho]);have AX:Gy.length<16777216:=by lia
 have EG:=cy b;have m1:v5 4 (k:Int):=.inl ⟨by decide,by decide⟩;have d2:xG v 2:=⟨by decide,by decide⟩
 have d8:xG v 8:=⟨by decide,by decide⟩
 have d24:xG v 24:=⟨by decide,by decide⟩
 have d72:xG v 72:=⟨by decide,by decide⟩
 have Kw:xG v 144:=⟨by decide,by decide⟩
 have Ku:xG v 576:=⟨by decide,by decide⟩
 have fin:∀ Gk:List T,(if b=true/\v/24%3=0 then Gy++[.tup [.int k,.int (v/72%2),.int (1+v/144%4),.int (v/576%5)]] else Gy)=Gk->turn (zu 8) qS (.int (0+(k:Int))) [some (.im c),some (.im mo),some (.im br),some (.im (.lst (xs.map T.int))),some (.im (.int many)),some (.own (.lst (os.map kt))),some (.own (.lst (rows.map zt))),some (.own (.lst Gy)),none,none,none,none,none]
   = some (.nx [some (.im c),some (.im mo),some (.im br),some (.im (.lst (xs.map T.int))),some (.im (.int many)),some (.own (.lst ((os++[b]).map kt))),some (.own (.lst (EZ.map zt))),some (.own (.lst Gk)),some (.im (.int (0+(k:Int)))),some (.im (.int v)),some (.im (.int sz)),none,none]):=λ Gk he=>by
  have e2:(os++[b]).map kt=os.map kt++[kt b]:=by simp
  unfold turn qS;rw[e2] at g1 BP ⊢;simp only[Int.zero_add] at g1 BX ⊢;generalize kf=bb,(List.range n1).map (λ(k:Nat)=>T.int (k:Int))=RR,EZ.map zt=L2',rows.map zt=L1',xs.map T.int=XL,os.map kt=OL,(T.str "taker")=s2 at *;generalize hs1:(T.str "keeper")=s1 at *;generalize kt b=kb at *;generalize hkI:(k:Int)=kI at *;generalize hee:zR=ee at *;have Ic:ee false (.int (v/24%3)) (.int 0)=some (.bl (decide (v/24%3=0))):=by rw[<- hee];exact eq_int _ _ _
  by_cases Hu:b=true
  .subst Hu;by_cases hz:v/24%3=0
   .rw[if_pos ⟨rfl,hz⟩] at he;subst he;rw[hz] at Ic;simp[oh,m1,Hf,hb,B2,d2,hsz,d8,J7,BX,g1,BP,EG,d24,Ic,hz,AX,d72,Kw,Ku]
   .rw[if_neg (λ h=>hz h.2)] at he;subst he;simp[oh,m1,Hf,hb,B2,d2,hsz,d8,J7,BX,g1,BP,EG,d24,Ic,hz]
  .have Ie:b=false:=by simpa using Hu
   subst Ie;rw[if_neg (λ h=>Hu h.1)] at he;subst he;simp[oh,m1,Hf,hb,B2,d2,hsz,d8,J7,BX,g1,BP,EG]
 refine⟨b,EZ,_,v,sz,fin _ rfl,by lia,g3,g4,g5 n0,?_,?_⟩
 .split
  .simp;lia
  .lia
 .split
  .rename_i EO;have hp:v/72%2=0\/v/72%2=1:=by lia
   refine .inr ⟨EO.1,⟨k,decide (v/72%2=1),1+v/144%4,v/576%5⟩,⟨rfl,by dsimp only;lia,by dsimp only;lia,by dsimp only;lia⟩,?_⟩;rcases hp with h | h <;> simp[zF,w6,h]
  .exact .inl rfl
noncomputable def yq (w:Wy):List Int:=[(w.f:Int),(w.t:Int),w.a,w.b]
def gH {w v:Wy}(h:yq w=yq v):w=v:=by
 obtain⟨f,t,a,b⟩:=w;obtain⟨f',t',a',b'⟩:=v;simp only[yq,List.cons.injEq,and_true] at h;obtain⟨h1,h2,rfl,rfl⟩:=h;have e1:f=f':=by lia
 have e2:t=t':=by lia
 subst e1 e2;rfl
theorem fT {many:Nat}:∀ l:List (List Int),(∀ r∈l,vS many r)->∃ ws:List Wy,l=ws.map yq/\∀ w∈ws,(w.f<many/\w.t<many)/\(-12<=w.a/\w.a<=12)/\-12<=w.b/\w.b<=12
 | [],_=>⟨[],rfl,nofun⟩
 | r::l,h=>by
  obtain⟨ws,e1,e2⟩:=fT l λ x hx=>h x (Av _ hx);obtain⟨f,t,a,b,rfl,hf,ht,hc⟩:=h r Ap;refine⟨⟨f,t,a,b⟩::ws,by rw[e1];rfl,λ w hw=>?_⟩;rcases Aj.mp hw with x | x
  .subst x;exact⟨⟨hf,ht⟩,hc⟩
  .exact e2 w x
def X9 {many:Nat}(rs:List (List Int)) (h0:rs≠[]) (hl:rs.length<64) (hw:∀ r∈rs,vS many r):
  ∃ ws:List Wy,tq [.lst (rs.map zt)]=some (.lst (ws.map zD))/\ws.length<=rs.length/\(∀ w∈ws,(w.f<many/\w.t<many)/\(-12<=w.a/\w.a<=12)/\-12<=w.b/\w.b<=12)/\(∀ w:Wy,w∈ws↔yq w∈rs)/\(ws.map yq).Pairwise (λ a b=>HT.lexLt b a=false/\a≠b):=by
 have hn:∀ r∈rs,r≠[]:=λ r hr=>by obtain⟨f,t,a,b,rfl,_⟩:=hw r hr;simp
 have hm:∀ r,r∈L4.yW (wc rs)↔r∈rs:=λ r=>by rw[(L4.vU _).mem_iff,om]
 obtain⟨ws,e1,e2⟩:=fT (many:=many) (L4.yW (wc rs)) λ r hr=>hw r ((hm r).mp hr);refine⟨ws,?_,?_,e2,λ w=>?_,?_⟩
 .rw[X8 rs h0 hl hn,e1,Au];rfl
 .have:=congrArg List.length e1;rw[(L4.vU _).length_eq,AB] at this;have:=jx rs;lia
 .rw[<- hm,e1];constructor
  .exact λ h=>Ai.mpr ⟨w,h,rfl⟩
  .intro h;obtain⟨v,hv,e⟩:=Ai.mp h;rw[<- gH e];exact hv
 .rw[<- e1];exact (L4.pK _).and ((L4.vU _).nodup_iff.mpr (mN rs))
structure Gf (os:List Bool) (ws:List Wy) (ss:List Sl):Prop where
 n1:1<=os.length
 n8:os.length<=8
 wr:∀ w∈ws,(w.f<os.length/\w.t<os.length)/\(-12<=w.a/\w.a<=12)/\-12<=w.b/\w.b<=12
 wl:ws.length<=24
 wp:(ws.map yq).Pairwise (λ a b=>HT.lexLt b a=false/\a≠b)
 way:∀ x<os.length,∃ w∈ws,w.f=x
 sr:∀ s∈ss,s.p<os.length/\os.getD s.p false=true/\(1<=s.gv/\s.gv<=12)/\0<=s.gt/\s.gt<=12
 sp:ss.Pairwise (λ a b=>a.p<b.p)
 sl:ss.length<=8
def MS (c:Int) (most zB:Nat) (h1:1<=most) (h8:most<=8) (hb:zB<=12):
  ∃ F:zw,pq [.int c,.int most,.int zB]=some (zp F)/\Gf F.os F.ws F.ss/\(0<=F.A/\F.A<=zB)/\0<=F.B/\F.B<=zB:=by
 obtain⟨xs,DF,hx⟩:=MF c 43 (by decide);have C3:pk [.int c,.int 43]=some (.lst (xs.map T.int)):=DF;obtain⟨v0,hv0⟩:=oq (xs:=xs) (j:=0) (by lia);obtain⟨v1,hv1⟩:=oq (xs:=xs) (j:=1) (by lia);have Ia:L2.zL (xs.map T.int) 0=some (.int v0):=hv0;have IL:L2.zL (xs.map T.int) 1=some (.int v1):=hv1;have EB:(0:Int)<most:=by lia
 have IQ:0<most:=h1;obtain⟨many,HK,m1,m8⟩:∃ n:Nat,1+v0%most=(n:Int)/\1<=n/\n<=8:=by
  have:=Bx v0 (b:=(most:Int)) (by lia);have:=BN v0 EB;exact⟨(1+v0%most).toNat,by lia,by lia,by lia⟩
 obtain⟨J',g1,os,rows,Gy,g2,g3,g4,g5,g6,g7,ss,DH,hsg,BO⟩:=vZ (is:=[8,9,10,11]) (g:=zu 8) (b:=qS) (λ k:Nat=>T.int (0+(k:Int)))
   (λ p J=>∃ (os:List Bool) (rows:List (List Int)) (Gy:List T),J=[some (.im (.int c)),some (.im (.int most)),some (.im (.int zB)),some (.im (.lst (xs.map T.int))),some (.im (.int many)),some (.own (.lst (os.map kt))),some (.own (.lst (rows.map zt))),some (.own (.lst Gy)),none,none,none,none,none]
    /\ os.length=p.length/\rows.length<=3*p.length/\(∀ r∈rows,vS many r)/\(∀ x∈p,∃ r∈rows,r.head?=some (x:Int))/\Gy.length<=p.length/\∃ ss:List Sl,Gy=ss.map zF/\(∀ s∈ss,s.p<os.length/\os.getD s.p false=true/\(1<=s.gv/\s.gv<=12)/\0<=s.gt/\s.gt<=12)/\ss.Pairwise (λ a b=>a.p<b.p))
   (List.range many) [some (.im (.int c)),some (.im (.int most)),some (.im (.int zB)),some (.im (.lst (xs.map T.int))),some (.im (.int many)),some (.own (.lst [])),some (.own (.lst [])),some (.own (.lst [])),none,none,none,none,none] ⟨[],[],[],rfl,rfl,by simp,nofun,nofun,by simp,[],rfl,nofun,.nil⟩ (by
  rintro p k q e J ⟨os,rows,Gy,rfl,r1,r2,r3,r4,r5,ss,r6,r7,r8⟩;have hk:k<many:=AK.mp (by rw[e];simp);have hpk:p.length=k:=by
   have h2:=congrArg (λ l=>l[p.length]?) e;simp only[Cb (Ah _),Nat.sub_self,DT] at h2;obtain⟨h3,h4⟩:=AM.mp h2;simpa using h4
  obtain⟨b,EZ,Gk,nu,sz,t1,t2,t3,t4,t5,t6,t7⟩:=WM (.int c) (.int most) (.int zB) xs hx many m8 os rows Gy k hk (by lia) (by lia) r3 (by lia);have grow:∀ s∈ss,s.p<(os++[b]).length/\(os++[b]).getD s.p false=true/\(1<=s.gv/\s.gv<=12)/\0<=s.gt/\s.gt<=12:=λ s hs=>by
   obtain⟨a1,a2,a3⟩:=r7 s hs;refine⟨by simp;lia,?_,a3⟩;rw[Ay,Ca a1,<- Ay];exact a2
  refine⟨_,t1,os++[b],EZ,Gk,rfl,by simp[r1],by simp;lia,t3,λ x hx=>?_,by simp;lia,by
   rcases t7 with rfl | ⟨hb,s,⟨s0,s1⟩,rfl⟩
   .exact⟨ss,r6,grow,r8⟩
   .refine⟨ss++[s],by rw[r6];simp,λ z hz=>?_,Dz.mpr ⟨r8,by simp,λ a ha c hc=>?_⟩⟩
    .rcases AZ.mp hz with h | h
     .exact grow z h
     .cases AW.mp h;refine⟨by simp;lia,?_,s1⟩;rw[s0,Ay,Cb (by lia),show k-os.length=0 by lia,hb];rfl
    .cases AW.mp hc;have:=(r7 a ha).1;lia⟩
  rcases AZ.mp hx with h | h
  .obtain⟨r,y1,y2⟩:=r4 x h;exact⟨r,t4 r y1,y2⟩
  .cases AW.mp h;exact t5)
 subst g2;rw[Ce] at g3 g4 g7;obtain⟨n9,hn9,n9'⟩:∃ n:Nat,(if 24-(rows.length:Int)<9 then 24-(rows.length:Int) else 9)=(n:Int)/\n<=9:=by
  split
  .exact⟨24-rows.length,by lia,by lia⟩
  .exact⟨9,rfl,by lia⟩
 obtain⟨pl,Aq,pl1⟩:∃ n:Nat,v0/64%8%many=(n:Int)/\n<many:=by
  have:=Bx (v0/64%8) (b:=(many:Int)) (by lia);have:=BN (v0/64%8) (b:=(many:Int)) (by lia);exact⟨(v0/64%8%many).toNat,by lia,by lia⟩
 have d64:xG v0 64:=⟨by decide,by decide⟩
 have C8:0<many:=m1;obtain⟨Hc,k1,k2,k3,k4,_⟩:=aU kd n9 many pl (λ rs x=>[some (.im (.int c)),some (.im (.int most)),some (.im (.int zB)),some (.im (.lst (xs.map T.int))),some (.im (.int many)),some (.own (.lst (os.map kt))),some (.own (.lst rs)),some (.own (.lst Gy)),none,none,none,x,none]) (λ _ _=>rfl) (by lia)
  (λ k' G9 rs DJ=>by
   obtain⟨v2,JS⟩:=oq (xs:=xs) (j:=34+k') (by lia);have H_:L2.zL (xs.map T.int) (34+(0+(k':Int)))=some (.int v2):=by rw[<- JS];congr 1;lia
   obtain⟨r,JY,JX⟩:=Zo pl many v2 3 pl1 (by lia);have JW:rg [.int pl,.int many,.int v2,.int 3]=some (zt r):=JX;refine⟨r,JY,?_⟩;have Cq:rs.length<16777216:=by lia
   unfold turn kd;generalize rg=fw,xs.map T.int=XL,os.map kt=OL,zt r=rr,(0+(k':Int))=kk at *;simp[Ia,d64,C8,Aq,H_,JW,Cq])
  rows (by lia) g5
 have fin:∃ F9:List (List Int),(if v0/8%8=1 then Hc else rows)=F9/\F9≠[]/\F9.length<=24/\(∀ r∈F9,vS many r)/\∀ x<many,∃ r∈F9,r.head?=some (x:Int):=by
  refine⟨_,rfl,?_⟩;have hx:∀ x<many,∃ r∈rows,r.head?=some (x:Int):=λ x hx=>g6 x (AK.mpr hx);have hx2:∀ x<many,∃ r∈Hc,r.head?=some (x:Int):=λ x hh=>by
   obtain⟨r,y1,y2⟩:=hx x hh;exact⟨r,k4 r y1,y2⟩
  split
  .refine⟨λ e=>?_,by lia,k3,hx2⟩;obtain⟨r,y,_⟩:=hx2 0 C8;rw[e] at y;cases y
  .refine⟨λ e=>?_,by lia,g5,hx⟩;obtain⟨r,y,_⟩:=hx 0 C8;rw[e] at y;cases y
 obtain⟨F9,e3,r0,r1,r2,r3⟩:=fin;obtain⟨ws,w1,w2,w3,w4,w5⟩:=X9 F9 r0 (by lia) r2;have DS:(0:Int)<(zB:Int)+1:=by lia
 have A0:=Bx v1 (b:=(zB:Int)+1) (by lia);have A1:=BN v1 DS;have B0:=Bx (v1/13) (b:=(zB:Int)+1) (by lia);have B1:=BN (v1/13) DS;have Bl:ss.length=Gy.length:=by rw[DH,AB]
 refine⟨⟨v1%((zB:Int)+1),v1/13%((zB:Int)+1),os,ws,ss⟩,?_,⟨by dsimp only;lia,by dsimp only;lia,λ w hw=>by dsimp only;rw[g3];exact w3 w hw,by dsimp only;lia,w5,λ x hx=>?_,hsg,BO,by dsimp only;lia⟩,by dsimp only;lia⟩
 .have BX:=pP many (by lia);have JV:=pP n9 (by lia);have d8:xG v0 8:=⟨by decide,by decide⟩
  have d13:xG v1 13:=⟨by decide,by decide⟩
  have hlen:yM [.lst (rows.map zt)]=some (.int rows.length):=by simp
  have ED:(os.map kt).length<=16777216:=by simp;lia
  have hls:Gy.length<=16777216:=by lia
  have DM:(ws.map zD).length<=16777216:=by simp;lia
  have hq:=eq_int (v0/8%8) 1 false;show pq _=some (.tup [.tup [.int (v1%((zB:Int)+1)),.int (v1/13%((zB:Int)+1))],.tup (os.map kt),.tup (ws.map zD),.tup (ss.map zF)]);rw[<- DH];unfold pq Ym;generalize qS=bb2,kd=bb3,pk=fs,xs.map T.int=XL,(List.range many).map (λ(k:Nat)=>T.int (0+(k:Int)))=R1,(List.range n9).map (λ(k:Nat)=>T.int (0+(k:Int)))=R9,os.map kt=OL at *;by_cases h:v0/8%8=1
  .rw[if_pos h] at e3;subst e3;rw[h] at hq;generalize ws.map zD=WL at *;generalize hrr:rows.map zt=RR at *;generalize Hc.map zt=RR2 at *;have Cw:RR.length=rows.length:=by rw[<- hrr,AB]
   generalize zR=ee,tq=sv at *;simp[C3,Ia,EB,IQ,HK,BX,g1,d8,hq,h,Cw,hn9,JV,k1,IL,DS,d13,w1,ED,hls,DM]
  .rw[if_neg h] at e3;subst e3;generalize ws.map zD=WL,rows.map zt=RR,zR=ee,tq=sv at *;simp[C3,Ia,EB,IQ,HK,BX,g1,d8,hq,h,IL,DS,d13,w1,ED,hls,DM]
 .dsimp only at hx;rw[g3] at hx;obtain⟨r,y1,y2⟩:=r3 x hx;obtain⟨f,t,a,b,rfl,hf,ht,_⟩:=r2 r y1;refine⟨⟨f,t,a,b⟩,(w4 _).mpr y1,?_⟩;have:(f:Int)=(x:Int):=by simpa using y2
  dsimp only;lia
def vW (t:T):Bool:=!wj t&&(match t with | .tup ts=>ts.all (λ u=>!wj u) | _=>true)
def vW.top {t:T}(h:vW t=true):wj t=false:=by
 unfold vW at h;simp only[Br,Bool.not_eq_true'] at h;exact h.1
def vW.mem {ts:List T}(h:vW (.tup ts)=true) {u:T}(hu:u∈ts):wj u=false:=by
 simp only[vW,Br,BD,Bool.not_eq_true'] at h;exact h.2 u hu
noncomputable def wh (t:T) (a b:Int):Bool:=match t with
 | .int i=>decide (a<=i)&&decide (i<=b)
 | _=>false
def Zn (t:T) (he:wj t=false):tZ [t]=some (.bl (match t with | .int _=>true | _=>false)):=by
 cases t with
 | err _ _ _=>cases he
 | _=>simp[tZ,gB,wg]
def MC (t:T) (a b:Int) (he:wj t=false):qb [t,.int a,.int b]=some (.bl (wh t a b)):=by
 have h:=Zn t he;unfold qb gA;by_cases hi:∃ i,t=.int i
 .obtain⟨i,rfl⟩:=hi;unfold wh;by_cases h1:a<=i <;> by_cases h2:i<=b <;> simp[h,h1,h2]
 .have h':tZ [t]=some (.bl false):=by
   rw[h];cases t with
   | int i=>exact absurd ⟨i,rfl⟩ hi
   | _=>rfl
  have e:wh t a b=false:=by
   cases t with
   | int i=>exact absurd ⟨i,rfl⟩ hi
   | _=>rfl
  rw[e];simp[h']
theorem ma {α:Type}(enc:α->T):∀ (ts:List T) (bs:List α),List.zipWith (λ a b=>T.tup [a,b]) ts (bs.map enc)=(ts.zip bs).map λ p=>T.tup [p.1,enc p.2]
 | [],bs=>by simp
 | t::ts,[]=>by simp
 | t::ts,b::bs=>by simp[ma enc ts bs]
def iD {α:Type}(g:α->Bool) (xs:List α):wY (xs.map λ x=>T.bl (g x))=some (xs.map g):=by
 have:=aH (xs.map g);rw[Au] at this;exact this
def iP {α:Type}(g:α->Bool) (xs:List α):(xs.map g).all id=xs.all g:=by
 rw[List.all_map];rfl
def sC (t:T) (bs:List (Int×Int)):Bool:=match t with
 | .tup ts=>decide (ts.length=bs.length)&&(ts.zip bs).all λ p=>wh p.1 p.2.1 p.2.2
 | _=>false
def Qx {t:T}(he:wj t=false) (h:¬ ∃ ts,t=.tup ts):∃ s,kP t=some s/\wg s "tuple"=false:=by
 cases t with
 | tup ts=>exact absurd ⟨ts,rfl⟩ h
 | err _ _ _=>cases he
 | _=>exact⟨_,rfl,by decide⟩
def Zr (t:T) (bs:List (Int×Int)) (hl:bs.length<=100) (he:vW t=true):qc [t,.tup (bs.map zk)]=some (.bl (sC t bs)):=by
 have it:wg "tuple" "tuple"=true:=by decide
 by_cases ht:∃ ts,t=.tup ts
 .obtain⟨ts,rfl⟩:=ht;unfold qc gC sC;by_cases h:ts.length=bs.length
  .have hc:iB [some (.im (.tup ts)),some (.im (.tup (bs.map zk)))]=some (.lst ((ts.zip bs).map λ p=>T.bl (wh p.1 p.2.1 p.2.2))):=by
    unfold iB;refine yF (λ p:T×(Int×Int)=>T.tup [p.1,zk p.2]) _ (ts.zip bs) ?_ ?_ λ p hp=>?_
    .simp[ma]
    .simp;lia
    .simp[tK,zk,MC _ _ _ (vW.mem he (C1 hp).1)]
   simp[it,eq_int,h,hc,iD,iP]
  .have h':¬ (ts.length:Int)=bs.length:=by lia
   simp[it,eq_int,h,h']
 .obtain⟨s,s1,s2⟩:=Qx (vW.top he) ht;have e:sC t bs=false:=by
   cases t with
   | tup ts=>exact absurd ⟨ts,rfl⟩ ht
   | _=>rfl
  rw[e];unfold qc gC;simp[-kP,s1,s2]
noncomputable def pC:List (List Int)->Bool
 | a::b::l=>HT.lexLt a b&&pC (b::l)
 | _=>true
noncomputable def pD:List Int->Bool
 | a::b::l=>decide (a<b)&&pD (b::l)
 | _=>true
theorem kE {α:Type}(lt:α->α->Bool) (up:List α->Bool) (h0:up []=true) (h1:∀ a,up [a]=true) (h2:∀ a b l,up (a::b::l)=(lt a b&&up (b::l))):∀ l:List α,((l.zip (l.drop 1)).all λ p=>lt p.1 p.2)=up l
 | []=>by simp[h0]
 | [a]=>by simp[h1]
 | a::b::l=>by
  have ih:=kE lt up h0 h1 h2 (b::l);simp only[List.drop_succ_cons,List.drop_zero,Ea,List.all_cons] at ih ⊢;rw[h2,<- ih]
def ao {α:Type}(xs:List α):vK xs (some 1) none=xs.drop 1:=by
 unfold vK;have e:HT.zy xs.length 0 (some 1)=min 1 xs.length:=by simp[HT.zy]
 have e2:HT.zy xs.length xs.length none=xs.length:=rfl;rw[e,e2];cases xs with
 | nil=>rfl
 | cons x xs=>simp
def MJ (rs:List (List Int)) (hl:rs.length<=16777216):sa [.tup (rs.map zt)]=some (.bl (pC rs)):=by
 have hc:nh [some (.im (.tup (rs.map zt)))]=some (.lst ((rs.zip (rs.drop 1)).map λ p=>T.bl (HT.lexLt p.1 p.2))):=by
  unfold nh;refine yF (λ p:List Int×List Int=>T.tup [zt p.1,zt p.2]) _ (rs.zip (rs.drop 1)) ?_ ?_ λ p hp=>?_
  .simp only[xt,za,zc,m6,ni,cS,zf,qf,l9,Bf,ao,fO,Option.map_some,DT];rw[<- CB,ma,List.zip_map_left,Au];rfl
  .simp;lia
  .simp[tK,zt,vY,ox]
 unfold sa gE;simp[hc,iD,iP];have:=kE (λ a b=>HT.lexLt a b) pC rfl (λ _=>rfl) (λ _ _ _=>rfl) rs;simpa using this
def MK (ns:List Int) (hl:ns.length<=16777216):sa [.lst (ns.map T.int)]=some (.bl (pD ns)):=by
 have hc:nh [some (.im (.lst (ns.map T.int)))]=some (.lst ((ns.zip (ns.drop 1)).map λ p=>T.bl (decide (p.1<p.2)))):=by
  unfold nh;refine yF (λ p:Int×Int=>T.tup [T.int p.1,T.int p.2]) _ (ns.zip (ns.drop 1)) ?_ ?_ λ p hp=>?_
  .simp only[xt,za,zc,m6,ni,cS,zf,qf,l9,Bf,ao,fP,Option.map_some,DT];rw[<- CB,ma,List.zip_map_left,Au];rfl
  .simp;lia
  .simp[tK,vY]
 unfold sa gE;simp[hc,iD,iP];have:=kE (λ a b:Int=>decide (a<b)) pD rfl (λ _=>rfl) (λ _ _ _=>rfl) ns;simpa using this
def dE (r:List Int):vW (zt r)=true:=by
 simp[vW,zt,wj]
def Zq (rs:List (List Int)) (bs:List (Int×Int)) (hl:bs.length<=100) (hz:rs.length<=100) (h:∀ r∈rs,sC (zt r) bs=true):qe [.tup (rs.map zt),.tup (bs.map zk)]=some (.bl true):=by
 have hc:lY [some (.im (.tup (rs.map zt))),some (.im (.tup (bs.map zk)))]=some (.lst (rs.map λ _=>T.bl true)):=by
  unfold lY;refine yF zt _ rs (by simp) (by lia) λ r hr=>?_;have:=Zr (zt r) bs hl (dE r);rw[h r hr] at this;generalize zt r=rr,bs.map zk=BB at *;simp[this]
 have it:wg "tuple" "tuple"=true:=by decide
 have hb:wY (rs.map λ _=>T.bl true)=some (rs.map λ _=>true):=qR _ _;unfold qe Y3;generalize lY=cc at *;simp[it,hc,hb]
def MM (os:List Bool) (h1:1<=os.length) (h8:os.length<=8):nV [.tup (os.map kt)]=some (.bl true):=by
 have ho:∀ b,gi [kt b]=some (.bl true):=λ b=>by cases b <;> rfl
 have hc:lZ [some (.im (.tup (os.map kt)))]=some (.lst (os.map λ _=>T.bl true)):=by
  unfold lZ;refine yF kt _ os (by simp) (by lia) λ b _=>?_;have:=ho b;generalize kt b=kb at *;simp[this]
 have it:wg "tuple" "tuple"=true:=by decide
 have hb:wY (os.map λ _=>T.bl true)=some (os.map λ _=>true):=qR _ _;have e1:(1:Int)<=((os.map kt).length:Int):=by simp;lia
 have e2:((os.map kt).length:Int)<=8:=by simp;lia
 unfold nV Y4;generalize lZ=cc,os.map kt=O at *;simp[it,e1,e2,hc,hb]
def YE {rs:List (List Int)}(h:rs.Pairwise (λ a b=>HT.lexLt b a=false/\a≠b)):pC rs=true:=by
 induction rs with
 | nil=>rfl
 | cons a l ih=>
  cases l with
  | nil=>rfl
  | cons b l=>
   have h1:=Bh.mp h;have h2:=h1.1 b Ap;have:HT.lexLt a b=true:=by
    cases e:HT.lexLt a b with
    | true=>rfl
    | false=>exact absurd (L4.jF a b e h2.1) h2.2
   simp[pC,this,ih h1.2]
def M0 (k:Nat) (ws:List Wy) (h:∃ w∈ws,w.f=k) (hl:ws.length<=100):v_ false (.int (k:Int)) (.lst (ws.map λ w=>T.int (w.f:Int)))=some (.bl true):=by
 obtain⟨w,hw,e⟩:=h;have hd:xu (ws.map λ w=>T.int (w.f:Int))<=60:=by
  have:=sU (λ w:Wy=>T.int (w.f:Int)) 0 (λ _=>by simp[dep]) ws;lia
 have ha:(ws.map λ w=>T.int (w.f:Int)).any (λ t=>eqT t (.int (k:Int)))=true:=by
  rw[Bk];exact⟨_,Ai.mpr ⟨w,hw,rfl⟩,by simp[eqT,e]⟩
 unfold v_;simp only[fP];generalize (ws.map λ w=>T.int (w.f:Int))=L at *;simp[dep,hd,ha]
section
variable {os:List Bool}{ws:List Wy}{ss:List Sl}
def p9 (ws:List Wy):ws.map zD=(ws.map yq).map zt:=by rw[Au];rfl
def wM (s:Sl):List Int:=[(s.p:Int),w6 s.pu,s.gv,s.gt]
def m7 (ss:List Sl):ss.map zF=(ss.map wM).map zt:=by rw[Au];rfl
def fU {x y z u:Int}{a b c d:Int×Int}(h1:a.1<=x/\x<=a.2) (h2:b.1<=y/\y<=b.2) (h3:c.1<=z/\z<=c.2) (h4:d.1<=u/\u<=d.2):sC (zt [x,y,z,u]) [a,b,c,d]=true:=by
 simp[sC,zt,wh,h1,h2,h3,h4]
def Gf.Jy (G:Gf os ws ss):nS [.tup (ws.map zD),.int (os.length:Int)]=some (.bl true):=by
 have hw:=Zq (ws.map yq) [(0,(os.length:Int)-1),(0,(os.length:Int)-1),(-12,12),(-12,12)] (by simp) (by have:=G.wl;simp;lia) (λ r hr=>by
  obtain⟨w,hw,rfl⟩:=Ai.mp hr;obtain⟨⟨a1,a2⟩,a3,a4⟩:=G.wr w hw;exact fU ⟨by dsimp only;lia,by dsimp only;lia⟩ ⟨by dsimp only;lia,by dsimp only;lia⟩ a3 a4)
 rw[<- p9] at hw;have eb:T.tup ([(0,(os.length:Int)-1),(0,(os.length:Int)-1),(-12,12),(-12,12)].map zk)=.tup [.tup [.int 0,.int ((os.length:Int)-1)],.tup [.int 0,.int ((os.length:Int)-1)],.tup [.int (-12),.int 12],.tup [.int (-12),.int 12]]:=rfl;rw[eb] at hw;have CL:=MJ (ws.map yq) (by have:=G.wl;simp;lia);rw[YE G.wp,<- p9] at CL;have hl:(ws.map zD).length=ws.length:=by simp
 have wl:=G.wl;have n8:=G.n8;have HD:∀ a b c d,lW [some (.im (.tup (ws.map zD))),a,b,c,d]=some (.lst (ws.map λ w=>T.int (w.f:Int))):=λ a b c d=>by
  unfold lW;refine yF zD _ ws (by simp) (by lia) λ w _=>?_;simp[zD]
 have Gi:∀ a c d,lK [a,some (.im (.int (os.length:Int))),c,d,some (.im (.lst (ws.map λ w=>T.int (w.f:Int))))]=some (.lst ((List.range os.length).map λ _=>T.bl true)):=λ a c d=>by
  unfold lK;refine yF (λ k:Nat=>T.int (0+(k:Int))) _ (List.range os.length) ?_ (by simp;lia) λ k hk=>?_
  .simp[pP os.length (by lia)]
  .have e:=M0 k ws (G.way k (AK.mp hk)) (by lia);generalize (ws.map λ w=>T.int (w.f:Int))=L,v_ false=ii at *;simp[e]
 have hb:wY ((List.range os.length).map λ _=>T.bl true)=some ((List.range os.length).map λ _=>true):=qR _ _;have e24:(ws.length:Int)<=24:=by lia
 unfold nS Y1;generalize lW=c1,lK=c2,(ws.map λ w=>T.int (w.f:Int))=L,ws.map zD=WL at *;generalize (List.range os.length).map (λ _=>T.bl true)=RL at *;generalize qe=f1,sa=f2 at *;simp[hw,HD,Gi,CL,hb,hl,e24]
def YG {ns:List Int}(h:ns.Pairwise (· < ·)):pD ns=true:=by
 induction ns with
 | nil=>rfl
 | cons a l ih=>
  cases l with
  | nil=>rfl
  | cons b l=>
   have h1:=Bh.mp h;simp[pD,h1.1 b Ap,ih h1.2]
def Gf.HU (G:Gf os ws ss):nU [.tup (ss.map zF),.tup (os.map kt)]=some (.bl true):=by
 have hw:=Zq (ss.map wM) [(0,(os.length:Int)-1),(0,1),(1,12),(0,12)] (by simp) (by have:=G.sl;simp;lia) (λ r hr=>by
  obtain⟨s,hs,rfl⟩:=Ai.mp hr;obtain⟨a1,_,a3,a4⟩:=G.sr s hs;exact fU ⟨by dsimp only;lia,by dsimp only;lia⟩ (by unfold w6;split <;> decide) a3 a4)
 rw[<- m7] at hw;have eb:T.tup ([(0,(os.length:Int)-1),(0,1),(1,12),(0,12)].map zk)=.tup [.tup [.int 0,.int ((os.length:Int)-1)],.tup [.int 0,.int 1],.tup [.int 1,.int 12],.tup [.int 0,.int 12]]:=rfl;rw[eb] at hw;have sl:=G.sl;have CL:=MK (ss.map λ s=>(s.p:Int)) (by simp;lia);rw[YG (A4.mpr (G.sp.imp λ h=>by lia)),Au] at CL;have HD:∀ a b,lX [some (.im (.tup (ss.map zF))),a,b]=some (.lst (ss.map (T.int ∘ λ s=>(s.p:Int)))):=λ a b=>by
  unfold lX;refine yF zF _ ss (by simp) (by lia) λ s _=>?_;simp[zF]
 have Gi:∀ b,lL [some (.im (.tup (ss.map zF))),some (.im (.tup (os.map kt))),b]=some (.lst (ss.map λ _=>T.bl true)):=λ b=>by
  unfold lL;refine yF zF _ ss (by simp) (by lia) λ s hs=>?_;obtain⟨a1,a2,_⟩:=G.sr s hs;have ha:L2.zL (os.map kt) (s.p:Int)=some (kt true):=vv (by rw[AE,Aw a1];rw[Ay,Aw a1] at a2;simp only[Option.getD_some] at a2;rw[a2];rfl);have hk:=cy true;generalize os.map kt=O,kt true=kk,(T.str "keeper")=ks,zR false=ee at *;simp[zF,ha,hk]
 have hb:wY (ss.map λ _=>T.bl true)=some (ss.map λ _=>true):=qR _ _;have hl:((os.map kt).length:Int)=os.length:=by simp
 unfold nU Y2;generalize lX=c1,lL=c2,(ss.map (T.int ∘ λ s=>(s.p:Int)))=L,ss.map zF=SL,os.map kt=O at *;generalize (ss.map λ _=>T.bl true)=RL at *;generalize qe=f1,sa=f2 at *;simp[hw,HD,Gi,CL,hb,hl]
def Gf.floor (G:Gf os ws ss) {A B:Int}(hA:0<=A/\A<=12) (hB:0<=B/\B<=12):nI [zp ⟨A,B,os,ws,ss⟩]=some (.bl true):=by
 have h1:=Zr (zt [A,B]) [(0,12),(0,12)] (by simp) (dE _);have e1:sC (zt [A,B]) [(0,12),(0,12)]=true:=by simp[sC,zt,wh,hA,hB]
 rw[e1] at h1;have hb:nW [.tup [.int A,.int B]]=some (.bl true):=by
  have eb:T.tup ([((0:Int),(12:Int)),(0,12)].map zk)=.tup [.tup [.int 0,.int 12],.tup [.int 0,.int 12]]:=rfl;rw[eb] at h1;have er:zt [A,B]=.tup [.int A,.int B]:=rfl;rw[er] at h1;unfold nW Y5;generalize qc=ff at *;simp[h1]
 have h2:=MM os G.n1 G.n8;have h3:=G.Jy;have h4:=G.HU;have it:wg "tuple" "tuple"=true:=by decide
 have hl:((os.map kt).length:Int)=os.length:=by simp
 have g0:∀ a b c d:T,L2.zL [a,b,c,d] 0=some a:=λ _ _ _ _=>rfl;have g1:∀ a b c d:T,L2.zL [a,b,c,d] 1=some b:=λ _ _ _ _=>rfl;have g2:∀ a b c d:T,L2.zL [a,b,c,d] 2=some c:=λ _ _ _ _=>rfl;have g3:∀ a b c d:T,L2.zL [a,b,c,d] 3=some d:=λ _ _ _ _=>rfl;have e2:∀ i j:Int,zR true (.int i) (.int j)=some (.bl (!decide (i=j))):=λ i j=>eq_int i j true;unfold nI Yr zp;dsimp only;generalize nW=f1,nV=f2,nS=f3,nU=f4,os.map kt=O,ws.map zD=WL,ss.map zF=SL,zR true=ee at *;simp[it,e2,g0,g1,g2,g3,hb,h2,hl,h3,h4]
def kY (rs out:List (List Int)) (hl:rs.length<64) (hn:∀ r∈rs,r≠[]) (hp:out.Perm rs) (hs:out.Pairwise λ a b=>HT.lexLt b a=false):wy [.lst (rs.map zt)]=some (.lst (out.map zt)):=by
 show ((ve (rs.map zt)).bind λ rs=>_)=_;rw[mC,Bf,if_pos ⟨hl,hn⟩,<- L4.k_ hp hs]
def MQ {r:List Int}(h:r.length=4):kC [zt r]=some (.bl true):=by
 have hw:∀ x:Int,tZ [.int x]=some (.bl true):=λ x=>Zn (.int x) rfl;have hc:lT [some (.im (zt r))]=some (.lst (r.map λ _=>T.bl true)):=by
  unfold lT;refine yF T.int _ r (by simp[zt]) (by lia) λ x _=>?_;simp[hw x]
 have it:wg "tuple" "tuple"=true:=by decide
 have hb:wY (r.map λ _=>T.bl true)=some (r.map λ _=>true):=qR _ _;have hl:((r.map T.int).length:Int)=4:=by simp;lia
 unfold kC Yq;generalize lT=cc at *;unfold zt at *;generalize r.map T.int=R at *;simp[it,eq_int,hl,hc,hb]
def XM (h:ss.Pairwise (λ a b=>a.p<b.p)):(ss.map wM).Pairwise λ a b=>HT.lexLt b a=false:=by
 refine A4.mpr (h.imp λ{a b} BR=>?_);unfold wM;rw[HT.uD,if_neg (by lia)];simp;lia
def dQ {ows:List Wy}{Gm:List Sl}(G:Gf os ws ss) {A B:Int}(hA:0<=A/\A<=12) (hB:0<=B/\B<=12) (hw:ows.Perm ws) (hs:Gm.Perm ss) (ow:T) (how:xq [ow]=some (.tup (os.map kt))):qd [zk (A,B),ow,.lst (ows.map zD),.lst (Gm.map zF)]=some (zp ⟨A,B,os,ws,ss⟩):=by
 have wl:=G.wl;have sl:=G.sl;have wl':=hw.length_eq;have sl':=hs.length_eq;have hc:lU [some (.im (zk (A,B))),some (.im ow),some (.im (.lst (ows.map zD))),some (.im (.lst (Gm.map zF))),none]=some (.lst ((ows.map yq++Gm.map wM).map λ _=>T.bl true)):=by
  unfold lU;refine yF zt _ (ows.map yq++Gm.map wM) ?_ (by simp;lia) λ r hr=>?_
  .have e:(ows.map yq++Gm.map wM).map zt=ows.map zD++Gm.map zF:=by rw[Bo,<- p9,<- m7]
   have hl:(ows.map zD).length+(Gm.map zF).length<=16777216:=by simp;lia
   rw[e];generalize ows.map zD=WL,Gm.map zF=SL at *;simp[hl]
  .have h4:r.length=4:=by
    rcases AZ.mp hr with h | h <;> obtain⟨x,_,rfl⟩:=Ai.mp h <;> rfl
   have:=MQ h4;generalize zt r=rr at *;simp[this]
 have hb:wY ((ows.map yq++Gm.map wM).map λ _=>T.bl true)=some ((ows.map yq++Gm.map wM).map λ _=>true):=qR _ _;have hal:((ows.map yq++Gm.map wM).map λ _=>true).all id=true:=by rw[List.all_map];simp
 have s1:wy [.lst (ows.map zD)]=some (.lst (ws.map zD)):=by
  rw[p9,p9];exact kY _ _ (by simp;lia) (λ r hr=>by obtain⟨x,_,rfl⟩:=Ai.mp hr;simp[yq]) (hw.map yq).symm (G.wp.imp λ h=>h.1)
 have s2:wy [.lst (Gm.map zF)]=some (.lst (ss.map zF)):=by
  rw[m7,m7];exact kY _ _ (by simp;lia) (λ r hr=>by obtain⟨x,_,rfl⟩:=Ai.mp hr;simp[wM]) (hs.map wM).symm (XM G.sp)
 have hf:=G.floor hA hB;have l2:(ws.map zD).length<=16777216:=by simp;lia
 have l3:(ss.map zF).length<=16777216:=by simp;lia
 have ef:zp ⟨A,B,os,ws,ss⟩=.tup [zk (A,B),.tup (os.map kt),.tup (ws.map zD),.tup (ss.map zF)]:=rfl;rw[ef] at hf ⊢;have t2:xq [.lst (ws.map zD)]=some (.tup (ws.map zD)):=by simp[l2]
 have t3:xq [.lst (ss.map zF)]=some (.tup (ss.map zF)):=by simp[l3]
 unfold qd Ys;generalize lU=cc,nI=f1 at *;generalize ((ows.map yq++Gm.map wM).map λ _=>T.bl true)=RL at *;generalize ((ows.map yq++Gm.map wM).map λ _=>true)=BL at *;generalize os.map kt=O at *;generalize ws.map zD=WL,ss.map zF=SL at *;generalize ows.map zD=WL' at *;generalize Gm.map zF=SL',zk (A,B)=pp,wy=so,xq=tu at *;simp[hc,hb,hal,s1,s2,how,t2,t3,hf]
end
noncomputable def sg:List Int->Wy
 | [f,t,a,b]=>⟨f.toNat,t.toNat,a,b⟩
 | _=>⟨0,0,0,0⟩
def gX (w:Wy):sg (yq w)=w:=by
 unfold sg yq;simp
def XB (ows:List Wy) (hn:ows.Nodup):∃ ws:List Wy,ows.Perm ws/\(ws.map yq).Pairwise (λ a b=>HT.lexLt b a=false/\a≠b):=by
 have hp:=L4.vU (ows.map yq);refine⟨(L4.yW (ows.map yq)).map sg,?_,?_⟩
 .have:=hp.map sg;rw[Au,show (sg ∘ yq)=id from funext gX,List.map_id] at this;exact this.symm
 .have e:((L4.yW (ows.map yq)).map sg).map yq=L4.yW (ows.map yq):=by
   rw[Au];have:∀ r∈L4.yW (ows.map yq),(yq ∘ sg) r=r:=λ r hr=>by
    obtain⟨w,_,rfl⟩:=Ai.mp (hp.mem_iff.mp hr);show yq (sg (yq w))=_;rw[gX]
   rw[Cg this,List.map_id']
  rw[e];refine (L4.pK _).and (hp.nodup_iff.mpr ?_);exact A4.mpr (hn.imp λ h z=>h (gH z))
def XC (Gm:List Sl) (hn:Gm.Pairwise λ a b=>a.p≠b.p):∃ ss:List Sl,Gm.Perm ss/\ss.Pairwise λ a b=>a.p<b.p:=by
 have hp:=D8 Gm λ a b=>decide (a.p<=b.p);have hs:=D7 (le:=λ a b:Sl=>decide (a.p<=b.p)) (λ a b c h1 h2=>by simp at *;lia) (λ a b=>by simp;lia) Gm;refine⟨_,hp.symm,?_⟩;have:=(hp.symm.pairwise_iff (λ h z=>h z.symm)).mp hn;exact (hs.and this).imp λ{a b} h=>by
  have h1:a.p<=b.p:=by simpa using h.1
  have:=h.2;lia
section
variable {os:List Bool}{ws:List Wy}{ss:List Sl}
def Gf.nd (G:Gf os ws ss):ws.Nodup:=(A4.mp G.wp).imp λ h z=>h.2 (by rw[z])
def gZ (h:os.length<=8):xq [.tup (os.map kt)]=some (.tup (os.map kt))/\xq [.lst (os.map kt)]=some (.tup (os.map kt)):=by
 have:(os.map kt).length<=16777216:=by simp;lia
 constructor <;> simp[this]
def ib (A B:Int):zi (zp ⟨A,B,os,ws,ss⟩) (.int 0)=some (zk (A,B))/\zi (zp ⟨A,B,os,ws,ss⟩) (.int 1)=some (.tup (os.map kt))/\zi (zp ⟨A,B,os,ws,ss⟩) (.int 2)=some (.tup (ws.map zD))/\zi (zp ⟨A,B,os,ws,ss⟩) (.int 3)=some (.tup (ss.map zF)):=⟨rfl,rfl,rfl,rfl⟩
def mx (A B:Int) (os:List Bool) (ws:List Wy) (h:ss.Pairwise λ a b=>a.p<b.p) (p:Nat) (s:Sl):(zw.mk A B os ws ss).Fp p=some s↔s∈ss/\s.p=p:=by
 unfold zw.Fp;dsimp only
 induction h with
 | nil=>simp
 | @cons a l h1 _ ih=>
  rw[B9];by_cases z:a.p=p
  .rw[KG z];dsimp only;constructor
   .intro e;cases e;exact⟨Ap,z⟩
   .rintro⟨h2,h3⟩;rcases Aj.mp h2 with rfl | h2
    .rfl
    .have:=h1 s h2;lia
  .rw[KA z];dsimp only;rw[ih];constructor
   .exact λ h=>⟨Av _ h.1,h.2⟩
   .rintro⟨h2,h3⟩;rcases Aj.mp h2 with rfl | h2
    .exact absurd h3 z
    .exact⟨h2,h3⟩
def Gf.tr (G:Gf os ws ss) {o:Nat->Nat}(sw:Bool) (on:∀ p<os.length,o p<os.length) (inj:∀ p<os.length,∀ q<os.length,o p=o q->p=q) (tm:∀ j<os.length,∃ p<os.length,o p=j) {GB:List Bool}(hn:GB.length=os.length)
  (ho:∀ p<os.length,GB.getD (o p) false=os.getD p false):∃ Gj GI,(ws.map (xb o sw)).Perm Gj/\(ss.map (xC o sw)).Perm GI/\Gf GB Gj GI:=by
 have nd:(ws.map (xb o sw)).Nodup:=by
  refine A4.mpr (G.nd.imp_of_mem λ{a b} ha hb h z=>h ?_);have h1:=inj _ (G.wr a ha).1.1 _ (G.wr b hb).1.1 (congrArg Wy.f z);have h2:=inj _ (G.wr a ha).1.2 _ (G.wr b hb).1.2 (congrArg Wy.t z);have h3:=congrArg Wy.a z;have h4:=congrArg Wy.b z;cases a;cases b;simp only[xb] at h1 h2 h3 h4;cases sw <;> simp_all
 have pn:(ss.map (xC o sw)).Pairwise λ a b=>a.p≠b.p:=by
  refine A4.mpr (G.sp.imp_of_mem λ{a b} ha hb h z=>?_);have:=inj _ (G.sr a ha).1 _ (G.sr b hb).1 z;lia
 obtain⟨Gj,w1,w2⟩:=XB _ nd;obtain⟨GI,s1,s2⟩:=XC _ pn;have mw:∀ v∈Gj,∃ w∈ws,xb o sw w=v:=λ v hv=>Ai.mp (w1.mem_iff.mpr hv);have ms:∀ v∈GI,∃ w∈ss,xC o sw w=v:=λ v hv=>Ai.mp (s1.mem_iff.mpr hv);refine⟨Gj,GI,w1,s1,by rw[hn];exact G.n1,by rw[hn];exact G.n8,λ v hv=>?_,by rw[<- w1.length_eq,AB];exact G.wl,w2,λ j hj=>?_,λ v hv=>?_,s2,by rw[<- s1.length_eq,AB];exact G.sl⟩
 .obtain⟨w,hw,rfl⟩:=mw v hv;have h:=G.wr w hw;rw[hn];refine⟨⟨on _ h.1.1,on _ h.1.2⟩,?_⟩;unfold xb;cases sw
  .exact h.2
  .exact⟨h.2.2,h.2.1⟩
 .rw[hn] at hj;obtain⟨p,hp,rfl⟩:=tm j hj;obtain⟨w,hw,rfl⟩:=G.way p hp;exact⟨_,w1.mem_iff.mp (Ai.mpr ⟨w,hw,rfl⟩),rfl⟩
 .obtain⟨s,hs,rfl⟩:=ms v hv;have h:=G.sr s hs;refine⟨by rw[hn];exact on _ h.1,?_,h.2.2⟩;show GB.getD (o s.p) false=true;rw[ho _ h.1];exact h.2.1
def Gf.iso (G:Gf os ws ss) {o:Nat->Nat}{sw:Bool}(on:∀ p<os.length,o p<os.length) (inj:∀ p<os.length,∀ q<os.length,o p=o q->p=q) (tm:∀ j<os.length,∃ p<os.length,o p=j) {GB:List Bool}(hn:GB.length=os.length)
  (ho:∀ p<os.length,GB.getD (o p) false=os.getD p false) {Gj:List Wy}{GI:List Sl}(w1:(ws.map (xb o sw)).Perm Gj) (s1:(ss.map (xC o sw)).Perm GI) (G':Gf GB Gj GI) {A B A' B':Int}(hA:A'=if sw=true then B else A) (hB:B'=if sw=true then A else B):
  xw ⟨A,B,os,ws,ss⟩ ⟨A',B',GB,Gj,GI⟩ o sw where
 n:=hn
 A:=hA
 B:=hB
 on:=on
 inj:=inj
 tm:=tm
 os:=ho
 w1:=λ w hw=>w1.mem_iff.mp (Ai.mpr ⟨w,hw,rfl⟩)
 w2:=λ v hv=>by
  obtain⟨w,hw,rfl⟩:=Ai.mp (w1.mem_iff.mpr hv);exact⟨w,hw,rfl⟩
 st:=λ p hp=>by
  have GK:p<os.length:=hp;cases h:(zw.mk A B os ws ss).Fp p with
  | some s=>
   obtain⟨h1,h2⟩:=(mx A B os ws G.sp p s).mp h;exact (mx A' B' GB Gj G'.sp (o p) (xC o sw s)).mpr ⟨s1.mem_iff.mp (Ai.mpr ⟨s,h1,rfl⟩),by rw[<- h2];rfl⟩
  | none=>
   cases h':(zw.mk A' B' GB Gj GI).Fp (o p) with
   | none=>rfl
   | some v=>
    obtain⟨h1,h2⟩:=(mx A' B' GB Gj G'.sp (o p) v).mp h';obtain⟨s,hs,rfl⟩:=Ai.mp (s1.mem_iff.mpr h1);have e:=inj _ (G.sr s hs).1 _ GK h2;have:=(mx A B os ws G.sp p s).mpr ⟨hs,e⟩;rw[h] at this;cases this
end
structure Good (F:zw):Prop where
 g:Gf F.os F.ws F.ss
 a:0<=F.A/\F.A<=5
 b:0<=F.B/\F.B<=5
def Good.ok {F:zw}(h:Good F):F.Ok:=
 ⟨h.a.1,by have:=h.a;lia,h.b.1,by have:=h.b;lia,h.g.n1,h.g.n8,λ w hw=>(h.g.wr w hw).1,by have:=h.g.wl;lia,λ s hs=>⟨(h.g.sr s hs).2.2.1.1,(h.g.sr s hs).2.2.2.1⟩,
  .inr (by have:=h.a;have:=h.b;exact DU (Int.mul_le_mul (c:=6) (by lia) (by lia:_<=(6:Int)) (by lia) (by lia)) (by decide)),by have:=h.g.sl;lia⟩
def La {F:zw}{pre:List (List Bd)}{lst:List Bd}(hr:vc [zp F]=some (.lst ((pre++[lst]).map rT))):t_ [zp F]=some (rT lst):=by
 have BP:L2.zL ((pre++[lst]).map rT) (-1)=some (rT lst):=by
  rw[Bo];exact kl
 unfold t_ Yw;generalize (pre++[lst]).map rT=L,vc=f1,zp F=fl at *;simp[hr,BP]
structure Rd (F:zw) (m:Nat):Prop where
 ro:vc [zp F]=some (.lst (((List.range (m+1)).map (zx F)).map rT))
 bo:t_ [zp F]=some (rT (zx F m))
 la:Last F m
 m2:m<=2000
def Good.rd {F:zw}(h:Good F):∃ m,Rd F m:=by
 obtain⟨more,hr,hn,hm,hR⟩:=MI h.ok;have n1:=h.ok.n1;have Ar:List.range F.os.length≠[]:=λ h=>by
  have h2:=congrArg List.length h;rw[Ce] at h2;rw[h2] at n1;exact absurd n1 (by decide)
 obtain⟨m,e,AX⟩:=fX h.ok h.g.way 2000 [] 0 (List.range F.os.length) _ (St.start h.ok) Ar rfl (λ j hj=>absurd hj (Nat.not_lt_zero j)) hR;have e':RN.start F::more=(List.range m).map (zx F)++[zx F m]:=by rw[e,DV,Bo];rfl
 have el:(RN.start F::more).length=m+1:=by rw[e];simp
 exact⟨m,by rw[<- e];exact hr,by rw[e'] at hr;exact La hr,AX,by simp at el;lia⟩
def Zp (b:Bd) (hb:yU b) (hl:b.length<=60):qa [bT b]=some (bT (zM true b)):=by
 have hc:lR [some (.im (bT b))]=some (.lst (((b.map λ q=>(q.2,q.1)).map yK).map zt)):=by
  have e:((b.map λ q=>(q.2,q.1)).map yK).map zt=b.map λ q=>zk (q.2,q.1):=by rw[Au,Au];rfl
  rw[e];unfold lR;refine yF zk _ b (by simp[bT]) (by lia) λ q _=>?_;simp[zk]
 have hs:wy [.lst (((b.map λ q=>(q.2,q.1)).map yK).map zt)]=some (.lst (((zM true b).map yK).map zt)):=by
  refine kY _ _ (by simp;lia) (λ r hr=>by obtain⟨x,_,rfl⟩:=Ai.mp hr;simp[yK]) ((List.reverse_perm _).map yK) ?_;have h:=fx (sw:=true) hb;unfold yU at h;refine A4.mpr (h.imp λ{p q} Cf=>?_);unfold yK;rw[HT.uD,if_neg (by lia)];simp;lia
 have hlen:(((zM true b).map yK).map zt).length<=16777216:=by simp[zM];lia
 have ht:xq [.lst (((zM true b).map yK).map zt)]=some (bT (zM true b)):=by
  have e:bT (zM true b)=.tup (((zM true b).map yK).map zt):=by unfold bT;rw[Au];rfl
  rw[e];generalize ((zM true b).map yK).map zt=L at *;simp[hlen]
 unfold qa Yi;generalize ((b.map λ q=>(q.2,q.1)).map yK).map zt=L1,((zM true b).map yK).map zt=L2,lR=cc,wy=so,xq=tu at *;simp[hc,hs,ht]
section
variable {os:List Bool}{ws:List Wy}{ss:List Sl}
def Mm (A B:Int) (hw:ws.length<=24):lQ [some (.im (zp ⟨A,B,os,ws,ss⟩)),none,none]=some (.lst ((ws.map (xb id true)).map zD)):=by
 have e:(ws.map (xb id true)).map zD=ws.map λ w=>zD (xb id true w):=by rw[Au];rfl
 rw[e];unfold lQ;refine yF zD _ ws (by simp[zp]) (by lia) λ w _=>?_;simp[zD,xb]
def Mi (A B:Int) (x:Option L5.W) (hw:ss.length<=8):lH [some (.im (zp ⟨A,B,os,ws,ss⟩)),x,none]=some (.lst ((ss.map (xC id true)).map zF)):=by
 have e:(ss.map (xC id true)).map zF=ss.map λ s=>zF (xC id true s):=by rw[Au];rfl
 rw[e];unfold lH;refine yF zF _ ss (by simp[zp]) (by lia) λ s _=>?_;obtain⟨p,pu,gv,gt⟩:=s;cases pu <;> simp[zF,xC,w6]
end
def Good.dP {F:zw}(g:Good F):∃ G,pj [zp F]=some (zp G)/\Good G/\xw F G id true:=by
 obtain⟨A,B,os,ws,ss⟩:=F;obtain⟨Gj,GI,w1,s1,G'⟩:=g.g.tr (o:=id) true (λ _ h=>h) (λ _ _ _ _ h=>h) (λ j hj=>⟨j,hj,rfl⟩) rfl (λ _ _=>rfl);refine⟨⟨B,A,os,Gj,GI⟩,?_,⟨G',g.b,g.a⟩,g.g.iso (λ _ h=>h) (λ _ _ _ _ h=>h) (λ j hj=>⟨j,hj,rfl⟩) rfl (λ _ _=>rfl) w1 s1 G' rfl rfl⟩;have hA:=g.a;have hB:=g.b;have hm:=dQ G' (A:=B) (B:=A) (by have:(0<=B/\B<=5):=hB;lia) (by have:(0<=A/\A<=5):=hA;lia) w1 s1 _ (gZ g.g.n8).1;obtain⟨k0,k1,k2,k3⟩:=ib (os:=os) (ws:=ws) (ss:=ss) A B;have h1:=Mm (os:=os) (ws:=ws) (ss:=ss) A B g.g.wl;have h2:=λ x=>Mi (os:=os) (ws:=ws) (ss:=ss) A B x g.g.sl;have kA:zi (zk (A,B)) (.int 0)=some (.int A):=rfl;have kB:zi (zk (A,B)) (.int 1)=some (.int B):=rfl;have e:zk (B,A)=.tup [.int B,.int A]:=rfl;rw[e] at hm;unfold pj Yf;generalize lQ=cc,lH=cd,qd=f1,zp ⟨A,B,os,ws,ss⟩=fl,zp ⟨B,A,os,Gj,GI⟩=gl,os.map kt=O,(ws.map (xb id true)).map zD=WL,(ss.map (xC id true)).map zF=SL,zk (A,B)=pp at *;simp only[zi] at k0 k1 k2 k3 kA kB;simp[k0,k1,k2,k3,kA,kB,h1,h2,hm]
noncomputable def yD (ord:List Nat):T:=.tup (ord.map λ k:Nat=>T.int (k:Int))
section
variable {os:List Bool}{ws:List Wy}{ss:List Sl}{ord:List Nat}
def jr {p:Nat}(h:p<ord.length):L2.zL (ord.map λ k:Nat=>T.int (k:Int)) (p:Int)=some (.int ((ord.getD p 0:Nat):Int)):=by
 refine vv ?_;rw[AE,Aw h,Ay,Aw h];rfl
abbrev oF (ord:List Nat):Nat->Nat:=λ p=>ord.getD p 0
def Mh (A B:Int) (x:Option L5.W) (hw:ws.length<=24) (hr:∀ w∈ws,w.f<ord.length/\w.t<ord.length):lF [some (.im (zp ⟨A,B,os,ws,ss⟩)),some (.im (yD ord)),x,none,none]=some (.lst ((ws.map (xb (oF ord) false)).map zD)):=by
 have e:(ws.map (xb (oF ord) false)).map zD=ws.map λ w=>zD (xb (oF ord) false w):=by rw[Au];rfl
 rw[e];unfold lF;refine yF zD _ ws (by simp[zp]) (by lia) λ w hw=>?_;have h1:=jr (hr w hw).1;have h2:=jr (hr w hw).2;simp[zD,xb,yD,h1,h2]
def Mf (A B:Int) (x y:Option L5.W) (hw:ss.length<=8) (hr:∀ s∈ss,s.p<ord.length):lD [some (.im (zp ⟨A,B,os,ws,ss⟩)),some (.im (yD ord)),x,y,none]=some (.lst ((ss.map (xC (oF ord) false)).map zF)):=by
 have e:(ss.map (xC (oF ord) false)).map zF=ss.map λ s=>zF (xC (oF ord) false s):=by rw[Au];rfl
 rw[e];unfold lD;refine yF zF _ ss (by simp[zp]) (by lia) λ s hs=>?_;have h1:=jr (hr s hs);simp[zF,xC,yD,h1]
noncomputable def u7 (os:List Bool) (ord:List Nat):List Bool:=(List.range ord.length).map λ j=>os.getD (ord.idxOf j) false
def rB (hp:ord.Perm (List.range ord.length)) {j:Nat}(hj:j<ord.length):ord.idxOf j<ord.length/\ord.getD (ord.idxOf j) 0=j:=by
 have hm:j∈ord:=hp.mem_iff.mpr (AK.mpr hj);have Ao:=CP.mpr hm;exact⟨Ao,by rw[Ay,Aw Ao];exact DY Ao⟩
def de (hp:ord.Perm (List.range ord.length)):ord.Nodup:=hp.nodup_iff.mpr Ds
def df (hp:ord.Perm (List.range ord.length)) {p q:Nat}(h1:p<ord.length) (h2:q<ord.length) (h:ord.getD p 0=ord.getD q 0):p=q:=by
 rw[Ay,Aw h1,Ay,Aw h2] at h;exact (Ee (de hp)).mp h
def mL (hp:ord.Perm (List.range ord.length)) {p:Nat}(h:p<ord.length):ord.getD p 0<ord.length:=by
 have:ord.getD p 0∈ord:=by rw[Ay,Aw h];exact Cc h
 exact AK.mp (hp.mem_iff.mp this)
def dg (hp:ord.Perm (List.range ord.length)) {p:Nat}(h:p<ord.length):ord.idxOf (ord.getD p 0)=p:=
 df hp (rB hp (mL hp h)).1 h (rB hp (mL hp h)).2
def Xv (hp:ord.Perm (List.range ord.length)) (hn:os.length=ord.length) (h8:ord.length<=8):
  qj [yD ord,.tup (os.map kt)]=some (.lst ((List.range ord.length).map λ j:Nat=>T.tup [.int (j:Int),kt (os.getD (ord.idxOf j) false)])):=by
 have hi:xV (ord.map λ k:Nat=>T.int (k:Int))=some (ord.map λ k:Nat=>(k:Int)):=by
  have:(ord.map λ k:Nat=>T.int (k:Int))=(ord.map λ k:Nat=>(k:Int)).map T.int:=by rw[Au];rfl
  rw[this];exact ox _
 have hl:(os.map kt).length=(ord.map λ k:Nat=>(k:Int)).length:=by simp[hn]
 have nd:(ord.map λ k:Nat=>(k:Int)).Nodup:=A4.mpr ((de hp).imp λ h e=>h (by lia));have e:qk (ord.map λ k:Nat=>(k:Int)) (os.map kt)=(List.range ord.length).map λ j:Nat=>((j:Int),kt (os.getD (ord.idxOf j) false)):=by
  refine (fm hl nd ?_ ?_).symm
  .have e1:(ord.map λ k:Nat=>(k:Int)).zip (os.map kt)=ord.map λ j:Nat=>((j:Int),kt (os.getD (ord.idxOf j) false)):=by
    refine BU (by simp[hn]) λ i h1 h2=>?_;have hi:i<ord.length:=by simpa using h2
    have h3:=dg hp hi;rw[Ay,Aw hi] at h3;have h4:ord.idxOf ord[i]=i:=h3;simp[h4,show i<os.length by lia]
   rw[e1];exact hp.symm.map _
  .refine A4.mpr (List.pairwise_lt_range.imp λ h=>?_);show (_:Int)<=_;lia
 unfold yD qj;simp only[fO,Bf,hi];rw[if_pos ⟨hl,by simp;lia,nd⟩,e,Au];rfl
def Ml (A B:Int) (hp:ord.Perm (List.range ord.length)) (hn:os.length=ord.length) (h8:ord.length<=8):lN [some (.im (zp ⟨A,B,os,ws,ss⟩)),some (.im (yD ord)),none,none,none]=some (.lst ((u7 os ord).map kt)):=by
 have e:(u7 os ord).map kt=(List.range ord.length).map λ j=>kt (os.getD (ord.idxOf j) false):=by unfold u7;rw[Au];rfl
 have hz:=Xv hp hn h8;obtain⟨_,k1,_,_⟩:=ib (os:=os) (ws:=ws) (ss:=ss) A B;rw[e];unfold lN;refine yF (λ j:Nat=>T.tup [.int (j:Int),kt (os.getD (ord.idxOf j) false)]) _ (List.range ord.length) ?_ (by simp;lia) λ j _=>?_
 .generalize zp ⟨A,B,os,ws,ss⟩=fl,yD ord=oo,os.map kt=O,((List.range ord.length).map λ j:Nat=>T.tup [.int (j:Int),kt (os.getD (ord.idxOf j) false)])=L at *;generalize qj=sz at *;simp only[zi] at k1;simp[k1,hz]
 .simp
end
def Good.fZ {F:zw}(g:Good F) {ord:List Nat}(hp:ord.Perm (List.range ord.length)) (hn:F.os.length=ord.length):∃ G,pd [zp F,yD ord]=some (zp G)/\Good G/\xw F G (oF ord) false:=by
 obtain⟨A,B,os,ws,ss⟩:=F;have G2:os.length=ord.length:=hn;have h8:ord.length<=8:=by rw[<- G2];exact g.g.n8
 have on:∀ p<os.length,oF ord p<os.length:=λ p h=>by rw[G2] at h ⊢;exact mL hp h
 have inj:∀ p<os.length,∀ q<os.length,oF ord p=oF ord q->p=q:=λ p h1 q h2 e=>by rw[G2] at h1 h2;exact df hp h1 h2 e
 have tm:∀ j<os.length,∃ p<os.length,oF ord p=j:=λ j h=>by rw[G2] at h ⊢;exact⟨_,rB hp h⟩
 have hl:(u7 os ord).length=os.length:=by unfold u7;simp[G2]
 have ho:∀ p<os.length,(u7 os ord).getD (oF ord p) false=os.getD p false:=λ p h=>by
  rw[G2] at h;unfold u7;rw[qK _ _ _ _ (mL hp h),dg hp h]
 obtain⟨Gj,GI,w1,s1,G'⟩:=g.g.tr (o:=oF ord) false on inj tm hl ho;refine⟨⟨A,B,u7 os ord,Gj,GI⟩,?_,⟨G',g.a,g.b⟩,g.g.iso on inj tm hl ho w1 s1 G' rfl rfl⟩;have hA:0<=A/\A<=5:=g.a;have hB:0<=B/\B<=5:=g.b;have hm:=dQ G' (A:=A) (B:=B) (by lia) (by lia) w1 s1 _ (gZ G'.n8).2;obtain⟨k0,k1,k2,k3⟩:=ib (os:=os) (ws:=ws) (ss:=ss) A B;have h1:=Ml (os:=os) (ws:=ws) (ss:=ss) A B hp G2 h8;have h2:=λ x=>Mh (os:=os) (ws:=ws) (ss:=ss) (ord:=ord) A B x g.g.wl (λ w hw=>by rw[<- G2];exact (g.g.wr w hw).1);have h3:=λ x y=>Mf (os:=os) (ws:=ws) (ss:=ss) (ord:=ord) A B x y g.g.sl (λ s hs=>by rw[<- G2];exact (g.g.sr s hs).1);unfold pd Ya;generalize lN=cc,lF=cd,lD=ce,qd=f1,zp ⟨A,B,os,ws,ss⟩=fl,zp ⟨A,B,u7 os ord,Gj,GI⟩=gl,(u7 os ord).map kt=O,(ws.map (xb (oF ord) false)).map zD=WL,(ss.map (xC (oF ord) false)).map zF=SL,zk (A,B)=pp,yD ord=oo at *;simp only[zi] at k0;simp[k0,h1,h2,h3,hm]
noncomputable def zX (l:List Nat):List T:=l.map λ k:Nat=>T.int (k:Int)
def ne_nil (l:List Nat):zR true (.lst (zX l)) (.lst [])=some (.bl (!l.isEmpty)):=by
 have h1:dep (.lst (zX l))<=60:=by
  have:=sU (λ k:Nat=>T.int (k:Int)) 10 (λ _=>by simp[dep]) l;simp only[dep,zX];lia
 have h2:dep (.lst [])<=60:=by simp[dep,xu]
 unfold zR;rw[if_pos ⟨h1,h2⟩];cases l with
 | nil=>simp[zX,eqT,xg]
 | cons a l=>simp[zX,eqT,xg]
theorem b8 {α β:Type}(f:α->β):∀ (l:List α) (i:Nat),(l.map f).eraseIdx i=(l.eraseIdx i).map f
 | [],_=>rfl
 | _::_,0=>rfl
 | a::l,i+1=>by simp[b8 f l i]
theorem da (mt:T):∀ (k:Nat) (left ord:List Nat) (x:Int),left.length=k->left.length+ord.length<=100->∀ m,k<m->∃ x' Hy,Hy.Perm (ord++left)/\
  xr [] (yx (zb (zR true) (zc 2) (xH zf))) qT m [some (.im (.int x)),some (.im mt),some (.own (.lst (zX left))),some (.own (.lst (zX ord)))]=some (.nx [some (.im (.int x')),some (.im mt),some (.own (.lst [])),some (.own (.lst (zX Hy)))])
 | k,left,ord,x,hk,hb,0,hm=>by lia
 | 0,left,ord,x,hk,hb,m+1,hm=>by
  cases left with
  | cons _ _=>simp at hk
  | nil=>
   have h:=ne_nil [];refine⟨x,ord,by simp,?_⟩;unfold xr;have e:zX []=[]:=rfl;rw[e] at h ⊢;simp only[yw];generalize zX ord=O at *;simp[h]
 | k+1,left,ord,x,hk,hb,m+1,hm=>by
  have hl:(0:Int)<left.length:=by lia
  have Ar:left.isEmpty=false:=by cases left <;> simp_all
  have h:=ne_nil left;rw[Ar] at h;have g0:=Bx x (Int.ne_of_gt hl);have g1:=BN x hl;obtain⟨i,hi⟩:∃ i:Nat,x%(left.length:Int)=(i:Int):=⟨(x%(left.length:Int)).toNat,by rw[CI g0]⟩
  have Cy:i<left.length:=by lia
  obtain⟨x',Hy,p,e⟩:=da mt k (left.eraseIdx i) (ord++[left[i]]) (x/9) (by rw[D1 Cy];lia) (by rw[D1 Cy];simp;lia) m (by lia);refine⟨x',Hy,p.trans ?_,?_⟩
  .rw[DA];refine List.Perm.append_left ord ?_;have:=ST.ik left i left[i] (Aw Cy);simpa using this.symm
  .have Hu:qT [some (.im (.int x)),some (.im mt),some (.own (.lst (zX left))),some (.own (.lst (zX ord)))]=some (.nx [some (.im (.int (x/9))),some (.im mt),some (.own (.lst (zX (left.eraseIdx i)))),some (.own (.lst (zX (ord++[left[i]]))))]):=by
    have a1:(zX left).eraseIdx i=zX (left.eraseIdx i):=b8 _ _ _;have a2:zX (ord++[left[i]])=zX ord++[(zX left).getD i .zm]:=by
     unfold zX;rw[Bo,Ay,AE,Aw Cy];rfl
    have a3:(zX left).length=left.length:=by unfold zX;simp
    have a4:(zX ord).length<16777216:=by unfold zX;simp;lia
    have a5:i<(zX left).length:=by lia
    have a6:(zX left).length<4611686018427387904:=by lia
    have a7:x%((zX left).length:Int)=(i:Int):=by rw[a3];exact hi
    have a8:(0:Int)<(zX left).length:=by lia
    rw[a2,<- a1];clear e p a1 a2 h hb;generalize zX left=L,zX ord=O at *;unfold qT;have a9:0<L.length:=by lia
    have a10:(i:Int)≥0:=by lia
    simp[a4,a5,a6,a7,a9,sM,xG]
   unfold xr;simp only[yw];generalize qT=bb,zX left=L,zX ord=O at *;simp[h,Hu,e]
def MN (x:Int) (n:Nat) (h:n<=8):∃ ord:List Nat,ord.Perm (List.range ord.length)/\ord.length=n/\nH [.int x,.int (n:Int)]=some (yD ord):=by
 obtain⟨x',ord,p,e⟩:=da (.int (n:Int)) n (List.range n) [] x (by simp) (by simp;lia) 1000000 (by lia);have hl:ord.length=n:=by rw[p.length_eq];simp
 refine⟨ord,by rw[hl];simpa using p,hl,?_⟩;have hr:sI [.int (n:Int)]=some (.lst (zX (List.range n))):=by
  have:(0:Int)<=n/\(n:Int)<=16777216:=by lia
  show (if (0:Int)<=(n:Int)/\(n:Int)<=16777216 then some (T.lst (rangeT 0 (n:Int).toNat)) else none)=_;rw[if_pos this];simp[rangeT,zX]
 have ht:xq [.lst (zX ord)]=some (yD ord):=by
  have:(zX ord).length<=16777216:=by unfold zX;simp;lia
  have e:yD ord=.tup (zX ord):=rfl;rw[e];generalize zX ord=O at *;simp[this]
 have e0:zX []=[]:=rfl;rw[e0] at e;unfold nH Yl rn;generalize qT=bb,sI=lr,xq=tu,zX (List.range n)=L,zX ord=O,yD ord=OO at *;generalize xr [] (yx (zb (zR true) (zc 2) (xH zf))) bb 1000000=lo at *;simp[hr,e,ht]
def Nr (b:Bd):dep (bT b)<=3:=by
 have:=sU zk 1 bQ b;show dep (.tup (b.map zk))<=3;simp only[dep];lia
def bO (r:List Bd):dep (rT r)<=5:=by
 have:=sU bT 3 Nr r;show dep (.lst (r.map bT))<=5;simp only[dep];lia
def xc (rs:List (List Bd)):T:=.lst (rs.map rT)
def bN (rs:List (List Bd)):dep (xc rs)<=7:=by
 have:=sU rT 5 bO rs;show dep (.lst (rs.map rT))<=7;simp only[dep];lia
def il (neg:Bool) {t:T}(h:dep t<=60):zR neg t t=some (.bl (!neg)):=by
 unfold zR;rw[if_pos ⟨h,h⟩,iq];cases neg <;> rfl
def Mk (r:List Bd) (h:∀ b∈r,yU b/\b.length<=60) (hl:r.length<=8):lS [some (.im (rT r))]=some (rT (r.map (zM true))):=by
 have e:rT (r.map (zM true))=.lst (r.map λ b=>bT (zM true b)):=by unfold rT;rw[Au];rfl
 rw[e];unfold lS;refine yF bT _ r (by simp[rT]) (by lia) λ b hb=>?_;have:=Zp b (h b hb).1 (h b hb).2;generalize qa=f1,bT (zM true b)=y,bT b=x at *;simp[this]
def Mg (a b d e f:Option L5.W) (rs:List (List Bd)) (h:∀ r∈rs,(∀ b∈r,yU b/\b.length<=60)/\r.length<=8) (hl:rs.length<=5000):lI [a,b,some (.im (xc rs)),d,e,f]=some (xc (rs.map λ r=>r.map (zM true))):=by
 have e0:xc (rs.map λ r=>r.map (zM true))=.lst (rs.map λ r=>rT (r.map (zM true))):=by unfold xc;rw[Au];rfl
 rw[e0];unfold lI;refine yF rT _ rs (by simp[xc]) (by lia) λ r hr=>?_;have:=Mk r (h r hr).1 (h r hr).2;generalize lS=cc,rT (r.map (zM true))=y,rT r=x at *;simp[this]
theorem cW (j:Nat):∀ l:List Nat,(l.map λ k:Nat=>(k:Int)).idxOf (j:Int)=l.idxOf j
 | []=>rfl
 | a::l=>by
  rw[Ax,List.idxOf_cons,List.idxOf_cons,cW j l];have:((a:Int) == (j:Int))=(a == j):=by
   rw[Bs];simp;lia
  rw[this]
def Zu {ord:List Nat}(hp:ord.Perm (List.range ord.length)) {j:Nat}(hj:j<ord.length):rJ (yD ord) (.int (j:Int))=some (.int ((ord.idxOf j:Nat):Int)):=by
 have hi:xV (ord.map λ k:Nat=>T.int (k:Int))=some (ord.map λ k:Nat=>(k:Int)):=by
  have:(ord.map λ k:Nat=>T.int (k:Int))=(ord.map λ k:Nat=>(k:Int)).map T.int:=by rw[Au];rfl
  rw[this];exact ox _
 have hm:(j:Int)∈ord.map λ k:Nat=>(k:Int):=Ai.mpr ⟨j,hp.mem_iff.mpr (AK.mpr hj),rfl⟩;show ((xV (ord.map λ k:Nat=>T.int (k:Int))).bind λ ns=>if (j:Int)∈ns then some (T.int (ns.idxOf (j:Int):Nat)) else none)=_;rw[hi,Bf,if_pos hm,cW]
def fY {ord:List Nat}(h8:ord.length<=8):(yM [yD ord]=some (.int (ord.length:Int)))/\wO [.int (ord.length:Int)]=some ((List.range ord.length).map λ k:Nat=>T.int (0+(k:Int))):=by
 constructor
 .simp[yD]
 .have hR:inR (ord.length:Int)=true:=by unfold inR;simp;lia
  show (if inR (ord.length:Int)=true then some (rangeT 0 (ord.length:Int).toNat) else none)=_;rw[if_pos hR];simp[rangeT]
noncomputable def moved (ord:List Nat) (r:List Bd):List Bd:=(List.range ord.length).map λ j=>r.getD (ord.idxOf j) []
def Me {ord:List Nat}(hp:ord.Perm (List.range ord.length)) (h8:ord.length<=8) (r:List Bd) (hn:r.length=ord.length):lE [some (.im (rT r)),some (.im (yD ord))]=some (rT (moved ord r)):=by
 have e:rT (moved ord r)=.lst ((List.range ord.length).map λ j=>bT (r.getD (ord.idxOf j) [])):=by unfold rT moved;rw[Au];rfl
 obtain⟨h1,h2⟩:=fY h8;rw[e];unfold lE;refine yF (λ k:Nat=>T.int (0+(k:Int))) _ (List.range ord.length) ?_ (by simp;lia) λ j hj=>?_
 .generalize yD ord=oo,rT r=x,yM=le,wO=ra at *;simp[h1,h2]
 .have Gp:=AK.mp hj;have h3:=Zu hp Gp;have h4:=mY r (ord.idxOf j) (by rw[hn];exact (rB hp Gp).1);generalize yD ord=oo,rT r=x,bT (r.getD (ord.idxOf j) [])=y,rJ=iu,zi=ix at *;simp[h3,h4]
def Md {ord:List Nat}(hp:ord.Perm (List.range ord.length)) (h8:ord.length<=8) (a d e f:Option L5.W) (rs:List (List Bd)) (h:∀ r∈rs,r.length=ord.length) (hl:rs.length<=5000):
  lC [a,some (.im (yD ord)),some (.im (xc rs)),d,e,f]=some (xc (rs.map (moved ord))):=by
 have e0:xc (rs.map (moved ord))=.lst (rs.map λ r=>rT (moved ord r)):=by unfold xc;rw[Au];rfl
 rw[e0];unfold lC;refine yF rT _ rs (by simp[xc]) (by lia) λ r hr=>?_;have:=Me hp h8 r (h r hr);generalize lE=cc,rT (moved ord r)=y,rT r=x,yD ord=oo at *;simp[this]
def Mc {ord:List Nat}(hp:ord.Perm (List.range ord.length)) (h8:ord.length<=8) (a d e f:Option L5.W) (pre:List (List Bd)) (r:List Bd) (hn:r.length=ord.length) (hr:∀ b∈r,yU b/\b.length<=60):
  lB [a,some (.im (yD ord)),some (.im (xc (pre++[r]))),d,e,f]=some (rT ((moved ord r).map (zM true))):=by
 have e0:rT ((moved ord r).map (zM true))=.lst ((List.range ord.length).map λ j=>bT (zM true (r.getD (ord.idxOf j) []))):=by unfold rT moved;rw[Au,Au];rfl
 have BP:zi (xc (pre++[r])) (.int (-1))=some (rT r):=by
  show L2.zL ((pre++[r]).map rT) (-1)=_;rw[Bo];exact kl _ _
 obtain⟨h1,h2⟩:=fY h8;rw[e0];unfold lB;refine yF (λ k:Nat=>T.int (0+(k:Int))) _ (List.range ord.length) ?_ (by simp;lia) λ j hj=>?_
 .generalize yD ord=oo,xc (pre++[r])=x,yM=le,wO=ra at *;simp[h1,h2]
 .have Gp:=AK.mp hj;have hi:=(rB hp Gp).1;have h3:=Zu hp Gp;have h4:=mY r (ord.idxOf j) (by rw[hn];exact hi);have hm:r.getD (ord.idxOf j) []∈r:=by
   rw[Ay,Aw (by rw[hn];exact hi)];exact Cc _
  have h5:=Zp _ (hr _ hm).1 (hr _ hm).2;generalize yD ord=oo,xc (pre++[r])=rr,bT (zM true (r.getD (ord.idxOf j) []))=z,bT (r.getD (ord.idxOf j) [])=y,rT r=x,rJ=iu,zi=ix,qa=f1 at *;simp[h3,h4,BP,h5]
def Good.row {F:zw}(g:Good F) (k:Nat):(∀ b∈zx F k,yU b/\b.length<=60)/\(zx F k).length<=8:=by
 refine⟨λ b hb=>?_,by rw[x9];exact g.g.n8⟩;obtain⟨i,hi,rfl⟩:=BI.mp hb;have:=cA g.ok k i (by rw[x9] at hi;exact hi);rw[Ay,Aw hi] at this;have HF:Gd F.A F.B (zx F k)[i]:=this;refine⟨HF.qD,?_⟩;have h1:=HF.rE g.a.1;have:=g.a;lia
def j6 {F G:zw}(gF:Good F) (gG:Good G) (I:xw F G id true) (k:Nat):zx G k=(zx F k).map (zM true):=by
 refine lx (by rw[AB,x9,x9,I.n]) λ i hi=>?_;rw[x9,I.n] at hi;have:=I.zx gF.ok gG.ok k i hi;have h2:i<(zx F k).length:=by rw[x9];exact hi
 rw[show (id i)=i from rfl] at this;rw[this,Ay,Ay,AE,Aw h2];rfl
def je {F G:zw}{ord:List Nat}(gF:Good F) (gG:Good G) (hp:ord.Perm (List.range ord.length)) (hn:F.os.length=ord.length) (I:xw F G (oF ord) false) (k:Nat):zx G k=moved ord (zx F k):=by
 refine lx (by unfold moved;rw[x9,I.n,hn];simp) λ j hj=>?_;rw[x9,I.n,hn] at hj;obtain⟨h1,h2⟩:=rB hp hj;have:=I.zx gF.ok gG.ok k (ord.idxOf j) (by rw[hn];exact h1);have e:oF ord (ord.idxOf j)=j:=h2;rw[e] at this;unfold moved;rw[qK _ _ _ _ hj,this];rfl
def QK {ord:List Nat}(hp:ord.Perm (List.range ord.length)) (r:List Bd) (hn:r.length=ord.length):moved ord (r.map (zM true))=(moved ord r).map (zM true):=by
 unfold moved;rw[Au];refine Cg λ j hj=>?_;have h1:=(rB hp (AK.mp hj)).1;show (r.map (zM true)).getD (ord.idxOf j) []=zM true (r.getD (ord.idxOf j) []);rw[Ay,Ay,AE,Aw (by rw[hn];exact h1)];rfl
def ML {F:zw}(g:Good F) {ord:List Nat}(hp:ord.Perm (List.range ord.length)) (hn:F.os.length=ord.length):nG [zp F,yD ord]=some (.bl true):=by
 have h8:ord.length<=8:=by rw[<- hn];exact g.g.n8
 obtain⟨M,m1,gM,iM⟩:=g.dP;obtain⟨R,r1,gR,iR⟩:=g.fZ hp hn;have hnR:R.os.length=ord.length:=by rw[iR.n,hn]
 have hnM:M.os.length=ord.length:=by rw[iM.n,hn]
 obtain⟨RM,rm1,Kj,JP⟩:=gR.dP;obtain⟨MR,mr1,Kk,JQ⟩:=gM.fZ hp hnM;obtain⟨m,dF⟩:=g.rd;obtain⟨m',dM⟩:=gM.rd;obtain⟨m2,dR⟩:=gR.rd;obtain⟨m3,Ks⟩:=Kj.rd;obtain⟨m4,Kt⟩:=Kk.rd;cases iM.last g.ok gM.ok dF.la dM.la;cases iR.last g.ok gR.ok dF.la dR.la;cases JP.last gR.ok Kj.ok dR.la Ks.la;cases JQ.last gM.ok Kk.ok dM.la Kt.la;let rs:=(List.range (m+1)).map (zx F)
 have ers:rs=(List.range m).map (zx F)++[zx F m]:=by show (List.range (m+1)).map (zx F)=_;rw[DV,Bo];rfl
 have DJ:∀ r∈rs,(∀ b∈r,yU b/\b.length<=60)/\r.length<=8:=λ r hr=>by
  obtain⟨k,_,rfl⟩:=Ai.mp hr;exact g.row k
 have hrn:∀ r∈rs,r.length=ord.length:=λ r hr=>by
  obtain⟨k,_,rfl⟩:=Ai.mp hr;rw[x9,hn]
 have DL:rs.length<=5000:=by have:=dF.m2;show ((List.range (m+1)).map (zx F)).length<=5000;simp;lia
 have q1:vc [zp F]=some (xc rs):=dF.ro;have q2:vc [zp M]=some (xc (rs.map λ r=>r.map (zM true))):=by
  rw[dM.ro];show _=some (T.lst (List.map rT (((List.range (m+1)).map (zx F)).map λ r=>r.map (zM true))));rw[Au (f:=zx F),show (zx M)=((λ r=>r.map (zM true)) ∘ zx F) from funext λ k=>j6 g gM iM k]
 have q3:vc [zp R]=some (xc (rs.map (moved ord))):=by
  rw[dR.ro];show _=some (T.lst (List.map rT (((List.range (m+1)).map (zx F)).map (moved ord))));rw[Au (f:=zx F),show (zx R)=(moved ord ∘ zx F) from funext λ k=>je g gR hp hn iR k]
 have lm:(zx F m).length=ord.length:=by rw[x9,hn]
 have q4:t_ [zp RM]=some (rT ((moved ord (zx F m)).map (zM true))):=by rw[Ks.bo,j6 gR Kj JP,je g gR hp hn iR]
 have q5:t_ [zp MR]=some (rT ((moved ord (zx F m)).map (zM true))):=by rw[Kt.bo,je gM Kk hp hnM JQ,j6 g gM iM,QK hp _ lm]
 have k2:=λ a b d e f=>Mg a b d e f rs DJ DL;have k4:=λ a d e f=>Md hp h8 a d e f rs hrn DL;have k5:=λ a d e f=>Mc hp h8 a d e f ((List.range m).map (zx F)) (zx F m) lm (g.row m).1;rw[<- ers] at k5;have e2:=il true (t:=xc (rs.map λ r=>r.map (zM true))) (by have:=bN (rs.map λ r=>r.map (zM true));lia);have e4:=il true (t:=xc (rs.map (moved ord))) (by have:=bN (rs.map (moved ord));lia);have e5:=λ neg=>il neg (t:=rT ((moved ord (zx F m)).map (zM true))) (by have:=bO ((moved ord (zx F m)).map (zM true));lia)
 clear_value rs
 clear ers dF dM dR Ks Kt DJ hrn DL iM iR JP JQ;unfold nG Yk;generalize lI=cb,lC=cd,lB=ce,vc=f1,pj=f2,pd=f3,t_=f4,zp F=a1,zp M=a2,zp R=a3 at *;generalize zp RM=a4 at *;generalize zp MR=a5,yD ord=oo,xc (rs.map λ r=>r.map (zM true))=b1,xc (rs.map (moved ord))=b2,xc rs=b3,rT ((moved ord (zx F m)).map (zM true))=b4,zR=es at *;simp[q1,m1,q2,k2,e2,r1,q3,k4,e4,rm1,q4,k5,e5,mr1,q5]
def gj (ns:List Int) (k:Nat):∃ v,uZ [wN ns,.int (k:Int)]=some (.int v):=by
 unfold uZ Yn wN;by_cases h:k<ns.length
 .have e:L2.zL (ns.map T.int) (k:Int)=some (.int (ns.getD k 0)):=vv (by simp[h]);exact⟨_,by simp[h,e,vY];rfl⟩
 .exact⟨0,by simp[h,vY]⟩
def MH (v:Int):∃ most zB:Nat,nF [.int v]=some (.tup [.int (most:Int),.int (zB:Int)])/\(1<=most/\most<=8)/\zB<=5:=by
 obtain⟨m,hm,m10⟩:∃ m:Nat,v%10=(m:Int)/\m<10:=⟨(v%10).toNat,by lia,by lia⟩
 have hx:∀ (L:List T),L.length=10->zO ["_law_number"] 1 (retS (zb zi (λ _=>some (.lst L)) (zb ym (zc 0) (cI 10)))) [.int v]=L[m]?:=λ L hL=>by
  have:L2.zL L (m:Int)=L[m]?:=by
   rw[Aw (by lia)];exact vv (Aw (by lia))
  simp[hm,this];rw[Aw (by lia)];rfl
 have h3:∀ (a b:Int),(T.tup [.int a,.int b])=zk (a,b):=λ _ _=>rfl;have hF:nF [.int v]=([(3,2),(2,3),(4,1),(1,4),(3,2),(2,3),(8,1),(3,2),(2,3),(4,1)].map zk)[m]?:=hx ([(3,2),(2,3),(4,1),(1,4),(3,2),(2,3),(8,1),(3,2),(2,3),(4,1)].map zk) rfl;rw[hF]
 match m,m10 with
 | 0,_=>exact⟨3,2,rfl,by decide,by decide⟩
 | 1,_=>exact⟨2,3,rfl,by decide,by decide⟩
 | 2,_=>exact⟨4,1,rfl,by decide,by decide⟩
 | 3,_=>exact⟨1,4,rfl,by decide,by decide⟩
 | 4,_=>exact⟨3,2,rfl,by decide,by decide⟩
 | 5,_=>exact⟨2,3,rfl,by decide,by decide⟩
 | 6,_=>exact⟨8,1,rfl,by decide,by decide⟩
 | 7,_=>exact⟨3,2,rfl,by decide,by decide⟩
 | 8,_=>exact⟨2,3,rfl,by decide,by decide⟩
 | 9,_=>exact⟨4,1,rfl,by decide,by decide⟩
def Pf (ns:List Int) {most zB:Nat}(hm:1<=most/\most<=8) (hb:zB<=5) (k:Nat):∃ J',turn (zu 3) nq (.int (k:Int)) [some (.im (wN ns)),some (.im (.int (most:Int))),some (.im (.int (zB:Int))),none,none]=some (.nx J')/\
  yw [3,4] J'=[some (.im (wN ns)),some (.im (.int (most:Int))),some (.im (.int (zB:Int))),none,none]:=by
 obtain⟨c,hc⟩:=gj ns k;obtain⟨d,hd⟩:=gj ns (k+1);have Hk:uZ [wN ns,.int ((k:Int)+1)]=some (.int d):=hd;obtain⟨F,hF,G,FA,FB⟩:=MS c most zB hm.1 hm.2 (by lia);have g:Good F:=⟨G,by lia,by lia⟩
 obtain⟨ord,p,hl,ho⟩:=MN d F.os.length G.n8;have hr:=ML g p hl.symm;have hx:zi (zp F) (.int 1)=some (.tup (F.os.map kt)):=rfl;have hn:yM [.tup (F.os.map kt)]=some (.int (F.os.length:Int)):=by simp
 have ha:yh (.int (k:Int)) (.int 1)=some (.int ((k:Int)+1)):=rfl;refine⟨[some (.im (wN ns)),some (.im (.int (most:Int))),some (.im (.int (zB:Int))),some (.im (.int (k:Int))),some (.im (zp F))],?_,rfl⟩;unfold turn nq;generalize uZ=f1,pq=f2,nH=f3,nG=f4,zp F=fl,F.os.map kt=O,yD ord=oo,wN ns=sc,yM=ll,zi=ix,yh=aa at *;simp[hc,Hk,hF,hx,hn,ha,ho,hr]
def Pg (ns:List Int) (Cu:ns.length<=63):pz [wN ns]=some (.bl true):=by
 obtain⟨v,hv⟩:=gj ns 0;have Hf:uZ [wN ns,.int 0]=some (.int v):=hv;obtain⟨most,zB,hz,hm,hb⟩:=MH v;obtain⟨n,hn⟩:∃ n:Nat,pO [.int 1,.int (if (if (60:Int)<ns.length then 60 else (ns.length:Int))>2 then (if (60:Int)<ns.length then 60 else (ns.length:Int)) else 2),.int 20]=some ((List.range n).map λ(k:Nat)=>T.int (1+(k:Int)*20)):=by
  generalize hz:(if (if (60:Int)<ns.length then 60 else (ns.length:Int))>2 then (if (60:Int)<ns.length then 60 else (ns.length:Int)) else 2)=z;have GZ:0<=z/\z<=60:=by rw[<- hz];split <;> split <;> lia
  refine⟨vX 1 z 20,?_⟩;show (if (sL 1=true/\sL z=true)/\sL 20=true/\(0:Int)<20 then some (mE 1 20 (vX 1 z 20)) else none)=_;rw[if_pos ⟨⟨by decide,by simp[sL];lia⟩,by decide,by decide⟩];rfl
 obtain⟨J',IT,e⟩:=vZ (is:=[3,4]) (g:=zu 3) (b:=nq) (λ k:Nat=>T.int (1+(k:Int)*20))
  (λ _ J=>J=[some (.im (wN ns)),some (.im (.int (most:Int))),some (.im (.int (zB:Int))),none,none]) (List.range n)
  [some (.im (wN ns)),some (.im (.int (most:Int))),some (.im (.int (zB:Int))),none,none] rfl (by
   rintro _ k _ _ J rfl;obtain⟨J',r1,r2⟩:=Pf ns hm hb (1+k*20);have e:((1+k*20:Nat):Int)=1+(k:Int)*20:=by lia
   rw[e] at r1;exact⟨J',r1,r2⟩)
 subst e;have hlen:yM [wN ns]=some (.int (ns.length:Int)):=by simp[wN]
 unfold pz Yp;generalize nq=bb,uZ=f1,nF=f2,(List.range n).map (λ(k:Nat)=>T.int (1+(k:Int)*20))=RR,wN ns=sc,yM=ll,pO=rr at *;simp[Hf,hz,hlen,hn,IT]
end zW
namespace PySem.W.Fast
def te6419885773997632782:=0
local macro_rules|`(command|example:=$s:str)=>do
 let mut r:Array Lean.Syntax:=.empty
 let mut n:=0
 let mut k:=0
 for c in s.getString.toList do
  let a:=c.toNat
  n:=n*62+(if a>96 then a-61 else if a>64 then a-55 else a-48)
  k:=k+1
  if k==11 then
   let i:=Lean.mkIdent (.mkSimple s!"tw{n}")
   r:=r.push (<-`(command|def $i:ident:=0))
   n:=0
   k:=0
 return Lean.mkNullNode r
example:="AGsAz3wxgm3FAJWv4Q7AdrD5pHnfkkTnsKTD8Je9Wrri8GeHFMsixinCwOvylAbq9xKm8YYGlgkyTJQK3LZE9o8f52vXpwG3E7gHqmnMmdlALP52l4jkfd17rCcPD3ZJ4gmBFLUxnoyl5qc6CY63mzK9vPA7IbmexbRJ12H4gDetxlMw6rxCixOeelhJFC2tUEInLX45WlbwAbGMMJLMMsvqHW8eKvR9gI7AAUvGAdLUTr97hvJwemn26eUlMCAxCT4drgjF9Yi7ARJrlyuDJGeJLw9PIQ0Nl5eISb6Me3CooKRnvIp10gwTC9sv4Af9IAUaqeFFQXAwqEhRkrU3b5m49SSnYwRaIabnXvrJL0Q6jGA0WUnowHK3j57sIXwc69lo9nhSKICcEX3BPSvO6GP2xxsGrTaCtk2smk8g4EogVEVagzYIVuy5C7B2ry1Qee4HWb7Egl7cSJ0j5AJh2uhyRFbaXJ6QFWPpDvBrvdBfM2i7HdwS60LfBo4rTx25SUJWcGVVal6fPEVO3sP7b91XY7E6gR6fnaD4Ho933XH75x1DB4VhQ2mIwZtkC6JYkUtnauV5bVwLzLAEk7ELNNJifXnHA8fif0YlhBH15ZcVdGVkahmGIvKxf0Jwo6A1029I9RpTB0exmX0K4bK9Kt3u4S9Yx0u78GQTik2E02025BdD4Wj1fGviAl8YjUYIBTr52NiMc0750S2cgzycJ06jusoyVcjEI5nZ1yq6HhKb8d5bPgYIUdLKw8hJ0BAtK1L8NZmggL44JKOSTRCHwGECEEiUMmcXU6C4jsUPlFNFHZGcP6pJQH9QO0DHtqdIWOO80TiJpJBt0aY2j1ag7imCzKBJhW95X5F7NBuGNS699IIoDDIhmexnvFe0ME9hS7P43sKIhl3GHODCY44kJwPBrssRHu8TD6HhbPc9i4w0eQVCsm4gvK9xCI7K688nBFl1SpBiJVZ9RkY53FsLv2s1GuHIkGGxMls82weky5Ey6R0XmYEI1ayZheAODBBBhqaaWFEMKu1HIWaD8VJ8BBD9pe0X8C1KIwvNj1Z7hS17kGoPdCuwrtBP6hfQVoGC7LGgGa0YoRdt5GQOqgTobMRGDrJvFPtb6LH432tCzWHuI1eGJX2qt3hxG6w0YF1wiC5Hi4uILkl20PDJzfXjeq0ALCfnH5swBlhTA1Q9hVSj8I64UpTNHRlxEJDOrfnUztlii9bFPLua882vDsK9IydCaSoHH6sVeYcKw5CoC2aswZZrE7DWd9cWf7mABA42R28aQXXE2YOZJkjZj96D47wJNgQf40LpktdID1DZJFheU72h6xr5986v1sJPSf6zmIam1M7gZ9gqLlSJpeoxEEPhPqodrfP3RLHPYdtptw56wQ3rGEEjz6m2n7KbhHj8HU1A5zSSt7qJ6OnhvJWezQLN8kyHer5f004jxGaWSWcL2gov4CBu644AsHg9FxHOuE4aWivqfVLpG7Dv2aosyTvCADuRqf5PktZ6MWYeNQgQDp5BCFO8QNFyIF9ZgtGYGJGXEUtg4AvkxqPF9IaRew2FC2HGTvlbGm3wO8XNVglgDo5iGad5OVF9a161DF2L2eJarA0QU77Qd50SZ0n1ZtMSnzb4BIAeD2vAdU147CfD646sOT4Er8Pv3wSgKEYV9TEYuUF912PDEoxtsTD5XAw7B64mQ61tmagIjffQx5NzrBSRXIMO4UgrBmkJJOi553D4mg0OGn0StS4BvcOZg3ukFxxuJxmzIv29y5ugkaP1wakFqF7vh6BvXr8UfjIF98aQN8koEJhfDVQEm8eX9Sh0ZZraiPfCVQ7Q6f2GQVXO1GKL7wcvuFdAEZXKoCw8fdVKecyeej4uTh30MH6sM8Ww5KOzWEe9eGK9HtBfE4vgc7H96VqeaDlNNxDOGuZNkMqiP7Cx08XqkuSm9yIXIFxsBFuGqs2oj6gaJhCaOu0KSr6Wk6oRSSkwFE4wHMBhHYyYc4m21pMkYCPdv50SoWYIEXcvB7m68Yw1nR4F4nkRd0IfhlcGIsQG2yhCvz5JadxOvOwzWCrkX1HFLQA9JSLrowjmpxe1fUGbS7xYWjHNYnHM3Lay2HghjslhM8S6K3hnILYpsDRJZ2aj7uUow01SNFfuqQOKOEyi1Hm1aqdt9Xmdph5poClLcPSm3n74GLDYTTFHHrp1vJUsfFUbd3528oJmAfEFdY44UwOuytCjlI6JGcZ234bWy8cfd5zHeX5fJQ5tAEvutvQ6ZoqwA9T3PjBvXgouvTqVKInrkPINSBJ0KkWGpzirqiLHzv1sKJabpSJlEUWW2113MGjxsWdxtBioKITG3D6NU3c8DnPmsGM8BU2CZbeDGTAOx1EnnA7aydZ5D2k4rM22K1f0RqiliAcdlmCcqY9IngGAk7T8kQOdkBig8oo4IPTYUW35eOU7yyHXmP3BujIJFakERGPwlO1UOBsyEY1scN73eee5V0bSMvIz4k8WKVfq0iNQMCDlkUgag8tC1LOTSq4CCoaLCHnLklwL4s0faryeaWDWFJOpyUho4IS20TfSyUxcPxWJpYUt3jAPiHJdHoK5FSUkhFf4xwzoUfnm8PPF2wwmHnh9zoP3z0tltyCdzErRE1Mah5zjE0EgZkMAKqjA3d8uP8RJWxooE2Kz7l8gSBlvTZxQJ6CkoueS2vyNGCFuW3omvK34HEM7ifPJCPI3M8FooApHlI6vJhFgCyEsKwEIWbYBGWR6UJuuHqz6coEXD24vlhDoxJV7YKu9cPph8pRHi3VDyBtFpzSSrT3vlq4muvEjJyJwYBBvw63Ok5GoCyxIZ6AL6Nw9JdzVsAeSZYIVPApbzJ1Px2anCKKcHj7RLPwbbsCghEgDHj0utaOuYW8FKkm3I7cpZIwVFg8wcb6W4NlKMRrG7r4GSZYjjzR1OUKrDiFm4G0PmAnodDqqzQJY8NYhBBTdNkbIYasS4cUkquK44MZtFFKrb0az72Sz5yYMA9wx1e5qKHGIRvXZz2fIsh6tx9s8d6uiIJ4IlTCztWT89aXjPGcqJGlI5mYu5vMNXHJW2tLuaZTUI0xBz43zZuigJsq6kbLfKSrHHG3MhnbWqGCj9Cu9PTLBA0XcvgxAFF07BYnbtw184jKDmGqOh2gOFnCa2QM5953T4"
end PySem.W.Fast
namespace zW
open PySem L2 L3 L5
open PyProof.Rows hiding St
def top (i:Nat):Stmt:=PySem.Challenge.pw_purseborder_k62_whole_mirrored_and_renum.main.body.getD i (.Pass ⟨0,0,0,0⟩)
set_option maxHeartbeats 0
section
variable (P:Program)(w:World)(K:Ac)(mg:AI)(base:Heap)
abbrev gq:=FD P w K mg base "is_whole" 1 ["thing"] (zG zA tZ)
abbrev gy:=FD P w K mg base "are_rising" 1 ["things"] (zG zA sa)
abbrev ZI:=FD P w K mg base "is_owner" 1 ["thing"] (zG zA gi)
abbrev gm:=FD P w K mg base "places_of" 1 ["floor"] (zG zA r_)
abbrev ZS:=FD P w K mg base "at_or_above" 1 ["pair","other"] (zG zA nR)
abbrev nY:=FD P w K mg base "least_pairs" 1 ["pairs"] (zG zA tY)
abbrev Z2:=FD P w K mg base "pairs_ahead_of_changes" 1 ["brims","stall","pair"] (zG zA nD)
abbrev ZF:=FD P w K mg base "_law_cell_at" 1 ["_law_script","_law_k"] (zG xm uZ)
abbrev Z9:=FD P w K mg base "_law_stirred" 1 ["_law_cell","_law_count"] (zG zA pk)
abbrev ZG:=FD P w K mg base "_law_amount" 1 ["_law_number","_law_most"] (zG zA px)
abbrev ZA:=FD P w K mg base "_law_sized" 1 ["_law_number"] (zG xm nF)
abbrev Z8:=FD P w K mg base "_law_turned" 1 ["_law_border"] (zG zA qa)
abbrev ZD:=FD P w K mg base "_law_order" 1 ["_law_number","_law_many"] (zG zA nH)
abbrev gp:=FD P w K mg base "is_whole_within" 2 ["thing","least","most"] (zG zA qb)
abbrev ZV:=FD P w K mg base "are_owners" 2 ["thing"] (zG zA nV)
abbrev ZL:=FD P w K mg base "both" 2 ["border","other"] (zG zA nL)
abbrev ZK:=FD P w K mg base "either" 2 ["border","other"] (zG zA nJ)
abbrev ZQ:=FD P w K mg base "border_ahead_of_way" 2 ["brims","way","border"] (zG zA nQ)
abbrev ZH:=FD P w K mg base "is_row" 2 ["thing"] (zG zA kC)
abbrev Z7:=FD P w K mg base "_law_way" 2 ["_law_place","_law_many","_law_number","_law_size"] (zG zA rg)
abbrev gr:=FD P w K mg base "is_row_within" 3 ["thing","bounds"] (zG zA qc)
abbrev gu:=FD P w K mg base "check_place" 3 ["floor","place"] (zG zA nK)
abbrev ZN:=FD P w K mg base "border_of_either" 3 ["borders"] (zG xm nM)
abbrev ZO:=FD P w K mg base "border_of_all" 3 ["borders"] (zG xm nP)
abbrev ZE:=FD P w K mg base "_law_floor" 3 ["_law_cell","_law_most","_law_brim"] (zG zA pq)
abbrev gw:=FD P w K mg base "are_rows_within" 4 ["thing","bounds"] (zG zA qe)
abbrev ZW:=FD P w K mg base "are_brims" 4 ["thing"] (zG zA nW)
abbrev Zx:=FD P w K mg base "ways_from" 4 ["floor","place"] (zG zA nC)
abbrev Zy:=FD P w K mg base "stall_at" 4 ["floor","place"] (zG xm rZ)
abbrev ZT:=FD P w K mg base "are_ways" 5 ["thing","places"] (zG zA nS)
abbrev ZU:=FD P w K mg base "are_stalls" 5 ["thing","owners"] (zG zA nU)
abbrev ZR:=FD P w K mg base "border_ahead_of_changes" 5 ["floor","place","border"] (zG xm p7)
abbrev ZJ:=FD P w K mg base "is_floor" 6 ["thing"] (zG zA nI)
abbrev Z5:=FD P w K mg base "next_border" 6 ["floor","place","last"] (zG xm nE)
abbrev Z4:=FD P w K mg base "next_round" 7 ["floor","last","fresh"] (zG zA ph)
abbrev gs:=FD P w K mg base "floor_of" 7 ["brims","owners","ways","stalls"] (zG xm qd)
abbrev gk:=FD P w K mg base "rounds" 8 ["floor"] (zG zA vc)
abbrev Z6:=FD P w K mg base "mirrored" 8 ["floor"] (zG xm pj)
abbrev Zz:=FD P w K mg base "renumbered" 8 ["floor","order"] (zG xm pd)
abbrev ZM:=FD P w K mg base "borders" 9 ["floor"] (zG xm t_)
abbrev ZC:=FD P w K mg base "_law_right" 10 ["_law_floor_here","_law_order_here"] (zG zA nG)
variable {K mg}(T:Bt mg)(U:ZX mg)
include T U
theorem RJ (F:Fy K mg "is_whole" (top 10)):gq P w K mg base:=
 zZ [] F
theorem Qr (F:Fy K mg "are_rising" (top 14)):gy P w K mg base:=
 zZ [(["one","other"],[none,none])] F
theorem RP (F:Fy K mg "is_owner" (top 16)) (Fe:Cm mg "KEEPER" (.str "keeper")) (F7:Cm mg "TAKER" (.str "taker")):ZI P w K mg base:=
 zZ [] F
theorem Rr (F:Fy K mg "places_of" (top 21)):gm P w K mg base:=
 zZ [] F
theorem Qn (F:Fy K mg "at_or_above" (top 26)):ZS P w K mg base:=
 zZ [] F
theorem R5 (F:Fy K mg "least_pairs" (top 27)):nY P w K mg base:=
 zZ [] F
theorem Rt (F:Fy K mg "pairs_ahead_of_changes" (top 32)):Z2 P w K mg base:=
 zZ [] F
theorem RF (F:Fy K mg "_law_cell_at" (top 47)):ZF P w K mg base:=
 zZ [] F
theorem RA (F:Fy K mg "_law_stirred" (top 48)):Z9 P w K mg base:=
 zZ [] F (by intro f Am A outer s H E hc nd hN hS hr;have hB:=trivial;exact⟨_,pA,jv⟩)
theorem RG (F:Fy K mg "_law_amount" (top 49)):ZG P w K mg base:=
 zZ [] F
theorem RB (F:Fy K mg "_law_sized" (top 52)):ZA P w K mg base:=
 zZ [] F
theorem R8 (F:Fy K mg "_law_turned" (top 53)):Z8 P w K mg base:=
 zZ [(["_law_x","_law_y"],[none,none])] F
theorem RD (F:Fy K mg "_law_order" (top 54)):ZD P w K mg base:=
 zZ [] F
theorem RI (F:Fy K mg "is_whole_within" (top 11)) (Fq:gq P w K mg base):gp P w K mg base:=
 zZ [] F
theorem Qs (F:Fy K mg "are_owners" (top 17)) (Fb:Cm mg "MOST_PLACES" (.int 8)) (Ge:ZI P w K mg base):ZV P w K mg base:=
 zZ [(["owner"],[none])] F
theorem Qg (F:Fy K mg "both" (top 28)) (EW:nY P w K mg base):ZL P w K mg base:=
 zZ [(["pair"],[none])] F
theorem Qa (F:Fy K mg "either" (top 29)) (EW:nY P w K mg base):ZK P w K mg base:=
 zZ [] F
theorem Qk (F:Fy K mg "border_ahead_of_way" (top 31)) (EW:nY P w K mg base) (FH:ZS P w K mg base):ZQ P w K mg base:=
 zZ [(["pair","way"],[none,some 1]),(["pair","brims"],[none,some 0])] F
theorem RO (F:Fy K mg "is_row" (top 42)) (Fq:gq P w K mg base):ZH P w K mg base:=
 zZ [(["number"],[none])] F
theorem R7 (F:Fy K mg "_law_way" (top 50)) (FO:ZG P w K mg base):Z7 P w K mg base:=
 zZ [] F
theorem RK (F:Fy K mg "is_row_within" (top 12)) (E4:gp P w K mg base):gr P w K mg base:=
 zZ [(["number","bound"],[none,none])] F
theorem Qd (F:Fy K mg "check_place" (top 22)) (E4:gp P w K mg base) (Fm:gm P w K mg base):gu P w K mg base:=
 zZ [] F
theorem Qi (F:Fy K mg "border_of_either" (top 34)) (GH:ZK P w K mg base):ZN P w K mg base:=
 zZ [] F
theorem Qj (F:Fy K mg "border_of_all" (top 35)) (Hn:ZL P w K mg base):ZO P w K mg base:=
 zZ [] F
theorem RE (F:Fy K mg "_law_floor" (top 51)) (FF:Z9 P w K mg base) (Gw:Z7 P w K mg base):ZE P w K mg base:=
 zZ [] F
theorem Qq (F:Fy K mg "are_rows_within" (top 13)) (E9:gr P w K mg base):gw P w K mg base:=
 zZ [(["row","bounds"],[none,some 1])] F
theorem Qt (F:Fy K mg "are_brims" (top 15)) (EY:Cm mg "MOST_COINS" (.int 12)) (E9:gr P w K mg base):ZW P w K mg base:=
 zZ [] F
theorem Rb (F:Fy K mg "ways_from" (top 23)) (Fc:gu P w K mg base):Zx P w K mg base:=
 zZ [(["number","way","place"],[none,none,some 1])] F
theorem Rm (F:Fy K mg "stall_at" (top 24)) (Fc:gu P w K mg base):Zy P w K mg base:=
 zZ [] F
theorem Qo (F:Fy K mg "are_ways" (top 18)) (EY:Cm mg "MOST_COINS" (.int 12)) (Fj:Cm mg "MOST_WAYS" (.int 24)) (E5:gw P w K mg base) (Ff:gy P w K mg base):ZT P w K mg base:=
 zZ [(["way"],[none]),(["start","starts"],[none,some 4])] F
theorem Qp (F:Fy K mg "are_stalls" (top 19)) (Fe:Cm mg "KEEPER" (.str "keeper")) (EY:Cm mg "MOST_COINS" (.int 12)) (E5:gw P w K mg base) (Ff:gy P w K mg base):ZU P w K mg base:=
 zZ [(["stall"],[none]),(["stall","owners"],[none,some 1])] F
theorem Ql (F:Fy K mg "border_ahead_of_changes" (top 33)) (Ga:Zy P w K mg base) (EW:nY P w K mg base) (E8:Z2 P w K mg base):ZR P w K mg base:=
 zZ [] F
theorem RQ (F:Fy K mg "is_floor" (top 20)) (Gh:ZT P w K mg base) (FP:ZU P w K mg base) (F5:ZW P w K mg base) (FQ:ZV P w K mg base):ZJ P w K mg base:=
 zZ [] F
theorem Rx (F:Fy K mg "next_border" (top 36)) (Fe:Cm mg "KEEPER" (.str "keeper")) (Ft:ZO P w K mg base) (E_:ZQ P w K mg base) (E6:ZR P w K mg base) (FX:Zx P w K mg base) (Fi:ZN P w K mg base):Z5 P w K mg base:=
 zZ [(["number","floor"],[none,some 0]),(["way","floor","last"],[none,some 0,some 2])] F
theorem Rw (F:Fy K mg "next_round" (top 37)) (FE:Z5 P w K mg base):Z4 P w K mg base:=
 zZ [(["way","fresh"],[none,some 2])] F
theorem RW (F:Fy K mg "floor_of" (top 43)) (Gg:ZJ P w K mg base) (GG:ZH P w K mg base):gs P w K mg base:=
 zZ [(["row"],[none])] F
theorem Ro (F:Fy K mg "rounds" (top 38)) (FL:Z4 P w K mg base) (Fm:gm P w K mg base):gk P w K mg base:=
 zZ [(["place","border","last"],[none,none,some 3])] F
theorem R3 (F:Fy K mg "mirrored" (top 44)) (Fs:gs P w K mg base):Z6 P w K mg base:=
 zZ [(["way"],[none]),(["stall"],[none])] F
theorem Rp (F:Fy K mg "renumbered" (top 45)) (Fs:gs P w K mg base):Zz P w K mg base:=
 zZ [(["number","owner"],[none,none]),(["way","order"],[none,some 1]),(["stall","order"],[none,some 1])] F
theorem Qh (F:Fy K mg "borders" (top 40)) (FJ:gk P w K mg base):ZM P w K mg base:=
 zZ [] F
theorem RC (F:Fy K mg "_law_right" (top 55)) (FJ:gk P w K mg base) (Gb:Z6 P w K mg base) (FK:Zz P w K mg base) (Gx:ZM P w K mg base) (FN:Z8 P w K mg base):ZC P w K mg base:=
 zZ [(["_law_row"],[none]),(["_law_border"],[none]),(["_law_row","_law_order_here"],[none,some 1]),(["_law_place","_law_row","_law_order_here"],[none,some 0,some 1]),(["_law_place","_law_told","_law_order_here"],[none,some 2,some 1])] F
theorem RH {f:Addr}{fd:FuncData}(F:vQ K "law" "law" (top 56) f fd) (FY:ZA P w K mg base) (FG:ZF P w K mg base) (F4:ZE P w K mg base) (FZ:ZC P w K mg base) (F0:ZD P w K mg base):vz P w K mg base xx 11 f fd ["_law_script"] (uu K (zG zA pz)):=
 OH [] F
end
def all_mk {l:PySem.W.OpenLaw}{w:World}{K:Ac}{h:Heap}{mg:AI}{fa:Addr}(X:K.In h) (G:h.Ns mainGlobals mg) (EK:mg "law"=some (.ref fa))
  (h0:Fx K "is_whole" (top 10)) (h1:Fx K "is_whole_within" (top 11)) (h2:Fx K "is_row_within" (top 12)) (h3:Fx K "are_rows_within" (top 13)) (h4:Fx K "are_rising" (top 14)) (h5:Fx K "are_brims" (top 15)) (h6:Fx K "is_owner" (top 16)) (h7:Fx K "are_owners" (top 17)) (h8:Fx K "are_ways" (top 18)) (h9:Fx K "are_stalls" (top 19)) (h10:Fx K "is_floor" (top 20)) (h11:Fx K "places_of" (top 21)) (Jc:Fx K "check_place" (top 22)) (h13:Fx K "ways_from" (top 23)) (h14:Fx K "stall_at" (top 24)) (h15:Fx K "at_or_above" (top 26)) (h16:Fx K "least_pairs" (top 27)) (h17:Fx K "both" (top 28)) (h18:Fx K "either" (top 29)) (h19:Fx K "border_ahead_of_way" (top 31)) (h20:Fx K "pairs_ahead_of_changes" (top 32)) (h21:Fx K "border_ahead_of_changes" (top 33)) (Jb:Fx K "border_of_either" (top 34)) (Ja:Fx K "border_of_all" (top 35)) (h24:Fx K "next_border" (top 36)) (h25:Fx K "next_round" (top 37)) (h26:Fx K "rounds" (top 38)) (h27:Fx K "borders" (top 40)) (h28:Fx K "is_row" (top 42)) (h29:Fx K "floor_of" (top 43)) (h30:Fx K "mirrored" (top 44)) (h31:Fx K "renumbered" (top 45)) (h32:Fx K "_law_cell_at" (top 47)) (h33:Fx K "_law_stirred" (top 48)) (h34:Fx K "_law_amount" (top 49)) (h35:Fx K "_law_way" (top 50)) (h36:Fx K "_law_floor" (top 51)) (h37:Fx K "_law_sized" (top 52)) (h38:Fx K "_law_turned" (top 53)) (h39:Fx K "_law_order" (top 54)) (h40:Fx K "_law_right" (top 55)) (h41:Fx K "law" (top 56))
  (Fe:Cn K "KEEPER" (.str "keeper"))
  (EY:Cn K "MOST_COINS" (.int 12))
  (Fb:Cn K "MOST_PLACES" (.int 8))
  (Fj:Cn K "MOST_WAYS" (.int 24))
  (F7:Cn K "TAKER" (.str "taker"))
  (y0:PySem.W.nsIn K mainGlobals "set"=some none) (y1:PySem.W.nsIn K mainGlobals "zip"=some none) (y2:PySem.W.nsIn K mainGlobals "enumerate"=some none) (y3:PySem.W.nsIn K mainGlobals "abs"=some none)
  (z0:PySem.W.nsIn K mainGlobals "len"=some none) (z1:PySem.W.nsIn K mainGlobals "range"=some none) (z2:PySem.W.nsIn K mainGlobals "any"=some none) (z3:PySem.W.nsIn K mainGlobals "all"=some none) (z4:PySem.W.nsIn K mainGlobals "sorted"=some none) (z5:PySem.W.nsIn K mainGlobals "isinstance"=some none) (z6:PySem.W.nsIn K mainGlobals "bool"=some none) (z7:PySem.W.nsIn K mainGlobals "int"=some none) (z8:PySem.W.nsIn K mainGlobals "str"=some none) (z9:PySem.W.nsIn K mainGlobals "list"=some none) (z10:PySem.W.nsIn K mainGlobals "tuple"=some none) (z11:PySem.W.nsIn K mainGlobals "max"=some none) (z12:PySem.W.nsIn K mainGlobals "min"=some none):
  ∃ fd:FuncData,(∀ (s:Shared) (v:Value),BindsTo s fd ⟨[v],[]⟩ [("_law_script",v)])/\∀ base:Heap,K.In base->base.Ns mainGlobals mg->vz l.prog w K mg base xx 11 fa fd ["_law_script"] (uu K (zG zA pz)):=by
 have T:Bt mg:=⟨Ba X G z0,Ba X G z1,Ba X G z2,Ba X G z3,Ba X G z4,Ba X G z5,Ba X G z6,Ba X G z7,Ba X G z8,Ba X G z9,Ba X G z10,Ba X G z11,Ba X G z12⟩
 have U:ZX mg:=⟨⟨Ba X G y0,Ba X G y1,Ba X G y2⟩,Ba X G y3⟩
 replace Fe:=Fe.mk X G;replace EY:=EY.mk X G;replace Fb:=Fb.mk X G;replace Fj:=Fj.mk X G;replace F7:=F7.mk X G;obtain⟨fd,Fl,hb⟩:=h41.law X G EK λ _ _ _ _ _ _ _ _=>.of_eq rfl;refine⟨fd,hb,λ base _ _=>?_⟩;have Fq:=RJ l.prog w base T U (h0.mk X G);have Ff:=Qr l.prog w base T U (h4.mk X G);have Ge:=RP l.prog w base T U (h6.mk X G) Fe F7;have Fm:=Rr l.prog w base T U (h11.mk X G);have FH:=Qn l.prog w base T U (h15.mk X G);have EW:=R5 l.prog w base T U (h16.mk X G);have E8:=Rt l.prog w base T U (h20.mk X G);have FG:=RF l.prog w base T U (h32.mk X G);have FF:=RA l.prog w base T U (h33.mk X G);have FO:=RG l.prog w base T U (h34.mk X G);have FY:=RB l.prog w base T U (h37.mk X G);have FN:=R8 l.prog w base T U (h38.mk X G);have F0:=RD l.prog w base T U (h39.mk X G);have E4:=RI l.prog w base T U (h1.mk X G) Fq;have FQ:=Qs l.prog w base T U (h7.mk X G) Fb Ge;have Hn:=Qg l.prog w base T U (h17.mk X G) EW;have GH:=Qa l.prog w base T U (h18.mk X G) EW;have E_:=Qk l.prog w base T U (h19.mk X G) EW FH;have GG:=RO l.prog w base T U (h28.mk X G) Fq;have Gw:=R7 l.prog w base T U (h35.mk X G) FO;have E9:=RK l.prog w base T U (h2.mk X G) E4;have Fc:=Qd l.prog w base T U (Jc.mk X G) E4 Fm;have Fi:=Qi l.prog w base T U (Jb.mk X G) GH;have Ft:=Qj l.prog w base T U (Ja.mk X G) Hn;have F4:=RE l.prog w base T U (h36.mk X G) FF Gw;have E5:=Qq l.prog w base T U (h3.mk X G) E9;have F5:=Qt l.prog w base T U (h5.mk X G) EY E9;have FX:=Rb l.prog w base T U (h13.mk X G) Fc;have Ga:=Rm l.prog w base T U (h14.mk X G) Fc;have Gh:=Qo l.prog w base T U (h8.mk X G) EY Fj E5 Ff;have FP:=Qp l.prog w base T U (h9.mk X G) Fe EY E5 Ff;have E6:=Ql l.prog w base T U (h21.mk X G) Ga EW E8;have Gg:=RQ l.prog w base T U (h10.mk X G) Gh FP F5 FQ;have FE:=Rx l.prog w base T U (h24.mk X G) Fe Ft E_ E6 FX Fi;have FL:=Rw l.prog w base T U (h25.mk X G) FE;have Fs:=RW l.prog w base T U (h29.mk X G) Gg GG;have FJ:=Ro l.prog w base T U (h26.mk X G) FL Fm;have Gb:=R3 l.prog w base T U (h30.mk X G) Fs;have FK:=Rp l.prog w base T U (h31.mk X G) Fs;have Gx:=Qh l.prog w base T U (h27.mk X G) FJ;have FZ:=RC l.prog w base T U (h40.mk X G) FJ Gb FK Gx FN;exact RH l.prog w base T U Fl FY FG F4 FZ F0
def walk {l:PySem.W.OpenLaw}{q:Program}{loose:List Str}{XP:(Str->Option Value)->Heap->Prop}{YP:World->Heap->Prop}{d:DefRec}{K:Params->Ac}(hn:l.most=some 63) (Di:d.params.defaults=[])
  (hY:∀ (w:World) (h:Heap),YP w h->(K w.params).In h)
  (F:∀ (w:World) (mg:AI) (fa:Addr) (h:Heap),(K w.params).In h->h.Ns mainGlobals mg->mg d.name=some (.ref fa)->
   ∃ fd:FuncData,(∀ (s:Shared) (u:Value),BindsTo s fd ⟨[u],[]⟩ [("_law_script",u)])/\∀ base:Heap,(K w.params).In base->base.Ns mainGlobals mg->vz l.prog w (K w.params) mg base xx 11 fa fd ["_law_script"] (uu (K w.params) (zG zA pz))):
  PySem.W.WalkO q loose XP YP l.row.toRowW d [] (λ f vs=>PySem.call f vs):=
 L2.YB (n:=63) (k:=11) (x:="_law_script") (CX:=λ _=>xx) (sp:=λ w=>uu (K w.params) (zG zA pz)) hn (by decide) Di ⟨rfl,by decide,by decide⟩ hY F (λ _ _ a ns hl hO hS=>Pj Pg hO hS hl) λ _ _ _ _ _ z=>z
end zW
open PySem PySem.W PyProof.Rows
set_option maxHeartbeats 0 in
theorem PySem.Challenge.cw_purseborder_k62_whole_mirrored_and_renum_holds : PySem.Challenge.rw_purseborder_k62_whole_mirrored_and_renum.Holds := by
 w_on;o_law;k_head;(case hw=>w_witness2)
 k_fill
 refine zW.walk (l:=PySem.Challenge.rw_purseborder_k62_whole_mirrored_and_renum) rfl rfl (λ w h Y=>PySem.W.kIn_of Y) ?F
 case F=>
  intro w mg fa h KX G C9;refine' zW.all_mk KX G C9 ?_ ?_ ?_ ?_ ?_ ?_ ?_ ?_ ?_ ?_ ?_ ?_ ?_ ?_ ?_ ?_ ?_ ?_ ?_ ?_ ?_ ?_ ?_ ?_ ?_ ?_ ?_ ?_ ?_ ?_ ?_ ?_ ?_ ?_ ?_ ?_ ?_ ?_ ?_ ?_ ?_ ?_ ?_ ?_ ?_ ?_ ?_ ?_ ?_ ?_ ?_ ?_ ?_ ?_ ?_ ?_ ?_ ?_ ?_ ?_ ?_ ?_ ?_ ?_
  all_goals first | exact L3.Ei.i (by k_is) (by k_is) (by k_is) (by k_is) (by kernel_rfl) (by k_is) (by k_is) (by k_is) (by k_is) (by k_is) (by k_is) | exact L3.Ec.i (by k_is) (by k_is) (by k_is) (by k_is) (by kernel_rfl) | exact L5.Fx.i (by k_is) (by k_is) (by k_is) (by k_is) | k_is | exact L5.Cn.i (by k_is) (by exact⟨_,rfl⟩)
