import PyProof.Rows.All
import Wide.All
import OpenK.AllK
import Wide.FinOn
import Lean
import PyProof.EqAt
import PyProof.EqKinds
import PyProof.TupleCall
import PySem.SetOps
import PyProof.SetScanFacts
import PyProof.TupleKey
import PyProof.SetKind
import PyProof.SetRoads
import PyProof.IsRules
import PyProof.ZipIter
import PyProof.TupleIter
import PyProof.ListMulRoad
import PyProof.FactsAll.tuple
import PyProof.ListRange
import PyProof.Draws
import PyProof.EnumFor
import PyProof.Rows.ListMul
import PyProof.AutoListH
import PyProof.Rows.CallKwBuiltin
import PyProof.MinMaxWalk
import PyProof.WalkInts
import PyProof.Rows.MinMaxN
import PyProof.Rows.SeqMore2
import PySem.Challenge.RW_purseborder_k45_whole_within_told_steps
set_option Elab.async false
set_option linter.all false
set_option maxRecDepth 100000
set_option genSizeOf false
noncomputable section
def za0:=@decide_eq_false
def za1:=@PySem.PassesOwn.never
def za2:=@decide_eq_true
def za3:=@PySem.wpAny_holding
def za4:=@PySem.wpAny_field
def za5:=@PySem.wpAny_mono
def za6:=@PySem.wpAny_call_entry
def za7:=@PySem.wpAny_newObj_type
def za8:=@PySem.wpAny_setState_of
def za9:=@PySem.wpAny_seqItems
def zaA:=@PySem.wpAny_truthy_bool
def zaB:=@PySem.wpAny_callSpecial?_slot
def zaC:=@PySem.wpAny_passesOwn
def zaD:=@PySem.wpAny_typeOf
def zaE:=@PySem.Heap.get?_update_self
def zaF:=@PySem.wpAny_pyIter_list
def zaG:=@PySem.wpAny_setField_rec
def zaH:=@PySem.wpAny_askSetting
def zaI:=@PySem.wpAny_setField
def zaJ:=@PySem.Heap.get?_update_other
def A3:=@Nat.lt_or_ge
def A2:=@List.not_mem_nil
def A8:=@List.map_nil
def Be:=@List.nodup_cons
def Bl:=@List.any_cons
def Bs:=@List.pairwise_cons
def Bz:=@List.lookup_cons
def Bx:=@Nat.lt_succ_of_lt
def BE:=@Bool.false_ne_true
def BD:=@List.ext_getElem
def BN:=@List.replicate_succ
def BM:=@List.mem_flatMap
def BR:=@Nat.ne_of_gt
def BQ:=@List.mem_iff_getElem
def BP:=@List.find?_cons
def B6:=@List.mem_append_left
def B5:=@List.flatten_cons
def B4:=@Bool.and_false
def B3:=@List.pairwise_map
def B2:=@Nat.le_add_right
def Cg:=@List.filterMap_cons
def Cf:=@List.getElem?_replicate
def Ce:=@List.getElem?_append_left
def Cd:=@List.getElem?_eq_none
def Cc:=@List.pairwise_iff_getElem
def Cb:=@Array.getElem_toList
def Ca:=@List.length_filter_le
def CB:=@List.append_nil
def CA:=@List.length_take
def Cz:=@List.getElem?_append_right
def Cy:=@List.map_congr_left
def Cw:=@Array.getElem?_eq_none
def Cv:=@Int.toNat_natCast
def Cu:=@Int.natCast_succ
def Ct:=@Int.add_mul
def Cs:=@List.mem_nil_iff
def C1:=@List.length_nil
def C0:=@List.length_singleton
def CZ:=@Nat.lt_trans
def CY:=@Array.size_map
def CW:=@Nat.le_succ
def CV:=@List.range_succ_eq_map
def CU:=@Nat.mod_lt
def CT:=@List.toList_toArray
def CS:=@List.map_take
def CQ:=@List.map_drop
def CP:=@Nat.zero_add
def CO:=@Int.mul_nonneg
def CN:=@Int.natCast_add
def DE:=@Option.isSome_iff_exists
def DD:=@List.length_drop
def DC:=@List.length_set
def DB:=@List.forIn_cons
def DA:=@List.getElem?_set
def Dz:=@Array.getD_eq_getD_getElem?
def Dy:=@Bool.and_self
def Dx:=@Nat.mul_comm
def Dw:=@List.length_pos_of_mem
def Dv:=@List.nodup_range
def Du:=@List.pairwise_append
def Dt:=@Nat.lt_trichotomy
def Ds:=@Array.getElem?_setIfInBounds
def Dr:=@List.foldl_cons
def Dq:=@List.mem_iff_getElem?
def Dp:=@List.zipIdx_cons
def Dn:=@Int.zero_add
def Dm:=@List.mem_of_find?_eq_some
def Dl:=@Bool.not_eq_true
def D4:=@List.mem_filterMap
def D3:=@List.of_mem_zip
def D2:=@List.getElem_range
def D1:=@List.mem_erase_of_ne
def D0:=@List.length_erase_of_mem
def DZ:=@List.getElem?_cons_succ
def DY:=@List.take_append_drop
def DX:=@List.mem_of_mem_drop
def DW:=@List.getElem?_range
def DV:=@List.find?_eq_none
def DU:=@List.perm_ext_iff_of_nodup
def DT:=@List.nodup_append
def DS:=@List.append_assoc
def DR:=@Bool.or_eq_true
def DQ:=@List.pairwise_singleton
def zcB:=@Int.mul_le_mul_of_nonneg_right
def zcC:=@List.mem_zipIdx_iff_getElem?
def Ar:=@List.size_toArray
def AH:=@List.getElem?_eq_getElem
def AN:=@List.getElem?_eq_some_iff
def Ay:=@List.getElem?_map
def Ah:=@Nat.le_refl
def Ai:=@List.mem_cons
def Aq:=@List.map_cons
def Aw:=@List.length_map
def Ap:=@PySem.Heap.lt_size
def AF:=@PySem.Heap.get?_push_size
def An:=@List.mem_map
def AI:=@List.getD_eq_getElem?_getD
def AE:=@Bool.not_false
def Ax:=@Nat.ne_of_lt
def AY:=@List.mem_append_right
def AD:=@Bool.not_true
def AR:=@List.mem_singleton
def A7:=@List.mem_of_getElem?
def Bh:=@Array.getElem?_eq_getElem
def AX:=@List.mem_append
def AW:=@List.length_cons
def AA:=@List.mem_range
def Bc:=@PySem.W.mg_none_of
def Bb:=@Nat.lt_of_lt_of_le
def Ba:=@Bool.false_eq_true
def Bg:=@List.length_range
def AK:=@Int.le_refl
def A5:=@Bool.eq_iff_iff
def AV:=@List.mem_filter
def A_:=@Option.bind_some
def AM:=@List.any_eq_true
def Ad:=@PySem.wpAny_pure
def Bo:=@Array.length_toList
def BB:=@Array.getElem?_toList
def AL:=@Nat.zero_le
def A4:=@Option.some.inj
def AQ:=@List.map_map
def Bf:=@List.length_append
def Bn:=@List.getElem_mem
def C2:=@List.length_pos_iff
def A9:=@Nat.le_trans
def BS:=@Nat.lt_irrefl
def Cj:=@Nat.lt_succ_self
def BF:=@Nat.le_of_lt
def BA:=@List.all_eq_true
def BO:=@Bool.and_eq_true
def Bm:=@List.map_append
def CD:=@Int.emod_nonneg
def DF:=@Int.emod_lt_of_pos
def Ci:=@Int.toNat_of_nonneg
abbrev Ac:=PySem.W.Frag
noncomputable def Ab:=@PySem.wpAny_bind
noncomputable def Ao:=@PySem.Heap.get?_push_of_some
def Ak {α β:Type}{x:Option α}{f:α->Option β}{b:β} (h:x.bind f=some b):∃ a,x=some a/\f a=some b:=Option.bind_eq_some_iff.mp h
def AB {α β:Type}{x:Option α}{f:α->β}{b:β} (h:x.map f=some b):∃ a,x=some a/\f a=b:=Option.map_eq_some_iff.mp h
def Al {α:Type}{a:α}{l:List α}:a∈a::l:=List.mem_cons_self
def Av {α:Type} (y:α) {a:α}{l:List α} (h:a∈l):a∈y::l:=List.mem_cons_of_mem y h
namespace L2
open PySem PySem.Spec PyProof.Rows
abbrev Key:=Sum Int Str
noncomputable def oT:Key->Value->Bool
 | .inl k,v=>Value.isInt k v
 | .inr x,v=>Value.isStrOf x v
noncomputable def OQ (w:World):Key->Int
 | .inl k=>hashInt k
 | .inr x=>hashStr w x
theorem sT:∀ {k:Key}{v:Value},oT k v=true->(∃ i t,k=Sum.inl i/\v=Value.int i t)\/(∃ x t,k=Sum.inr x/\v=Value.str x t)
 | .inl i,v,h=>by
  obtain⟨t,e⟩:=Value.isInt_shape (k:=i) (v:=v) h;exact .inl ⟨i,t,rfl,e⟩
 | .inr x,v,h=>by
  obtain⟨t,e⟩:=Value.isStrOf_shape (x:=x) (v:=v) h;exact .inr ⟨x,t,rfl,e⟩
def OP (i:Int) (t:Tok):oT (.inl i) (.int i t)=true:=by simp[oT,Value.isInt]
def OO (x:Str) (t:Tok):oT (.inr x) (.str x t)=true:=by simp[oT,Value.isStrOf]
def OM (a b:Int):decide ((Sum.inl a:Key)=Sum.inl b)=(a == b):=by
 by_cases e:a=b
 .subst e;simp
 .have h:¬ (Sum.inl a:Key)=Sum.inl b:=λ q=>e (Sum.inl.inj q);rw[za0 h];exact (beq_eq_false_iff_ne.mpr e).symm
def OJ (a b:Str):decide ((Sum.inr a:Key)=Sum.inr b)=decide (a=b):=by
 by_cases e:a=b
 .subst e;simp
 .have h:¬ (Sum.inr a:Key)=Sum.inr b:=λ q=>e (Sum.inr.inj q);rw[za0 h,za0 e]
def OL (a:Int) (b:Str):decide ((Sum.inl a:Key)=Sum.inr b)=false:=za0 (λ q=>nomatch q)
def OK (a:Str) (b:Int):decide ((Sum.inr a:Key)=Sum.inl b)=false:=za0 (λ q=>nomatch q)
def vc (prog:Program) (w:World):PySem.KeyKind prog w Key where
 is:=oT
 hash:=OQ w
 inj:=λ v a b ha hb=>by
  rcases sT ha with ⟨i,t,rfl,rfl⟩ | ⟨x,t,rfl,rfl⟩
  .rcases sT hb with ⟨j,u,rfl,e⟩ | ⟨y,u,rfl,e⟩
   .injection e with e1 _;rw[e1]
   .exact nomatch e
  .rcases sT hb with ⟨j,u,rfl,e⟩ | ⟨y,u,rfl,e⟩
   .exact nomatch e
   .injection e with e1 _;rw[e1]
 byValue:=λ k v h=>by
  rcases sT h with ⟨i,t,rfl,rfl⟩ | ⟨x,t,rfl,rfl⟩ <;> rfl
 pyHash:=λ hv h=>by
  rcases sT hv with ⟨i,t,rfl,rfl⟩ | ⟨x,t,rfl,rfl⟩
  .exact wpAny_pyHash_int h
  .exact wpAny_pyHash_str h
 eqBool:=λ hu hv h=>by
  rcases sT hu with ⟨i,t,rfl,rfl⟩ | ⟨x,t,rfl,rfl⟩
  .rcases sT hv with ⟨j,u,rfl,rfl⟩ | ⟨y,u,rfl,rfl⟩
   .rw[OM] at h;exact wpAny_eqBool_int h
   .rw[OL] at h;exact SeqAt.EqAt.int_str i t y u _ _ _ _ h
  .rcases sT hv with ⟨j,u,rfl,rfl⟩ | ⟨y,u,rfl,rfl⟩
   .rw[OK] at h;exact SeqAt.EqAt.str_int x t j u _ _ _ _ h
   .rw[OJ] at h;exact wpAny_eqBool_str h
 «strs»:=λ k x t v h=>by
  rcases sT h with ⟨i,u,rfl,e⟩ | ⟨y,u,rfl,e⟩
  .exact nomatch e
  .injection e with e1 _
   subst e1;cases v <;> rfl
def Oj (prog:Program) (w:World) (i:Int) (t:Tok):(vc prog w).is (.inl i) (.int i t)=true:=OP i t
def Oi (prog:Program) (w:World) (x:Str) (t:Tok):(vc prog w).is (.inr x) (.str x t)=true:=OO x t
inductive V where
 | zl | bl (b:Bool) | int (i:Int) | str (x:Str) | ny (b:Array UInt8) | jH (b:UInt64) | ref (a:Addr) | ty (n:String)
 deriving DecidableEq
noncomputable def RelV:V->Value->Prop
 | .zl,u=>u=Value.none
 | .bl b,u=>u=Value.bool b
 | .int i,u=>∃ t,u=Value.int i t
 | .str x,u=>∃ t,u=Value.str x t
 | .ny b,u=>∃ t,u=Value.bytes b t
 | .jH b,u=>∃ t,u=Value.float b t
 | .ref a,u=>u=Value.ref a
 | .ty n,u=>u=Value.type n
abbrev Vals:List V->List Value->Prop:=Paired RelV
theorem Vals.length {xs:List V}{us:List Value}(r:Vals xs us):xs.length=us.length:=Paired.length r
theorem Vals.get:∀ {xs:List V}{us:List Value}{i:Nat}{x:V},Vals xs us->xs[i]?=some x->∃ u,us[i]?=some u/\RelV x u
 | _,_,_,_,.nil,e=>by simp at e
 | _,_,0,_,.cons r _,e=>by simp at e;subst e;exact⟨_,rfl,r⟩
 | _,_,i+1,x,.cons _ t,e=>by
  obtain⟨u,h1,h2⟩:=Vals.get (i:=i) (x:=x) t (by simpa using e);exact⟨u,by simpa using h1,h2⟩
theorem Vals.set {x:V}{u:Value}(r:RelV x u):∀ {xs:List V}{us:List Value}(i:Nat),Vals xs us->Vals (xs.set i x) (us.set i u)
 | _,_,_,.nil=>.nil
 | _,_,0,.cons _ t=>.cons r t
 | _,_,i+1,.cons q t=>.cons q (Vals.set r i t)
theorem Vals.append:∀ {xs ys:List V}{us ws:List Value},Vals xs us->Vals ys ws->Vals (xs++ys) (us++ws)
 | _,_,_,_,.nil,s=>s
 | _,_,_,_,.cons r t,s=>.cons r (Vals.append t s)
theorem Vals.take:∀ {xs:List V}{us:List Value}(n:Nat),Vals xs us->Vals (xs.take n) (us.take n)
 | _,_,0,_=>.nil
 | _,_,_+1,.nil=>.nil
 | _,_,n+1,.cons r t=>.cons r (Vals.take n t)
theorem Vals.drop:∀ {xs:List V}{us:List Value}(n:Nat),Vals xs us->Vals (xs.drop n) (us.drop n)
 | _,_,0,r=>r
 | _,_,_+1,.nil=>.nil
 | _,_,n+1,.cons _ t=>Vals.drop n t
noncomputable def uJ:Option V->Option Value->Prop
 | some v,some u=>RelV v u
 | none,none=>True
 | _,_=>False
def KV {κ:Type}:List (κ × V)->List (κ × Value)->Prop:=Paired λ(p:κ × V) (q:κ × Value)=>p.1=q.1/\RelV p.2 q.2
noncomputable def kV:Key->V
 | .inl i=>.int i
 | .inr x=>.str x
inductive HO where
  | lst (xs:List V)
  | tup (xs:List V)
  | dK (Aa:List (Key×V)) | dT (Aa:List (List Key×V))
  | set (S:Int->Bool) (n:Nat)
  | ins (C dx:Addr) (fs:List (Str×V))
  | own (x:Addr)
  | xd (fs:List (Str×V))
  | met (f x:Addr)
  | fj (lo hi:Int)
  | wG (o:Obj) (u:HO)
  | qP (ps:Array Value)
  | ext (φ:Heap->Prop)
abbrev Hp:=Addr->Option HO
noncomputable def upd (H:Hp) (a:Addr) (o:HO):Hp:=λ b=>if b=a then some o else H b
def yR {H:Hp}{a:Addr}{o:HO}:upd H a o a=some o:=by unfold upd;rw[if_pos rfl]
def yV {H:Hp}{a b:Addr}{o:HO}(h:b≠a):upd H a o b=H b:=by unfold upd;rw[if_neg h]
def mP {H:Hp}{a b:Addr}{o u:HO}(h:H a=some o) (h':H b=some u) (d:o≠u):a≠b:=by
 intro e;subst e;rw[h] at h';exact d (A4 h')
def qe {H:Hp}{a b:Addr}{o:HO}(h:H a=some o) (h':H b=none):a≠b:=by
 intro e;subst e;rw[h] at h';cases h'
section
variable (P:Program)(w:World)
noncomputable def xv (H:Hp) (h:Heap) (a:Addr):HO->Prop
 | .lst xs=>xs.length<=sizeLine/\∃ (its:List Value) (n:Nat),Vals xs its/\h.get? a=some { cls:=.type "list",data:=.seq its.toArray n }
 | .tup xs=>xs.length<=sizeLine/\∃ its:List Value,Vals xs its/\IsTup h a its.toArray
 | .dK Aa=>Aa.length<=sizeLine/\(a == sysModules)=false/\∃ vs,KV Aa vs/\h.DictOf (vc P w) a vs
 | .dT Aa=>Aa.length<=sizeLine/\(a == sysModules)=false/\∃ xs:List (List Key×Addr×Value),
   Paired (λ(p:List Key×V) (q:List Key×Addr×Value)=>p.1=q.1/\H q.2.1=some (.tup (p.1.map kV))/\RelV p.2 q.2.2) Aa xs/\
   ∃ o es ep,h.get? a=some o/\o.ExactDict/\o.data=.dict es ep/\es.toList=xs.map (entryOfKey (tupleKind (vc P w)))/\(xs.map (·.1)).Nodup
 | .set S n=>h.SetOf (intKind P w) a S n
 | .ins C dx fs=>H dx=some (.own a)/\fs.length<=1000/\dx≠a/\h.get? a=some (PySem.W.instObj C dx)/\
   ∃ mA,h.Ns1 dx mA/\(∀ f,uJ (fs.lookup f) (mA f))/\PySem.Within mA (fs.map (·.1))
 | .own _=>∃ o,h.get? a=some o
 | .xd fs=>∃ mA,h.Ns1 a mA/\∀ f,uJ (fs.lookup f) (mA f)
 | .fj lo hi=>∃ t u v,h.get? a=some { cls:=.type "range",data:=.fields #[.int lo t,.int hi u,.int 1 v] }
 | .wG o u=>h.get? a=some o/\xv H h a u
 | .qP ps=>h.get? a=some { cls:=.none,data:=.fields ps }
 | .met f x=>h.get? a=some (PySem.W.methodObj (.ref f) (.ref x))
 | .ext φ=>φ h/\(∃ o,h.get? a=some o)/\∀ h1 h2:Heap,φ h1->(∀ o,h1.get? a=some o->h2.get? a=some o)->φ h2
def xk (H:Hp) (h:Heap):Prop:=∀ a o,H a=some o->xv P w H h a o
end
section
variable {P:Program}{w:World}{H H':Hp}{h h':Heap}{a:Addr}{o:HO}
theorem xv.lt (x:xv P w H h a o):a<h.objs.size:=by
 cases o with
 | lst xs=>obtain⟨_,_,_,_,e⟩:=x;exact Ap e
 | tup xs=>obtain⟨_,_,_,p⟩:=x;exact p.lt
 | dK Aa=>obtain⟨_,_,_,_,o,_,_,e,_⟩:=x;exact Ap e
 | dT Aa=>obtain⟨_,_,_,_,o,_,_,e,_⟩:=x;exact Ap e
 | set S n=>obtain⟨o,_,_,_,e,_⟩:=x;exact Ap e
 | ins C dx fs=>obtain⟨_,_,_,e,_⟩:=x;exact Ap e
 | own y=>obtain⟨_,e⟩:=x;exact Ap e
 | xd fs=>obtain⟨_,⟨_,_,_,e,_⟩,_⟩:=x;exact Ap e
 | fj lo hi=>obtain⟨_,_,_,e⟩:=x;exact Ap e
 | wG ob u=>obtain⟨e,_⟩:=x;exact Ap e
 | qP ps=>exact Ap (show h.get? a=some _ from x)
 | met f y=>exact Ap (show h.get? a=some _ from x)
 | ext φ=>obtain⟨_,⟨_,e⟩,_⟩:=x;exact Ap e
theorem Paired.jz {α β:Type}{F G:α->β->Prop}:∀ {l₁:List α}{l₂:List β},Paired F l₁ l₂->(∀ a b,F a b->G a b)->Paired G l₁ l₂
 | _,_,.nil,_=>.nil
 | _,_,.cons r t,f=>.cons (f _ _ r) (Paired.jz t f)
def xv.sF (x:xv P w H h a o) (k:∀ b u,(b=a\/H b=some (.own a))->h.get? b=some u->h'.get? b=some u)
  (ho:∀ b,H b=some (.own a)->H' b=some (.own a)) (ht:∀ b xs,H b=some (.tup xs)->H' b=some (.tup xs)):xv P w H' h' a o:=by
 induction o with
 | lst xs=>obtain⟨z,its,n,r,e⟩:=x;exact⟨z,its,n,r,k _ _ (.inl rfl) e⟩
 | tup xs=>obtain⟨z,its,r,ob,e,c⟩:=x;exact⟨z,its,r,ob,k _ _ (.inl rfl) e,c⟩
 | dK Aa=>obtain⟨z,y,vs,r,ob,es,ep,e,c⟩:=x;exact⟨z,y,vs,r,ob,es,ep,k _ _ (.inl rfl) e,c⟩
 | dT Aa=>
  obtain⟨z,y,xs,r,ob,es,ep,e,c⟩:=x;exact⟨z,y,xs,Paired.jz r λ p q z=>⟨z.1,ht _ _ z.2.1,z.2.2⟩,ob,es,ep,k _ _ (.inl rfl) e,c⟩
 | set S n=>obtain⟨ob,es,ep,t,e,c⟩:=x;exact⟨ob,es,ep,t,k _ _ (.inl rfl) e,c⟩
 | ins C dx fs=>
  obtain⟨d,z,ne,e,mA,⟨od,es,ep,e2,c⟩,r⟩:=x;exact⟨ho _ d,z,ne,k _ _ (.inl rfl) e,mA,⟨od,es,ep,k _ _ (.inr d) e2,c⟩,r⟩
 | own y=>obtain⟨ob,e⟩:=x;exact⟨ob,k _ _ (.inl rfl) e⟩
 | xd fs=>obtain⟨mA,⟨od,es,ep,e,c⟩,r⟩:=x;exact⟨mA,⟨od,es,ep,k _ _ (.inl rfl) e,c⟩,r⟩
 | fj lo hi=>obtain⟨t,u,v,e⟩:=x;exact⟨t,u,v,k _ _ (.inl rfl) e⟩
 | wG ob u ih=>obtain⟨e,q⟩:=x;exact⟨k _ _ (.inl rfl) e,ih q⟩
 | qP ps=>
  have e:h.get? a=some { cls:=.none,data:=.fields ps }:=x;show h'.get? a=some { cls:=.none,data:=.fields ps };exact k a _ (.inl rfl) e
 | met f y=>
  have e:h.get? a=some (PySem.W.methodObj (.ref f) (.ref y)):=x;show h'.get? a=some (PySem.W.methodObj (.ref f) (.ref y));exact k a _ (.inl rfl) e
 | ext φ=>obtain⟨p,⟨o,e⟩,st⟩:=x;exact⟨st _ _ p λ o q=>k _ _ (.inl rfl) q,⟨o,k _ _ (.inl rfl) e⟩,st⟩
theorem xk.lt (x:xk P w H h) (e:H a=some o):a<h.objs.size:=(x a o e).lt
def xk.fresh (x:xk P w H h) (e:h.objs.size<=a):H a=none:=by
 cases q:H a with
 | none=>rfl
 | some u=>exact absurd (Bb (x.lt q) e) (BS _)
def xk.kept (x:xk P w H h) (k:∀ b u,h.get? b=some u->h'.get? b=some u):xk P w H h':=λ a o e=>
 (x a o e).sF (λ b u _ q=>k b u q) (λ _ q=>q) λ _ _ q=>q
def xk.laid (x:xk P w H h) (k:∀ b u,h.get? b=some u->h'.get? b=some u) (hp:h.objs.size<=a) (new:xv P w (upd H a o) h' a o):xk P w (upd H a o) h':=λ b u e=>by
 have hn:=x.fresh hp;by_cases hb:b=a
 .subst hb;rw[yR] at e;cases e;exact new
 .rw[yV hb] at e;exact (x b u e).sF (λ c v _ q=>k c v q) (λ c q=>by rw[yV (qe q hn)];exact q) λ c xs q=>by rw[yV (qe q hn)];exact q
end
def Rd (H:Hp) (a:Addr) (u:HO):Prop:=H a=some u\/∃ o,H a=some (.wG o u)
def Rd.ok {P:Program}{w:World}{H:Hp}{h:Heap}{a:Addr}{u:HO}(r:Rd H a u) (x:xk P w H h):xv P w H h a u:=by
 rcases r with r | ⟨o,r⟩
 .exact x a u r
 .obtain⟨_,q⟩:=x a _ r;exact q
noncomputable def lY:Option HO->Prop
 | some (.lst _)=>True
 | some (.dK _)=>True
 | some (.dT _)=>True
 | some (.set _ _)=>True
 | some (.ins _ _ _)=>True
 | some (.ext _)=>True
 | _=>False
section
variable {P:Program}{w:World}{H:Hp}{h h':Heap}{x e:Addr}{o':HO}
def xk.write (ok:xk P w H h) (mu:lY (H x)) (he:e=x\/H e=some (.own x)) (k:∀ b u,b≠e->h.get? b=some u->h'.get? b=some u) (CJ:∃ u,h'.get? e=some u)
  (new:xv P w (upd H x o') h' x o'):xk P w (upd H x o') h':=λ b u q=>by
 have nown:∀ c y,H c=some (.own y)->c≠x:=λ c y r z=>by subst z;rw[r] at mu;exact mu
 have ntup:∀ c xs,H c=some (.tup xs)->c≠x:=λ c xs r z=>by subst z;rw[r] at mu;exact mu
 by_cases hb:b=x
 .subst hb;rw[yR] at q;cases q;exact new
 .rw[yV hb] at q;by_cases BK:b=e
  .have q':H b=some (.own x):=by
    rcases he with z | z
    .exact absurd (BK.trans z) hb
    .rw[BK];exact z
   rw[q] at q';cases q';obtain⟨v,hv⟩:=CJ;exact⟨v,by rw[BK];exact hv⟩
  .refine (ok b u q).sF (λ c v hc r=>k c v ?_ r) (λ c r=>by rw[yV (nown c b r)];exact r) λ c xs r=>by rw[yV (ntup c xs r)];exact r
   rcases hc with rfl | hc
   .exact BK
   .rintro rfl;rcases he with z | z
    .exact nown c b hc z
    .rw[hc] at z;cases z;exact hb rfl
end
structure Un (fs ex:List Addr) (H H':Hp) (h h':Heap):Prop where
 keep:∀ b o,h.get? b=some o->H b=none->b∉fs->b∉ex->h'.get? b=some o
 slot:∀ b o,h.get? b=some o->H b=none->b∈fs->b∉ex->∃ sl,h'.get? b=some { o with slots:=sl }
 free:∀ b o,h.get? b=some o->H b=none->b∉ex->H' b=none
 there:∀ b o,h.get? b=some o->b∉ex->∃ o',h'.get? b=some o'
 tF:∀ b xs,H b=some (.tup xs)->H' b=some (.tup xs)
 sX:∀ b o u,H b=some (.wG o u)->H' b=some (.wG o u)
 rR:∀ b ps,H b=some (.qP ps)->∃ more,H' b=some (.qP (ps++more))
section
variable {fs ex:List Addr}{H H1:Hp}{h h1 h':Heap}{a x e:Addr}{o:HO}
def Un.any (u:Un fs ex H H1 h h1) {b:Addr}{ob:Obj}(q:h.get? b=some ob) (n:H b=none) (hx:b∉ex):∃ sl,h1.get? b=some { ob with slots:=sl }:=by
 by_cases hb:b∈fs
 .exact u.slot b ob q n hb hx
 .exact⟨ob.slots,u.keep b ob q n hb hx⟩
def Un.kept (k:∀ b u,h.get? b=some u->h'.get? b=some u):Un fs ex H H h h':=
 ⟨λ b ob q _ _ _=>k b ob q,λ b ob q _ _ _=>⟨ob.slots,k b ob q⟩,λ _ _ _ n _=>n,λ b ob q _=>⟨ob,k b ob q⟩,λ _ _ q=>q,λ _ _ _ q=>q,λ _ ps q=>⟨#[],by rw[q];simp⟩⟩
def Un.refl:Un fs ex H H h h:=Un.kept λ _ _ q=>q
def Un.laid (k:∀ b u,h.get? b=some u->h'.get? b=some u) (hp:h.objs.size<=a) (hn:H a=none):Un fs ex H (upd H a o) h h' where
 keep:=λ b u q _ _ _=>k b u q
 slot:=λ b u q _ _ _=>⟨u.slots,k b u q⟩
 free:=λ b u q n _=>by rw[yV (Ax (Bb (Ap q) hp))];exact n
 there:=λ b u q _=>⟨u,k b u q⟩
 tF:=λ b xs q=>by rw[yV (qe q hn)];exact q
 sX:=λ b u xs q=>by rw[yV (qe q hn)];exact q
 rR:=λ b ps q=>⟨#[],by rw[yV (qe q hn),q];simp⟩
def Un.write (mu:lY (H x)) (he:e=x\/H e=some (.own x)) (k:∀ b u,b≠e->h.get? b=some u->h'.get? b=some u) (CJ:∃ u,h'.get? e=some u):Un fs ex H (upd H x o) h h':=by
 have hx:∀ b,H b=none->b≠x:=λ b n z=>by subst z;rw[n] at mu;exact mu
 have hb:∀ b,H b=none->b≠e:=λ b n z=>by
  subst z;rcases he with r | r
  .exact hx b n r
  .rw[n] at r;cases r
 have hm:∀ b u,H b=some u->¬ lY (some u)->b≠x:=λ b u q nm z=>by subst z;rw[q] at mu;exact nm mu
 refine⟨λ b u q n _ _=>k b u (hb b n) q,λ b u q n _ _=>⟨u.slots,k b u (hb b n) q⟩,λ b u q n _=>by rw[yV (hx b n)];exact n,λ b u q _=>?_,
  λ b xs q=>by rw[yV (hm b _ q λ z=>z)];exact q,λ b u xs q=>by rw[yV (hm b _ q λ z=>z)];exact q,λ b ps q=>⟨#[],by rw[yV (hm b _ q λ z=>z),q];simp⟩⟩
 by_cases BK:b=e
 .subst BK;exact CJ
 .exact⟨u,k b u BK q⟩
end
noncomputable def kE (h:Heap) (H:Hp):List Addr:=(List.range h.objs.size).filter λ a=>(H a).isSome
def sU (h:Heap) (H:Hp):Heap:=PySem.W.hideAll h (kE h H)
def Nv (h:Heap) (H:Hp):(sU h H).objs.size=h.objs.size:=PySem.W.hideAll_size _ _
def Nw {h:Heap}{H:Hp}{b:Addr}{o:Obj}(e:h.get? b=some o) (n:H b=none):(sU h H).get? b=some o:=
 PySem.W.hideAll_get _ e λ hm=>by
  have q:(H b).isSome=true:=(AV.mp hm).2;rw[n] at q;simp at q
def PM {h:Heap}{H:Hp}{b:Addr}{o:Obj}(e:(sU h H).get? b=some o):h.get? b=some o/\H b=none:=by
 have e':h.get? b=some o:=PySem.W.of_hideAll (kE h H) e;refine⟨e',?_⟩;cases q:H b with
 | none=>rfl
 | some x=>
  have hm:b∈kE h H:=AV.mpr ⟨AA.mpr (Ap e'),by simp[q]⟩;have z:(sU h H).get? b=none:=PySem.W.hideAll_none (kE h H) hm;rw[z] at e;cases e
structure Mod (K:Ac) (mg:Str->Option Value) (base:Heap):Prop where
 eR:K.In base
 glob:base.Ns mainGlobals mg
 blt:∃ mb,base.Ns builtinsNs mb/\∀ x:Str,x≠"__name__"->mb x=bootBuiltins x
 nolimit:base.NoLimit
structure Cx where
 prog:Program
 w:World
 K:Ac
 mg:Str->Option Value
 base:Heap
 A:Around
 N:List Str
 s₀:Shared
 H₀:Hp
 env:Env
 outer:List Env
 stack:List Env
 ex:List Addr
 fn:Str->Bool
 calm:Bool
 pn:List (Addr×Obj)
 xe:Value->Shared->Prop
noncomputable def ua (l:List Env):List Addr:=l.filterMap (·.frame)
abbrev Cx.fs (X:Cx):List Addr:=ua X.outer
def ia (sc:Scope) (x:Str):Prop:=sc.names.lookup x=some .local\/sc.names.lookup x=some .cell\/sc.names.lookup x=some .free
def Loc (sc:Scope) (x:Str):Prop:=sc.names.lookup x=some .local\/sc.names.lookup x=some .cell
def Look (env:Env) (h:Heap) (m:Str->Option Value) (x:Str) (u:Value):Prop:=
 (env.kindOf x=some .local/\m x=some u)\/((env.kindOf x=some .cell\/env.kindOf x=some .free)/\∃ c,env.cells.lookup x=some c/\h.IsCell c (some u))
structure Cx.Ok (X:Cx):Prop where
 mod:Mod X.K X.mg X.base
 kind:X.env.scope.kind=.function
 glob:X.env.globals=mainGlobals
 blt:X.env.builtins=builtinsNs
 above:X.s₀.heap.objs.size<=X.env.locals
 inj:∀ x y c,X.env.cells.lookup x=some c->X.env.cells.lookup y=some c->x=y
 has:∀ x,(X.env.kindOf x=some .cell\/X.env.kindOf x=some .free)->∃ c,X.env.cells.lookup x=some c
 lB:∀ x c,X.fn x=true->X.env.cells.lookup x=some c->X.s₀.heap.objs.size<=c
 hd:X.calm=true->X.A.handled=none
 frames:X.A.frames=some X.stack
 kH:X.stack=X.outer\/(X.stack=X.env::X.outer/\X.env.frame=some X.env.locals)
 dB:∀ b∈X.ex,b≠X.env.locals/\∀ x c,X.env.cells.lookup x=some c->c≠b
 bs:∀ b o,X.base.get? b=some o->X.s₀.heap.get? b=some o/\X.H₀ b=none
 pP:X.base.objs.size<=X.s₀.heap.objs.size
 mN:∀ b o,X.base.get? b=some o->b∉X.ex
 lg:∀ b∈X.ex,b∉X.fs
 u_:X.s₀.heap.FunFrames X.base X.outer
 ni:∀ b∈X.fs,X.H₀ b=none
structure Inv (X:Cx) (pins:List (Addr×Obj)) (O:List (Option V)) (H:Hp) (s:Shared):Prop where
 ok:X.Ok
 os:s.os=X.s₀.os
 bare:AllBare s.gens
 base:Un X.fs X.ex X.H₀ H X.s₀.heap s.heap
 loc:∃ m,s.heap.Ns X.env.locals m/\∀ (i:Nat) (x:Str) (v:V),X.N[i]?=some x->O[i]?=some (some v)->ia X.env.scope x->∃ u,RelV v u/\Look X.env s.heap m x u
 cell:∀ x c,X.env.cells.lookup x=some c->∃ v,s.heap.IsCell c v
 free:H X.env.locals=none
 tT:∀ x c,X.env.cells.lookup x=some c->H c=none
 pin:∀ p∈X.pn++pins,s.heap.get? p.1=some p.2/\H p.1=none/\p.1≠X.env.locals/\p.1∉X.fs/\∀ v,p.2.data≠.cell v
 zE:xk X.prog X.w H s.heap
 len:O.length=X.N.length
section
variable {X:Cx}{pins:List (Addr×Obj)}{O:List (Option V)}{H H':Hp}{s:Shared}{h':Heap}
def Cx.Ok.PV (ok:X.Ok) {b:Addr}{o:Obj}(e:X.base.get? b=some o):b∉X.fs:=λ hb=>by
 have:=(ok.u_.mem hb).1;rw[e] at this;cases this
theorem Inv.bs (I:Inv X pins O H s):∀ b o,X.base.get? b=some o->s.heap.get? b=some o/\H b=none:=λ b o e=>
 ⟨I.base.keep b o (I.ok.bs b o e).1 (I.ok.bs b o e).2 (I.ok.PV e) (I.ok.mN b o e),I.base.free b o (I.ok.bs b o e).1 (I.ok.bs b o e).2 (I.ok.mN b o e)⟩
def Inv.bk (I:Inv X pins O H s):∀ b o,X.base.get? b=some o->s.heap.get? b=some o:=λ b o e=>(I.bs b o e).1
theorem Inv.mod (I:Inv X pins O H s):Mod X.K X.mg X.base:=I.ok.mod
def Inv.vZ (I:Inv X pins O H s):X.K.In s.heap:=I.ok.mod.eR.keeps I.bk
theorem Inv.lt (I:Inv X pins O H s):X.env.locals<s.heap.objs.size:=let ⟨_,hn,_⟩:=I.loc;hn.lt
def Inv.sz (I:Inv X pins O H s):X.s₀.heap.objs.size<=s.heap.objs.size:=A9 I.ok.above (BF I.lt)
def Inv.Yj (I:Inv X pins O H s) {a:Addr}(h:s.heap.objs.size<=a):a∉X.fs:=λ hb=>by
 obtain⟨_,o,ho,_⟩:=I.ok.u_.mem hb;exact absurd (Bb (Ap ho) (A9 I.sz h)) (BS _)
def Inv.pM (I:Inv X pins O H s):∀ x c,X.env.cells.lookup x=some c->c≠X.env.locals:=λ x c e z=>by
 obtain⟨v,o,ho,hd⟩:=I.cell x c e;obtain⟨m,⟨o',es,ep,ho',hd',_⟩,_⟩:=I.loc;rw[z,ho'] at ho;cases ho;rw[hd'] at hd;cases hd
theorem Inv.u_ (I:Inv X pins O H s):s.heap.FunFrames X.base X.outer:=by
 have all:∀ (l:List Env),(∀ b∈ua l,b∈X.fs)->X.s₀.heap.FunFrames X.base l->s.heap.FunFrames X.base l:=by
  intro l
  induction l with
  | nil=>intro _ _;trivial
  | cons env r ih=>
   intro hs hl;obtain⟨hk,⟨L,o,hf,hn,ho,hd⟩,hr⟩:=hl;have hL:L∈X.fs:=hs L (by unfold ua;rw[Cg,hf];exact Al);obtain⟨sl,e⟩:=I.base.slot L o ho (I.ok.ni L hL) hL λ z=>I.ok.lg L z hL;exact⟨hk,⟨L,_,hf,hn,e,hd⟩,ih (λ b hb=>hs b (by unfold ua;rw[Cg,hf];exact Av _ hb)) hr⟩
 exact all X.outer (λ _ hb=>hb) I.ok.u_
theorem Inv.stack (I:Inv X pins O H s):s.heap.FunFrames X.base X.stack:=by
 rcases I.ok.kH with e | ⟨e,hf⟩
 .rw[e];exact I.u_
 .rw[e];obtain⟨m,hn,_⟩:=I.loc;refine .cons (by rw[I.ok.kind];decide) hf hn ?_ I.u_;exact Heap.get?_none_of_le (A9 I.ok.pP I.ok.above)
def Inv.hV (I:Inv X pins O H s):∀ b∈ua X.stack,b∈X.env.locals::X.fs:=λ b hb=>by
 rcases I.ok.kH with e | ⟨e,hf⟩
 .rw[e] at hb;exact Av _ hb
 .rw[e] at hb;unfold ua at hb;rw[Cg,hf] at hb;exact hb
def Inv.aO (I:Inv X pins O H s):∀ b∈ua X.stack,H b=none:=λ b hb=>by
 rcases Ai.mp (I.hV b hb) with e | hb
 .rw[e];exact I.free
 .obtain⟨_,o,ho,_⟩:=I.ok.u_.mem hb;exact I.base.free b o ho (I.ok.ni b hb) λ z=>I.ok.lg b z hb
def Inv.step {g':Array GenState}{t':Nat}{d':Drawn}{ch:List Addr}(I:Inv X pins O H s)
  (BC:∀ b∈ch,(b∈X.ex\/X.s₀.heap.objs.size<=b)/\b≠X.env.locals/\(∀ x c,X.env.cells.lookup x=some c->c≠b)/\∀ p∈X.pn++pins,p.1≠b)
  (keep:∀ b o,b≠X.env.locals->b∉X.fs->b∉ch->s.heap.get? b=some o->H b=none->h'.get? b=some o)
  (slot:∀ b o,b≠X.env.locals->b∈X.fs->b∉ch->s.heap.get? b=some o->H b=none->∃ sl,h'.get? b=some { o with slots:=sl }) (free:∀ b o,b∉ch->s.heap.get? b=some o->H b=none->H' b=none)
  (there:∀ b o,b∉ch->s.heap.get? b=some o->∃ o',h'.get? b=some o')
  (tF:∀ b xs,H b=some (.tup xs)->H' b=some (.tup xs)) (sX:∀ b o u,H b=some (.wG o u)->H' b=some (.wG o u)) (rR:∀ b ps,H b=some (.qP ps)->∃ more,H' b=some (.qP (ps++more)))
  (ns:∀ m,s.heap.Ns X.env.locals m->h'.Ns X.env.locals m) (zE:xk X.prog X.w H' h') (hg:AllBare g'):
  Inv X pins O H' { s with heap:=h',gens:=g',drawn:=d',toks:=t' }:=by
 have neL:∀ b o,X.s₀.heap.get? b=some o->b≠X.env.locals:=λ b o e=>Ax (Bb (Ap e) I.ok.above);have neC:∀ b o,X.s₀.heap.get? b=some o->b∉X.ex->b∉ch:=λ b o e hx hb=>by
  rcases (BC b hb).1 with z | z
  .exact hx z
  .exact absurd (Bb (Ap e) z) (BS _)
 have cellK:∀ x c,X.env.cells.lookup x=some c->∀ v,s.heap.IsCell c v->h'.IsCell c v:=λ x c e v ⟨o,ho,hd⟩=>by
  have nch:c∉ch:=λ z=>(BC c z).2.2.1 x c e rfl;by_cases hc:c∈X.fs
  .obtain⟨sl,q⟩:=slot c o (I.pM x c e) hc nch ho (I.tT x c e);exact⟨_,q,hd⟩
  .exact⟨o,keep c o (I.pM x c e) hc nch ho (I.tT x c e),hd⟩
 refine⟨I.ok,I.os,hg,⟨λ b o e n hb hx=>?_,λ b o e n hb hx=>?_,λ b o e n hx=>?_,λ b o e hx=>?_,λ b xs e=>tF b xs (I.base.tF b xs e),λ b o xs e=>sX b o xs (I.base.sX b o xs e),λ b ps e=>?_⟩,?_,λ x c e=>?_,?_,λ x c e=>?_,λ p hp=>?_,zE,I.len⟩
 .exact keep b o (neL b o e) hb (neC b o e hx) (I.base.keep b o e n hb hx) (I.base.free b o e n hx)
 .obtain⟨sl,e1⟩:=I.base.slot b o e n hb hx;obtain⟨sl',e2⟩:=slot b _ (neL b o e) hb (neC b o e hx) e1 (I.base.free b o e n hx);exact⟨sl',e2⟩
 .obtain⟨o',e1⟩:=I.base.there b o e hx;exact free b o' (neC b o e hx) e1 (I.base.free b o e n hx)
 .obtain⟨o',e1⟩:=I.base.there b o e hx;exact there b o' (neC b o e hx) e1
 .obtain⟨m1,e1⟩:=I.base.rR b ps e;obtain⟨m2,e2⟩:=rR b _ e1;exact⟨m1++m2,by rw[e2,Array.append_assoc]⟩
 .obtain⟨m,hn,hl⟩:=I.loc;refine⟨m,ns m hn,λ i x v e1 e2 e3=>?_⟩;obtain⟨u,r,l⟩:=hl i x v e1 e2 e3;refine⟨u,r,?_⟩;rcases l with l | ⟨k,c,e,z⟩
  .exact .inl l
  .exact .inr ⟨k,c,e,cellK x c e _ z⟩
 .obtain⟨v,z⟩:=I.cell x c e;exact⟨v,cellK x c e v z⟩
 .obtain⟨m,⟨o,_,_,ho,_⟩,_⟩:=I.loc;exact free _ o (λ z=>(BC _ z).2.1 rfl) ho I.free
 .obtain⟨v,o,ho,hd⟩:=I.cell x c e;exact free c o (λ z=>(BC c z).2.2.1 x c e rfl) ho (I.tT x c e)
 .obtain⟨e,n,ne,nf,d⟩:=I.pin p hp;have nch:p.1∉ch:=λ z=>(BC p.1 z).2.2.2 p hp rfl;exact⟨keep p.1 p.2 ne nf nch e n,free p.1 p.2 nch e n,ne,nf,d⟩
def Inv.un {t':Nat}(I:Inv X pins O H s) (u:Un X.fs [] H H' s.heap h') (zE:xk X.prog X.w H' h'):Inv X pins O H' { s with heap:=h',toks:=t' }:=by
 obtain⟨m,⟨o,es,ep,ho,r⟩,_⟩:=id I.loc;obtain⟨sl,hL⟩:=u.any ho I.free (by simp);exact I.step (g':=s.gens) (d':=s.drawn) (ch:=[]) (λ _ z=>nomatch z) (λ b o _ hb _ e n=>u.keep b o e n hb (by simp)) (λ b o _ hb _ e n=>u.slot b o e n hb (by simp)) (λ b o _ e n=>u.free b o e n (by simp)) (λ b o _ e=>u.there b o e (by simp)) u.tF u.sX u.rR (λ m' hm=>by
  obtain⟨o',es',ep',ho',r'⟩:=hm;rw[ho] at ho';cases ho';exact⟨_,es',ep',hL,r'⟩) zE I.bare
def Inv.call {g':Array GenState}{t':Nat}{d':Drawn}{ch:List Addr}(I:Inv X pins O H s) (u:Un (ua X.stack) ch H H' s.heap h') (zE:xk X.prog X.w H' h') (hg:AllBare g')
  (BC:∀ b∈ch,(b∈X.ex\/X.s₀.heap.objs.size<=b)/\b≠X.env.locals/\(∀ x c,X.env.cells.lookup x=some c->c≠b)/\∀ p∈X.pn++pins,p.1≠b):
  Inv X pins O H' { s with heap:=h',gens:=g',drawn:=d',toks:=t' }:=by
 obtain⟨m,⟨o,es,ep,ho,r⟩,_⟩:=id I.loc;obtain⟨sl,hL⟩:=u.any ho I.free λ z=>(BC _ z).2.1 rfl;exact I.step (ch:=ch) BC (λ b o hL hb hc e n=>u.keep b o e n (λ z=>(Ai.mp (I.hV b z)).elim hL hb) hc) (λ b o _ _ hc e n=>u.any e n hc) (λ b o hc e n=>u.free b o e n hc) (λ b o hc e=>u.there b o e hc) u.tF u.sX u.rR (λ m' hm=>by
  obtain⟨o',es',ep',ho',r'⟩:=hm;rw[ho] at ho';cases ho';exact⟨_,es',ep',hL,r'⟩) zE hg
def Inv.turned {t':Nat}{it:Addr}(I:Inv X pins O H s) (k:∀ b o,b≠it->s.heap.get? b=some o->h'.get? b=some o) (hn:H it=none) (hL:it≠X.env.locals)
  (h1:it∈X.ex\/X.s₀.heap.objs.size<=it) (h2:∀ x c,X.env.cells.lookup x=some c->c≠it) (h3:∀ p∈X.pn++pins,p.1≠it):Inv X pins O H { s with heap:=h',toks:=t' }:=by
 have nit:∀ b u,H b=some u->b≠it:=λ b u e z=>by rw[z,hn] at e;cases e
 refine I.step (g':=s.gens) (d':=s.drawn) (ch:=[it]) (λ b hb=>?_) (λ b o _ _ hc e _=>k b o (λ z=>hc (by simp[z])) e) (λ b o _ _ hc e _=>⟨o.slots,k b o (λ z=>hc (by simp[z])) e⟩) (λ _ _ _ _ n=>n)
  (λ b o hc e=>⟨o,k b o (λ z=>hc (by simp[z])) e⟩) (λ _ _ e=>e) (λ _ _ _ e=>e) (λ b ps e=>⟨#[],by rw[e];simp⟩) (λ m hm=>?_) (λ b u e=>?_) I.bare
 .have e:b=it:=by simpa using hb
  subst e;exact⟨h1,hL,h2,h3⟩
 .obtain⟨o,es,ep,ho,r⟩:=hm;exact⟨o,es,ep,k _ o (Ne.symm hL) ho,r⟩
 .refine (I.zE b u e).sF (λ c v hc q=>k c v ?_ q) (λ _ q=>q) λ _ _ q=>q;rcases hc with z | z
  .rw[z];exact nit b u e
  .exact nit c _ z
def Inv.tok (I:Inv X pins O H s) (t:Nat):Inv X pins O H { s with toks:=t }:=I.un (h':=s.heap) (t':=t) Un.refl I.zE
theorem Inv.kept {t':Nat}(I:Inv X pins O H s) (k:∀ b u,s.heap.get? b=some u->h'.get? b=some u):Inv X pins O H { s with heap:=h',toks:=t' }:=I.un (Un.kept k) (I.zE.kept k)
theorem Inv.laid {a:Addr}{o:HO}{t':Nat}(I:Inv X pins O H s) (k:∀ b u,s.heap.get? b=some u->h'.get? b=some u) (hp:s.heap.objs.size<=a) (new:xv X.prog X.w (upd H a o) h' a o):
  Inv X pins O (upd H a o) { s with heap:=h',toks:=t' }:=I.un (Un.laid k hp (I.zE.fresh hp)) (I.zE.laid k hp new)
theorem Inv.write {x e:Addr}{o:HO}{t':Nat}(I:Inv X pins O H s) (mu:lY (H x)) (he:e=x\/H e=some (.own x)) (k:∀ b u,b≠e->s.heap.get? b=some u->h'.get? b=some u) (CJ:∃ u,h'.get? e=some u)
  (new:xv X.prog X.w (upd H x o) h' x o):Inv X pins O (upd H x o) { s with heap:=h',toks:=t' }:=I.un (Un.write mu he k CJ) (I.zE.write mu he k CJ new)
def Inv.fA {pins':List (Addr×Obj)}(I:Inv X pins O H s) (h:∀ p∈pins',s.heap.get? p.1=some p.2/\H p.1=none/\p.1≠X.env.locals/\p.1∉X.fs/\∀ v,p.2.data≠.cell v):Inv X pins' O H s:=
 ⟨I.ok,I.os,I.bare,I.base,I.loc,I.cell,I.free,I.tT,λ p hp=>(AX.mp hp).elim (λ z=>I.pin p (B6 _ z)) (h p),I.zE,I.len⟩
def Yl {N:List Str}(hN:N.Nodup) {i j:Nat}{x:Str}(a:N[i]?=some x) (b:N[j]?=some x):i=j:=by
 obtain⟨h1,e1⟩:=AN.mp a;obtain⟨h2,e2⟩:=AN.mp b;exact (List.getElem_inj hN).mp (e1.trans e2.symm)
def Uu {M:Model}{A:Around}{E:Value->Shared->Prop}{i:Nat}{x:Str}{v:V}{u:Value}{Q:Unit->Shared->Prop}(I:Inv X pins O H s) (hN:X.N.Nodup) (hi:X.N[i]?=some x) (hx:Loc X.env.scope x) (r:RelV v u)
  (h:∀ s',Inv X pins (O.set i (some v)) H s'->(∃ a,Heap.SameBut a s.heap s'.heap/\(a=X.env.locals\/X.env.cells.lookup x=some a))->Q () s') (hf:X.fn x=true\/X.env.scope.names.lookup x=some .local:=by first | exact .inl rfl | exact .inr rfl | assumption):wpAny M A (storeName X.env x u) Q E s:=by
 obtain⟨m,hn,hl⟩:=id I.loc;have EB:(X.env.scope.kind == .class||(X.env.scope.kind == .module&&X.env.locals != X.env.globals))=false:=by rw[I.ok.kind];rfl
 have hiσ:i < O.length:=by rw[I.len];exact (AN.mp hi).1
 have pM:=I.pM;have tracked:∀ {a:Addr}{h':Heap},(∃ o,s.heap.get? a=some o/\H a=none)->Heap.SameBut a s.heap h'->xk X.prog X.w H h':=λ{a h'} ha hs b ob e=>by
  obtain⟨_,_,hfree⟩:=ha;refine (I.zE b ob e).sF (λ c w' hc q=>(hs.2 c ?_).trans q) (λ _ q=>q) λ _ _ q=>q;rintro rfl;rcases hc with rfl | hc
  .rw[hfree] at e;cases e
  .rw[hfree] at hc;cases hc
 rcases hx with hk | hk
 .refine wpAny_storeName_local hk hn (λ h' hn' hs=>?_) EB;obtain⟨oL,_,_,hoL,_⟩:=id hn;refine h _ ⟨I.ok,I.os,I.bare,⟨λ b o e n hb hx=>?_,λ b o e n hb hx=>?_,I.base.free,λ b o e hx=>?_,I.base.tF,I.base.sX,I.base.rR⟩,⟨_,hn',λ j y v' e1 e2 e3=>?_⟩,λ y c e=>?_,I.free,I.tT,λ p hp=>?_,tracked ⟨oL,hoL,I.free⟩ hs,by simpa using I.len⟩ ⟨_,hs,.inl rfl⟩
  .exact (hs.2 b (Ax (Bb (Ap e) I.ok.above))).trans (I.base.keep b o e n hb hx)
  .obtain⟨sl,e1⟩:=I.base.slot b o e n hb hx;exact⟨sl,(hs.2 b (Ax (Bb (Ap e) I.ok.above))).trans e1⟩
  .obtain⟨o',e1⟩:=I.base.there b o e hx;exact⟨o',(hs.2 b (Ax (Bb (Ap e) I.ok.above))).trans e1⟩
  .by_cases hj:j=i
   .subst hj;rw[hi] at e1;cases e1;rw[List.getElem?_set_self hiσ] at e2;cases e2;exact⟨u,r,.inl ⟨hk,by simp⟩⟩
   .rw[List.getElem?_set_ne (Ne.symm hj)] at e2;obtain⟨u',r',q⟩:=hl j y v' e1 e2 e3;refine⟨u',r',?_⟩;rcases q with ⟨k,e⟩ | ⟨k,c,e,z⟩
    .refine .inl ⟨k,?_⟩;have:y≠x:=λ e=>hj (Yl hN e1 (e▸hi));simp[this,e]
    .exact .inr ⟨k,c,e,z.sameBut hs (pM y c e)⟩
  .obtain⟨w',z⟩:=I.cell y c e;exact⟨w',z.sameBut hs (pM y c e)⟩
  .obtain⟨e,n,ne,nf,d⟩:=I.pin p hp;exact⟨(hs.2 p.1 ne).trans e,n,ne,nf,d⟩
 .have Cr:X.fn x=true:=by
   rcases hf with z | z
   .exact z
   .rw[z] at hk;cases hk
  obtain⟨c,hc⟩:=I.ok.has x (.inl hk);obtain⟨w',z⟩:=I.cell x c hc;refine wpAny_storeName_cell I.ok.kind hk hc z (λ h' hc' hs=>?_);obtain⟨oc,hoc,Ek⟩:=id z;refine h { s with heap:=h' } ⟨I.ok,I.os,I.bare,⟨λ b o e n hb hx=>?_,λ b o e n hb hx=>?_,I.base.free,λ b o e hx=>?_,I.base.tF,I.base.sX,I.base.rR⟩,⟨m,hn.sameBut hs (Ne.symm (pM x c hc)),λ j y v' e1 e2 e3=>?_⟩,λ y c' e=>?_,I.free,I.tT,λ p hp=>?_,tracked ⟨oc,hoc,I.tT x c hc⟩ hs,by simpa using I.len⟩ ⟨c,hs,.inr hc⟩
  .exact (hs.2 b (Ax (Bb (Ap e) (I.ok.lB x c Cr hc)))).trans (I.base.keep b o e n hb hx)
  .obtain⟨sl,e1⟩:=I.base.slot b o e n hb hx;exact⟨sl,(hs.2 b (Ax (Bb (Ap e) (I.ok.lB x c Cr hc)))).trans e1⟩
  .obtain⟨o',e1⟩:=I.base.there b o e hx;exact⟨o',(hs.2 b (Ax (Bb (Ap e) (I.ok.lB x c Cr hc)))).trans e1⟩
  .by_cases hj:j=i
   .subst hj;rw[hi] at e1;cases e1;rw[List.getElem?_set_self hiσ] at e2;cases e2;exact⟨u,r,.inr ⟨.inl hk,c,hc,hc'⟩⟩
   .rw[List.getElem?_set_ne (Ne.symm hj)] at e2;obtain⟨u',r',q⟩:=hl j y v' e1 e2 e3;refine⟨u',r',?_⟩;rcases q with q | ⟨k,c',e,z'⟩
    .exact .inl q
    .refine .inr ⟨k,c',e,z'.sameBut hs ?_⟩;rintro rfl;exact hj (Yl hN e1 (I.ok.inj _ _ _ e hc▸hi))
  .by_cases hcc:c'=c
   .subst hcc;exact⟨_,hc'⟩
   .obtain⟨w2,z2⟩:=I.cell y c' e;exact⟨w2,z2.sameBut hs hcc⟩
  .obtain⟨e,n,ne,nf,d⟩:=I.pin p hp;refine⟨(hs.2 p.1 ?_).trans e,n,ne,nf,d⟩;intro q;rw[q,hoc] at e;have q':oc=p.2:=A4 e;exact d w' (by rw[<- q'];exact Ek)
def hJ {M:Model}{A:Around}{E:Value->Shared->Prop}{i:Nat}{x:Str}{v:V}{u:Value}{Q:Unit->Shared->Prop}(I:Inv X pins O H s) (hN:X.N.Nodup) (hi:X.N[i]?=some x) (hx:Loc X.env.scope x) (r:RelV v u)
  (h:∀ s',Inv X pins (O.set i (some v)) H s'->Q () s') (hf:X.fn x=true\/X.env.scope.names.lookup x=some .local:=by first | exact .inl rfl | exact .inr rfl | assumption):wpAny M A (storeName X.env x u) Q E s:=
 Uu I hN hi hx r (λ s' I' _=>h s' I') hf
def Inv.Lk {s':Shared}{ch:List Addr}(I:Inv X pins O H s) (ho:s'.os=s.os) (u:Un (ua X.stack) ch H H' s.heap s'.heap) (zE:xk X.prog X.w H' s'.heap) (hg:AllBare s'.gens)
  (BC:∀ b∈ch,(b∈X.ex\/X.s₀.heap.objs.size<=b)/\b≠X.env.locals/\(∀ x c,X.env.cells.lookup x=some c->c≠b)/\∀ p∈X.pn++pins,p.1≠b):Inv X pins O H' s':=by
 obtain⟨h',g',d',t',o'⟩:=s';have e:o'=s.os:=ho;subst e;exact I.call (g':=g') (t':=t') (d':=d') u zE hg BC
end
abbrev XK:=Value->Option Addr->Hp->Prop
abbrev St:=List (Option V)
abbrev VK:=V->Hp->Prop
abbrev TE:=St->Hp->VK->Prop
abbrev TT:=St->Hp->(Bool->Hp->Prop)->Prop
abbrev TA:=St->Hp->(List V->Hp->Prop)->Prop
structure Ends where
 nx:St->Hp->Prop
 rt:VK
 bk:St->Hp->Prop:=λ _ _=>False
 ct:St->Hp->Prop:=λ _ _=>False
abbrev TS:=Ends->St->Hp->Prop
def EP (X:Cx) (pins:List (Addr×Obj)) (O:St) (Q:VK) (u:Value) (s':Shared):Prop:=∃ v H',Inv X pins O H' s'/\RelV v u/\Q v H'
def TP (X:Cx) (pins:List (Addr×Obj)) (O:St) (Q:Bool->Hp->Prop) (b:Bool) (s':Shared):Prop:=∃ H',Inv X pins O H' s'/\Q b H'
def AP (X:Cx) (pins:List (Addr×Obj)) (O:St) (Q:List V->Hp->Prop) (us:List Value) (s':Shared):Prop:=∃ vs H',Inv X pins O H' s'/\Vals vs us/\Q vs H'
def SP (X:Cx) (pins:List (Addr×Obj)) (D:Ends) (f:Flow) (s':Shared):Prop:=
 match f with
 | .next=>∃ O' H',Inv X pins O' H' s'/\D.nx O' H'
 | .brk=>∃ O' H',Inv X pins O' H' s'/\D.bk O' H'
 | .cont=>∃ O' H',Inv X pins O' H' s'/\D.ct O' H'
 | .ret u=>∃ v O' H',Inv X pins O' H' s'/\RelV v u/\D.rt v H'
def PE (X:Cx) (e:Expr) (t:TE):Prop:=
 ∀ (pins:List (Addr×Obj)) (s:Shared) (O:St) (H:Hp) (Q:VK),Inv X pins O H s->t O H Q->wpAny (model X.prog X.w) X.A (eval e X.env) (EP X pins O Q) X.xe s
def PT (X:Cx) (e:Expr) (t:TT):Prop:=
 ∀ (pins:List (Addr×Obj)) (s:Shared) (O:St) (H:Hp) (Q:Bool->Hp->Prop),Inv X pins O H s->t O H Q->wpAny (model X.prog X.w) X.A (isTrue e X.env (eval e X.env)) (TP X pins O Q) X.xe s
def PW (X:Cx) (e:Expr) (t:TT):Prop:=
 ∀ (whole:Sem Value) (pins:List (Addr×Obj)) (s:Shared) (O:St) (H:Hp) (Q:Bool->Hp->Prop),Inv X pins O H s->t O H Q->wpAny (model X.prog X.w) X.A (isTrue e X.env whole) (TP X pins O Q) X.xe s
def PW.pt {X:Cx}{e:Expr}{t:TT}(h:PW X e t):PT X e t:=h _
def PA (X:Cx) (es:List Expr) (t:TA):Prop:=
 ∀ (pos:Pos) (pins:List (Addr×Obj)) (s:Shared) (O:St) (H:Hp) (Q:List V->Hp->Prop),Inv X pins O H s->t O H Q->wpAny (model X.prog X.w) X.A (spliced (backTo pos (starEach es X.env))) (AP X pins O Q) X.xe s
def PS (X:Cx) (st:Stmt) (t:TS):Prop:=
 ∀ (pins:List (Addr×Obj)) (s:Shared) (O:St) (H:Hp) (D:Ends),Inv X pins O H s->t D O H->wpAny (model X.prog X.w) X.A (exec st X.env) (SP X pins D) X.xe s
def wB (X:Cx) (st:List Stmt) (t:TS):Prop:=
 ∀ (pins:List (Addr×Obj)) (s:Shared) (O:St) (H:Hp) (D:Ends),Inv X pins O H s->t D O H->wpAny (model X.prog X.w) X.A (execs st X.env) (SP X pins D) X.xe s
def zK {α:Type}{t:Sem α}{Q Q':α->Shared->Prop}{M:Model}{A:Around}{E:Value->Shared->Prop}{s:Shared}(h:wpAny M A t Q E s) (hQ:∀ a s,Q a s->Q' a s):wpAny M A t Q' E s:=za5 h hQ λ _ _ x=>x
section
variable {X:Cx}
def iV (i:Nat):TE:=fun O H Q=>∃ v,O[i]?=some (some v)/\Q v H
def tC (v:V):TE:=λ _ H Q=>Q v H
def S7 {i:Nat}{x:Str}{pos:Pos}(hN:X.N[i]?=some x) (hv:ia X.env.scope x) (hd:(x == ("__debug__":Str))=false:=by decide) (Bw:(x == ("__classdict__":Str))=false:=by decide):PE X (.Name x pos) (iV i):=by
 intro pins s O H Q I h;obtain⟨v,e,h⟩:=h;obtain⟨m,hn,hl⟩:=I.loc;obtain⟨u,r,l⟩:=hl i x v hN e hv;have fin:EP X pins O Q u s:=⟨v,H,I,r,h⟩
 rcases l with ⟨hk,hm⟩ | ⟨hk,c,hc,hcell⟩
 .exact wpAny_Name (wpAny_loadName_local I.ok.kind hk hn hm fin) hd
 .rcases hk with hk | hk
  .exact wpAny_Name (wpAny_loadName_cell I.ok.kind hk hc hcell fin) hd
  .exact wpAny_Name (wpAny_loadName_free I.ok.kind hk hc hcell fin Bw) hd
def SN {i j pos}:PE X (.Constant (.int i) j pos) (tC (.int i)):=λ _ _ _ H _ I h=>wpAny_Constant_int ⟨.int i,H,I.tok _,⟨_,rfl⟩,h⟩
def Rb {b j pos}:PE X (.Constant (.bool b) j pos) (tC (.bl b)):=λ _ _ _ H _ I h=>Constant_bool ⟨.bl b,H,I,rfl,h⟩
def SH {j pos}:PE X (.Constant .none j pos) (tC .zl):=λ _ _ _ H _ I h=>Constant_none ⟨.zl,H,I,rfl,h⟩
def SA {x j pos}:PE X (.Constant (.str x) j pos) (tC (.str x)):=λ _ _ _ H _ I h=>Calls.Constant_str ⟨.str x,H,I.tok _,⟨_,rfl⟩,h⟩
def Gl (X:Cx) (x:Str):Prop:=X.env.kindOf x=some .globalImplicit
def Y9 {E:Value->Shared->Prop}{pins:List (Addr×Obj)}{s:Shared}{O:St}{H:Hp}{x:Str}{u:Value}{pos:Pos}{Q:Value->Shared->Prop}(I:Inv X pins O H s) (hg:Gl X x) (hm:X.mg x=some u) (h:Q u s)
  (hd:(x == ("__debug__":Str))=false:=by decide):wpAny (model X.prog X.w) X.A (eval (.Name x pos) X.env) Q E s:=
 Calls.Name_function_global I.ok.kind hg (Calls.loadGlobal_global (by rw[I.ok.glob];exact I.mod.glob.keeps I.bk) hm h) hd
def oS {E:Value->Shared->Prop}{pins:List (Addr×Obj)}{s:Shared}{O:St}{H:Hp}{x:Str}{u:Value}{pos:Pos}{Q:Value->Shared->Prop}(I:Inv X pins O H s) (hg:Gl X x) (hm:X.mg x=none) (hv:bootBuiltins x=some u) (h:Q u s)
  (hn:x≠"__name__":=by decide) (hd:(x == ("__debug__":Str))=false:=by decide):wpAny (model X.prog X.w) X.A (eval (.Name x pos) X.env) Q E s:=by
 obtain⟨mb,h1,h2⟩:=I.mod.blt;exact Calls.Name_function_global I.ok.kind hg (Calls.loadGlobal_builtin (by rw[I.ok.glob];exact I.mod.glob.keeps I.bk) hm (by rw[I.ok.blt];exact h1.keeps I.bk) ((h2 x hn).trans hv) h) hd
def SR {x:Str}{v:V}{u:Value}{pos:Pos}(hg:Gl X x) (hm:X.mg x=some u) (r:RelV v u) (hd:(x == ("__debug__":Str))=false:=by decide):PE X (.Name x pos) (tC v):=
 λ _ _ _ H _ I h=>Y9 I hg hm ⟨v,H,I,r,h⟩ hd
def Ra {x:Str}{v:V}{u:Value}{pos:Pos}(hg:Gl X x) (hm:X.mg x=none) (hv:bootBuiltins x=some u) (r:RelV v u) (hn:x≠"__name__":=by decide) (hd:(x == ("__debug__":Str))=false:=by decide):PE X (.Name x pos) (tC v):=
 λ _ _ _ H _ I h=>oS I hg hm hv ⟨v,H,I,r,h⟩ hn hd
variable {a b:Expr}{ta tb:TE}{pos:Pos}
variable {tA tB':TT}{rest:List Expr}
def Us (t u:TT):TT:=fun O H Q=>t O H λ c H1=>if c=true then u O H1 Q else Q false H1
def Ub (t u:TT):TT:=fun O H Q=>t O H λ c H1=>if c=true then Q true H1 else u O H1 Q
def Ud (t:TT):TT:=fun O H Q=>t O H λ c H1=>Q (!c) H1
def Tx (ha:PT X a tA):PW X (.BoolOp .And [a] pos) tA:=by
 intro wh pins s O H Q I h;refine isTrue_and (zK (ha pins s O H Q I h) λ c s1 e=>?_);cases c with
 | true=>exact isTrue_and_nil e
 | false=>exact e
def Tv (ha:PT X a tA):PW X (.BoolOp .Or [a] pos) tA:=by
 intro wh pins s O H Q I h;refine isTrue_or (zK (ha pins s O H Q I h) λ c s1 e=>?_);cases c with
 | false=>exact isTrue_or_nil e
 | true=>exact e
def Tz (ha:PT X a tA) (hb:PW X (.BoolOp .And (b::rest) pos) tB'):PW X (.BoolOp .And (a::b::rest) pos) (Us tA tB'):=by
 intro wh pins s O H Q I h;refine isTrue_and (zK (ha pins s O H _ I h) λ c s1 ⟨H1,I1,q1⟩=>?_);cases c with
 | true=>exact hb wh pins s1 O H1 Q I1 q1
 | false=>exact⟨H1,I1,q1⟩
def Tw (ha:PT X a tA) (hb:PW X (.BoolOp .Or (b::rest) pos) tB'):PW X (.BoolOp .Or (a::b::rest) pos) (Ub tA tB'):=by
 intro wh pins s O H Q I h;refine isTrue_or (zK (ha pins s O H _ I h) λ c s1 ⟨H1,I1,q1⟩=>?_);cases c with
 | true=>exact⟨H1,I1,q1⟩
 | false=>exact hb wh pins s1 O H1 Q I1 q1
def T5 (ha:PT X a tA):PT X (.UnaryOp .Not a pos) (Ud tA):=by
 intro pins s O H Q I h;exact isTrue_not (ha pins s O H (λ c H1=>Q (!c) H1) I h)
def Ur (ta tb:TE):TE:=fun O H Q=>ta O H λ x H1=>∃ c,x=.bl c/\if c=true then tb O H1 Q else Q (.bl false) H1
def Uc (ta:TE):TE:=fun O H Q=>ta O H λ x H1=>∃ c,x=.bl c/\Q (.bl (!c)) H1
def SF {op} {t:TE}(h:PE X a t):PE X (.BoolOp op [a] pos) t:=λ pins s O H Q I hw=>BoolOp_one (h pins s O H Q I hw)
def Rc (ha:PE X a ta) (hb:PE X (.BoolOp .And (b::rest) pos) tb):PE X (.BoolOp .And (a::b::rest) pos) (Ur ta tb):=by
 intro pins s O H Q I h;refine BoolOp_and (zK (ha pins s O H _ I h) λ v s1 ⟨x,H1,I1,r1,q1⟩=>?_);obtain⟨c,rfl,q1⟩:=q1;cases r1;refine zaA ?_;cases c with
 | true=>exact hb pins s1 O H1 Q I1 q1
 | false=>exact⟨.bl false,H1,I1,rfl,q1⟩
def SG (ha:PE X a ta):PE X (.UnaryOp .Not a pos) (Uc ta):=by
 intro pins s O H Q I h;refine UnaryOp_ (zK (ha pins s O H _ I h) λ v s1 ⟨x,H1,I1,r1,q1⟩=>?_);obtain⟨c,rfl,q1⟩:=q1;cases r1;exact not_of (zaA ⟨.bl (!c),H1,I1,rfl,q1⟩)
def Uj (t:TT) (ta tb:TE):TE:=fun O H Q=>t O H λ c H1=>if c=true then ta O H1 Q else tb O H1 Q
def SO {c:Expr}(hc:PT X c tA) (ha:PE X a ta) (hb:PE X b tb):PE X (.IfExp c a b pos) (Uj tA ta tb):=by
 intro pins s O H Q I h;refine wpAny_IfExp (zK (hc pins s O H _ I h) λ d s1 ⟨H1,I1,q1⟩=>?_);cases d with
 | true=>exact ha pins s1 O H1 Q I1 q1
 | false=>exact hb pins s1 O H1 Q I1 q1
end
def zT (K:Ac) (H:Hp) (a:Addr) (xs:List V):Prop:=
 Rd H a (.lst xs)\/
  ∃ (o:Obj) (its:Array Value) (n:Nat),K.lookup a=some o/\o.cls=.type "list"/\o.dict=none/\o.data=.seq its n/\its.size<=sizeLine/\Vals xs its.toList
def ye (K:Ac) (H:Hp) (a:Addr) (xs:List V):Prop:=
 Rd H a (.tup xs)\/
  ∃ (o:Obj) (its:Array Value) (n:Nat),K.lookup a=some o/\o.cls=.type "tuple"/\o.data=.seq its n/\its.size<=sizeLine/\Vals xs its.toList
noncomputable def LC:Value->Option V
 | .none=>some .zl
 | .bool b=>some (.bl b)
 | .int i _=>some (.int i)
 | .str x _=>some (.str x)
 | .bytes b _=>some (.ny b)
 | .float b _=>some (.jH b)
 | .ref a=>some (.ref a)
 | .type n=>some (.ty n)
 | _=>none
def RelV.abs {x:V}{u:Value}(r:RelV x u):LC u=some x:=by
 cases x with
 | zl=>cases r;rfl
 | bl _=>cases r;rfl
 | int _=>obtain⟨t,rfl⟩:=r;rfl
 | str _=>obtain⟨t,rfl⟩:=r;rfl
 | ny _=>obtain⟨t,rfl⟩:=r;rfl
 | jH _=>obtain⟨t,rfl⟩:=r;rfl
 | ref _=>cases r;rfl
 | ty _=>cases r;rfl
theorem RelV.inj {x y:V}{u:Value}(r:RelV x u) (q:RelV y u):x=y:=A4 (r.abs.symm.trans q.abs)
theorem Vals.inj:∀ {xs ys:List V}{us:List Value},Vals xs us->Vals ys us->xs=ys
 | _,_,_,.nil,.nil=>rfl
 | _,_,_,.cons r t,.cons r' t'=>by rw[r.inj r',Vals.inj t t']
section
variable {X:Cx}{pins:List (Addr×Obj)}{O:St}{H:Hp}{s:Shared}{a:Addr}{xs ys:List V}
def zT.of {K:Ac}(h:H a=some (.lst xs)):zT K H a xs:=.inl (.inl h)
def ye.of {K:Ac}(h:H a=some (.tup xs)):ye K H a xs:=.inl (.inl h)
def Inv.list (I:Inv X pins O H s) (h:zT X.K H a xs):∃ its:List Value,Vals xs its/\PlainL s.heap a its.toArray/\xs.length<=sizeLine:=by
 rcases h with h | ⟨o,its,n,hk,hc,hd,hs,hz,r⟩
 .obtain⟨z,its,n,r,e⟩:=h.ok I.zE;exact⟨its,r,⟨_,n,e,rfl,rfl,rfl⟩,z⟩
 .refine⟨its.toList,r,⟨o,n,I.vZ a o hk,hc,hd,by simpa using hs⟩,?_⟩;have e:=r.length;simp only[Bo] at e;lia
def Inv.tuple (I:Inv X pins O H s) (h:ye X.K H a xs):∃ its:List Value,Vals xs its/\IsTup s.heap a its.toArray/\xs.length<=sizeLine:=by
 rcases h with h | ⟨o,its,n,hk,hc,hs,hz,r⟩
 .obtain⟨z,its,r,p⟩:=h.ok I.zE;exact⟨its,r,p,z⟩
 .refine⟨its.toList,r,⟨o,I.vZ a o hk,hc,n,by simpa using hs⟩,?_⟩;have e:=r.length;simp only[Bo] at e;lia
def Inv.eM (I:Inv X pins O H s) (h:zT X.K H a xs) (h':zT X.K H a ys):xs=ys:=by
 obtain⟨its,r,⟨o,n,e,_,_,d⟩,_⟩:=I.list h;obtain⟨Ae,r',⟨o',n',e',_,_,d'⟩,_⟩:=I.list h';rw[e] at e';cases e';rw[d] at d'
 injection d' with d1 _
 have:its=Ae:=by simpa using congrArg Array.toList d1
 subst this;exact r.inj r'
def Inv.iR (I:Inv X pins O H s) (h:ye X.K H a xs) (h':ye X.K H a ys):xs=ys:=by
 obtain⟨its,r,⟨o,e,_,n,d⟩,_⟩:=I.tuple h;obtain⟨Ae,r',⟨o',e',_,n',d'⟩,_⟩:=I.tuple h';rw[e] at e';cases e';rw[d] at d'
 injection d' with d1 _
 have:its=Ae:=by simpa using congrArg Array.toList d1
 subst this;exact r.inj r'
end
abbrev Cx.tE (X:Cx) (E:Value->Shared->Prop):Cx:={ X with xe:=E }
abbrev Cx.qc (X:Cx):Cx:=X.tE λ _ _=>False
theorem Cx.Ok.tE {X:Cx}(ok:X.Ok) (E:Value->Shared->Prop):(X.tE E).Ok:=
 ⟨ok.mod,ok.kind,ok.glob,ok.blt,ok.above,ok.inj,ok.has,ok.lB,ok.hd,ok.frames,ok.kH,ok.dB,ok.bs,ok.pP,ok.mN,ok.lg,ok.u_,ok.ni⟩
def Cx.Ok.rN {X:Cx}{E:Value->Shared->Prop}(ok:(X.tE E).Ok):X.Ok:=
 ⟨ok.mod,ok.kind,ok.glob,ok.blt,ok.above,ok.inj,ok.has,ok.lB,ok.hd,ok.frames,ok.kH,ok.dB,ok.bs,ok.pP,ok.mN,ok.lg,ok.u_,ok.ni⟩
section
variable {X:Cx}{pins:List (Addr×Obj)}{O:St}{H:Hp}{s:Shared}{E:Value->Shared->Prop}
theorem Inv.tE (I:Inv X pins O H s) (E:Value->Shared->Prop):Inv (X.tE E) pins O H s:=⟨I.ok.tE E,I.os,I.bare,I.base,I.loc,I.cell,I.free,I.tT,I.pin,I.zE,I.len⟩
theorem Inv.rN (I:Inv (X.tE E) pins O H s):Inv X pins O H s:=⟨I.ok.rN,I.os,I.bare,I.base,I.loc,I.cell,I.free,I.tT,I.pin,I.zE,I.len⟩
theorem SP.rN {D:Ends}{f:Flow}{s':Shared}(h:SP (X.tE E) pins D f s'):SP X pins D f s':=by
 cases f with
 | next=>obtain⟨O',H',I,q⟩:=h;exact⟨O',H',I.rN,q⟩
 | brk=>obtain⟨O',H',I,q⟩:=h;exact⟨O',H',I.rN,q⟩
 | cont=>obtain⟨O',H',I,q⟩:=h;exact⟨O',H',I.rN,q⟩
 | ret u=>obtain⟨v,O',H',I,r,q⟩:=h;exact⟨v,O',H',I.rN,r,q⟩
theorem wB.qc {st:List Stmt}{t:TS}(h:wB X.qc st t):wB X st t:=λ pins s O H D I hw=>
 za5 (h pins s O H D (I.tE _) hw) (λ _ _ q=>q.rN) λ _ _ z=>False.elim z
end
section
variable {X:Cx}{st:Stmt}{rest:List Stmt}{t u:TS}{e:Expr}{te:TE}{pos:Pos}
def Ug:TS:=λ D O H=>D.nx O H
def VZ (t u:TS):TS:=λ D O H=>t { D with nx:=u D } O H
def TB:wB X [] Ug:=λ _ _ O H _ I h=>wpAny_execs_nil ⟨O,H,I,h⟩
def TC (h1:PS X st t) (h2:wB X rest u):wB X (st::rest) (VZ t u):=by
 intro pins s O H D I h;refine wpAny_execs_cons (zK (h1 pins s O H { D with nx:=u D } I h) λ f s1 q=>?_);cases f with
 | next=>
  obtain⟨O',H',I',q⟩:=q;exact h2 pins s1 O' H' D I' q
 | ret v=>exact q
 | brk=>exact q
 | cont=>exact q
def T9 (h1:PS X st t):wB X [st] t:=by
 intro pins s O H D I h;refine wpAny_execs_cons (zK (h1 pins s O H D I h) λ f s1 q=>?_);cases f with
 | next=>exact wpAny_execs_nil q
 | ret v=>exact q
 | brk=>exact q
 | cont=>exact q
def Inv.quiet {pins:List (Addr×Obj)}{O:St}{H:Hp}{s:Shared}(I:Inv X pins O H s):interactive X.env=false:=by simp[interactive,I.ok.kind]
def Ul (te:TE):TS:=λ D O H=>te O H λ _ H1=>D.nx O H1
def TQ (he:PE X e te) (hs:swapsWith e none pos.line X.env=pure false:=by rfl):PS X (.Expr e pos) (Ul te):=by
 intro pins s O H D I h;exact wpAny_Expr_any (zK (he pins s O H _ I h) λ v s1 ⟨x,H1,I1,r1,q1⟩=>⟨O,H1,I1,q1⟩) I.quiet hs
def V_ (te:TE):TS:=λ D O H=>te O H D.rt
def TK (he:PE X e te):PS X (.Return (some e) pos) (V_ te):=by
 intro pins s O H D I h;exact wpAny_Return_some (zK (he pins s O H _ I h) λ v s1 ⟨x,H1,I1,r1,q1⟩=>⟨x,O,H1,I1,r1,q1⟩)
def Ui (c:TT) (t u:TS):TS:=λ D O H=>c O H λ b H1=>if b=true then t D O H1 else u D O H1
def TL {c:Expr}{a b:List Stmt}{tc:TT}(hc:PT X c tc) (ha:wB X a t) (hb:wB X b u):PS X (.If c a b pos) (Ui tc t u):=by
 intro pins s O H D I h;refine wpAny_If (zK (hc pins s O H _ I h) λ d s1 ⟨H1,I1,q1⟩=>?_);cases d with
 | true=>exact ha pins s1 O H1 D I1 q1
 | false=>exact hb pins s1 O H1 D I1 q1
end
abbrev TG:=V->St->Hp->(St->Hp->Prop)->Prop
abbrev rn:=List V->St->Hp->(St->Hp->Prop)->Prop
def PG (X:Cx) (target:Expr) (t:TG):Prop:=
 ∀ (pins:List (Addr×Obj)) (s:Shared) (O:St) (H:Hp) (v:V) (u:Value) (Q:St->Hp->Prop),Inv X pins O H s->RelV v u->t v O H Q->
  wpAny (model X.prog X.w) X.A (assign target X.env u) (λ _ s'=>∃ O' H',Inv X pins O' H' s'/\Q O' H') X.xe s
def sk (X:Cx) (ts:List Expr) (t:rn):Prop:=
 ∀ (pins:List (Addr×Obj)) (s:Shared) (O:St) (H:Hp) (vs:List V) (us:List Value) (Q:St->Hp->Prop),Inv X pins O H s->Vals vs us->t vs O H Q->
  wpAny (model X.prog X.w) X.A (assignInOrder ((assignEach ts X.env).map (·.2)) us) (λ _ s'=>∃ O' H',Inv X pins O' H' s'/\Q O' H') X.xe s
abbrev c7:=V->V->V->Hp->(Hp->Prop)->Prop
def W8 (X:Cx) (t:c7):Prop:=
 ∀ (pins:List (Addr×Obj)) (s:Shared) (O:St) (H:Hp) (o i v:V) (ov iv u:Value) (Q:Hp->Prop),Inv X pins O H s->RelV o ov->RelV i iv->RelV v u->t o i v H Q->
  wpAny (model X.prog X.w) X.A (setItem ov iv u) (λ _ s'=>∃ H',Inv X pins O H' s'/\Q H') X.xe s
section
variable {X:Cx}{pos:Pos}
noncomputable def nh (i:Nat):TG:=λ v O H Q=>Q (O.set i (some v)) H
def Su {i:Nat}{x:Str}(hN:X.N.Nodup) (hi:X.N[i]?=some x) (hx:Loc X.env.scope x) (hf:X.fn x=true\/X.env.scope.names.lookup x=some .local:=by first | exact .inl rfl | exact .inr rfl | assumption):PG X (.Name x pos) (nh i):=by
 intro pins s O H v u Q I r h;exact wpAny_assign_Name (hJ I hN hi hx r (λ s' I'=>⟨_,H,I',h⟩) hf)
noncomputable def NJ:rn:=λ vs O H Q=>vs=[]/\Q O H
noncomputable def NK (t:TG) (u:rn):rn:=λ vs O H Q=>∃ v r,vs=v::r/\t v O H fun O' H'=>u r O' H' Q
def Sk:sk X [] NJ:=by
 intro pins s O H vs us Q I r h;obtain⟨e,h⟩:=h;subst e;cases r;exact assignInOrder_nil ⟨O,H,I,h⟩
def So {e:Expr}{es:List Expr}{t:TG}{u:rn}(h1:PG X e t) (h2:sk X es u)
  (hs:(assignEach (e::es) X.env).map (·.2)=assign e X.env::(assignEach es X.env).map (·.2):=by rfl):sk X (e::es) (NK t u):=by
 intro pins s O H vs us Q I r h;obtain⟨v,vr,e1,h⟩:=h;subst e1;cases r with
 | cons r rr=>
  rw[hs];refine assignInOrder_cons (zK (h1 pins s O H _ _ _ I r h) λ _ s1 ⟨O1,H1,I1,q1⟩=>?_);exact h2 pins s1 O1 H1 _ _ Q I1 rr q1
noncomputable def Xh (K:Ac) (n:Nat) (t:rn):TG:=λ v O H Q=>∃ a xs,v=.ref a/\ye K H a xs/\xs.length=n/\t xs O H Q
def Sq {es:List Expr}{k:Nat}{t:rn}{n:Nat}(hc:X.calm=true) (h:sk X es t)
  (hn:(assignEach es X.env).length=n:=by rfl) (AZ:(assignEach es X.env).findIdx? (·.1)=none:=by rfl):PG X (.Tuple es k pos) (Xh X.K n t):=by
 intro pins s O H v u Q I r hw;obtain⟨a,xs,e1,hq,hl,hw⟩:=hw;subst e1;cases r;obtain⟨its,rv,ht,hz⟩:=I.tuple hq;refine assign_Tuple_tuple (I.ok.hd hc) ht (by simp[hn,<- hl,rv.length]) AZ λ h' hx=>?_;have I1:Inv X pins O H { s with heap:=h' }:=I.kept (t':=s.toks) λ b o e=>hx b o (Ax (Ap e)) e;exact h pins _ O H xs _ Q I1 (by simpa using rv) hw
noncomputable def NI (to ti:TE) (t:c7):TG:=λ v O H Q=>to O H λ o H1=>ti O H1 λ i H2=>t o i v H2 λ H3=>Q O H3
def Ss {o i:Expr}{to ti:TE}{t:c7}(ho:PE X o to) (hi:PE X i ti) (hs:W8 X t)
  (ha:∀ v,assign (.Subscript o i pos) X.env v=(do
   let ov <- holding [v] (eval o X.env)
   let iv <- holding [v,ov] (eval i X.env)
   standAt pos
   holding [v,ov,iv] (setItem ov iv v)
   release [v,ov,iv] []):=by intro _;rfl):PG X (.Subscript o i pos) (NI to ti t):=by
 intro pins s O H v u Q I r h;rw[ha];refine Ab (za3 (zK (ho pins s O H _ I h) λ ov s1 ⟨x,H1,I1,r1,q1⟩=>?_));refine Ab (za3 (zK (hi pins s1 O H1 _ I1 q1) λ iv s2 ⟨y,H2,I2,r2,q2⟩=>?_));refine Ab (wpAny_standAt (Ab (za3 (zK (hs pins s2 O H2 x y v ov iv u _ I2 r1 r2 r q2) λ _ s3 ⟨H3,I3,q3⟩=>?_))));exact wpAny_release ⟨O,H3,I3,q3⟩
def kG (te:TE) (g:TG):TS:=λ D O H=>te O H λ x H1=>g x O H1 D.nx
def TU {tg e:Expr}{te:TE}{g:TG}(he:PE X e te) (hg:PG X tg g) (hs:swapsWithSole [tg] e pos.line X.env=pure false:=by rfl) (hw:swappedStores [tg] e X.env=pure none:=by rfl)
  (h1:(assignEach [tg] X.env).map (·.2)=[assign tg X.env]:=by rfl):PS X (.Assign [tg] e pos) (kG te g):=by
 intro pins s O H D I h;refine wpAny_Assign_stores (zK (he pins s O H _ I h) λ v s1 ⟨x,H1,I1,r1,q1⟩=>?_) hs hw;rw[h1];exact zK (hg pins s1 O H1 x v _ I1 r1 q1) λ _ s2 q=>q
def TJ {i:Nat}{x:Str}{e:Expr}{te:TE}{pos':Pos}(hN:X.N.Nodup) (hi:X.N[i]?=some x) (hx:Loc X.env.scope x) (he:PE X e te) (hs:swapsWith e (some (.Name x pos')) pos.line X.env=pure false:=by rfl) (hf:X.fn x=true\/X.env.scope.names.lookup x=some .local:=by first | exact .inl rfl | exact .inr rfl | assumption):
  PS X (.Assign [.Name x pos'] e pos) (kG te (nh i)):=by
 intro pins s O H D I h;refine wpAny_Assign_Name (zK (he pins s O H _ I h) λ v s1 ⟨y,H1,I1,r1,q1⟩=>?_) hs;exact hJ I1 hN hi hx r1 (λ s2 I2=>⟨_,H1,I2,q1⟩) hf
def VV (c:TT) (tb:TS):TS:=λ D O H=>∃ W:Nat->St->Hp->Prop,(∃ m,W m O H)/\∀ m O H,W m O H->
 c O H λ b H1=>if b=true then ∃ N:St->Hp->Prop,(∀ O' H',N O' H'->∃ m',m'<m/\W m' O' H')/\tb { D with nx:=N,ct:=N,bk:=D.nx } O H1 else D.nx O H1
def TF {c:Expr}{body:List Stmt}{tc:TT}{tb:TS}(hp:PassesOwn (model X.prog X.w) X.A X.env X.xe) (hc:PT X c tc) (hb:wB X body tb):PS X (.While c body [] pos) (VV tc tb):=by
 intro pins s O H D I h;obtain⟨W,⟨m0,w0⟩,turn⟩:=h;refine wpAny_While (codeAny_whileLoop (λ n s'=>∃ O' H',Inv X pins O' H' s'/\W n O' H') ?_ m0 ⟨O,H,I,w0⟩);rintro n s1 ⟨O1,H1,I1,w1⟩;refine zaC hp (zK (hc pins s1 O1 H1 _ I1 (turn n O1 H1 w1)) λ b s2 ⟨H2,I2,q2⟩=>?_);cases b with
 | true=>
  obtain⟨N,hN,q2⟩:=q2;rw[if_pos rfl];refine zaC hp (zK (hb pins s2 O1 H2 _ I2 q2) λ f s3 q3=>?_);cases f with
  | next=>
   obtain⟨O3,H3,I3,n3⟩:=q3;obtain⟨m',hm,w3⟩:=hN O3 H3 n3;exact⟨m',hm,O3,H3,I3,w3⟩
  | cont=>
   obtain⟨O3,H3,I3,n3⟩:=q3;obtain⟨m',hm,w3⟩:=hN O3 H3 n3;exact⟨m',hm,O3,H3,I3,w3⟩
  | brk=>exact q3
  | ret v=>exact q3
 | false=>
  rw[if_neg BE];exact wpAny_execs_nil ⟨O1,H2,I2,q2⟩
end
structure It where
 go:Nat->Hp->Prop
 ot:Nat->Hp->V->Hp->Prop
 stop:Nat->Hp->Prop
def um (X:Cx) (pins:List (Addr×Obj)) (H:Hp) (b:Addr):Prop:=
 H b=none/\b≠X.env.locals/\b∉X.fs/\(b∈X.ex\/X.s₀.heap.objs.size<=b)/\(∀ x c,X.env.cells.lookup x=some c->c≠b)/\∀ p∈X.pn++pins,p.1≠b
def Inv.jG {X:Cx}{pins:List (Addr×Obj)}{O:St}{H H':Hp}{s:Shared}{b:Addr}(I:Inv X pins O H s) (hb:s.heap.objs.size<=b) (hn:H' b=none):um X pins H' b:=by
 refine⟨hn,BR (Bb I.lt hb),I.Yj hb,.inr (A9 I.sz hb),λ x c e z=>?_,λ p hp z=>?_⟩
 .obtain⟨v,q⟩:=I.cell x c e;exact absurd (Bb q.lt (by rw[z];exact hb)) (BS _)
 .exact absurd (Bb (Ap (I.pin p hp).1) (by rw[z];exact hb)) (BS _)
structure Turn (P:Program) (w:World) (K:Ac) (tg:Expr) (J:It) (fp:List Addr) (it:Addr) (tn:Nat->Heap->Prop):Prop where
 mem:it∈fp
 obj:∀ i h,tn i h->∀ b∈fp,∃ o,h.get? b=some o/\∀ v,o.data≠.cell v
 keep:∀ i h h',tn i h->(∀ b∈fp,∀ o,h.get? b=some o->h'.get? b=some o)->tn i h'
 item:∀ (X:Cx),X.prog=P->X.w=w->X.K=K->X.calm=true->∀ (i:Nat) (pins:List (Addr×Obj)) (s:Shared) (O:St) (H:Hp) (E:Value->Shared->Prop),Inv X pins O H s->(∀ b∈fp,um X pins H b)->tn i s.heap->J.go i H->
  wpAny (model P w) X.A (pyNext (.ref it)) (λ r s1=>∃ u,r=some u/\
   wpAny (model P w) X.A (letOwnedTupleGo tg (.ref it) u) (λ _ s2=>∃ x H',Inv X pins O H' s2/\RelV x u/\J.ot i H x H'/\tn (i+1) s2.heap/\∀ b∈fp,H' b=none) E s1) E s
 done:∀ (X:Cx),X.prog=P->X.w=w->X.K=K->X.calm=true->∀ (i:Nat) (pins:List (Addr×Obj)) (s:Shared) (O:St) (H:Hp) (E:Value->Shared->Prop),Inv X pins O H s->(∀ b∈fp,um X pins H b)->tn i s.heap->J.stop i H->
  wpAny (model P w) X.A (pyNext (.ref it)) (λ r s1=>r=none/\Inv X pins O H s1) E s
 self:∀ (A:Around) (i:Nat) (s:Shared) (Q:Value->Shared->Prop) (E:Value->Shared->Prop),tn i s.heap->Q (.ref it) s->wpAny (model P w) A (pyIter (.ref it)) Q E s
abbrev TI:=St->Hp->(It->Hp->Prop)->Prop
def W9 (X:Cx) (pins:List (Addr×Obj)) (O:St) (tg:Expr) (R:It->Hp->Prop) (itv:Value) (s2:Shared):Prop:=
 ∃ (it:Addr) (fp:List Addr) (tn:Nat->Heap->Prop) (J:It) (H':Hp),itv=.ref it/\Inv X pins O H' s2/\Turn X.prog X.w X.K tg J fp it tn/\tn 0 s2.heap/\(∀ b∈fp,um X pins H' b)/\R J H'
def PI (X:Cx) (tg iter:Expr) (wi:TI):Prop:=
 ∀ (pins:List (Addr×Obj)) (s:Shared) (O:St) (H:Hp) (R:It->Hp->Prop),Inv X pins O H s->wi O H R->
  wpAny (model X.prog X.w) X.A (eval iter X.env) (λ v s1=>wpAny (model X.prog X.w) X.A (pyIter v) (W9 X pins O tg R) X.xe s1) X.xe s
def dk {M:Model}{A:Around}{E:Value->Shared->Prop}{s:Shared}{tg:Expr}{it:Addr}{u:Value}{o:Obj}{n:String}{vs:Array Value}{Q:Unit->Shared->Prop}(ho:s.heap.get? it=some o) (hc:o.cls=.type n) (hd:o.data=.fields vs)
  (hn:["enumerate","zip","dict_itemiterator","dict_reverseitemiterator","odict_iterator","itertools.zip_longest","itertools.pairwise"].contains n=false) (hQ:Q () s):wpAny M A (letOwnedTupleGo tg (.ref it) u) Q E s:=by
 unfold letOwnedTupleGo;cases tg <;> first
  | exact Ad hQ
  | (cases u <;> first
    | exact Ad hQ
    | (refine Ab (wpAny_load ho ?_)
       rw[hc,hd];show wpAny M A (if (["enumerate","zip","dict_itemiterator","dict_reverseitemiterator","odict_iterator","itertools.zip_longest","itertools.pairwise"].contains n&&vs[0]? == some (rawInt _))=true then _ else _) Q E s;rw[if_neg (by intro h;rw[hn,Bool.false_and] at h;cases h)];exact Ad hQ))
def WH (K:Ac) (a:Addr):It:=
 ⟨λ i H=>∃ xs x,zT K H a xs/\xs[i]?=some x,λ i H x H'=>H'=H/\∀ xs,zT K H a xs->xs[i]?=some x,λ i H=>∃ xs,zT K H a xs/\xs.length<=i⟩
def WG (K:Ac) (a:Addr):It:=
 ⟨λ i H=>∃ xs x,ye K H a xs/\xs[i]?=some x,λ i H x H'=>H'=H/\∀ xs,ye K H a xs->xs[i]?=some x,λ i H=>∃ xs,ye K H a xs/\xs.length<=i⟩
def iy (lo:Int) (n:Nat):It:=⟨λ i _=>i<n,λ i H x H'=>H'=H/\x=.int (lo+i),λ i _=>n<=i⟩
def VL {P:Program}{w:World}{K:Ac}{tg:Expr}(a it:Addr):Turn P w K tg (WH K a) [it] it (λ i h=>h.IsListIter it a i) where
 mem:=by simp
 obj:=λ i h st b hb=>by
  have e:b=it:=by simpa using hb
  subst e;obtain⟨o,e,c,d⟩:=st;exact⟨o,e,λ v z=>by rw[d] at z;cases z⟩
 keep:=λ i h h' st k=>st.at λ o e=>k it (by simp) o e
 item:=by
  intro X hP hw hK hc i pins s O H E I hf st hg;subst hP hw hK;obtain⟨xs,x,hq,hx⟩:=hg;obtain⟨its,rv,p,hz⟩:=I.list hq;obtain⟨u,hu,ru⟩:=rv.get hx;obtain⟨f0,f1,f2,f3,f4,f5⟩:=hf it (by simp);refine wpAny_pyNext_list_item st p.isList (x:=u) (by simpa using hu) λ h' st' sb=>?_;have I1:Inv X pins O H { s with heap:=h' }:=I.turned (t':=s.toks) (λ b o hb e=>(sb.2 b hb).trans e) f0 f1 f3 f4 f5;obtain⟨o,e,c,d⟩:=id st';exact⟨u,rfl,dk (s:={ s with heap:=h' }) e c d (by decide) ⟨x,H,I1,ru,⟨rfl,λ ys hy=>by rw[I.eM hy hq];exact hx⟩,st',λ b hb=>(hf b hb).1⟩⟩
 done:=by
  intro X hP hw hK hc i pins s O H E I hf st hg;subst hP hw hK;obtain⟨xs,hq,hx⟩:=hg;obtain⟨its,rv,p,hz⟩:=I.list hq;obtain⟨f0,f1,f2,f3,f4,f5⟩:=hf it (by simp);have hl:=rv.length;exact wpAny_pyNext_list_end (I.ok.hd hc) st p.isList (by simp;lia) λ h' eb=>⟨rfl,I.turned (t':=s.toks) (λ b o hb e=>eb b o hb e) f0 f1 f3 f4 f5⟩
 self:=λ _ _ _ _ _ st h=>wpAny_pyIter_listiter st h
def VI {P:Program}{w:World}{K:Ac}{tg:Expr}(a it:Addr):Turn P w K tg (WG K a) [it] it (λ i h=>h.IsTupleIter it a i) where
 mem:=by simp
 obj:=λ i h st b hb=>by
  have e:b=it:=by simpa using hb
  subst e;obtain⟨o,e,c,d⟩:=st;exact⟨o,e,λ v z=>by rw[d] at z;cases z⟩
 keep:=λ i h h' st k=>st.at λ o e=>k it (by simp) o e
 item:=by
  intro X hP hw hK hc i pins s O H E I hf st hg;subst hP hw hK;obtain⟨xs,x,hq,hx⟩:=hg;obtain⟨its,rv,p,hz⟩:=I.tuple hq;obtain⟨u,hu,ru⟩:=rv.get hx;obtain⟨f0,f1,f2,f3,f4,f5⟩:=hf it (by simp);refine wpAny_pyNext_tuple_item st (show s.heap.IsTuple a its.toArray from p) (x:=u) (by simpa using hu) λ h' st' sb=>?_;have I1:Inv X pins O H { s with heap:=h' }:=I.turned (t':=s.toks) (λ b o hb e=>(sb.2 b hb).trans e) f0 f1 f3 f4 f5;obtain⟨o,e,c,d⟩:=id st';exact⟨u,rfl,dk (s:={ s with heap:=h' }) e c d (by decide) ⟨x,H,I1,ru,⟨rfl,λ ys hy=>by rw[I.iR hy hq];exact hx⟩,st',λ b hb=>(hf b hb).1⟩⟩
 done:=by
  intro X hP hw hK hc i pins s O H E I hf st hg;subst hP hw hK;obtain⟨xs,hq,hx⟩:=hg;obtain⟨its,rv,p,hz⟩:=I.tuple hq;obtain⟨f0,f1,f2,f3,f4,f5⟩:=hf it (by simp);have hl:=rv.length;exact wpAny_pyNext_tuple_end (I.ok.hd hc) st (show s.heap.IsTuple a its.toArray from p) (by simp;lia) λ h' eb=>⟨rfl,I.turned (t':=s.toks) (λ b o hb e=>eb b o hb e) f0 f1 f3 f4 f5⟩
 self:=λ _ _ _ _ _ st h=>wpAny_pyIter_tupleiter st h
def VJ {P:Program}{w:World}{K:Ac}{tg:Expr}(it:Addr) (lo:Int) (n:Nat):Turn P w K tg (iy lo n) [it] it (λ i h=>IsRangeIter h it (lo+(i:Nat)*1) ((n:Int)-(i:Nat)) 1) where
 mem:=by simp
 obj:=λ i h st b hb=>by
  have e:b=it:=by simpa using hb
  subst e;exact⟨_,st,λ v z=>by
   have z':Data.fields _=Data.cell v:=z;cases z'⟩
 keep:=λ i h h' st k=>k it (by simp) _ st
 item:=by
  intro X hP hw hK hc i pins s O H E I hf st hg;subst hP hw hK;obtain⟨f0,f1,f2,f3,f4,f5⟩:=hf it (by simp);have W:=Walks.range (prog:=X.prog) (w:=X.w) (I.ok.hd hc) it lo 1 n;refine W.item i s _ _ hg st λ v h' tk hv st' kk=>?_;obtain⟨t,rfl⟩:=hv;have I1:Inv X pins O H { s with heap:=h',toks:=tk }:=I.turned (λ b o hb e=>kk b o (by simpa using hb) e) f0 f1 f3 f4 f5;refine⟨_,rfl,dk (s:={ s with heap:=h',toks:=tk }) (n:="range_iterator") st' rfl rfl (by decide) ⟨.int (lo+i),H,I1,⟨t,?_⟩,⟨rfl,rfl⟩,st',λ b hb=>(hf b hb).1⟩⟩;rw[Int.mul_one]
 done:=by
  intro X hP hw hK hc i pins s O H E I hf st hg;subst hP hw hK;obtain⟨f0,f1,f2,f3,f4,f5⟩:=hf it (by simp);exact wpAny_pyNext_range_end (I.ok.hd hc) st (by have:n<=i:=hg;lia) λ h' eb=>⟨rfl,I.turned (t':=s.toks) (λ b o hb e=>eb b o hb e) f0 f1 f3 f4 f5⟩
 self:=λ _ _ _ _ _ st h=>wpAny_pyIter_rangeiter st h
section
variable {X:Cx}{tg:Expr}
def Tj {pins:List (Addr×Obj)}{O:St}{H:Hp}{s:Shared}{R:It->Hp->Prop}{E:Value->Shared->Prop}{lo hi:Int}{t u v:Tok}{tk:Nat}(I:Inv X pins O H s) (h1:-(2 ^ 62)<=lo) (h2:lo<2 ^ 62) (h3:-(2 ^ 62)<=hi) (h4:hi<2 ^ 62)
  (q:R (iy lo (hi-lo).toNat) H):wpAny (model X.prog X.w) X.A (pyIter (.ref s.heap.objs.size)) (W9 X pins O tg R) E { s with heap:=s.heap.push { cls:=.type "range",data:=.fields #[.int lo t,.int hi u,.int 1 v] },toks:=tk }:=by
 refine wpAny_pyIter_range (IsRange.new ..) (small_one h1 h2 h3 h4) ?_;have I1:Inv X pins O H { s with heap:=s.heap.push { cls:=.type "range",data:=.fields #[.int lo t,.int hi u,.int 1 v] },toks:=tk }:=I.kept λ b o e=>Ao _ e;refine⟨(s.heap.push { cls:=.type "range",data:=.fields #[.int lo t,.int hi u,.int 1 v] }).objs.size,[(s.heap.push { cls:=.type "range",data:=.fields #[.int lo t,.int hi u,.int 1 v] }).objs.size],_,_,H,rfl,
  I1.kept (t':=tk) λ b o e=>Ao _ e,VJ _ lo (hi-lo).toNat,?_,λ b hb=>?_,q⟩
 .have e1:lo+((0:Nat):Int)*1=lo:=by simp
  have e2:(((hi-lo).toNat:Nat):Int)-((0:Nat):Int)=Builtin.Range.rangeSize lo hi 1:=by rw[rangeSize_one];split <;> lia
  show IsRangeIter _ _ (lo+((0:Nat):Int)*1) ((((hi-lo).toNat:Nat):Int)-((0:Nat):Int)) 1;rw[e1,e2];exact AF _ rfl
 .have e:b=(s.heap.push { cls:=.type "range",data:=.fields #[.int lo t,.int hi u,.int 1 v] }).objs.size:=by simpa using hb
  subst e;exact I1.jG (Ah _) (I1.zE.fresh (Ah _))
def Y_ (ta:TA):TI:=fun O H R=>ta O H λ vs H1=>∃ j:Int,vs=[.int j]/\-(2 ^ 62)<=j/\j<2 ^ 62/\R (iy 0 j.toNat) H1
def Si {a:Expr}{ta:TA}{p pos:Pos}(hg:Gl X "range") (hm:X.mg "range"=none) (ha:PA X [a] ta) (hs:starEach [a] X.env=[(false,eval a X.env)]:=by rfl):PI X tg (.Call (.Name "range" p) [a] [] pos) (Y_ ta):=by
 intro pins s O H R I h;refine Call_ (oS I hg hm boot_range (PyProof.Rows.callWith_type1 (zK (ha pos pins s O H _ I h) λ us s1 ⟨vs,H1,I1,r1,q1⟩=>?_) hs rfl));obtain⟨j,e,q1,q2,q⟩:=q1;subst e;cases r1 with
 | cons r rr=>
  cases rr;obtain⟨t,rfl⟩:=r;exact call_range_1 (Tj I1 (by lia) (by lia) q1 q2 (by simpa using q))
def Uk (wi:TI) (g:TG) (tb:TS):TS:=λ D O H=>wi O H λ J H1=>∃ W:Nat->Nat->St->Hp->Prop,(∃ m,W 0 m O H1)/\∀ i m O H,W i m O H->
 (J.stop i H/\D.nx O H)\/(J.go i H/\∃ N:St->Hp->Prop,(∀ O' H',N O' H'->∃ m',m'<m/\W (i+1) m' O' H')/\∀ x H',J.ot i H x H'->g x O H' fun O2 H2=>tb { D with nx:=N,ct:=N,bk:=D.nx } O2 H2)
noncomputable def mE (fp:List Addr) (h:Heap):List (Addr×Obj):=fp.filterMap λ b=>(h.get? b).map λ o=>(b,o)
def jw {fp:List Addr}{h:Heap}{b:Addr}{o:Obj}(hb:b∈fp) (e:h.get? b=some o):(b,o)∈mE fp h:=D4.mpr ⟨b,hb,by rw[e];rfl⟩
def PL {fp:List Addr}{h:Heap}{p:Addr×Obj}(hp:p∈mE fp h):p.1∈fp/\h.get? p.1=some p.2:=by
 obtain⟨b,hb,e⟩:=D4.mp hp;cases q:h.get? b with
 | none=>rw[q] at e;cases e
 | some o=>
  rw[q] at e;have e':(b,o)=p:=A4 e;subst e';exact⟨hb,q⟩
def Inv.pinned {pins:List (Addr×Obj)}{O:St}{H:Hp}{s:Shared}{fp:List Addr}(I:Inv X pins O H s) (hf:∀ b∈fp,um X pins H b) (ho:∀ b∈fp,∃ o,s.heap.get? b=some o/\∀ v,o.data≠.cell v):Inv X (pins++mE fp s.heap) O H s:=
 I.fA λ p hp=>(AX.mp hp).elim (λ z=>I.pin p (AY _ z)) λ z=>by
  obtain⟨hb,e⟩:=PL z;obtain⟨f0,f1,f2,_⟩:=hf p.1 hb;obtain⟨o,e',d⟩:=ho p.1 hb;rw[e] at e';cases e';exact⟨e,f0,f1,f2,d⟩
def Inv.me {pins pl:List (Addr×Obj)}{O:St}{H:Hp}{s:Shared}(I:Inv X (pins++pl) O H s):Inv X pins O H s:=I.fA λ p hp=>I.pin p (AY _ (B6 _ hp))
def TN {iter:Expr}{body:List Stmt}{wi:TI}{g:TG}{tb:TS}{pos:Pos}(hp:PassesOwn (model X.prog X.w) X.A X.env X.xe) (hc:X.calm=true) (hi:PI X tg iter wi) (hg:PG X tg g) (hb:wB X body tb)
  (hs:∀ x,foldedSetIterable iter X.env x=pure x:=by intro _;rfl):PS X (.For tg iter body [] pos) (Uk wi g tb):=by
 intro pins s O H D I h;refine wpAny_For (zK (hi pins s O H _ I h) λ v s1 h1=>zK h1 λ itv s2 h2=>?_) hs;obtain⟨it,fp,tn,J,H2,e,I2,T,st2,f2,W,⟨m0,w0⟩,turn⟩:=h2;subst e;have stat:∀ {H':Hp},(∀ b∈fp,H' b=none)->∀ b∈fp,um X pins H' b:=λ hn b hb=>⟨hn b hb,(f2 b hb).2⟩;refine codeAny_forLoop_any (λ n s'=>∃ i O' H',Inv X pins O' H' s'/\tn i s'.heap/\(∀ b∈fp,H' b=none)/\W i n O' H') ?_ m0 ⟨0,O,H2,I2,st2,λ b hb=>(f2 b hb).1,w0⟩;rintro n s3 ⟨i,O3,H3,I3,st3,fr3,w3⟩;rcases turn i n O3 H3 w3 with ⟨stop,qn⟩ | ⟨go,N,hN,step⟩
 .refine zaC hp (zK (T.done X rfl rfl rfl hc i pins s3 O3 H3 X.xe I3 (stat fr3) st3 stop) λ r s4 ⟨hr,I4⟩=>?_);subst hr;exact wpAny_execs_nil ⟨O3,H3,I4,qn⟩
 .refine zaC hp (zK (T.item X rfl rfl rfl hc i pins s3 O3 H3 X.xe I3 (stat fr3) st3 go) λ r s4 ⟨u,hr,h4⟩=>?_);subst hr;refine zaC hp (zK h4 λ _ s5 ⟨x,H5,I5,r5,y5,st5,fr5⟩=>?_);have I5':=I5.pinned (stat fr5) (T.obj _ _ st5);refine zaC hp (zK (hg _ s5 O3 H5 x u _ I5' r5 (step x H5 y5)) λ _ s6 ⟨O6,H6,I6,q6⟩=>?_);refine zaC hp (zK (hb _ s6 O6 H6 _ I6 q6) λ f s7 q7=>?_);have again:∀ {O7:St}{H7:Hp},Inv X (pins++mE fp s5.heap) O7 H7 s7->N O7 H7->∃ m,m<n/\∃ i O' H',Inv X pins O' H' s7/\tn i s7.heap/\(∀ b∈fp,H' b=none)/\W i m O' H':=λ{O7 H7} I7 n7=>by
   obtain⟨m',hm,w7⟩:=hN O7 H7 n7;refine⟨m',hm,i+1,O7,H7,I7.me,T.keep _ _ _ st5 λ b hb o e=>(I7.pin (b,o) (AY _ (AY _ (jw hb e)))).1,λ b hb=>?_,w7⟩;obtain⟨o,e,d⟩:=T.obj _ _ st5 b hb;exact (I7.pin (b,o) (AY _ (AY _ (jw hb e)))).2.1
  cases f with
  | next=>obtain⟨O7,H7,I7,n7⟩:=q7;exact again I7 n7
  | cont=>obtain⟨O7,H7,I7,n7⟩:=q7;exact again I7 n7
  | brk=>obtain⟨O7,H7,I7,q7⟩:=q7;exact⟨O7,H7,I7.me,q7⟩
  | ret v=>obtain⟨x7,O7,H7,I7,r7,q7⟩:=q7;exact⟨x7,O7,H7,I7.me,r7,q7⟩
end
abbrev R2:=V->V->Hp->VK->Prop
def yj (X:Cx) (f:Value->Value->Sem Value) (r:R2):Prop:=
 ∀ (pins:List (Addr×Obj)) (s:Shared) (O:St) (H:Hp) (x y:V) (v u:Value) (Q:VK),Inv X pins O H s->RelV x v->RelV y u->r x y H Q->
  wpAny (model X.prog X.w) X.A (f v u) (EP X pins O Q) X.xe s
def cz (X:Cx) (f:Value->Sem Value) (r:V->Hp->VK->Prop):Prop:=
 ∀ (pins:List (Addr×Obj)) (s:Shared) (O:St) (H:Hp) (x:V) (v:Value) (Q:VK),Inv X pins O H s->RelV x v->r x H Q->
  wpAny (model X.prog X.w) X.A (f v) (EP X pins O Q) X.xe s
def yQ (X:Cx) (f:Value) (r:List V->Hp->VK->Prop):Prop:=
 ∀ (pins:List (Addr×Obj)) (s:Shared) (O:St) (H:Hp) (xs:List V) (us:List Value) (Q:VK),Inv X pins O H s->Vals xs us->r xs H Q->
  wpAny (model X.prog X.w) X.A (call f us) (EP X pins O Q) X.xe s
def LD (X:Cx) (r:V->Hp->(Bool->Hp->Prop)->Prop):Prop:=
 ∀ (pins:List (Addr×Obj)) (s:Shared) (O:St) (H:Hp) (x:V) (v:Value) (Q:Bool->Hp->Prop),Inv X pins O H s->RelV x v->r x H Q->
  wpAny (model X.prog X.w) X.A (truthy v) (TP X pins O Q) X.xe s
def mj (r:R2) (ta tb:TE):TE:=fun O H Q=>ta O H λ x H1=>tb O H1 λ y H2=>r x y H2 Q
def VW (r:V->Hp->VK->Prop) (ta:TE):TE:=fun O H Q=>ta O H λ x H1=>r x H1 Q
def rI (C:Int->Int->Prop) (g:Int->Int->V):R2:=λ x y H Q=>∃ i j,x=.int i/\y=.int j/\C i j/\Q (g i j) H
def vo (g:Int->Int->V):R2:=λ x y H Q=>∃ i j,x=.int i/\y=.int j/\Q (g i j) H
def rU (g:Int->V):V->Hp->VK->Prop:=λ x H Q=>∃ i,x=.int i/\Q (g i) H
section
variable {X:Cx}{a b:Expr}{ta tb:TE}{pos:Pos}
def cn (ha:PE X a ta) (hb:PE X b tb) {pins:List (Addr×Obj)}{s:Shared}{O:St}{H:Hp}{R:V->V->Hp->Prop}(I:Inv X pins O H s)
  (h:ta O H λ x H1=>tb O H1 λ y H2=>R x y H2) {Q:Value->Shared->Prop}{f:Value->Value->Sem Value}
  (hf:∀ v u s2 x y H2,Inv X pins O H2 s2->RelV x v->RelV y u->R x y H2->wpAny (model X.prog X.w) X.A (f v u) Q X.xe s2):
  wpAny (model X.prog X.w) X.A (eval a X.env) (λ v s₁=>wpAny (model X.prog X.w) X.A (eval b X.env) (λ u s₂=>wpAny (model X.prog X.w) X.A (f v u) Q X.xe s₂) X.xe s₁) X.xe s:=by
 refine zK (ha pins s O H _ I h) λ v s1 ⟨x,H1,I1,r1,q1⟩=>?_;refine zK (hb pins s1 O H1 _ I1 q1) λ u s2 ⟨y,H2,I2,r2,q2⟩=>?_;exact hf v u s2 x y H2 I2 r1 r2 q2
def SE {op:Operator}{r:R2}(ho:yj X (binaryOp op) r) (ha:PE X a ta) (hb:PE X b tb):PE X (.BinOp a op b pos) (mj r ta tb):=by
 intro pins s O H Q I h;exact wpAny_BinOp (cn ha hb I h λ v u s2 x y H2 I2 rx ry q=>ho pins s2 O H2 x y v u Q I2 rx ry q)
def S8 {op:UnaryOp}{r:V->Hp->VK->Prop}(ho:cz X (unaryOp op) r) (ha:PE X a ta):PE X (.UnaryOp op a pos) (VW r ta):=by
 intro pins s O H Q I h;exact UnaryOp_ (zK (ha pins s O H _ I h) λ v s1 ⟨x,H1,I1,r1,q1⟩=>ho pins s1 O H1 x v Q I1 r1 q1)
def jq {f:Value->Value->Sem Value}{C:Int->Int->Prop}{g:Int->Int->Int}
  (rule:∀ (i j:Int) (t u:Tok) (s:Shared) (Q:Value->Shared->Prop) (E:Value->Shared->Prop),C i j->Q (.int (g i j) s.toks) { s with toks:=s.toks+1 }->wpAny (model X.prog X.w) X.A (f (.int i t) (.int j u)) Q E s):
  yj X f (rI C λ i j=>.int (g i j)):=by
 intro pins s O H x y v u Q I rx ry h;obtain⟨i,j,rfl,rfl,hc,q⟩:=h;obtain⟨t,rfl⟩:=rx;obtain⟨t',rfl⟩:=ry;exact rule i j t t' s _ _ hc ⟨.int (g i j),H,I.tok _,⟨_,rfl⟩,q⟩
def ZX {f:Value->Value->Sem Value}{g:Int->Int->Int}
  (rule:∀ (i j:Int) (t u:Tok) (s:Shared) (Q:Value->Shared->Prop) (E:Value->Shared->Prop),Q (.int (g i j) s.toks) { s with toks:=s.toks+1 }->wpAny (model X.prog X.w) X.A (f (.int i t) (.int j u)) Q E s):
  yj X f (vo λ i j=>.int (g i j)):=by
 intro pins s O H x y v u Q I rx ry h;obtain⟨i,j,rfl,rfl,q⟩:=h;obtain⟨t,rfl⟩:=rx;obtain⟨t',rfl⟩:=ry;exact rule i j t t' s _ _ ⟨.int (g i j),H,I.tok _,⟨_,rfl⟩,q⟩
def jr {f:Value->Value->Sem Value}{g:Int->Int->Bool}
  (rule:∀ (i j:Int) (t u:Tok) (s:Shared) (Q:Value->Shared->Prop) (E:Value->Shared->Prop),Q (.bool (g i j)) s->wpAny (model X.prog X.w) X.A (f (.int i t) (.int j u)) Q E s):
  yj X f (vo λ i j=>.bl (g i j)):=by
 intro pins s O H x y v u Q I rx ry h;obtain⟨i,j,rfl,rfl,q⟩:=h;obtain⟨t,rfl⟩:=rx;obtain⟨t',rfl⟩:=ry;exact rule i j t t' s _ _ ⟨.bl (g i j),H,I,rfl,q⟩
def wx (i j:Int):Prop:=0<j/\j<1073741824
def rL (i j:Int):Prop:=0<=j/\j<=1000000/\i.natAbs<2 ^ 64
def wI (i j:Int):Prop:=(-(2 ^ 64)<i/\i<2 ^ 64)\/(-(2 ^ 64)<j/\j<2 ^ 64)
def wI.ok {i j:Int}(h:wI i j):IntMulOk i j:=by
 rcases h with ⟨h1,h2⟩ | ⟨h1,h2⟩
 .exact .of_left (intBits_le_64 h1 h2)
 .exact .of_right (intBits_le_64 h1 h2)
def RZ:yj X (binaryOp .Add) (vo λ i j=>.int (i+j)):=ZX λ _ _ _ _ _ _ _ q=>add_int q
def RD:yj X (binaryOp .Sub) (vo λ i j=>.int (i-j)):=ZX λ _ _ _ _ _ _ _ q=>sub_int q
def RK:yj X (binaryOp .Mult) (rI wI λ i j=>.int (i*j)):=jq λ _ _ _ _ _ _ _ hc q=>mul_int q hc.ok
def RT:yj X (binaryOp .FloorDiv) (rI wx λ i j=>.int (i/j)):=jq λ i j _ _ _ _ _ hc q=>by
 have h1:(0:Int)<j:=hc.1;have h2:j<1073741824:=hc.2;exact floordiv_int (by lia) (by rw[Int.fdiv_eq_ediv_of_nonneg i (by lia)];exact q) (.inl (PyProof.noPylong_small (by lia)))
def RL:yj X (binaryOp .Mod) (rI (λ _ j=>0<j) λ i j=>.int (i%j)):=jq λ i j _ _ _ _ _ hc q=>by
 have h1:(0:Int)<j:=hc;exact mod_int' (by lia) (by rw[Int.fmod_eq_emod_of_nonneg i (by lia)];exact q)
def RE:yj X (binaryOp .Pow) (rI rL λ i j=>.int (i ^ j.toNat)):=jq λ _ _ _ _ _ _ _ hc q=>pow_int_small hc.1 hc.2.1 hc.2.2 q
def VE {f:Value->Sem Value}{g:Int->Int}
  (rule:∀ (i:Int) (t:Tok) (s:Shared) (Q:Value->Shared->Prop) (E:Value->Shared->Prop),Q (.int (g i) s.toks) { s with toks:=s.toks+1 }->wpAny (model X.prog X.w) X.A (f (.int i t)) Q E s):
  cz X f (rU λ i=>.int (g i)):=by
 intro pins s O H x v Q I rx h;obtain⟨i,rfl,q⟩:=h;obtain⟨t,rfl⟩:=rx;exact rule i t s _ _ ⟨.int (g i),H,I.tok _,⟨_,rfl⟩,q⟩
def VD:cz X (unaryOp .USub) (rU λ i=>.int (-i)):=VE λ _ _ _ _ _ q=>neg_int q
end
section
variable {X:Cx}{a b c:Expr}{ta tb tc:TE}{pos:Pos}
def Xo {pins:List (Addr×Obj)}{O:St}{H:Hp}{s:Shared}{Q:VK}{k k':Bool}(I:Inv X pins O H s) (q:Q (.bl k) H) (e:k=k'):EP X pins O Q (.bool k') s:=by
 subst e;exact⟨.bl k,H,I,rfl,q⟩
def RO:yj X (compareOp .Lt) (vo λ i j=>.bl (decide (i<j))):=jr λ _ _ _ _ _ _ _ q=>lt_int q
def jo:yj X (compareOp .LtE) (vo λ i j=>.bl (decide (i<=j))):=jr λ _ _ _ _ _ _ _ q=>le_int q
def ZV:yj X (compareOp .Gt) (vo λ i j=>.bl (decide (j<i))):=jr λ _ _ _ _ _ _ _ q=>gt_int q
def ZW:yj X (compareOp .GtE) (vo λ i j=>.bl (decide (j<=i))):=jr λ _ _ _ _ _ _ _ q=>ge_int q
def RP:yj X (compareOp .Is) (λ x y H Q=>y=.zl/\Q (.bl (decide (x=.zl))) H):=by
 intro pins s O H x y v u Q I rx ry h;obtain⟨rfl,q⟩:=h;cases ry;refine is_none_gen (Xo I q ?_);cases x <;> first
  | (cases rx;rfl)
  | (obtain⟨t,rfl⟩:=rx;rfl)
def RF:yj X (compareOp .IsNot) (λ x y H Q=>y=.zl/\Q (.bl (!decide (x=.zl))) H):=by
 intro pins s O H x y v u Q I rx ry h;obtain⟨rfl,q⟩:=h;cases ry;refine isnot_none_gen (Xo I q ?_);cases x <;> first
  | (cases rx;rfl)
  | (obtain⟨t,rfl⟩:=rx;rfl)
def yj.or {f:Value->Value->Sem Value}{r r':R2}(h:yj X f r) (h':yj X f r'):yj X f (λ x y H Q=>r x y H Q\/r' x y H Q):=by
 intro pins s O H x y v u Q I rx ry q;rcases q with q | q
 .exact h pins s O H x y v u Q I rx ry q
 .exact h' pins s O H x y v u Q I rx ry q
def uW (b:Expr) {op:CmpOp}(h:op≠.In:=by decide) (h2:op≠.NotIn:=by decide):behindInMarks op b=false:=by
 have e1:(op == CmpOp.In)=false:=by cases op <;> first | rfl | exact absurd rfl h
 have e2:(op == CmpOp.NotIn)=false:=by cases op <;> first | rfl | exact absurd rfl h2
 cases b <;> simp[behindInMarks,e1,e2]
def SX {op:CmpOp}{r:R2}(ho:yj X (compareOp op) r) (ha:PE X a ta) (hb:PE X b tb) (hm:behindInMarks op b=false):PE X (.Compare a [op] [b] pos) (mj r ta tb):=by
 intro pins s O H Q I h;exact wpAny_Compare1 (cn ha hb I h λ v u s2 x y H2 I2 rx ry q=>ho pins s2 O H2 x y v u Q I2 rx ry q) hm
def aM (t:TE):TT:=fun O H Q=>t O H λ x H'=>∃ k,x=.bl k/\Q k H'
def T6 {op:CmpOp}{r:R2}(ho:yj X (compareOp op) r) (ha:PE X a ta) (hb:PE X b tb) (hm:behindInMarks op b=false):PT X (.Compare a [op] [b] pos) (aM (mj r ta tb)):=by
 intro pins s O H Q I h;refine wpAny_isTrue_Compare1 (zK (ha pins s O H _ I h) λ v s1 ⟨x,H1,I1,r1,q1⟩=>zK (hb pins s1 O H1 _ I1 q1) λ u s2 ⟨y,H2,I2,r2,q2⟩=>
  zK (ho pins s2 O H2 x y v u _ I2 r1 r2 q2) λ c s3 ⟨z,H3,I3,r3,k,e,q3⟩=>?_) hm
 subst e;cases r3;exact zaA ⟨H3,I3,q3⟩
def iZ (r r':R2) (ta tb tc:TE):TE:=fun O H Q=>ta O H λ x H1=>tb O H1 λ y H2=>r x y H2 λ z H3=>∃ k,z=.bl k/\
 (if k=true then tc O H3 λ w' H4=>r' y w' H4 Q else Q (.bl false) H3)
def SY {op op':CmpOp}{r r':R2}(ho:yj X (compareOp op) r) (ho':yj X (compareOp op') r') (ha:PE X a ta) (hb:PE X b tb) (hc:PE X c tc)
  (hm:lastMarks [op,op'] [b,c]=false:=by with_unfolding_all rfl):PE X (.Compare a [op,op'] [b,c] pos) (iZ r r' ta tb tc):=by
 intro pins s O H Q I h;refine Compare_chain (zK (ha pins s O H _ I h) λ v s1 ⟨x,H1,I1,r1,q1⟩=>chain_link (zK (hb pins s1 O H1 _ I1 q1) λ u s2 ⟨y,H2,I2,r2,q2⟩=>
  zK (ho pins s2 O H2 x y v u _ I2 r1 r2 q2) λ d s3 ⟨z,H3,I3,r3,k,e,q3⟩=>?_)) hm
 subst e;cases r3;refine zaA ?_;cases k with
 | false=>exact ite_ff ⟨.bl false,H3,I3,rfl,q3⟩
 | true=>exact ite_tt (chain_last (zK (hc pins s3 O H3 _ I3 q3) λ w' s4 ⟨z',H4,I4,r4,q4⟩=>ho' pins s4 O H4 y z' u w' Q I4 r2 r4 q4))
def T7 {op op':CmpOp}{r r':R2}(ho:yj X (compareOp op) r) (ho':yj X (compareOp op') r') (ha:PE X a ta) (hb:PE X b tb) (hc:PE X c tc)
  (hm:lastMarks [op,op'] [b,c]=false:=by with_unfolding_all rfl):PT X (.Compare a [op,op'] [b,c] pos) (aM (iZ r r' ta tb tc)):=by
 intro pins s O H Q I h;refine isTrue_chain (zK (ha pins s O H _ I h) λ v s1 ⟨x,H1,I1,r1,q1⟩=>test_link (zK (hb pins s1 O H1 _ I1 q1) λ u s2 ⟨y,H2,I2,r2,q2⟩=>
  zK (ho pins s2 O H2 x y v u _ I2 r1 r2 q2) λ d s3 ⟨z,H3,I3,r3,k,e,q3⟩=>?_)) hm
 subst e;cases r3;refine zaA ?_;cases k with
 | false=>
  obtain⟨k',e',q'⟩:=q3;cases e';exact ite_ff ⟨H3,I3,q'⟩
 | true=>
  refine ite_tt (test_last (zK (hc pins s3 O H3 _ I3 q3) λ w' s4 ⟨z',H4,I4,r4,q4⟩=>zK (ho' pins s4 O H4 y z' u w' _ I4 r2 r4 q4) λ d' s5 ⟨z2,H5,I5,r5,k2,e2,q5⟩=>?_));subst e2;cases r5;exact zaA ⟨H5,I5,q5⟩
def c6 (K:Ac) (x:V) (H:Hp) (k:Bool):Prop:=
 match x with
 | .zl=>k=false
 | .bl b=>k=b
 | .int i=>k=(i != 0)
 | .str y=>y.length<=sizeLine/\k=((y.length:Int) != 0)
 | .ny y=>y.size<=sizeLine/\k=((y.size:Int) != 0)
 | .ref p=>(∃ xs,zT K H p xs/\k=!xs.isEmpty)\/(∃ xs,ye K H p xs/\k=!xs.isEmpty)\/∃ Aa,H p=some (.dK Aa)/\k=!Aa.isEmpty
 | _=>False
def Nd {κ:Type}{Aa:List (κ × V)}{vs:List (κ × Value)}(r:KV Aa vs):(!vs.isEmpty)=!Aa.isEmpty:=by
 cases r <;> rfl
def YL {xs:List V}{its:List Value}(r:Vals xs its):(!its.toArray.isEmpty)=!xs.isEmpty:=by
 cases r <;> simp
def p8:(sizeLine:Nat)<2 ^ 63:=by rw[sizeLine_eq];decide
def VP:LD X (λ x H Q=>∃ k,c6 X.K x H k/\Q k H):=by
 intro pins s O H x v Q I rx h;obtain⟨k,e,q⟩:=h;have hl:=p8;have hs:sizeLine=16777216:=sizeLine_eq;cases x with
 | zl=>
  cases rx;have e':k=false:=e;subst e';exact truthy_none ⟨H,I,q⟩
 | bl b=>
  cases rx;have e':k=b:=e;subst e';exact zaA ⟨H,I,q⟩
 | int i=>
  obtain⟨t,rfl⟩:=rx;have e':k=(i != 0):=e;subst e';exact PySem.P.truthy_int ⟨H,I,q⟩
 | str y=>
  obtain⟨t,rfl⟩:=rx;obtain⟨hy,e'⟩:y.length<=sizeLine/\k=((y.length:Int) != 0):=e;subst e';exact PySem.P.truthy_str (by lia) ⟨H,I.tok _,q⟩
 | ny y=>
  obtain⟨t,rfl⟩:=rx;obtain⟨hy,e'⟩:y.size<=sizeLine/\k=((y.size:Int) != 0):=e;subst e';exact PySem.W.truthy_bytes (by lia) ⟨H,I.tok _,q⟩
 | ref p=>
  cases rx;have e':(∃ xs,zT X.K H p xs/\k=!xs.isEmpty)\/(∃ xs,ye X.K H p xs/\k=!xs.isEmpty)\/∃ Aa,H p=some (.dK Aa)/\k=!Aa.isEmpty:=e;rcases e' with ⟨xs,hx,e'⟩ | ⟨xs,hx,e'⟩ | ⟨Aa,hx,e'⟩
  .subst e';obtain⟨its,r,pl,hz⟩:=I.list hx;have hlen:=r.length;exact wpAny_truthy_list pl.isList (by simp only[Ar];lia) ⟨H,I.tok _,by rw[YL r];exact q⟩
  .subst e';obtain⟨its,r,pl,hz⟩:=I.tuple hx;have hlen:=r.length;exact truthy_tuple pl (by simp only[Ar];lia) ⟨H,I.tok _,by rw[YL r];exact q⟩
  .subst e';obtain⟨hz,hS,vs,r,m⟩:Aa.length<=sizeLine/\(p == sysModules)=false/\∃ vs,KV Aa vs/\s.heap.DictOf (vc X.prog X.w) p vs:=I.zE p _ hx;have hlen:Aa.length=vs.length:=Paired.length r;exact wpAny_truthy_dict hS m (by lia) ⟨H,I.tok _,by rw[Nd r];exact q⟩
 | _=>exact (show False from e).elim
def T4 (ha:PE X a ta) (he:∀ whole,isTrue a X.env whole=(do let v <- whole;standAt a.pos;holding [v] (truthy v))):
  PT X a (fun O H Q=>ta O H λ x H'=>∃ k,c6 X.K x H' k/\Q k H'):=by
 intro pins s O H Q I h;exact isTrue_plain (zK (ha pins s O H _ I h) λ v s1 ⟨x,H1,I1,r1,q1⟩=>VP pins s1 O H1 x v Q I1 r1 q1) (he _)
def RY:yj X (binaryOp .Add) (λ x y H Q=>∃ i j,x=.str i/\y=.str j/\i.length+j.length<=sizeLine/\Q (.str (i++j)) H):=by
 intro pins s O H x y v u Q I rx ry h;obtain⟨i,j,rfl,rfl,hz,q⟩:=h;obtain⟨t,rfl⟩:=rx;obtain⟨t',rfl⟩:=ry;exact add_str (λ t' tk=>⟨.str (i++j),H,I.tok _,⟨_,rfl⟩,q⟩) hz
def vals1 {x:V}{us:List Value}(r:Vals [x] us):∃ u,us=[u]/\RelV x u:=by
 cases r with
 | cons r1 r2=>cases r2;exact⟨_,rfl,r1⟩
def vals2 {x y:V}{us:List Value}(r:Vals [x,y] us):∃ u w',us=[u,w']/\RelV x u/\RelV y w':=by
 cases r with
 | cons r1 r2=>
  cases r2 with
  | cons r3 r4=>cases r4;exact⟨_,_,rfl,r1,r3⟩
def M_ (hc:X.calm=true):yQ X (.builtin "max") (λ xs H Q=>∃ i j,xs=[.int i,.int j]/\Q (.int (if j>i then j else i)) H):=by
 intro pins s O H xs us Q I r h;obtain⟨i,j,rfl,q⟩:=h;obtain⟨u,w',rfl,⟨t,rfl⟩,⟨t',rfl⟩⟩:=vals2 r;refine max_two_ints (I.ok.hd hc) λ h' tk k=>⟨_,H,I.kept k,?_,q⟩;by_cases hj:j>i
 .rw[if_pos hj,if_pos hj];exact⟨_,rfl⟩
 .rw[if_neg hj,if_neg hj];exact⟨_,rfl⟩
def MY (hc:X.calm=true):yQ X (.builtin "min") (λ xs H Q=>∃ i j,xs=[.int i,.int j]/\Q (.int (if j<i then j else i)) H):=by
 intro pins s O H xs us Q I r h;obtain⟨i,j,rfl,q⟩:=h;obtain⟨u,w',rfl,⟨t,rfl⟩,⟨t',rfl⟩⟩:=vals2 r;refine min_two_ints (I.ok.hd hc) λ h' tk k=>⟨_,H,I.kept k,?_,q⟩;by_cases hj:j<i
 .rw[if_pos hj,if_pos hj];exact⟨_,rfl⟩
 .rw[if_neg hj,if_neg hj];exact⟨_,rfl⟩
def Lg:yQ X (.type "int") (λ xs H Q=>(∃ i,xs=[.int i]/\Q (.int i) H)\/∃ k,xs=[.bl k]/\Q (.int (if k then 1 else 0)) H):=by
 intro pins s O H xs us Q I r h;rcases h with ⟨i,rfl,q⟩ | ⟨k,rfl,q⟩
 .obtain⟨u,rfl,t,rfl⟩:=vals1 r;exact call_int_int ⟨.int i,H,I,⟨_,rfl⟩,q⟩
 .obtain⟨u,rfl,r1⟩:=vals1 r;cases r1;exact call_int_bool ⟨.int (if k then 1 else 0),H,I.tok _,⟨_,rfl⟩,q⟩
end
def uJ.some_of {v:V}{o:Option Value}(r:uJ (some v) o):∃ u,o=some u/\RelV v u:=by
 cases o with
 | none=>exact (show False from r).elim
 | some u=>exact⟨u,rfl,r⟩
structure yK (k:Nat) (A:Around):Prop where
 hd:A.handled=none
 dp:A.depth+3*k+5<recursionLimit
 un:A.units+16*k+200<cLine
def yK.mono {j k:Nat}{A:Around}(r:yK k A) (h:j<=k):yK j A:=⟨r.hd,by have:=r.dp;lia,by have:=r.un;lia⟩
theorem yK.deeper {k:Nat}{A:Around}(r:yK (k+1) A) (env:Env):yK k (A.deeper env):=
 ⟨r.hd,by have:=r.dp;show A.depth+1+3*k+5<_;lia,by have:=r.un;show A.units+3+16*k+200<_;lia⟩
theorem yK.depth {k:Nat}{A:Around}(r:yK k A):A.depth<recursionLimit:=by have:=r.dp;lia
theorem yK.units {k:Nat}{A:Around}(r:yK k A):A.units+64<cLine:=by have:=r.un;lia
def iW:TA:=λ _ H Q=>Q [] H
def iY (ta:TE) (tr:TA):TA:=fun O H Q=>ta O H λ x H1=>tr O H1 λ xs H2=>Q (x::xs) H2
section
variable {X:Cx}{e:Expr}{es:List Expr}{te:TE}{t:TA}{pos:Pos}
def pj:PA X [] iW:=λ _ _ _ _ H Q I h=>Calls.spliced_nil ⟨[],H,I,.nil,h⟩
def qa (ha:PE X e te) (hr:PA X es t) (hs:starEach (e::es) X.env=(false,eval e X.env)::starEach es X.env:=by rfl):PA X (e::es) (iY te t):=by
 intro pos pins s O H Q I h;rw[hs];show wpAny _ _ (spliced ((false,eval e X.env)::backTo pos (starEach es X.env))) _ _ s;refine Calls.spliced_cons (zK (ha pins s O H _ I h) λ u s1 ⟨x,H1,I1,r1,q1⟩=>?_);exact zK (hr pos pins s1 O H1 _ I1 q1) λ us s2 ⟨xs,H2,I2,r2,q2⟩=>⟨x::xs,H2,I2,.cons r1 r2,q2⟩
def VX (t:TA):TE:=fun O H Q=>t O H λ xs H1=>xs.length<=sizeLine/\∀ p,H1 p=none->Q (.ref p) (upd H1 p (.tup xs))
def Uh (t:TA):TE:=fun O H Q=>t O H λ xs H1=>xs.length<=sizeLine/\∀ p,H1 p=none->Q (.ref p) (upd H1 p (.lst xs))
def S9 {x1} (h:PA X es t):PE X (.Tuple es x1 pos) (VX t):=by
 intro pins s O H Q I hq;refine wpAny_Tuple_spliced (zK (h pos pins s O H _ I hq) λ us s1 ⟨xs,H1,I1,r,z,q⟩=>⟨by rw[<- r.length];exact z,?_⟩);have hf:H1 s1.heap.objs.size=none:=I1.zE.fresh (Ah _);refine⟨.ref s1.heap.objs.size,upd H1 s1.heap.objs.size (.tup xs),I1.laid (t':=s1.toks) (λ b u e=>Ao _ e) (Ah _) ?_,rfl,q _ hf⟩;exact⟨z,us,r,⟨_,AF _ rfl,rfl,_,rfl⟩⟩
def SJ (h:PA X es t):PE X (.List es pos) (Uh t):=by
 intro pins s O H Q I hq;refine wpAny_List_spliced (zK (h pos pins s O H _ I hq) λ us s1 ⟨xs,H1,I1,r,z,q⟩=>⟨by rw[<- r.length];exact z,?_⟩);have hf:H1 s1.heap.objs.size=none:=I1.zE.fresh (Ah _);refine⟨.ref s1.heap.objs.size,upd H1 s1.heap.objs.size (.lst xs),I1.laid (t':=s1.toks) (λ b u e=>Ao _ e) (Ah _) ?_,rfl,q _ hf⟩;exact⟨z,us,0,r,AF _ rfl⟩
end
abbrev Sp:=List V->Hp->VK->XK->Prop
abbrev tD:=List Env->Hp->Shared->XK->Value->Shared->Prop
structure i7 (P:Program) (w:World) (K:Ac) (mg:Str->Option Value) (base:Heap) (A:Around) (outer:List Env) (s:Shared) (H:Hp):Prop where
 frames:A.frames=some outer
 mod:Mod K mg base
 bs:∀ b o,base.get? b=some o->s.heap.get? b=some o/\H b=none
 pP:base.objs.size<=s.heap.objs.size
 u_:s.heap.FunFrames base outer
 ni:∀ b∈ua outer,H b=none
 zE:xk P w H s.heap
 bare:AllBare s.gens
def CE (outer:List Env) (P:Program) (w:World) (H:Hp) (s:Shared) (Q:VK) (u:Value) (s':Shared):Prop:=
 ∃ v H',s'.os=s.os/\AllBare s'.gens/\Un (ua outer) [] H H' s.heap s'.heap/\xk P w H' s'.heap/\RelV v u/\Q v H'
def CR (CX:tD) (outer:List Env) (P:Program) (w:World) (H:Hp) (s:Shared) (Q:VK) (E:XK) (r:Result) (s':Shared):Prop:=
 match r with
 | .ok (.ret u)=>CE outer P w H s Q u s'
 | .ok _=>False
 | .error e=>CX outer H s E e s'
structure uO (P:Program) (w:World) (K:Ac) (mg:Str->Option Value) (base:Heap) (CX:tD) (k:Nat) (f:Addr) (fd:FuncData) (ps:List Str) (sp:Sp):Prop where
 len:∀ vs H Q E,sp vs H Q E->vs.length=ps.length
 run:∀ (A:Around) (outer:List Env) (s:Shared) (H:Hp) (args:Args) (us:List Value) (vs:List V) (Q:VK) (E:XK),yK k A->i7 P w K mg base A outer s H->BindsTo s fd args (ps.zip us)->Vals vs us->sp vs H Q E->
  codeAny (model P w) A (.call (.ref f) args) (CR CX outer P w H s Q E) s
section
variable {X:Cx}{pins:List (Addr×Obj)}{O:St}{H:Hp}{s s':Shared}
def Inv.Me (I:Inv X pins O H s):i7 X.prog X.w X.K X.mg X.base X.A X.stack s H:=
 ⟨I.ok.frames,I.ok.mod,I.bs,A9 I.ok.pP I.sz,I.stack,I.aO,I.zE,I.bare⟩
def Inv.after {Q:VK}{u:Value}(I:Inv X pins O H s) (h:CE X.stack X.prog X.w H s Q u s'):EP X pins O Q u s':=by
 obtain⟨v,H',os,bare,un,zE,r,q⟩:=h;obtain⟨hh,g,d,t,os'⟩:=s';obtain rfl:os'=s.os:=os;exact⟨v,H',I.call (h':=hh) (g':=g) (d':=d) (t':=t) (ch:=[]) un zE bare (λ b z=>absurd z (by simp)),r,q⟩
end
def aN (sp:Sp) (dvs:List V) (E:XK) (t:TA):TE:=fun O H Q=>t O H λ vs H1=>sp (vs++dvs) H1 Q E
def Binds (K:Ac) (fd:FuncData) (ps:List Str) (ds:List Value):Prop:=
 ∀ (s:Shared) (us:List Value),K.In s.heap->(us++ds).length=ps.length->BindsTo s fd ⟨us,[]⟩ (ps.zip (us++ds))
def Binds.all {K:Ac}{fd:FuncData}{ps:List Str}(h:∀ us:List Value,us.length=ps.length->bindArgs fd ⟨us,[]⟩=pure (ps.zip us)):Binds K fd ps []:=λ s us _ hl=>by
 rw[CB] at hl ⊢;exact .of_eq (h us hl)
def Passes (CX:tD) (X:Cx) (E:XK):Prop:=∀ (pins:List (Addr×Obj)) (O:St) (H:Hp) (s:Shared) (e:Value) (s':Shared),Inv X pins O H s->CX X.stack H s E e s'->X.xe e s'
section
variable {X:Cx}{CX:tD}{k:Nat}{f:Addr}{fd:FuncData}{ps:List Str}{sp:Sp}{dvs:List V}{ds:List Value}{E:XK}{x:Str}{p pos:Pos}{e:Expr}{es:List Expr}{t:TA}
def UZ {pins:List (Addr×Obj)}{O:St}{H:Hp}{s:Shared}{Q:VK}{us:List Value}{vs:List V}(F:uO X.prog X.w X.K X.mg X.base CX k f fd ps sp) (hr:yK k X.A) (hb:Binds X.K fd ps ds) (hd:Vals dvs ds) (hx:Passes CX X E)
  (I:Inv X pins O H s) (r:Vals vs us) (h:sp (vs++dvs) H Q E):wpAny (model X.prog X.w) X.A (call (.ref f) us) (EP X pins O Q) X.xe s:=by
 have r2:Vals (vs++dvs) (us++ds):=r.append hd;have hl:(us++ds).length=ps.length:=by rw[<- r2.length];exact F.len _ _ _ _ h
 refine wpAny_call (codeAny_mono (F.run X.A X.stack s H ⟨us,[]⟩ (us++ds) (vs++dvs) Q E hr I.Me (hb s us I.vZ hl) r2 h) λ r s' hq=>?_);cases r with
 | error e=>exact hx pins O H s e s' I hq
 | ok fl=>
  cases fl with
  | ret u=>exact I.after hq
  | next=>exact False.elim hq
  | brk=>exact False.elim hq
  | cont=>exact False.elim hq
def S_ (F:uO X.prog X.w X.K X.mg X.base CX k f fd ps sp) (hr:yK k X.A) (hg:Gl X x) (hm:X.mg x=some (.ref f)) (hk:PySem.W.keepIn X.K (.ref f)=true) (hb:Binds X.K fd ps ds) (hd:Vals dvs ds) (hx:Passes CX X E)
  (ha:PA X (e::es) t) (B0:(x == ("__debug__":Str))=false:=by decide) (he:starEach (e::es) X.env=(false,eval e X.env)::starEach es X.env:=by rfl) (Au:(backTo pos (starEach es X.env)).any (·.1)=false:=by rfl):
  PE X (.Call (.Name x p) (e::es) [] pos) (aN sp dvs E t):=by
 intro pins s O H Q I h;refine wpAny_Call_Name_kw (Y9 I hg hm ?_ B0);refine PySem.W.callWith_K (h₀:=X.base) I.ok.mod.eR hk (zK (ha pos pins s O H _ I h) λ us s1 ⟨vs,H1,I1,r,q⟩=>⟨I1.vZ,?_⟩) he Au;exact UZ F hr hb hd hx I1 r q
end
structure yf (N P:List Str) (sc:Scope):Prop where
 kind:sc.kind=.function
 co:sc.isCoroutine=false
 gen:sc.isGenerator=false
 nd:N.Nodup
 pre:N.take P.length=P
 par:∀ x∈P,sc.names.lookup x=some .local\/sc.names.lookup x=some .cell
 PU:∀ y∈sc.names,y.2≠.free
theorem Wq {kindOf:Str->Option NameKind}{x:Str}:∀ {binds:List (Str×Value)}{m:Str->Option Value},(∀ v,(x,v)∉binds)->bindL kindOf binds m x=m x
 | [],_,_=>rfl
 | (n,v)::r,m,h=>by
  unfold bindL;rw[Wq λ w hw=>h w (Av _ hw)];split
  .have:x≠n:=by rintro rfl;exact h v Al
   simp[this]
  .rfl
theorem Ws {kindOf:Str->Option NameKind}{x:Str}:∀ {binds:List (Str×Value)}{m:Str->Option Value},(∀ v,(x,v)∉binds)->bindC kindOf binds m x=m x
 | [],_,_=>rfl
 | (n,v)::r,m,h=>by
  unfold bindC;rw[Ws λ w hw=>h w (Av _ hw)];split
  .rfl
  .have:x≠n:=by rintro rfl;exact h v Al
   simp[this]
theorem Wr {kindOf:Str->Option NameKind}{x:Str}{v:Value}:∀ {P:List Str}{vs:List Value}{i:Nat}{m:Str->Option Value},P.Nodup->P[i]?=some x->vs[i]?=some v->kindOf x=some .local->
  bindL kindOf (P.zip vs) m x=some v
 | [],_,_,_,_,h,_,_=>by simp at h
 | _::_,[],_,_,_,_,h,_=>by simp at h
 | p::P,w::vs,0,m,nd,h1,h2,hk=>by
  simp at h1 h2;subst h1;subst h2;show bindL kindOf ((p,w)::P.zip vs) m p=_;unfold bindL;rw[Wq λ v hv=>(Be.mp nd).1 (D3 hv).1,if_pos hk];simp
 | p::P,w::vs,i+1,m,nd,h1,h2,hk=>by
  show bindL kindOf ((p,w)::P.zip vs) m x=_;unfold bindL;exact Wr (i:=i) (Be.mp nd).2 (by simpa using h1) (by simpa using h2) hk
theorem Wt {kindOf:Str->Option NameKind}{x:Str}{v:Value}:∀ {P:List Str}{vs:List Value}{i:Nat}{m:Str->Option Value},P.Nodup->P[i]?=some x->vs[i]?=some v->kindOf x≠some .local->
  bindC kindOf (P.zip vs) m x=some v
 | [],_,_,_,_,h,_,_=>by simp at h
 | _::_,[],_,_,_,_,h,_=>by simp at h
 | p::P,w::vs,0,m,nd,h1,h2,hk=>by
  simp at h1 h2;subst h1;subst h2;show bindC kindOf ((p,w)::P.zip vs) m p=_;unfold bindC;rw[Ws λ v hv=>(Be.mp nd).1 (D3 hv).1,if_neg hk];simp
 | p::P,w::vs,i+1,m,nd,h1,h2,hk=>by
  show bindC kindOf ((p,w)::P.zip vs) m x=_;unfold bindC;exact Wt (i:=i) (Be.mp nd).2 (by simpa using h1) (by simpa using h2) hk
noncomputable def start (N:List Str) (vs:List V):St:=vs.map some++List.replicate (N.length-vs.length) none
noncomputable def t_ (CX:tD) (P:Program) (w:World) (K:Ac) (mg:Str->Option Value) (base:Heap) (N:List Str) (qual:Str) (scope:Scope) (f:Addr) (cd:Value) (A:Around) (outer:List Env) (s:Shared) (H:Hp) (E:XK):Cx where
 prog:=P
 w:=w
 K:=K
 mg:=mg
 base:=base
 A:=A.deeper (envOfC qual scope s.heap.objs.size f cd)
 N:=N
 s₀:=s
 H₀:=H
 env:=envOfC qual scope s.heap.objs.size f cd
 outer:=outer
 stack:=envOfC qual scope s.heap.objs.size f cd::outer
 ex:=[]
 calm:=true
 fn:=λ _=>true
 pn:=[]
 xe:=λ e s'=>wpAny (model P w) (A.deeper (envOfC qual scope s.heap.objs.size f cd)) (leaving (envOfC qual scope s.heap.objs.size f cd) e) (λ _ s''=>CX outer H s E e s'') (λ e' s''=>CX outer H s E e' s'') s'
def Wk {sc:Scope}{n:Nat}{x:Str}(h:sc.names.lookup x=some .cell):∃ c,(cellsFrom n sc.names []).lookup x=some c:=by
 have q:=PySem.W.cellsFrom_some sc.names n [] (.inl h);exact DE.mp q
def Nh {CX:tD}{P:Program}{w:World}{K:Ac}{mg:Str->Option Value}{base:Heap}{N ps:List Str}{qual:Str}{scope:Scope}{f:Addr}{cd:Value}{A:Around}{outer:List Env}{s s1:Shared}{H:Hp}{E:XK}{us:List Value}{vs:List V}
  (S:yf N ps scope) (hd:A.handled=none) (e0:i7 P w K mg base A outer s H) (hl:vs.length=ps.length) (r:Vals vs us)
  (x:InCallC s s.heap.objs.size (bindL (envOfC qual scope s.heap.objs.size f cd).kindOf (ps.zip us) λ _=>none) (cellsFrom (s.heap.objs.size+1) scope.names []) (bindC (envOfC qual scope s.heap.objs.size f cd).kindOf (ps.zip us) λ _=>none) s1):
  Inv (t_ CX P w K mg base N qual scope f cd A outer s H E) [] (start N vs) H s1:=by
 have Au:ps.length<=N.length:=by have:=congrArg List.length S.pre;rw[CA] at this;lia
 obtain⟨h1,tk,rfl,hk⟩:=x.done;have noA:∀ b:Addr,b∉(t_ CX P w K mg base N qual scope f cd A outer s H E).ex:=λ b z=>absurd (show b∈([]:List Addr) from z) (by simp);refine⟨⟨e0.mod,S.kind,rfl,rfl,Ah _,λ y z c h1 h2=>?_,λ y hy=>?_,λ y c _ h=>?_,λ _=>hd,Around.frames_deeper e0.frames,.inr ⟨rfl,rfl⟩,λ b z=>absurd z (noA b),e0.bs,e0.pP,λ b _ _=>noA b,λ b z=>absurd z (noA b),e0.u_,e0.ni⟩,
  rfl,e0.bare,Un.kept hk,⟨_,x.toInCall.ns,λ i y v h1 h2 h3=>?_⟩,λ y c h=>⟨_,x.cell y c h⟩,e0.zE.fresh (Ah _),λ y c h=>?_,λ p hp=>absurd (show p∈([]:List (Addr×Obj)) from hp) (by simp),e0.zE.kept hk,?_⟩
 .exact name_of_addr x.apart (PySem.mem_of_lookup h1) (PySem.mem_of_lookup h2)
 .have hy:scope.names.lookup y=some .cell\/scope.names.lookup y=some .free:=hy;rcases hy with hy | hy
  .exact Wk hy
  .exact absurd rfl (S.PU _ (PySem.mem_of_lookup hy))
 .exact BF (x.above y c (PySem.mem_of_lookup h))
 .have hi:i<vs.length:=by
   unfold start at h2;by_cases hi:i<vs.length
   .exact hi
   .rw[Cz (by simpa using hi)] at h2;rw[Cf] at h2;split at h2 <;> cases h2
  have ha:vs[i]?=some v:=by
   unfold start at h2;rw[Ce (by simpa using hi),Ay] at h2;cases e:vs[i]? with
   | none=>rw[e] at h2;cases h2
   | some a=>rw[e] at h2;cases h2;rfl
  obtain⟨u,hu,rv⟩:=r.get ha;have hp:ps[i]?=some y:=by
   rw[<- S.pre,List.getElem?_take_of_lt (by lia)];exact h1
  have ndP:ps.Nodup:=by rw[<- S.pre];exact S.nd.sublist (List.take_sublist _ _)
  refine⟨u,rv,?_⟩;rcases S.par y (A7 hp) with k | k
  .exact .inl ⟨k,Wr ndP hp hu k⟩
  .obtain⟨c,e⟩:=Wk (n:=s.heap.objs.size+1) k;refine .inr ⟨.inl k,c,e,?_⟩;have q:=x.cell y c e;rw[Wt ndP hp hu (by show scope.names.lookup y≠_;rw[k];decide)] at q;exact q
 .exact e0.zE.fresh (BF (x.above y c (PySem.mem_of_lookup h)))
 .unfold start;show _=N.length;rw[Bf,Aw,List.length_replicate];lia
def NR {CX:tD}{P:Program}{w:World}{K:Ac}{mg:Str->Option Value}{base:Heap}{k:Nat}{f:Addr}{name qual:Str}{params:Arguments}{body:List Stmt}{scope:Scope}{dV kV doc pm Af ct oc:Value}{an od:Option Addr}
  {osl:Array (Option Value)}{N ps:List Str}{sp:Sp}(lk:K.lookup f=some ⟨oc,od,.func (PySem.W.fnOf name qual params body scope dV kV doc pm an Af ct),osl⟩) (Bw:PySem.W.codeIn K Af qual=true) (S:yf N ps scope)
  (len:∀ vs H Q E,sp vs H Q E->vs.length=ps.length)
  (hbody:∀ (A:Around) (outer:List Env) (s:Shared) (H:Hp) (vs:List V) (Q:VK) (E:XK),yK k (A.deeper (envOfC qual scope s.heap.objs.size f Af))->sp vs H Q E->
   ∃ t,wB (t_ CX P w K mg base N qual scope f Af A outer s H E) body t/\t { nx:=λ _ H'=>Q .zl H',rt:=Q } (start N vs) H):
  uO P w K mg base CX (k+1) f (PySem.W.fnOf name qual params body scope dV kV doc pm an Af ct) ps sp:=by
 refine⟨len,λ A outer s H args us vs Q E hr e0 hb r A0=>?_⟩;have hl:=len _ _ _ _ A0;have KX:K.In s.heap:=e0.mod.eR.keeps λ b o e=>(e0.bs b o e).1;have lim:s.heap.NoLimit:=e0.mod.nolimit.keeps λ b o e=>(e0.bs b o e).1;have hkind:∀ y∈ps.zip us,scope.names.lookup y.1=some .local\/(scope.names.lookup y.1=some .cell/\((cellsFrom (s.heap.objs.size+1) scope.names []).lookup y.1).isSome=true):=λ⟨n,v⟩ hy=>by
  rcases S.par n (D3 hy).1 with q | q
  .exact .inl q
  .exact .inr ⟨q,PySem.W.cellsFrom_some _ _ _ (.inl q)⟩
 refine codeAny_call_function hr.depth (KX _ _ lk) rfl S.co S.gen rfl (PySem.W.codeRec_of KX Bw) (hb _ _ _ _ ?_);refine wpAny_newFunctionEnv_cells S.kind hkind λ env he s1 x=>?_;subst he;refine⟨lim.keeps x.toInCall.keep,codeAny_func ?_⟩;obtain⟨t,ht,hq⟩:=hbody A outer s H vs Q E (hr.deeper _) A0;have I:Inv (t_ CX P w K mg base N qual scope f Af A outer s H E) [] (start N vs) H s1:=Nh S hr.hd e0 hl r x;refine za5 (ht [] s1 (start N vs) H _ I hq) (λ fl s' hs=>?_) λ e s' hs=>hs;have fin:∀ {O':St}{H':Hp}{v:V}{u:Value},Inv (t_ CX P w K mg base N qual scope f Af A outer s H E) [] O' H' s'->RelV v u->Q v H'->CE outer P w H s Q u s':=
  λ{O' H' v u} J rv q=>⟨v,H',J.os,J.bare,J.base,J.zE,rv,q⟩
 cases fl with
 | ret u=>
  obtain⟨v,O',H',J,rv,q⟩:=hs;exact fin J rv q
 | next=>
  obtain⟨O',H',J,q⟩:=hs;exact fin (v:=V.zl) (u:=Value.none) J rfl q
 | brk=>
  obtain⟨_,_,_,q⟩:=hs;exact False.elim q
 | cont=>
  obtain⟨_,_,_,q⟩:=hs;exact False.elim q
section
variable {X:Cx}{x:Str}{p pos:Pos}{e:Expr}{es:List Expr}{t:TA}{id T:String}{r:List V->Hp->VK->Prop}
def kF (r:List V->Hp->VK->Prop) (t:TA):TE:=fun O H Q=>t O H λ vs H1=>r vs H1 Q
def tJ (hc:yQ X (.builtin id) r) (hg:Gl X x) (hm:X.mg x=none) (hv:bootBuiltins x=some (.builtin id)) (ha:PA X (e::es) t) (hn:x≠"__name__":=by decide) (B0:(x == ("__debug__":Str))=false:=by decide)
  (he:starEach (e::es) X.env=(false,eval e X.env)::starEach es X.env:=by rfl) (Au:(backTo pos (starEach es X.env)).any (·.1)=false:=by rfl):PE X (.Call (.Name x p) (e::es) [] pos) (kF r t):=by
 intro pins s O H Q I h;refine wpAny_Call_Name_kw (oS I hg hm hv ?_ hn B0);exact PyProof.Rows.callWith_builtin1 (zK (ha pos pins s O H _ I h) λ us s1 ⟨vs,H1,I1,r1,q1⟩=>hc pins s1 O H1 vs us Q I1 r1 q1) he Au
def oD (hc:yQ X (.type T) r) (hg:Gl X x) (hm:X.mg x=none) (hv:bootBuiltins x=some (.type T)) (ha:PA X (e::es) t) (hn:x≠"__name__":=by decide) (B0:(x == ("__debug__":Str))=false:=by decide)
  (he:starEach (e::es) X.env=(false,eval e X.env)::starEach es X.env:=by rfl) (Au:(backTo pos (starEach es X.env)).any (·.1)=false:=by rfl):PE X (.Call (.Name x p) (e::es) [] pos) (kF r t):=by
 intro pins s O H Q I h;refine wpAny_Call_Name_kw (oS I hg hm hv ?_ hn B0);exact PyProof.Rows.callWith_type1 (zK (ha pos pins s O H _ I h) λ us s1 ⟨vs,H1,I1,r1,q1⟩=>hc pins s1 O H1 vs us Q I1 r1 q1) he Au
end
end L2
namespace HT
open PySem PyProof.Rows
noncomputable def lexLt:List Int->List Int->Bool
 | [],[]=>false
 | [],_::_=>true
 | _::_,[]=>false
 | x::xs,y::ys=>if x=y then lexLt xs ys else decide (x<y)
def qg (x y:Int) (xs ys:List Int):lexLt (x::xs) (y::ys)=if x=y then lexLt xs ys else decide (x<y):=rfl
def O2:lexLt [] []=false:=rfl
def O3 (y:Int) (ys:List Int):lexLt [] (y::ys)=true:=rfl
def O4 (x:Int) (xs:List Int):lexLt (x::xs) []=false:=rfl
def Md (A:Around) (s:Shared) (a:Int) (t:Tok) (c:Int) (u:Tok):∃ e,SeqAt.EqAt A s (.int a t) (.int c u) e/\(e=true↔a=c):=
 ⟨(a == c),SeqAt.EqAt.int_int a t c u,by simp⟩
def Th (A:Around) (s:Shared) (a:Int) (t:Tok) (c:Int) (u:Tok) (prog:Program) (w:World) (E:Value->Shared->Prop) (Q:Value->Shared->Prop) (h:Q (.bool (decide (a<c))) s):
  wpAny (model prog w) A (richCompare .Lt (.int a t) (.int c u)) Q E s:=
 (PyProof.Rows.lt_int h:wpAny (model prog w) A (compareOp .Lt (.int a t) (.int c u)) Q E s)
section
open PySem.SeqAt
open PySem.AutoSeq1 (wpAny_loadPart')
open PySem.MeetsSeq PySem.MeetsSeq2 PySem.MeetsSeq3
def VN (l b:Addr) (items items2:Array Value) (n n2:Nat) (dd dd2:Option Addr) (sl sl2:Array (Option Value)) (ns ms:List Int) (hi:IntsAre items.toList ns) (hj:IntsAre items2.toList ms):
  Meets (Builtin.«tuple.__lt__» ⟨[.ref l,.ref b],[]⟩)
   (λ _ R s=>s.heap.get? l=some { cls:=.type "tuple",dict:=dd,data:=.seq items n,slots:=sl }/\s.heap.get? b=some { cls:=.type "tuple",dict:=dd2,data:=.seq items2 n2,slots:=sl2 }/\
    R (.ok (.ret (.bool (lexLt ns ms)))) s):=
 .of_wp λ prog w A R s h=>by
  obtain⟨hp,g,d,tk,os⟩:=s;obtain⟨hl,hb,h⟩:=h;have f2:=AutoSeq1.sub_tuple_tuple;have z1:items.size=ns.length:=by rw[<- hi.length];simp
  have z2:items2.size=ms.length:=by rw[<- hj.length];simp
  wp_walk using wpAny_loadPart' hl,wpAny_loadPart' hb,wpAny_forIn_list _ (λ rest b s'=>b.1=none/\s'=⟨hp,g,d,tk,os⟩/\∃ (vs ws:List Value) (ns' ms':List Int),rest=vs.zip ws/\
   IntsAre vs ns'/\IntsAre ws ms'/\ns'.length+items2.size=ms'.length+items.size/\R (.ok (.ret (.bool (lexLt ns' ms')))) ⟨hp,g,d,tk,os⟩) _
  case turn=>
   rintro⟨y,x⟩ rest b s' ⟨hb',rfl,vs,ws,ns',ms',hz,D9,CF,hlen,hR⟩;cases D9 with
   | nil=>rw[List.zip_nil_left] at hz;cases hz
   | cons a t D8=>
    cases CF with
    | nil=>rw[List.zip_nil_right] at hz;cases hz
    | cons c u D6=>
     rw[List.zip_cons_cons] at hz
     injection hz with hyx hrest
     injection hyx with hy hx
     subst hy hx;rw[qg] at hR;simp only[AW] at hlen;obtain⟨e,he,De⟩:=Md A.in1 ⟨hp,g,d,tk,os⟩ a t c u;refine Ab (he prog w _ _ ?_);cases e with
     | true=>
      rw[if_pos (De.mp rfl)] at hR
      wp_walk
      exact⟨rfl,rfl,_,_,_,_,hrest,D8,D6,by lia,hR⟩
     | false=>
      rw[if_neg (λ q=>absurd (De.mpr q) BE)] at hR;have hri:=Th A.in1 ⟨hp,g,d,tk,os⟩ a t c u prog w
      wp_walk using hri
      exact⟨_,rfl,by simpa using hR⟩
  case fin=>
   rintro⟨b1,b2⟩ s' ⟨hb',rfl,vs,ws,ns',ms',hz,D9,CF,hlen,hR⟩;simp only at hb';subst hb';have hv:lexLt ns' ms'=decide (items.size<items2.size):=by
    cases D9 with
    | nil=>
     cases CF with
     | nil=>
      simp only[C1] at hlen;rw[O2];exact (za0 (by lia)).symm
     | cons c u hw=>
      simp only[C1,AW] at hlen;rw[O3];exact (za2 (by lia)).symm
    | cons a t hv=>
     cases CF with
     | nil=>
      simp only[C1,AW] at hlen;rw[O4];exact (za0 (by lia)).symm
     | cons c u hw=>
      rw[List.zip_cons_cons] at hz;cases hz
   rw[hv] at hR
   wp_walk
   exact⟨_,rfl,by simpa [Builtin.Tuple.tupleCompareSizes] using hR⟩
  case h=>
   exact⟨rfl,rfl,items.toList,items2.toList,ns,ms,rfl,hi,hj,by lia,h⟩
end
section
variable {prog:Program}{w:World}{A:Around}{E:Value->Shared->Prop}{s:Shared}
def Ot {l b:Addr}{items items2:Array Value}{ns ms:List Int}{Q:Value->Shared->Prop}(hl:IsTup s.heap l items) (hb:IsTup s.heap b items2) (hi:IntsAre items.toList ns) (hj:IntsAre items2.toList ms)
  (hu:A.units<cLine) (h:Q (.bool (lexLt ns ms)) s):wpAny (model prog w) A (compareOp .Lt (.ref l) (.ref b)) Q E s:=by
 obtain⟨⟨cls,dd,data,sl⟩,ho,hc,n,hd⟩:=id hl;obtain⟨⟨cls2,dd2,data2,sl2⟩,ho2,hc2,n2,hd2⟩:=id hb;simp only at hc hd hc2 hd2;subst hc hd hc2 hd2;exact richCompare_meets_room (op:=.Lt) ⟨_,ho,rfl⟩ ⟨_,ho2,rfl⟩ PySem.F.slot_tuple_lt PySem.F.entry_tuple_lt (PySem.F.args_tuple_lt_2 _ _) (VN l b items items2 n n2 dd dd2 sl sl2 ns ms hi hj)
  ⟨ho,ho2,show Value.bool (lexLt ns ms)≠Value.notImplemented/\Q (.bool (lexLt ns ms)) s from ⟨(λ x=>nomatch x),h⟩⟩ hu
def MM {t b:Addr}{vs ws:List Value}{Q:Value->Shared->Prop}(ht:IsTup s.heap t vs.toArray) (hb:IsTup s.heap b ws.toArray) (hv:vs≠[])
  (h1:ws=[]->Q (.ref t) s) (h2:ws≠[]->Q (.ref s.heap.objs.size) { s with heap:=s.heap.push { cls:=.type "tuple",data:=.seq (vs++ws).toArray } })
  (hsz:vs.length+ws.length<=sizeLine):wpAny (model prog w) A (binaryOp .Add (.ref t) (.ref b)) Q E s:=by
 obtain⟨⟨cls,dd,data,sl⟩,ho,hc,n,hd⟩:=id ht;obtain⟨⟨cls2,dd2,data2,sl2⟩,ho2,hc2,n2,hd2⟩:=id hb;simp only at hc hd hc2 hd2;subst hc hd hc2 hd2;have e:vs.toArray++ws.toArray=(vs++ws).toArray:=by simp
 by_cases hw:ws=[]
 .exact concat_meets ⟨_,ho,rfl⟩ ⟨_,ho2,rfl⟩ noFill_tuple_add seq_tuple_add PySem.F.slot_tuple_add PySem.F.entry_tuple_add (PySem.F.args_tuple_add_2 _ _)
   (tuple_addW1 t b vs.toArray ws.toArray n n2 dd dd2 sl sl2 (by simpa using hv) (by simp[hw])) ⟨ho,ho2,h1 hw⟩
 .refine concat_meets ⟨_,ho,rfl⟩ ⟨_,ho2,rfl⟩ noFill_tuple_add seq_tuple_add PySem.F.slot_tuple_add PySem.F.entry_tuple_add (PySem.F.args_tuple_add_2 _ _)
   (tuple_addW2 t b vs.toArray ws.toArray n n2 dd dd2 sl sl2 (by simpa using hv) (by simpa using hw) (by rw[Ar,Ar];exact hsz)) ⟨ho,ho2,?_⟩
  rw[e];exact h2 hw
noncomputable def zN (n d:Nat):Option Int->Nat
 | none=>d
 | some v=>if v<0 then (v+(n:Int)).toNat else min v.toNat n
def UX (n d:Nat) (hd:d<=n) (o:Option Int):zN n d o<=n:=by
 cases o with
 | none=>exact hd
 | some v=>
  show (if v<0 then (v+(n:Int)).toNat else min v.toNat n)<=n;by_cases hv:v<0
  .rw[if_pos hv];lia
  .rw[if_neg hv];exact Nat.min_le_right _ _
def Wa (v:Int) (n d:Nat):(if v<0 then max (v+(n:Int)) 0 else min v (n:Int))=((zN n d (some v):Nat):Int):=by
 show (if v<0 then max (v+(n:Int)) 0 else min v (n:Int))=(((if v<0 then (v+(n:Int)).toNat else min v.toNat n):Nat):Int)
 by_cases hv:v<0
 .simp only[if_pos hv];lia
 .simp only[if_neg hv];lia
def LA (lo hi:Option Int) (n:Nat):Builtin.Slice.sliceAdjust lo hi 1 (n:Int)=(((zN n 0 lo:Nat):Int),((zN n n hi:Nat):Int)):=by
 have h1:¬ ((1:Int)<0):=by lia
 unfold Builtin.Slice.sliceAdjust;simp only[h1,if_false];refine Prod.ext ?_ ?_
 .cases lo with
  | none=>rfl
  | some v=>exact Wa v n 0
 .cases hi with
  | none=>rfl
  | some v=>exact Wa v n n
def Sb (i j:Nat):Builtin.Slice.slicePlaces (i:Int) (j:Int) 1=j-i:=by
 unfold Builtin.Slice.slicePlaces;have h1:(1:Int)>0:=by lia
 simp only[h1,if_true,Int.ediv_one];split <;> lia
def a_ {v:Value}{o:Option Int}{Q:Option Int->Shared->Prop}(p:IsPart v o) (h:Q o s):wpAny (model prog w) A (Builtin.Slice.slicePartIndex v) Q E s:=by
 cases p with
 | none=>exact slicePart_none h
 | int i t=>exact slicePart_int h
def Za {sl:Addr}{vl vu:Value}{lo hi:Option Int}{n:Nat}{Q:Int×Int×Nat->Shared->Prop}(hs:s.heap.IsSliceOf sl vl vu .none) (pl:IsPart vl lo) (pu:IsPart vu hi)
  (h:Q (((zN n 0 lo:Nat):Int),1,zN n n hi-zN n 0 lo) s):wpAny (model prog w) A (Builtin.Slice.sliceApplied (.ref sl) (pure (n:Int))) Q E s:=by
 obtain⟨os,C7,hcs,DP⟩:=id hs;unfold Builtin.Slice.sliceApplied Builtin.Slice.sliceFields;refine Ab (Ab (za4 C7 DP (x:=vl) rfl (Ab (za4 C7 DP (x:=vu) rfl (Ab (za4 C7 DP (x:=.none) rfl (Ad ?_)))))));refine Ab (slicePart_none ?_);show wpAny _ _ (if ((1:Int) == 0)=true then _ else _) _ _ s;rw[if_neg (by decide)];refine Ab (a_ pl (Ab (a_ pu (Ab (Ad ?_)))));show wpAny _ _ (match Builtin.Slice.sliceAdjust lo hi 1 (n:Int) with | (lo,hi)=>pure (lo,(1:Int),Builtin.Slice.slicePlaces lo hi 1)) _ _ s;rw[LA lo hi n];show wpAny _ _ (pure (((zN n 0 lo:Nat):Int),(1:Int),Builtin.Slice.slicePlaces ((zN n 0 lo:Nat):Int) ((zN n n hi:Nat):Int) 1)) _ _ s;rw[Sb];exact Ad h
def Se (xs:Array Value) (i k:Nat):((List.range k).filterMap λ(m:Nat)=>xs[((i:Int)+(m:Int)*1).toNat]?).toArray=((xs.toList.drop i).take k).toArray:=by
 have e:(λ(m:Nat)=>xs[((i:Int)+(m:Int)*1).toNat]?)=λ m=>xs[i+m]?:=by
  funext m;have:((i:Int)+(m:Int)*1).toNat=i+m:=by lia
  rw[this]
 rw[e];have:=pick_run xs i k;rw[List.filterMap_map] at this;have e2:((λ x=>xs[x]?) ∘ λ x=>i+x)=λ m=>xs[i+m]?:=rfl;rw[e2] at this;rw[this]
def NH {t sl:Addr}{items:Array Value}{vl vu:Value}{lo hi:Option Int}{Q:Value->Shared->Prop}(ht:IsTup s.heap t items) (hs:s.heap.IsSliceOf sl vl vu .none) (pl:IsPart vl lo) (pu:IsPart vu hi)
  (hw:¬ (zN items.size 0 lo=0/\zN items.size items.size hi=items.size))
  (h:Q (.ref s.heap.objs.size) { s with heap:=s.heap.push { cls:=.type "tuple",data:=.seq ((items.toList.drop (zN items.size 0 lo)).take (zN items.size items.size hi-zN items.size 0 lo)).toArray } })
  (hsz:items.size<=sizeLine):wpAny (model prog w) A (getItem (.ref t) (.ref sl)) Q E s:=by
 have htake:sizeOk (.seq ((items.toList.drop (zN items.size 0 lo)).take (zN items.size items.size hi-zN items.size 0 lo)).toArray):=by
  show ((items.toList.drop (zN items.size 0 lo)).take (zN items.size items.size hi-zN items.size 0 lo)).toArray.size<=sizeLine;rw[Ar,CA,DD,Bo];lia
 have hj:zN items.size items.size hi<=items.size:=UX _ _ (Ah _) hi;obtain⟨os,C7,hcs,DP⟩:=id hs;have hTs:s.TypeIs (.ref sl) "slice":=⟨os,C7,hcs⟩
 unfold getItem
 try with_reducible refine za3 ?_
 first | refine Ab (Ad ?_) | skip
 refine Ab (wpAny_sequenceKey ht.typeIs (by decide) ?_);refine Ab (zaB (name:=Str.ofString "__getitem__") ht.typeIs PyProof.Rows.slot_tuple_getitem
  (za6 PyProof.Rows.slot_tuple_getitem ht.typeIs entry_tuple_getitem ?_ (args_tuple_getitem _ _)))
 show wpAny _ _ (Builtin.Tuple.tupleItemsOf (.ref t) >>= _) _ _ s;refine Ab (tupleItemsOf_ ht ?_);refine Ab (zaD hTs ?_);rw[if_pos (by decide)];refine Ab (Za hs pl pu ?_);have DH:¬ ((((zN items.size 0 lo:Nat):Int) == 0&&(1:Int) == 1&&(zN items.size items.size hi-zN items.size 0 lo) == items.size)=true):=by
  intro q;rw[BO,BO] at q;have q1:((zN items.size 0 lo:Nat):Int)=0:=eq_of_beq q.1.1;have q2:zN items.size items.size hi-zN items.size 0 lo=items.size:=eq_of_beq q.2;exact hw ⟨by lia,by lia⟩
 show wpAny _ _ (if (((zN items.size 0 lo:Nat):Int) == 0&&(1:Int) == 1&&(zN items.size items.size hi-zN items.size 0 lo) == items.size)=true then _ else _) _ _ s;rw[if_neg DH,Se]
 first
  | exact Ab (m:=Builtin.Tuple.tupleExact _) (za7 (Ad ⟨_,rfl,Ad h⟩) htake)
  | exact Ab (m:=Builtin.Tuple.tupleExact _) (za7 (Ab (Ad (Ad ⟨_,rfl,Ad h⟩))) htake)
  | exact Ab (Ab (m:=Builtin.Tuple.tupleExact _) (za7 (Ad (Ad ⟨_,rfl,Ad h⟩)) htake))
  | exact Ab (Ab (m:=Builtin.Tuple.tupleExact _) (za7 (Ad ⟨_,rfl,Ad h⟩) htake))
end
end HT
namespace L2
open PySem PySem.Spec PyProof.Rows
abbrev TO:=St->Hp->(Option Int->Hp->Prop)->Prop
def PO (X:Cx) (e:Option Expr) (t:TO):Prop:=
 ∀ (pins:List (Addr×Obj)) (s:Shared) (O:St) (H:Hp) (Q:Option Int->Hp->Prop),Inv X pins O H s->t O H Q->
  wpAny (model X.prog X.w) X.A (evalPart e X.env) (λ u s'=>∃ o H',Inv X pins O H' s'/\IsPart u o/\Q o H') X.xe s
noncomputable def Ue:TO:=λ _ H Q=>Q none H
noncomputable def Ua (t:TE):TO:=fun O H Q=>t O H λ x H1=>∃ i,x=.int i/\Q (some i) H1
def intsAre_of {ns:List Int}:∀ {us:List Value},Vals (ns.map V.int) us->IntsAre us ns:=by
 induction ns with
 | nil=>intro us r;rw[A8] at r;cases r;exact .nil
 | cons n ns ih=>
  intro us r;rw[Aq] at r;cases r with
  | cons r1 r2=>
   obtain⟨t,e⟩:=r1;subst e;exact .cons n t (ih r2)
section
variable {X:Cx}{e:Expr}{te:TE}{lo hi:Option Expr}{tl th:TO}{pos p2:Pos}
def T_:PO X none Ue:=by
 intro pins s O H Q I h;rw[evalPart_none];exact Ad ⟨none,H,I,.none,h⟩
def TZ (h:PE X e te):PO X (some e) (Ua te):=by
 intro pins s O H Q I hw;rw[evalPart_some];refine zK (h pins s O H _ I hw) λ u s1 ⟨x,H1,I1,r1,q1⟩=>?_;obtain⟨i,rfl,q⟩:=q1;obtain⟨t,rfl⟩:=r1;exact⟨some i,H1,I1,.int i t,q⟩
def qA (X:Cx) (r:V->Option Int->Option Int->Hp->VK->Prop):Prop:=
 ∀ (pins:List (Addr×Obj)) (s:Shared) (O:St) (H:Hp) (x:V) (v vl vu:Value) (lo hi:Option Int) (sl:Addr) (Q:VK),Inv X pins O H s->RelV x v->s.heap.IsSliceOf sl vl vu .none->IsPart vl lo->IsPart vu hi->r x lo hi H Q->
  ∃ T id,typeLookup (.type T) "__getitem__"=pure (some (.builtin id))/\s.TypeIs v T/\wpAny (model X.prog X.w) X.A (getItem v (.ref sl)) (EP X pins O Q) X.xe s
def qA.or {r r':V->Option Int->Option Int->Hp->VK->Prop}(h:qA X r) (h':qA X r'):qA X (λ x lo hi H Q=>r x lo hi H Q\/r' x lo hi H Q):=by
 intro pins s O H x v vl vu lo hi sl Q I rx hs pl pu q;rcases q with q | q
 .exact h pins s O H x v vl vu lo hi sl Q I rx hs pl pu q
 .exact h' pins s O H x v vl vu lo hi sl Q I rx hs pl pu q
def VY (r:V->Option Int->Option Int->Hp->VK->Prop) (te:TE) (tl th:TO):TE:=fun O H Q=>te O H λ x H1=>tl O H1 λ l H2=>th O H2 λ u H3=>r x l u H3 Q
def SD {r:V->Option Int->Option Int->Hp->VK->Prop}(hr:qA X r) (he:PE X e te) (hl:PO X lo tl) (hu:PO X hi th):PE X (.Subscript e (.Slice lo hi none p2) pos) (VY r te tl th):=by
 intro pins s O H Q I h;refine Subscript_ (zK (he pins s O H _ I h) λ v s1 ⟨x,H1,I1,r1,q1⟩=>?_);refine wpAny_Slice (zK (hl pins s1 O H1 _ I1 q1) λ vl s2 ⟨l,H2,I2,pl,q2⟩=>zK (hu pins s2 O H2 _ I2 q2) λ vu s3 ⟨u,H3,I3,pu,q3⟩=>?_);rw[evalPart_none];refine Ad ?_;have I4:Inv X pins O H3 { s3 with heap:=s3.heap.push { cls:=.type "slice",data:=.fields #[vl,vu,.none] } }:=I3.kept (t':=s3.toks) λ b ob q=>Ao _ q;obtain⟨T,id,hT,ht,hg⟩:=hr pins { s3 with heap:=s3.heap.push { cls:=.type "slice",data:=.fields #[vl,vu,.none] } } O H3 x v vl vu l u s3.heap.objs.size Q I4 r1 (Heap.IsSliceOf.new ..) pl pu q3;show wpAny (model X.prog X.w) X.A (subscriptTail e (.Slice lo hi none p2) v (.ref s3.heap.objs.size)) (EP X pins O Q) X.xe { s3 with heap:=s3.heap.push { cls:=.type "slice",data:=.fields #[vl,vu,.none] } };exact tail_any (ops:=[.ref s3.heap.objs.size,v]) ht hT hg (by with_unfolding_all rfl)
def sa (xs:List V) (lo hi:Option Int):List V:=(xs.drop (HT.zN xs.length 0 lo)).take (HT.zN xs.length xs.length hi-HT.zN xs.length 0 lo)
def XU (xs:List V) (lo hi:Option Int):(sa xs lo hi).length<=xs.length:=by
 unfold sa;rw[CA,DD];lia
def Zv (K:Ac):V->Option Int->Option Int->Hp->VK->Prop:=λ x lo hi H Q=>∃ a xs,x=.ref a/\ye K H a xs/\
 ¬ (HT.zN xs.length 0 lo=0/\HT.zN xs.length xs.length hi=xs.length)/\∀ p,H p=none->Q (.ref p) (upd H p (.tup (sa xs lo hi)))
def U8:qA X (Zv X.K):=by
 intro pins s O H x v vl vu lo hi sl Q I rx hs pl pu h;obtain⟨a,xs,rfl,hx,hw,q⟩:=h;cases rx;obtain⟨its,r,ht,hz⟩:=I.tuple hx;have hlen:its.toArray.size=xs.length:=by rw[Ar];exact r.length.symm
 refine⟨"tuple",_,PyProof.Rows.slot_tuple_getitem.lookup,ht.typeIs,?_⟩;refine HT.NH ht hs pl pu (by rw[hlen];exact hw) ?_ (by rw[hlen];exact hz);rw[hlen];refine⟨.ref s.heap.objs.size,_,I.laid (t':=s.toks) (o:=.tup (sa xs lo hi)) (λ b ob q=>Ao _ q) (Ah _) ?_,rfl,q _ (I.zE.fresh (Ah _))⟩;exact⟨A9 (XU xs lo hi) hz,_,(r.drop (HT.zN xs.length 0 lo)).take (HT.zN xs.length xs.length hi-HT.zN xs.length 0 lo),IsTup.new _ _⟩
def fw (K:Ac):R2:=λ x y H Q=>∃ a b ns ms,x=.ref a/\y=.ref b/\ye K H a (ns.map V.int)/\ye K H b (ms.map V.int)/\Q (.bl (HT.lexLt ns ms)) H
def RM (hu:X.A.units<cLine):yj X (compareOp .Lt) (fw X.K):=by
 intro pins s O H x y v u Q I rx ry h;obtain⟨a,b,ns,ms,rfl,rfl,ha,hb,q⟩:=h;cases rx;cases ry;obtain⟨its,r1,p1,_⟩:=I.tuple ha;obtain⟨its2,r2,p2,_⟩:=I.tuple hb;have i1:IntsAre its.toArray.toList ns:=intsAre_of r1;have i2:IntsAre its2.toArray.toList ms:=intsAre_of r2;exact HT.Ot p1 p2 i1 i2 hu ⟨.bl (HT.lexLt ns ms),H,I,rfl,q⟩
def Z7 (K:Ac):R2:=λ x y H Q=>∃ a b xs ys,x=.ref a/\y=.ref b/\ye K H a xs/\ye K H b ys/\xs≠[]/\xs.length+ys.length<=sizeLine/\
 (ys=[]->Q (.ref a) H)/\(ys≠[]->∀ p,H p=none->Q (.ref p) (upd H p (.tup (xs++ys))))
def Vals.mO {xs:List V}{us:List Value}(r:Vals xs us):us=[]↔xs=[]:=by
 cases r with
 | nil=>simp
 | cons _ _=>simp
def RW:yj X (binaryOp .Add) (Z7 X.K):=by
 intro pins s O H x y v u Q I rx ry h;obtain⟨a,b,xs,ys,rfl,rfl,ha,hb,hx,hz,q1,q2⟩:=h;cases rx;cases ry;obtain⟨its,r1,p1,_⟩:=I.tuple ha;obtain⟨its2,r2,p2,_⟩:=I.tuple hb;refine HT.MM p1 p2 (λ z=>hx (r1.mO.mp z)) (λ z=>⟨.ref a,H,I,rfl,q1 (r2.mO.mp z)⟩) (λ z=>?_) (by rw[<- r1.length,<- r2.length];exact hz);refine⟨.ref s.heap.objs.size,_,I.laid (t':=s.toks) (o:=.tup (xs++ys)) (λ b ob q=>Ao _ q) (Ah _) ?_,rfl,q2 (λ w=>z (r2.mO.mpr w)) _ (I.zE.fresh (Ah _))⟩;exact⟨by rw[Bf];exact hz,_,r1.append r2,IsTup.new _ _⟩
end
noncomputable def wR (n:Nat) (i:Int):Option Nat:=if 0<=i then (if i<n then some i.toNat else none) else if -(n:Int)<=i then some (i+n).toNat else none
def zZ {α:Type}(xs:List α) (i:Int):Option α:=(wR xs.length i).bind λ j=>xs[j]?
def YF {n:Nat}{i:Int}{j:Nat}(h:wR n i=some j):seqIndex? i n=some j/\j<n/\-(n:Int)<=i/\i<n:=by
 unfold wR at h;by_cases h0:0<=i
 .rw[if_pos h0] at h;by_cases h1:i<n
  .rw[if_pos h1] at h;have e:i.toNat=j:=A4 h;exact⟨by rw[seqIndex_of h0 h1,e],by lia,by lia,h1⟩
  .rw[if_neg h1] at h;cases h
 .rw[if_neg h0] at h;by_cases h1:-(n:Int)<=i
  .rw[if_pos h1] at h;have e:(i+n).toNat=j:=A4 h;exact⟨by rw[seqIndex_neg (by lia) h1,e],by lia,h1,by lia⟩
  .rw[if_neg h1] at h;cases h
def cq {α:Type}{xs:List α}{i:Int}{v:α}(h:zZ xs i=some v):∃ j,seqIndex? i xs.length=some j/\xs[j]?=some v/\j<xs.length/\-(xs.length:Int)<=i/\i<xs.length:=by
 unfold zZ at h;cases e:wR xs.length i with
 | none=>rw[e] at h;cases h
 | some j=>
  rw[e] at h;obtain⟨h1,h2,h3,h4⟩:=YF e;exact⟨j,h1,h,h2,h3,h4⟩
def lV {α:Type}(xs:List α) (v:α):zZ (xs++[v]) (-1)=some v:=by
 have hl:(xs++[v]).length=xs.length+1:=by simp
 have e:wR (xs++[v]).length (-1)=some xs.length:=by
  unfold wR;rw[hl,if_neg (by decide),if_pos (by lia)];congr 1;lia
 unfold zZ;rw[e];show (xs++[v])[xs.length]?=some v;simp
def W7 (b:Expr):Prop:=∀ o i,subscripted b false o i=operate [o,i] (getItem o i)
def rA (X:Cx) (r:R2):Prop:=
 ∀ (value slice:Expr) (pins:List (Addr×Obj)) (s:Shared) (O:St) (H:Hp) (x y:V) (v u:Value) (Q:VK),Inv X pins O H s->RelV x v->RelV y u->r x y H Q->
  subscripted slice false v u=operate [v,u] (getItem v u)->wpAny (model X.prog X.w) X.A (subscriptTail value slice v u) (EP X pins O Q) X.xe s
def WA (X:Cx) (id:String) (r:V->List V->Hp->VK->Prop):Prop:=
 ∀ (pins:List (Addr×Obj)) (s:Shared) (O:St) (H:Hp) (x:V) (xs:List V) (v:Value) (us:List Value) (Q:VK),Inv X pins O H s->RelV x v->Vals xs us->r x xs H Q->
  wpAny (model X.prog X.w) X.A (call (.builtin id) (v::us)) (EP X pins O Q) X.xe s
section
variable {X:Cx}{a b:Expr}{ta tb:TE}{pos:Pos}
def rA.or {r r':R2}(h:rA X r) (h':rA X r'):rA X (λ x y H Q=>r x y H Q\/r' x y H Q):=by
 intro value slice pins s O H x y v u Q I rx ry q hs;rcases q with q | q
 .exact h value slice pins s O H x y v u Q I rx ry q hs
 .exact h' value slice pins s O H x y v u Q I rx ry q hs
def SM {r:R2}(hr:rA X r) (ha:PE X a ta) (hb:PE X b tb) (hs:W7 b):PE X (.Subscript a b pos) (mj r ta tb):=by
 intro pins s O H Q I h;exact Subscript_ (cn ha hb I h λ v u s2 x y H2 I2 rx ry q=>hr a b pins s2 O H2 x y v u Q I2 rx ry q (hs _ _))
def Zz (K:Ac):R2:=λ x y H Q=>∃ p xs i v,x=.ref p/\y=.int i/\zT K H p xs/\zZ xs i=some v/\Q v H
def Zx (K:Ac):R2:=λ x y H Q=>∃ p xs i v,x=.ref p/\y=.int i/\ye K H p xs/\zZ xs i=some v/\Q v H
def Zy:R2:=λ x y H Q=>∃ z i c,x=.str z/\y=.int i/\z.length<=sizeLine/\zZ z.cps.toList i=some c/\Q (.str ⟨#[c]⟩) H
def OY:rA X (Zz X.K):=by
 intro value slice pins s O H x y v u Q I rx ry h hs;obtain⟨p,xs,i,z,rfl,rfl,hq,he,q⟩:=h;cases rx;obtain⟨t,rfl⟩:=ry;obtain⟨its,r,pl,hz⟩:=I.list hq;obtain⟨j,h1,h2,h3,h4,h5⟩:=cq he;obtain⟨w,ew,rw'⟩:=r.get h2;have hl:=r.length;have hn:=p8;have fin:EP X pins O Q w s:=⟨z,H,I,rw',q⟩
 by_cases h0:0<=i
 .have hj:i.toNat=j:=by
   rw[seqIndex_of h0 h5] at h1;exact A4 h1
  exact item_listR pl.isList h0 (by lia) (by rw[hj];simpa using ew) fin hs
 .have hj:(i+(its.toArray.size:Int)).toNat=j:=by
   rw[seqIndex_neg (by lia) h4] at h1;rw[Ar,<- hl];exact A4 h1
  exact subscriptTail_builtinR (x:=w) pl.isList.typeIs slot_list_getitem.lookup
   (wpAny_getItem_list_neg (Q:=λ r s'=>r=w/\EP X pins O Q r s') pl.isList (by lia) (by rw[Ar] <;> lia) (by lia) (by rw[hj];simpa using ew) ⟨rfl,fin⟩) hs
def OV:rA X (Zx X.K):=by
 intro value slice pins s O H x y v u Q I rx ry h hs;obtain⟨p,xs,i,z,rfl,rfl,hq,he,q⟩:=h;cases rx;obtain⟨t,rfl⟩:=ry;obtain⟨its,r,pl,hz⟩:=I.tuple hq;obtain⟨j,h1,h2,h3,h4,h5⟩:=cq he;obtain⟨w,ew,rw'⟩:=r.get h2;have hl:=r.length;have hn:=p8;have fin:EP X pins O Q w s:=⟨z,H,I,rw',q⟩
 exact subscriptTail_builtinR (x:=w) pl.typeIs slot_tuple_getitem.lookup
  (getItem_tuple (j:=j) (Q:=λ r s'=>r=w/\EP X pins O Q r s') pl (by lia) (by lia) (by rw[Ar,<- hl];exact h1) (by simpa using ew) ⟨rfl,fin⟩) hs
def OW:rA X Zy:=by
 intro value slice pins s O H x y v u Q I rx ry h hs;obtain⟨z,i,c,rfl,rfl,hz,he,q⟩:=h;obtain⟨t,rfl⟩:=rx;obtain⟨t',rfl⟩:=ry;obtain⟨j,h1,h2,h3,h4,h5⟩:=cq he;have hl:z.cps.toList.length=z.length:=by simp[Str.length]
 rw[hl] at h1 h4 h5;have hn:=p8;exact tail_any (typeIs_str s z t) slot_str_getitem.lookup (getItem_str (c:=c) (by
  have e1:decide (i < -(2 ^ 63:Int))=false:=za0 (by lia);have e2:decide (i≥2 ^ 63)=false:=za0 (by lia);rw[e1,e2,Bool.or_false]) (by rw[h1];simpa using h2) ⟨.str ⟨#[c]⟩,H,I.tok _,⟨_,rfl⟩,q⟩) hs
def Z2 (K:Ac):R2:=λ x y H Q=>Zz K x y H Q\/Zx K x y H Q\/Zy x y H Q
def OX:rA X (Z2 X.K):=OY.or (OV.or OW)
def Oq (its:List Value) (n j:Nat) (u:Value):Obj.mapSeq (·.setIfInBounds j u) { cls:=.type "list",data:=.seq its.toArray n }={ cls:=.type "list",data:=.seq (its.set j u).toArray n }:=by
 simp[Obj.mapSeq]
theorem Inv.lst {pins:List (Addr×Obj)}{O:St}{H:Hp}{s:Shared}{p:Addr}{xs:List V}(I:Inv X pins O H s) (h:H p=some (.lst xs)):
  ∃ (its:List Value) (n:Nat),Vals xs its/\s.heap.get? p=some { cls:=.type "list",data:=.seq its.toArray n }/\xs.length<=sizeLine:=by
 obtain⟨z,its,n,r,e⟩:=I.zE p _ h;exact⟨its,n,r,e,z⟩
def Inv.Ou {pins:List (Addr×Obj)}{O:St}{H:Hp}{s:Shared}{p:Addr}{xs ys:List V}{its Ae:List Value}{n n':Nat}{f:Obj->Obj}(I:Inv X pins O H s) (h:H p=some (.lst xs))
  (ho:s.heap.get? p=some { cls:=.type "list",data:=.seq its.toArray n }) (hf:f { cls:=.type "list",data:=.seq its.toArray n }={ cls:=.type "list",data:=.seq Ae.toArray n' }) (r:Vals ys Ae) (hz:ys.length<=sizeLine) (t:Nat):
  Inv X pins O (upd H p (.lst ys)) { s with heap:=s.heap.update p f,toks:=t }:=by
 have e:(s.heap.update p f).get? p=some { cls:=.type "list",data:=.seq Ae.toArray n' }:=by
  rw[zaE f ho (by rw[hf] <;> rfl),hf]
 refine I.write (x:=p) (e:=p) (by rw[h];trivial) (.inl rfl) (λ b u hb q=>(zaJ _ _ (Ne.symm hb)).trans q) ⟨_,e⟩ ?_;exact⟨hz,Ae,n',r,e⟩
def Tr:V->V->V->Hp->(Hp->Prop)->Prop:=λ o i v H Q=>∃ p xs k j,o=.ref p/\i=.int k/\H p=some (.lst xs)/\wR xs.length k=some j/\Q (upd H p (.lst (xs.set j v)))
def set_list:W8 X Tr:=by
 intro pins s O H o i v ov iv u Q I ro ri rv h;obtain⟨p,xs,k,j,rfl,rfl,hp,hj,q⟩:=h;cases ro;obtain⟨t,rfl⟩:=ri;obtain⟨its,n,r,ho,hz⟩:=I.lst hp;obtain⟨h1,h2,h3,h4⟩:=YF hj;have hl:=r.length;have hn:=p8;have I':Inv X pins O (upd H p (.lst (xs.set j v))) { s with heap:=s.heap.update p (Obj.mapSeq (·.setIfInBounds j u)) }:=
  I.Ou hp ho (Oq its n j u) (r.set rv j) (by rw[DC];exact hz) s.toks
 by_cases h0:0<=k
 .have hk:k.toNat=j:=by
   rw[seqIndex_of h0 h4] at h1;exact A4 h1
  exact PySem.W.ki_setAt ho h0 (by lia) (by rw[Ar,<- hl];exact h4) (by rw[hk];exact⟨_,I',q⟩)
 .have hk:(k+(its.toArray.size:Int)).toNat=j:=by
   rw[seqIndex_neg (by lia) h3] at h1;rw[Ar,<- hl];exact A4 h1
  exact PySem.W.ki_setBack ho (by lia) (by rw[Ar,<- hl];exact h3) (by lia) (by rw[hk];exact⟨_,I',q⟩)
def U5 (lo hi:Option Int) (n:Nat):(sliceBounds lo hi none n).1=((HT.zN n 0 lo:Nat):Int)/\(sliceBounds lo hi none n).2.1=((HT.zN n n hi:Nat):Int)/\(sliceBounds lo hi none n).2.2=1:=by
 refine⟨?_,?_,rfl⟩
 .cases lo with
  | none=>simp[sliceBounds,HT.zN]
  | some i=>
   simp only[sliceBounds,HT.zN,Option.getD_none,show (1:Int)>0 by decide,if_true];by_cases h:i<0
   .simp only[h,if_true] <;> lia
   .simp only[h,if_false] <;> lia
 .cases hi with
  | none=>simp[sliceBounds,HT.zN]
  | some i=>
   simp only[sliceBounds,HT.zN,Option.getD_none,show (1:Int)>0 by decide,if_true];by_cases h:i<0
   .simp only[h,if_true] <;> lia
   .simp only[h,if_false] <;> lia
def U6 (its:List Value) (lo hi:Option Int):slicePick its.toArray lo hi none=((its.drop (HT.zN its.length 0 lo)).take (HT.zN its.length its.length hi-HT.zN its.length 0 lo)).toArray:=by
 obtain⟨h1,h2,h3⟩:=U5 lo hi its.toArray.size;unfold slicePick;rw[h1,h2,h3];simp only[sliceRange_one,pick_run,Ar] <;> rfl
def Zw (K:Ac):V->Option Int->Option Int->Hp->VK->Prop:=λ x lo hi H Q=>∃ a xs,x=.ref a/\zT K H a xs/\∀ p,H p=none->Q (.ref p) (upd H p (.lst (sa xs lo hi)))
def U9:qA X (Zw X.K):=by
 intro pins s O H x v vl vu lo hi sl Q I rx hs pl pu h;obtain⟨a,xs,rfl,hx,q⟩:=h;cases rx;obtain⟨its,r,ht,hz⟩:=I.list hx;have hlen:=r.length;refine⟨"list",_,slot_list_getitem.lookup,ht.isList.typeIs,?_⟩;refine wpAny_getItem_list_slice ht.isList hs pl pu .none (by simp) ?_ (by rw[Ar] <;> lia);rw[U6,<- hlen];refine⟨.ref s.heap.objs.size,_,I.laid (t':=s.toks) (o:=.lst (sa xs lo hi)) (λ b ob q=>Ao _ q) (Ah _) ?_,rfl,q _ (I.zE.fresh (Ah _))⟩;exact⟨A9 (XU xs lo hi) hz,_,0,(r.drop (HT.zN xs.length 0 lo)).take (HT.zN xs.length xs.length hi-HT.zN xs.length 0 lo),AF _ rfl⟩
def Ld:yQ X (.builtin "len") (λ xs H Q=>∃ p ys,xs=[.ref p]/\(zT X.K H p ys\/ye X.K H p ys)/\Q (.int ys.length) H):=by
 intro pins s O H xs us Q I r h;obtain⟨p,ys,rfl,hq,q⟩:=h;obtain⟨u,rfl,rx⟩:=vals1 r;cases rx;have hn:=p8;rcases hq with hq | hq
 .obtain⟨its,r',pl,hz⟩:=I.list hq;have hlen:=r'.length;exact Calls.call_len_list pl.isList (by simp only[Ar] <;> lia) ⟨.int ys.length,H,I.tok _,⟨s.toks+1,by rw[Ar,hlen]⟩,q⟩
 .obtain⟨its,r',pl,hz⟩:=I.tuple hq;have hlen:=r'.length;exact len_tuple pl (by simp only[Ar] <;> lia) ⟨.int ys.length,H,I.tok _,⟨s.toks+1,by rw[Ar,hlen]⟩,q⟩
def Lc:yQ X (.builtin "len") (λ xs H Q=>∃ z,xs=[.str z]/\z.length<=sizeLine/\Q (.int z.length) H):=by
 intro pins s O H xs us Q I r h;obtain⟨z,rfl,hz,q⟩:=h;obtain⟨u,rfl,t,rfl⟩:=vals1 r;have hn:=p8;exact len_str (by lia) ⟨.int z.length,H,I.tok _,⟨_,rfl⟩,q⟩
def yQ.or {f:Value}{r r':List V->Hp->VK->Prop}(h:yQ X f r) (h':yQ X f r'):yQ X f (λ xs H Q=>r xs H Q\/r' xs H Q):=by
 intro pins s O H xs us Q I rs q;rcases q with q | q
 .exact h pins s O H xs us Q I rs q
 .exact h' pins s O H xs us Q I rs q
def La:yQ X (.type "list") (λ xs H Q=>∃ p ys,xs=[.ref p]/\(zT X.K H p ys\/ye X.K H p ys)/\∀ l,H l=none->Q (.ref l) (upd H l (.lst ys))):=by
 intro pins s O H xs us Q I r h;obtain⟨p,ys,rfl,hq,q⟩:=h;obtain⟨u,rfl,rx⟩:=vals1 r;cases rx;have fin:∀ (its:List Value),Vals ys its->ys.length<=sizeLine->∀ (h':Heap) (c':Nat),(∀ b o',s.heap.get? b=some o'->h'.get? b=some o')->
   h'.get? s.heap.objs.size=some { cls:=.type "list",dict:=none,data:=.seq its.toArray c',slots:=#[] }->EP X pins O Q (.ref s.heap.objs.size) { s with heap:=h' }:=λ its r' hz h' c' kp e=>
  ⟨.ref s.heap.objs.size,_,I.laid (t':=s.toks) kp (Ah _) (show xv X.prog X.w _ h' _ (.lst ys) from ⟨hz,its,c',r',e⟩),rfl,q _ (I.zE.fresh (Ah _))⟩
 rcases hq with hq | hq
 .obtain⟨its,r',pl,hz⟩:=I.list hq;have hlen:=r'.length;obtain⟨o,ho,hc,n,hd⟩:=pl.isList;exact call_list_seq p (.inl rfl) ho hc hd (λ h' c' kp e=>fin its r' hz h' c' kp e) (by simp only[Ar] <;> lia)
 .obtain⟨its,r',pl,hz⟩:=I.tuple hq;have hlen:=r'.length;obtain⟨o,ho,hc,n,hd⟩:=pl;exact call_list_seq p (.inr rfl) ho hc hd (λ h' c' kp e=>fin its r' hz h' c' kp e) (by simp only[Ar] <;> lia)
def MN:yQ X (.type "tuple") (λ xs H Q=>∃ p ys,xs=[.ref p]/\((zT X.K H p ys/\∀ l,H l=none->Q (.ref l) (upd H l (.tup ys)))\/(ye X.K H p ys/\Q (.ref p) H))):=by
 intro pins s O H xs us Q I r h;obtain⟨p,ys,rfl,h⟩:=h;obtain⟨u,rfl,rx⟩:=vals1 r;cases rx;rcases h with ⟨hq,q⟩ | ⟨hq,q⟩
 .obtain⟨its,r',pl,hz⟩:=I.list hq;have hlen:=r'.length;refine call_tuple_list pl.isList (λ h' kp=>?_) (by simp only[Ar] <;> lia);have I1:Inv X pins O H { s with heap:=h' }:=I.kept (t':=s.toks) kp;have I2:Inv X pins O (upd H h'.objs.size (.tup ys)) { s with heap:=h'.push { cls:=.type "tuple",data:=.seq its.toArray } }:=
   I1.laid (t':=s.toks) (λ b o e=>Ao _ e) (Ah _) (show xv X.prog X.w _ _ _ (.tup ys) from ⟨hz,its,r',IsTup.new _ _⟩)
  exact⟨.ref h'.objs.size,_,I2,rfl,q _ (I1.zE.fresh (Ah _))⟩
 .obtain⟨its,r',pl,hz⟩:=I.tuple hq;exact call_tuple_same pl ⟨.ref p,H,I,rfl,q⟩
def aH (K:Ac) (T:String) (x:V) (H:Hp):Prop:=match x with
 | .str _=>T="str"
 | .int _=>T="int"
 | .ref p=>(T="list"/\∃ xs,zT K H p xs)\/(T="tuple"/\∃ o,K.lookup p=some o/\o.cls=.type "tuple"/\o.dict=none)\/
   (T="dict"/\((∃ Aa,H p=some (.dK Aa))\/∃ Aa,H p=some (.dT Aa)))\/(T="set"/\∃ S n,H p=some (.set S n))
 | _=>False
def VF {pins:List (Addr×Obj)}{O:St}{H:Hp}{s:Shared}{T:String}{x:V}{v:Value}(I:Inv X pins O H s) (r:RelV x v) (ty:aH X.K T x H):
  s.TypeIs v T/\∀ a,v=.ref a->∃ ob,s.heap.get? a=some ob/\ob.dict=none:=by
 cases x with
 | str z=>
  obtain⟨t,rfl⟩:=r;cases (show T="str" from ty);exact⟨typeIs_str s z t,λ _ e=>nomatch e⟩
 | int i=>
  obtain⟨t,rfl⟩:=r;cases (show T="int" from ty);exact⟨typeIs_int s i t,λ _ e=>nomatch e⟩
 | ref p=>
  cases r;rcases ty with ⟨rfl,xs,hq⟩ | ⟨rfl,o,hk,hc,hd⟩ | ⟨rfl,hk⟩ | ⟨rfl,S,n,hk⟩
  .obtain⟨its,_,pl,_⟩:=I.list hq;refine⟨pl.isList.typeIs,λ a e=>?_⟩;cases e;obtain⟨o,n,e,c,hd,_⟩:=pl;exact⟨o,e,hd⟩
  .refine⟨⟨o,I.vZ p o hk,hc⟩,λ a e=>?_⟩;cases e;exact⟨o,I.vZ _ o hk,hd⟩
  .have z:∃ o,s.heap.get? p=some o/\o.ExactDict:=by
    rcases hk with ⟨Aa,hk⟩ | ⟨Aa,hk⟩
    .obtain⟨_,_,_,_,o,_,_,e,ex,_⟩:=I.zE p _ hk;exact⟨o,e,ex⟩
    .obtain⟨_,_,_,_,o,_,_,e,ex,_⟩:=I.zE p _ hk;exact⟨o,e,ex⟩
   obtain⟨o,e,ex⟩:=z;refine⟨⟨o,e,ex.1⟩,λ a e2=>?_⟩;cases e2;exact⟨o,e,ex.2.1⟩
  .obtain⟨o,_,_,_,e,ex,_⟩:=I.zE p _ hk;refine⟨⟨o,e,ex.1⟩,λ a e2=>?_⟩;cases e2;exact⟨o,e,ex.2.1⟩
 | _=>exact False.elim ty
def i_ (K:Ac) (T:String) (r:V->List V->Hp->VK->Prop) (to:TE) (t:TA):TE:=fun O H Q=>to O H λ x H1=>aH K T x H1/\t O H1 λ xs H2=>r x xs H2 Q
variable {o e:Expr}{es:List Expr}{to:TE}{t:TA}{name:Str}{apos Ag:Pos}{T id:String}{r:V->List V->Hp->VK->Prop}
def fD (pa:PlainAttrs T) (slot:Slot T name id) (hty:typeOf (.builtin id)=pure (.type "method_descriptor")) (hm:WA X id r) (ho:PE X o to) (ha:PA X (e::es) t)
  (hbase:attributeBase o name X.env (eval o X.env)=eval o X.env:=by rfl)
  (AG:((backTo Ag (starEach (e::es) X.env)).all (λ x=>!x.1)&&(backToKw Ag (keywordEach [] X.env)).all (λ x=>x.1.isSome)
   && decide ((e::es).length+([]:List Keyword).length+(if ([]:List Keyword).isEmpty then 0 else 1)<30))=true:=by rfl)
  (hline:(apos.endLine == Ag.line)=true:=by rfl) (hs:starEach (e::es) X.env=(false,eval e X.env)::starEach es X.env:=by rfl) (hplain:(backTo Ag (starEach es X.env)).any (·.1)=false:=by rfl):
  PE X (.Call (.Attribute o name apos) (e::es) [] Ag) (i_ X.K T r to t):=by
 intro pins s O H Q I h;refine wpAny_Call_method_late hbase AG hline rfl (zK (ho pins s O H _ I h) λ v s1 ⟨x,H1,I1,r1,ty,q1⟩=>?_);obtain⟨h1,h2⟩:=VF I1 r1 ty;refine⟨T,id,pa,slot,hty,h1,h2,?_⟩;have hA:=ha Ag pins s1 O H1 _ I1 q1;rw[hs] at hA ⊢;refine Calls.callWith_builtin (by show (false||(backTo Ag (starEach es X.env)).any (·.1))=false;rw[hplain] <;> rfl) (Calls.evalArgs_plain ?_);exact zK hA λ us s2 ⟨vs,H2,I2,r2,q2⟩=>hm pins s2 O H2 x vs v us Q I2 r1 r2 q2
end
def WB (X:Cx) (id:String) (r:V->List V->Hp->VK->Prop):Prop:=
 ∀ (pins:List (Addr×Obj)) (s:Shared) (O:St) (H:Hp) (x:V) (xs:List V) (v:Value) (us:List Value) (Q:VK),Inv X pins O H s->RelV x v->Vals xs us->r x xs H Q->
  wpAny (model X.prog X.w) X.A (call (.builtin id) (v::us)) (EP X pins O Q) X.xe s
theorem Vals.one:∀ {x:V}{us:List Value},Vals [x] us->∃ u,us=[u]/\RelV x u
 | _,_,.cons r .nil=>⟨_,rfl,r⟩
theorem Vals.rep {xs:List V}{us:List Value}(h:Vals xs us):∀ k:Nat,Vals (List.replicate k xs).flatten (List.replicate k us).flatten
 | 0=>.nil
 | k+1=>by
  rw[BN,BN,B5,B5];exact Vals.append h (Vals.rep h k)
section
variable {X:Cx}{pins:List (Addr×Obj)}{O:St}{H:Hp}{s:Shared}{l:Addr}{xs ys:List V}
def Inv.Yv {its Ae:List Value}{n:Nat}{f:Array Value->Array Value}{t':Nat}(I:Inv X pins O H s) (hH:H l=some (.lst xs))
  (e:s.heap.get? l=some { cls:=.type "list",data:=.seq its.toArray n }) (hf:f its.toArray=Ae.toArray) (hv:Vals ys Ae) (hz:ys.length<=sizeLine):
  Inv X pins O (upd H l (.lst ys)) { s with heap:=s.heap.update l (Obj.mapSeq f),toks:=t' }:=by
 have q:=PySem.IsL.update e f;rw[hf] at q;refine I.write (x:=l) (e:=l) (by rw[hH];exact trivial) (.inl rfl) (λ b' u hb hu=>(zaJ s.heap (Obj.mapSeq f) (Ne.symm hb)).trans hu) ⟨_,q⟩ ?_;exact⟨hz,Ae,_,hv,q⟩
def Inv.Oz {its:List Value}{t':Nat}(I:Inv X pins O H s) (hv:Vals ys its) (hz:ys.length<=sizeLine):
  Inv X pins O (upd H s.heap.objs.size (.lst ys)) { s with heap:=s.heap.push { cls:=.type "list",data:=.seq its.toArray },toks:=t' }:=
 I.laid (λ _ _ q=>Ao _ q) (Ah _) ⟨hz,its,0,hv,AF _ rfl⟩
theorem Inv.fresh (I:Inv X pins O H s):H s.heap.objs.size=none:=I.zE.fresh (Ah _)
def Inv.eI (I:Inv X pins O H s) (hH:H l=some (.lst xs)):xs.length<=sizeLine/\∃ (its:List Value) (n:Nat),Vals xs its/\xs.length=its.length/\s.heap.get? l=some { cls:=.type "list",data:=.seq its.toArray n }:=by
 obtain⟨z,its,n,r,e⟩:=I.zE l _ hH;exact⟨z,its,n,r,r.length,e⟩
def PQ {n:Nat}(h:n<=sizeLine):Builtin.List.listTooLong n=false:=by
 unfold Builtin.List.listTooLong;exact za0 (by lia)
def Z9:V->List V->Hp->VK->Prop:=λ x vs H Q=>∃ l xs y,x=.ref l/\vs=[y]/\H l=some (.lst xs)/\xs.length<sizeLine/\Q .zl (upd H l (.lst (xs++[y])))
def Yr:WB X "list.append" Z9:=by
 intro pins s O H x vs v us Q I rx rv h;obtain⟨l,xs,y,rfl,rfl,hH,hz,q⟩:=h;cases rx;obtain⟨u,rfl,ru⟩:=rv.one;obtain⟨z,its,n,r,hl,e⟩:=I.eI hH;refine call_meets F.slot_list_append ⟨_,e,rfl⟩ F.entry_list_append (F.args_list_append_2 _ _) (PySem.list_append l its.toArray n u (by rw[Ar];lia)) ⟨e,?_⟩;refine⟨.zl,_,I.Yv (Ae:=its++[u]) hH e (by simp) (r.append (.cons ru .nil)) ?_,rfl,q⟩;rw[Bf,C0];lia
def Z5:V->List V->Hp->VK->Prop:=λ x vs H Q=>∃ l b xs zs,x=.ref l/\vs=[.ref b]/\H l=some (.lst xs)/\H b=some (.lst zs)/\xs.length+zs.length<=sizeLine/\Q .zl (upd H l (.lst (xs++zs)))
def Oh:WB X "list.extend" Z5:=by
 intro pins s O H x vs v us Q I rx rv h;obtain⟨l,b,xs,zs,rfl,rfl,hH,hB,hz,q⟩:=h;cases rx;obtain⟨u,rfl,ru⟩:=rv.one;cases ru;obtain⟨z,its,n,r,hl,e⟩:=I.eI hH;obtain⟨z2,its2,n2,r2,hl2,e2⟩:=I.eI hB;have hsz:its.toArray.size+its2.toArray.size<=sizeLine:=by rw[Ar,Ar];lia
 have hlong:¬ (!its.toArray.isEmpty&&Builtin.List.listTooLong (its.toArray.size+its2.toArray.size))=true:=by
  rw[PQ hsz,B4];exact BE
 refine call_meets F.slot_list_extend ⟨_,e,rfl⟩ F.entry_list_extend (F.args_list_extend_2 _ _)
  (AutoSeq1.list_extend_list_list_0 l its.toArray n b its2.toArray n2 hlong (by rw[Ar];lia) (by lia)) ⟨e,e2,?_⟩
 refine⟨.zl,_,I.Yv (Ae:=its++its2) hH e (by simp) (r.append r2) ?_,rfl,q⟩;rw[Bf];lia
end
end L2
namespace V2
open PySem PySem.W PySem.Calls PyProof.Rows
def Nj {P:Params}{h:Heap}:∀ (ns:List Int) (vs:List Value),WellAll P h vs (ns.map WData.int)->IntsAre vs ns:=by
 intro ns
 induction ns with
 | nil=>
  intro vs w;rw[A8] at w;cases w;exact .nil
 | cons n ns ih=>
  intro vs w;rw[Aq] at w;cases w with
  | cons a b=>
   cases a;exact .cons _ _ (ih _ b)
def UH {l:OpenLaw}{n:Nat}(hn:l.most=some n) {P:Params}{h:Heap}{args:List WData}{vals:List Value}
  (BU:l.row.toRowW.claim.pre args=true) (B7:WellAll P h vals args):
  ∃ a vs ns,vals=[Value.ref a]/\args=[WData.list (ns.map WData.int)]/\h.get? a=some { cls:=.type "list",data:=.seq vs.toArray }/\IntsAre vs ns/\ns.length<=n:=by
 have DG:WShape.hasAll [] args [.list .int]=true:=(pre_splitW BU).1;have hc:l.pre.holds [] { args:=args }=true:=(pre_splitW BU).2;obtain⟨d,r,rfl,h1,h2⟩:=hasAllW_cons DG;obtain rfl:=hasAllW_nil h2;obtain⟨xs,rfl,h3⟩:=hasW_list h1;obtain⟨ns,rfl⟩:=items_int h3;have hlen:ns.length<=n:=by
  unfold OpenLaw.pre at hc;have h4:(WTm.not (.lt (.lit (.int (n:Int))) (.len (.arg 0)))).holds [] { args:=[.list (ns.map .int)] }=true:=by
   have h4:=(holds_andW hc).1;rw[hn] at h4;exact h4
  have h5:=condW_of h4 (w_not (w_lt w_lit (w_len_list (w_arg rfl))));rw[Aw] at h5;refine Nat.le_of_not_lt λ q=>?_;have q':(n:Int)<((ns.length:Nat):Int):=by lia
  first
   | (rw[za2 q'] at h5;exact absurd h5 (by decide))
   | (simp at h5;lia)
 cases B7 with
 | cons w1 w2=>
  cases w2;cases w1 with
  | list ho Az=>exact⟨_,_,ns,rfl,rfl,ho,Nj ns _ Az,hlen⟩
def TY (l:OpenLaw) (args:List WData):l.row.toRowW.claim.post args (.bool true) args=true:=
 postW_of (r:=l.row.toRowW) (X:=(true == true))
  (show WShape.has [] (.bool true) .bool=true by first | rfl | decide | simp[WShape.has,WShape.arms,WShape.armsAll])
  (show (WTm.eq .res (.lit (.bool true))).value [] { args:=args,res:=some (.bool true),after:=args }=some (.bool (true == true)) from w_eq_bool (w_res rfl) w_lit) rfl
def Ly {l:OpenLaw}{n:Nat}{q:Program}{loose:List Str}{XP:(Str->Option Value)->Heap->Prop}{YP:World->Heap->Prop}{d:DefRec}
  (hn:l.most=some n) (Dj:d.params.defaults=[])
  (call:∀ (w:World) (s₀ s₁:Shared) (mg mb:Str->Option Value) (fa:Addr) (o:Obj) (pm cd doc:Value) (a:Addr) (vs:List Value) (ns:List Int),
   Ground q loose [] XP w s₀ mg mb s₁.heap->YP w s₁.heap->
   s₁.heap.get? fa=some o->o.data=.func (docDef d.name d.params d.body d.scope pm cd doc)->s₁.heap.CodeRec cd d.name->mg d.name=some (.ref fa)->
   s₁.heap.get? a=some { cls:=.type "list",data:=.seq vs.toArray }->IntsAre vs ns->ns.length<=n->s₁.gens=#[]->
   codeAny (model l.prog w) callerA (.call (.ref fa) ⟨[.ref a],[]⟩) (λ r s'=>r=.ok (.ret (.bool true))/\OldK s₁.heap s'.heap/\s'.os=s₁.os/\AllBare s'.gens) s₁):
  WalkO q loose XP YP l.row.toRowW d [] (λ f vs=>PySem.call f vs):=by
 intro w s₀ s₁ mg mb G Y fa o pm cd doc dV kV ho hd Bw hD C9 hg args vals as BU Dc hrd B7 hlo;obtain rfl:dV=.none:=Dflts.none hD Dj;obtain rfl:kV=.none:=Dflts.noKw hD;obtain⟨a,vs,ns,rfl,rfl,Cq,hints,hlen⟩:=UH hn BU B7;refine enter_call (codeAny_mono (call w s₀ s₁ mg mb fa o pm cd doc a vs ns G Y ho (fd_plain hd) Bw C9 Cq hints hlen hg) λ r s' hq=>?_);obtain⟨rfl,h2,h3,h4⟩:=hq;exact⟨.inl ⟨.bool true,.bool true,[],rfl,λ _=>rfl,.bool true,TY l _,λ _=>⟨List.Pairwise.nil,λ _ hm=>(nomatch hm)⟩⟩,h2,h3,h4⟩
end V2
namespace L2
open PySem PySem.Spec PyProof.Rows
theorem ax:∀ {vs:List Value}{ns:List Int},IntsAre vs ns->Vals (ns.map V.int) vs
 | _,_,.nil=>.nil
 | _,_,.cons n t h=>.cons ⟨t,rfl⟩ (ax h)
def ij (H:Hp):Prop:=∀ b,H b=none\/∃ o xs,H b=some (.wG o (.lst xs))
def OD {P:Program}{w:World}{K:Ac}{mg mb:Str->Option Value}{CX:tD}{k:Nat}{fa a:Addr}{fd:FuncData}{x:Str}{sp:Sp}{s₁:Shared}{vs:List Value}{ns:List Int}
  (KX:K.In s₁.heap) (CH:s₁.heap.Ns mainGlobals mg) (hb:s₁.heap.Ns builtinsNs mb) (CK:∀ x:Str,x≠"__name__"->mb x=bootBuiltins x) (Eo:s₁.heap.NoLimit) (hg:s₁.gens=#[])
  (ha:s₁.heap.get? a=some { cls:=.type "list",data:=.seq vs.toArray }) (hi:IntsAre vs ns) (hl:ns.length<=sizeLine) (hr:yK k callerA)
  (F:∀ base:Heap,K.In base->base.Ns mainGlobals mg->uO P w K mg base CX k fa fd [x] sp) (hbind:∀ (s:Shared) (u:Value),BindsTo s fd ⟨[u],[]⟩ [(x,u)])
  (A0:∀ H:Hp,ij H->zT K H a (ns.map V.int)->sp [.ref a] H (λ v _=>v=.bl true) λ _ _ _=>False)
  (hCX:∀ H e s',CX [] H s₁ (λ _ _ _=>False) e s'->False):
  codeAny (model P w) callerA (.call (.ref fa) ⟨[.ref a],[]⟩) (λ r s'=>r=.ok (.ret (.bool true))/\OldK s₁.heap s'.heap/\s'.os=s₁.os/\AllBare s'.gens) s₁:=by
 have rv:=ax hi;have lenV:=hi.length;have core:∀ H:Hp,ij H->zT K H a (ns.map V.int)->xk P w H s₁.heap->(∀ b,H b≠none->b=a)->(H a≠none->K.lookup a=none)->
   codeAny (model P w) callerA (.call (.ref fa) ⟨[.ref a],[]⟩) (λ r s'=>r=.ok (.ret (.bool true))/\OldK s₁.heap s'.heap/\s'.os=s₁.os/\AllBare s'.gens) s₁:=by
  intro H hO hS zE hA hK;have base_of:∀ {b:Addr}{o:Obj},s₁.heap.get? b=some o->H b=none->(sU s₁.heap H).get? b=some o:=λ e n=>Nw e n;have noA:∀ {b:Addr}{o:Obj}{es:Array DictEntry}{ep:Nat},s₁.heap.get? b=some o->o.data=.dict es ep->H b=none:=λ{b o es ep} e d=>by
   cases q:H b with
   | none=>rfl
   | some u=>
    have e':b=a:=hA b (by rw[q];simp);subst e';rw[ha] at e;cases e;have d':Data.seq vs.toArray _=Data.dict es ep:=d;cases d'
  have nsK:∀ {b:Addr}{m:Str->Option Value},s₁.heap.Ns b m->(sU s₁.heap H).Ns b m:=λ{b m} ⟨o,es,ep,e,d,r⟩=>⟨o,es,ep,base_of e (noA e d),d,r⟩;have hKb:K.In (sU s₁.heap H):=λ b o e=>base_of (KX b o e) (by
   cases q:H b with
   | none=>rfl
   | some u=>
    have e':b=a:=hA b (by rw[q];simp);subst e';rw[hK (by rw[q];simp)] at e;cases e)
  have hM:Mod K mg (sU s₁.heap H):=⟨hKb,nsK CH,⟨mb,nsK hb,CK⟩,let ⟨mc,h1,h2⟩:=Eo;⟨mc,nsK h1,h2⟩⟩
  have e0:i7 P w K mg (sU s₁.heap H) callerA [] s₁ H:=⟨rfl,hM,λ b o e=>PM e,Nat.le_of_eq (Nv _ _),trivial,λ b hb=>absurd (show b∈([]:List Addr) from hb) (by simp),zE,.of_eq hg⟩
  refine codeAny_mono ((F _ hKb (nsK CH)).run callerA [] s₁ H ⟨[.ref a],[]⟩ [.ref a] [.ref a] _ _ hr e0 (hbind s₁ (.ref a)) (.cons rfl .nil) (A0 H hO hS)) λ r s' h=>?_;cases r with
  | error e=>exact (hCX H e s' h).elim
  | ok fl=>
   cases fl with
   | next=>exact False.elim h
   | brk=>exact False.elim h
   | cont=>exact False.elim h
   | ret u=>
    obtain⟨v,H',os,bare,un,Ei,r',q⟩:=h;have q':v=.bl true:=q;subst q';obtain rfl:u=Value.bool true:=r';refine⟨rfl,OldK.of_keep λ b o e=>?_,os,bare⟩;cases q:H b with
    | none=>exact un.keep b o e q (by intro z;exact absurd (show b∈([]:List Addr) from z) (by simp)) (by simp)
    | some u=>
     rcases hO b with z | ⟨ob,xs,z⟩
     .rw[q] at z;cases z
     .have z2:=un.sX b ob _ z;obtain⟨e1,_⟩:=zE b _ z;obtain⟨e2,_⟩:=Ei b _ z2;rw[e] at e1;cases e1;exact e2
 cases hk:K.lookup a with
 | some o=>
  have e:=KX a o hk;rw[ha] at e;cases e;refine core (λ _=>none) (λ _=>.inl rfl) (.inr ⟨_,vs.toArray,_,hk,rfl,rfl,rfl,by rw[Ar,lenV];exact hl,by simpa using rv⟩) (λ b u z=>by have z':(none:Option HO)=some u:=z;cases z') (λ b z=>absurd rfl z) λ z=>absurd rfl z
 | none=>
  refine core (λ b=>if b=a then some (.wG { cls:=.type "list",data:=.seq vs.toArray } (.lst (ns.map V.int))) else none) (λ b=>?_) (.inl (.inr ⟨{ cls:=.type "list",data:=.seq vs.toArray },if_pos rfl⟩)) (λ b u z=>?_) (λ b z=>?_) λ _=>hk
  .by_cases hb:b=a
   .exact .inr ⟨_,_,if_pos hb⟩
   .exact .inl (if_neg hb)
  .by_cases hb:b=a
   .have z':=(if_pos hb).symm.trans z;cases z';subst hb;exact⟨ha,by rw[Aw];exact hl,vs,_,rv,ha⟩
   .have z':=(if_neg hb).symm.trans z;cases z'
  .by_cases hb:b=a
   .exact hb
   .exact absurd (if_neg hb) z
def V8 {l:PySem.W.OpenLaw}{n k:Nat}{q:Program}{loose:List Str}{XP:(Str->Option Value)->Heap->Prop}{YP:World->Heap->Prop}{d:DefRec}{K:Params->Ac}{CX:World->tD}{sp:World->Sp}{x:Str}
  (hn:l.most=some n) (hn2:n<=sizeLine) (Dj:d.params.defaults=[]) (hr:yK k callerA)
  (hY:∀ (w:World) (h:Heap),YP w h->(K w.params).In h)
  (F:∀ (w:World) (mg:Str->Option Value) (fa:Addr) (h:Heap),(K w.params).In h->h.Ns mainGlobals mg->mg d.name=some (.ref fa)->
   ∃ fd:FuncData,(∀ (s:Shared) (u:Value),BindsTo s fd ⟨[u],[]⟩ [(x,u)])/\
    ∀ base:Heap,(K w.params).In base->base.Ns mainGlobals mg->uO l.prog w (K w.params) mg base (CX w) k fa fd [x] (sp w))
  (A0:∀ (w:World) (H:Hp) (a:Addr) (ns:List Int),ns.length<=n->ij H->zT (K w.params) H a (ns.map V.int)->sp w [.ref a] H (λ v _=>v=.bl true) λ _ _ _=>False)
  (hCX:∀ (w:World) (H:Hp) (s:Shared) (e:Value) (s':Shared),CX w [] H s (λ _ _ _=>False) e s'->False):
  PySem.W.WalkO q loose XP YP l.row.toRowW d [] (λ f vs=>PySem.call f vs):=by
 refine V2.Ly hn Dj λ w s₀ s₁ mg mb fa o pm cd doc a vs ns G Y ho hd Bw C9 Cq hints hlen hg=>?_;have KX:=hY w _ Y;obtain⟨fd,hb,hF⟩:=F w mg fa _ KX G.T.g C9;exact OD KX G.T.g G.T.b G.T.builtins G.T.nolimit hg Cq hints (A9 hlen hn2) hr hF hb (λ H hO hS=>A0 w H a ns hlen hO hS) λ H e s'=>hCX w H s₁ e s'
noncomputable def rf (s:Stmt):Arguments:=match s with
 | .FunctionDef _ a _ _ _ _ _ _ _ _=>a
 | _=>{ posonlyargs:=[],args:=[],vararg:=none,kwonlyargs:=[],kw_defaults:=[],kwarg:=none,defaults:=[] }
noncomputable def vH (s:Stmt):List Stmt:=match s with
 | .FunctionDef _ _ b _ _ _ _ _ _ _=>b
 | _=>[]
noncomputable def zF (s:Stmt):Scope:=match s with
 | .FunctionDef _ _ _ _ _ _ sc _ _ _=>sc
 | _=>{ kind:=.function,names:=[],isGenerator:=false,isCoroutine:=false }
abbrev vQ:tD:=λ _ _ _ _ _ _=>False
abbrev E0:XK:=λ _ _ _=>False
def RA {X:Cx}:Passes vQ X E0:=λ _ _ _ _ _ _ _ h=>h.elim
structure t9 (K:Ac) (x qual:Str) (st:Stmt) (f:Addr) (fd:FuncData):Prop where
 ex:∃ (oc:Value) (od:Option Addr) (kV doc pm:Value) (an:Option Addr) (Af ct:Value) (osl:Array (Option Value)),
  fd=PySem.W.fnOf x qual (rf st) (vH st) (zF st) .none kV doc pm an Af ct/\K.lookup f=some ⟨oc,od,.func fd,osl⟩/\PySem.W.codeIn K Af qual=true
 kp:PySem.W.keepIn K (.ref f)=true
section
variable {P:Program}{w:World}{K:Ac}{mg:Str->Option Value}{base:Heap}
def t9.ok {x qual:Str}{st:Stmt}{f:Addr}{fd:FuncData}{N ps:List Str}{k:Nat}{sp:Sp}(F:t9 K x qual st f fd) (S:yf N ps (zF st)) (len:∀ vs H Q E,sp vs H Q E->vs.length=ps.length)
  (hbody:∀ (Af:Value) (A:Around) (outer:List Env) (s:Shared) (H:Hp) (vs:List V) (Q:VK) (E:XK),yK k (A.deeper (envOfC qual (zF st) s.heap.objs.size f Af))->sp vs H Q E->
   ∃ t,wB (t_ vQ P w K mg base N qual (zF st) f Af A outer s H E).qc (vH st) t/\t { nx:=λ _ H'=>Q .zl H',rt:=Q } (start N vs) H):uO P w K mg base vQ (k+1) f fd ps sp:=by
 obtain⟨oc,od,kV,doc,pm,an,Af,ct,osl,rfl,lk,Bw⟩:=F.ex;refine NR lk Bw S len λ A outer s H vs Q E hr A0=>?_;obtain⟨t,h,q⟩:=hbody Af A outer s H vs Q E hr A0;exact⟨t,h.qc,q⟩
def t9.binds {x qual:Str}{st:Stmt}{f:Addr}{fd:FuncData}{ps:List Str}(F:t9 K x qual st f fd)
  (h:∀ (kV doc pm:Value) (an:Option Addr) (Af ct:Value) (us:List Value),us.length=ps.length->bindArgs (PySem.W.fnOf x qual (rf st) (vH st) (zF st) .none kV doc pm an Af ct) ⟨us,[]⟩=pure (ps.zip us)):Binds K fd ps []:=by
 obtain⟨oc,od,kV,doc,pm,an,Af,ct,osl,rfl,lk,Bw⟩:=F.ex;exact .all (h kV doc pm an Af ct)
def Xi {x qual:Str}{st:Stmt}{f:Addr}{oc:Value}{od an:Option Addr}{osl:Array (Option Value)}{kV doc pm Af ct:Value}(l:K.lookup f=some ⟨oc,od,.func (PySem.W.fnOf x qual (rf st) (vH st) (zF st) .none kV doc pm an Af ct),osl⟩)
  (c:PySem.W.codeIn K Af qual=true) (k:PySem.W.keepIn K (.ref f)=true):t9 K x qual st f (PySem.W.fnOf x qual (rf st) (vH st) (zF st) .none kV doc pm an Af ct):=⟨⟨oc,od,kV,doc,pm,an,Af,ct,osl,rfl,l,c⟩,k⟩
end
def eW {A:Around}{k:Nat}(hr:yK k A):A.units+1<cLine:=Nat.lt_of_le_of_lt (Nat.add_le_add_left (by decide:1<=64) _) hr.units
section
variable {X:Cx}
def pv (i:Nat) {x:Str}{pos:Pos}(hN:X.N[i]?=some x:=by rfl) (hv:ia X.env.scope x:=by first | exact Or.inl rfl | exact Or.inr (Or.inl rfl) | exact Or.inr (Or.inr rfl)) (hd:(x == ("__debug__":Str))=false:=by decide)
  (Bw:(x == ("__classdict__":Str))=false:=by decide):PE X (.Name x pos) (iV i):=S7 hN hv hd Bw
end
end L2
namespace PySem
theorem dW {env:Env}:∀ (l:List (Str×NameKind)) (acc:List (Str×Addr)),(∀ y∈l,y.2=.free->∃ c,env.cells.lookup y.1=some c)->
  ∃ cl,(forIn l acc (λ(x:Str×NameKind) r=>if (x.2 == NameKind.free)=true then do let a <- cellOf env x.1;pure (ForInStep.yield ((x.1,a)::r)) else pure (ForInStep.yield r)):Sem (List (Str×Addr)))=pure cl/\
   (∀ x c,cl.lookup x=some c->acc.lookup x=some c\/((x,NameKind.free)∈l/\env.cells.lookup x=some c))/\(∀ x,(x,NameKind.free)∈l\/(acc.lookup x).isSome->(cl.lookup x).isSome)
 | [],acc,_=>⟨acc,rfl,λ x c h=>.inl h,λ x h=>by simpa using h⟩
 | (n,k)::l,acc,h=>by
  by_cases hk:k=.free
  .subst hk;obtain⟨c,hc⟩:=h (n,.free) Al rfl;obtain⟨cl,e1,e2,e3⟩:=dW l ((n,c)::acc) λ y hy=>h y (Av _ hy);refine⟨cl,?_,λ x d hx=>?_,λ x hx=>?_⟩
   .rw[DB];simp only[beq_self_eq_true,if_true,cellOf,hc];exact e1
   .rcases e2 x d hx with q | ⟨q1,q2⟩
    .rw[Bz] at q;cases C3:x == n with
     | true=>
      rw[C3] at q;have:x=n:=by simpa using C3
      subst this;refine .inr ⟨Al,?_⟩;rw[hc];exact q
     | false=>rw[C3] at q;exact .inl q
    .exact .inr ⟨Av _ q1,q2⟩
   .refine e3 x ?_;rcases hx with hx | hx
    .rcases Ai.mp hx with q | q
     .have:x=n:=congrArg Prod.fst q;subst this;exact .inr (by simp[Bz])
     .exact .inl q
    .refine .inr ?_;rw[Bz];cases x == n <;> simp[hx]
  .have hb:(k == NameKind.free)=false:=by simpa using hk
   obtain⟨cl,e1,e2,e3⟩:=dW l acc λ y hy=>h y (Av _ hy);refine⟨cl,?_,λ x d hx=>?_,λ x hx=>?_⟩
   .rw[DB];simp only[hb,Ba,if_false];exact e1
   .rcases e2 x d hx with q | ⟨q1,q2⟩
    .exact .inl q
    .exact .inr ⟨Av _ q1,q2⟩
   .refine e3 x ?_;rcases hx with hx | hx
    .rcases Ai.mp hx with q | q
     .exact absurd (congrArg Prod.snd q).symm hk
     .exact .inl q
    .exact .inr hx
def X_ {scope:Scope}{env:Env}(h:∀ y∈scope.names,y.2=.free->∃ c,env.cells.lookup y.1=some c):
  ∃ cl,closureFor scope env=pure cl/\(∀ x c,cl.lookup x=some c->(x,NameKind.free)∈scope.names/\env.cells.lookup x=some c)/\∀ x,(x,NameKind.free)∈scope.names->(cl.lookup x).isSome:=by
 obtain⟨cl,e1,e2,e3⟩:=dW (env:=env) scope.names [] h;refine⟨cl,?_,λ x c hx=>?_,λ x hx=>e3 x (.inl hx)⟩
 .simp only[closureFor];rw[e1];rfl
 .rcases e2 x c hx with q | q
  .simp at q
  .exact q
theorem Yz {env:Env}:∀ {names:List (Str×NameKind)}{x:Str},names.lookup x=some .free->
  (names.map λ(n,k)=>if (k == NameKind.free&&env.scope.kind == .function&&env.kindOf n == some .cell) then (n,NameKind.cell) else (n,k)).lookup x=some .cell\/
  (names.map λ(n,k)=>if (k == NameKind.free&&env.scope.kind == .function&&env.kindOf n == some .cell) then (n,NameKind.cell) else (n,k)).lookup x=some .free
 | [],_,h=>by simp at h
 | (n,k)::r,x,h=>by
  have ih:=@Yz env r x;show List.lookup x ((if (k == NameKind.free&&env.scope.kind == .function&&env.kindOf n == some .cell)=true then (n,NameKind.cell) else (n,k))::_)=_\/List.lookup x ((if (k == NameKind.free&&env.scope.kind == .function&&env.kindOf n == some .cell)=true then (n,NameKind.cell) else (n,k))::_)=_;cases hx:x == n with
  | true=>
   simp only[Bz,hx] at h;cases h;by_cases hc:(NameKind.free == NameKind.free&&env.scope.kind == .function&&env.kindOf n == some .cell)=true
   .rw[if_pos hc];simp[Bz,hx]
   .rw[if_neg hc];simp[Bz,hx]
  | false=>
   simp only[Bz,hx] at h;by_cases hc:(k == NameKind.free&&env.scope.kind == .function&&env.kindOf n == some .cell)=true
   .rw[if_pos hc];simp only[Bz,hx];exact ih h
   .rw[if_neg hc];simp only[Bz,hx];exact ih h
theorem Zr {env:Env}:∀ {names:List (Str×NameKind)}{x:Str},(∀ y∈names,y.2≠.cell)->
  ((names.map λ(n,k)=>if (k == NameKind.free&&env.scope.kind == .function&&env.kindOf n == some .cell) then (n,NameKind.cell) else (n,k)).lookup x=some .cell\/
  (names.map λ(n,k)=>if (k == NameKind.free&&env.scope.kind == .function&&env.kindOf n == some .cell) then (n,NameKind.cell) else (n,k)).lookup x=some .free)->(x,NameKind.free)∈names
 | [],_,_,h=>by simp at h
 | (n,k)::r,x,hn,h=>by
  have ih:=@Zr env r x λ y hy=>hn y (Av _ hy);have h':List.lookup x ((if (k == NameKind.free&&env.scope.kind == .function&&env.kindOf n == some .cell)=true then (n,NameKind.cell) else (n,k))::_)=some .cell\/List.lookup x ((if (k == NameKind.free&&env.scope.kind == .function&&env.kindOf n == some .cell)=true then (n,NameKind.cell) else (n,k))::_)=some .free:=h;have hf:∀ k',((if (k == NameKind.free&&env.scope.kind == .function&&env.kindOf n == some .cell)=true then (n,NameKind.cell) else (n,k)):Str×NameKind)=(n,k')->(k'=.cell\/k'=.free)->k=.free:=by
   intro k' e hk';by_cases hc:(k == NameKind.free&&env.scope.kind == .function&&env.kindOf n == some .cell)=true
   .simp only[BO] at hc;simpa using hc.1.1
   .rw[if_neg hc] at e;have:k=k':=congrArg Prod.snd e;subst this;rcases hk' with q | q
    .exact absurd q (hn (n,k) Al)
    .exact q
  cases hx:x == n with
  | true=>
   have C3:x=n:=by simpa using hx
   subst C3;by_cases hc:(k == NameKind.free&&env.scope.kind == .function&&env.kindOf x == some .cell)=true
   .simp only[BO] at hc;have:k=.free:=by simpa using hc.1.1
    subst this;exact Al
   .rw[if_neg hc] at h';simp only[Bz,beq_self_eq_true] at h';rcases h' with q | q
    .exact absurd (A4 q) (hn (x,k) Al)
    .have:=A4 q;subst this;exact Al
  | false=>
   refine Av _ (ih ?_);by_cases hc:(k == NameKind.free&&env.scope.kind == .function&&env.kindOf n == some .cell)=true
   .rw[if_pos hc] at h';simp only[Bz,hx] at h';exact h'
   .rw[if_neg hc] at h';simp only[Bz,hx] at h';exact h'
end PySem
namespace L2
open PySem PySem.Spec PyProof.Rows
noncomputable def uz (pick:List (Option Nat)) (O:St):St:=pick.map λ o=>o.bind λ i=>(O[i]?).join
noncomputable def xj (X:Cx) (N':List Str) (scope:Scope) (cl:List (Str×Addr)) (C:Addr) (s:Shared) (H:Hp) (ex:List Addr):Cx:=
 { X with N:=N',s₀:=s,H₀:=H,env:=compEnvC scope cl C X.env,outer:=X.stack,stack:=X.stack,ex:=ex,fn:=λ _=>false,pn:=[],xe:=λ _ _=>False }
noncomputable def oB (N N':List Str) (pick:List (Option Nat)) (scope:Scope):Bool:=(N'.zip pick).all λ p=>match p.2 with
 | none=>true
 | some j=>decide (N[j]?=some p.1)&&decide (scope.names.lookup p.1=some .free)
structure oq (X:Cx) (N':List Str) (pick:List (Option Nat)) (scope:Scope):Prop where
 kind:scope.kind=.function
 Ym:∀ y∈scope.names,y.2≠.cell
 names:∀ y∈scope.names,y.2=.local->scope.names.lookup y.1=some .local
 free:∀ y∈scope.names,y.2=.free->X.env.scope.names.lookup y.1=some .cell\/X.env.scope.names.lookup y.1=some .free
 len:pick.length=N'.length
 ok:oB X.N N' pick scope=true
def oB.get {N N':List Str}{pick:List (Option Nat)}{scope:Scope}(h:oB N N' pick scope=true) {i j:Nat}{x:Str}(h1:N'[i]?=some x) (h2:pick[i]?=some (some j)):N[j]?=some x/\scope.names.lookup x=some .free:=by
 unfold oB at h;have hm:(x,some j)∈N'.zip pick:=by
  refine A7 (i:=i) ?_;rw[List.getElem?_zip_eq_some];exact⟨h1,h2⟩
 have q:=BA.mp h _ hm;simp only[BO,decide_eq_true_eq] at q;exact q
def uz.get {pick:List (Option Nat)}{O:St}{i:Nat}{v:V}(h:(uz pick O)[i]?=some (some v)):∃ j,pick[i]?=some (some j)/\O[j]?=some (some v):=by
 unfold uz at h;rw[Ay] at h;cases e:pick[i]? with
 | none=>rw[e] at h;cases h
 | some o=>
  rw[e] at h;cases o with
  | none=>simp at h
  | some j=>
   refine⟨j,rfl,?_⟩;simp only[Option.map_some,Option.some.injEq,A_] at h;cases q:O[j]? with
   | none=>rw[q] at h;simp at h
   | some w=>rw[q] at h;simp at h;rw[h]
def PF (X:Cx) (ifs:List Expr) (t:TT):Prop:=∀ (pins:List (Addr×Obj)) (s:Shared) (O:St) (H:Hp) (Q:Bool->Hp->Prop),Inv X pins O H s->t O H Q->
 wpAny (model X.prog X.w) X.A (forIn ifs true λ c r=>if r=true then do let ok <- isTrue c X.env (eval c X.env);pure (ForInStep.yield ok) else pure (ForInStep.yield r)) (TP X pins O Q) X.xe s
def Sy {X:Cx}:PF X [] (λ _ H Q=>Q true H):=λ _ _ _ H _ I h=>wpAny_tests_nil ⟨H,I,h⟩
def Sv {X:Cx}{c:Expr}{t:TT}(h:PT X c t):PF X [c] t:=λ pins s O H Q I q=>wpAny_tests_one (h pins s O H Q I q)
def iX (pick:List (Option Nat)) (wi:TI) (g:TG) (tc:TT) (te:TE):TE:=fun O H Q=>wi O H λ J H1=>∀ D,H1 D=none->∃ W:Nat->Nat->St->Hp->Prop,(∃ m,W 0 m (uz pick O) (upd H1 D (.lst [])))/\
 ∀ i m O H,W i m O H->(J.stop i H/\Q (.ref D) H)\/(J.go i H/\∀ x H',J.ot i H x H'->g x O H' fun O2 H2=>tc O2 H2 λ b H3=>
  if b=true then te O2 H3 λ y H4=>∃ ys m',H4 D=some (.lst ys)/\ys.length<sizeLine/\m'<m/\W (i+1) m' O2 (upd H4 D (.lst (ys++[y]))) else ∃ m',m'<m/\W (i+1) m' O2 H3)
section
variable {X:Cx}{pins:List (Addr×Obj)}{O:St}{H:Hp}{s:Shared}{N':List Str}{pick:List (Option Nat)}{scope:Scope}{cl:List (Str×Addr)}{C:Addr}{fp:List Addr}
def Ni (S:oq X N' pick scope) (I:Inv X pins O H s) (Bj:∀ b∈fp,um X pins H b) (Am:∀ b∈fp,b<s.heap.objs.size)
  (c1:∀ x c,cl.lookup x=some c->(x,NameKind.free)∈scope.names/\X.env.cells.lookup x=some c) (c2:∀ x,(x,NameKind.free)∈scope.names->(cl.lookup x).isSome)
  {h1:Heap}{m1:Str->Option Value}{t':Nat}(hC:s.heap.objs.size<C) (old:∀ b o,s.heap.get? b=some o->h1.get? b=some o) (CH:h1.Ns C m1)
  (hD:h1.get? s.heap.objs.size=some { cls:=.type "list",data:=.seq #[] 0 }):
  Inv (xj X N' scope cl C s H fp) [] (uz pick O) (upd H s.heap.objs.size (.lst [])) { s with heap:=h1,toks:=t' }:=by
 have hDn:H s.heap.objs.size=none:=I.zE.fresh (Ah _);have hCn:H C=none:=I.zE.fresh (BF hC);have clt:∀ x c,cl.lookup x=some c->c<s.heap.objs.size:=λ x c e=>by
  obtain⟨v,q⟩:=I.cell x c (c1 x c e).2;exact q.lt
 refine⟨⟨I.ok.mod,S.kind,I.ok.glob,I.ok.blt,BF hC,λ x y c e1 e2=>I.ok.inj x y c (c1 x c e1).2 (c1 y c e2).2,λ x hx=>?_,λ x c hf _=>absurd (show false=true from hf) BE,I.ok.hd,I.ok.frames,.inl rfl,
  λ b hb=>⟨Ax (CZ (Am b hb) hC),λ x c e=>(Bj b hb).2.2.2.2.1 x c (c1 x c e).2⟩,I.bs,A9 I.ok.pP I.sz,λ b o e hb=>?_,λ b hb z=>?_,I.stack,I.aO⟩,
  rfl,I.bare,Un.laid old (Ah _) hDn,⟨m1,CH,λ i x v e1 e2 e3=>?_⟩,λ x c e=>?_,?_,λ x c e=>?_,λ p hp=>absurd (show p∈([]:List (Addr×Obj)) from hp) (by simp),I.zE.laid old (Ah _) ?_,?_⟩
 .exact DE.mp (c2 x (Zr S.Ym hx))
 .rcases (Bj b hb).2.2.2.1 with z | z
  .exact I.ok.mN b o e z
  .exact absurd (Bb (Ap (I.ok.bs b o e).1) z) (BS _)
 .rcases Ai.mp (I.hV b z) with q | q
  .exact (Bj b hb).2.1 q
  .exact (Bj b hb).2.2.1 q
 .obtain⟨j,p1,p2⟩:=uz.get e2;obtain⟨q1,q2⟩:=oB.get S.ok e1 p1;obtain⟨m0,n0,l0⟩:=I.loc;have hm:(x,NameKind.free)∈scope.names:=PySem.mem_of_lookup q2;have hk:X.env.scope.names.lookup x=some .cell\/X.env.scope.names.lookup x=some .free:=S.free _ hm rfl;obtain⟨u,r,l⟩:=l0 j x v q1 p2 (.inr hk);refine⟨u,r,.inr ⟨Yz q2,?_⟩⟩;rcases l with ⟨k,_⟩ | ⟨_,c,e,z⟩
  .have k':X.env.scope.names.lookup x=some .local:=k;rcases hk with hk | hk <;> (rw[k'] at hk;cases hk)
  .obtain⟨c',e'⟩:=DE.mp (c2 x hm);have e'':=(c1 x c' e').2;rw[e] at e'';cases e'';obtain⟨o,z1,z2⟩:=z;exact⟨c,e',o,old _ _ z1,z2⟩
 .obtain⟨v,o,z1,z2⟩:=I.cell x c (c1 x c e).2;exact⟨v,o,old _ _ z1,z2⟩
 .show upd H s.heap.objs.size (.lst []) C=none;rw[yV (BR hC)];exact hCn
 .show upd H s.heap.objs.size (.lst []) c=none;rw[yV (Ax (clt x c e))];exact I.tT x c (c1 x c e).2
 .exact⟨AL _,[],0,.nil,hD⟩
 .show (uz pick O).length=N'.length;unfold uz;rw[Aw];exact S.len
def Ng {O':St}{H':Hp}{s':Shared}{oC:Obj}(I:Inv X pins O H s) (Bj:∀ b∈fp,um X pins H b) (hC:s.heap.objs.size<C)
  (I':Inv (xj X N' scope cl C s H fp) [] O' H' s') (hoC:s'.heap.get? C=some oC):Inv X (pins++[(C,oC)]) O H' s':=by
 have J:Inv X pins O H' s':=I.Lk (ch:=fp) I'.os I'.base I'.zE I'.bare λ b hb=>⟨(Bj b hb).2.2.2.1,(Bj b hb).2.1,(Bj b hb).2.2.2.2.1,(Bj b hb).2.2.2.2.2⟩;refine J.fA λ p hp=>(AX.mp hp).elim (λ z=>J.pin p (AY _ z)) λ z=>?_;obtain rfl:p=(C,oC):=AR.mp z;refine⟨hoC,I'.free,BR (CZ I.lt hC),I.Yj (BF hC),λ v hv=>?_⟩;obtain⟨m,⟨o,es,ep,ho,hd,_⟩,_⟩:=I'.loc;have ho':s'.heap.get? C=some o:=ho;rw[hoC] at ho';cases ho';rw[hd] at hv;cases hv
def YR {O':St}{H':Hp}{s':Shared}{oC:Obj}{h':Heap}(I:Inv X pins O H s) (hC:s.heap.objs.size<C) (J:Inv X (pins++[(C,oC)]) O' H' s') (hs:Heap.SameBut C s'.heap h'):Inv X pins O' H' { s' with heap:=h' }:=by
 have J':=J.me;have hp:=J.pin (C,oC) (AY _ (AY _ (AR.mpr rfl)));have lt:∀ c,c<s.heap.objs.size->c≠C:=λ c h=>Ax (CZ h hC);refine J'.turned (t':=s'.toks) (it:=C) (λ b o hb e=>hs.extBut b o hb e) hp.2.1 hp.2.2.1 (.inr (A9 I.sz (BF hC))) (λ x c e z=>?_) (λ p hq z=>?_)
 .obtain⟨v,q⟩:=I.cell x c e;exact lt c q.lt z
 .exact lt p.1 (Ap (I.pin p hq).1) z
end
section
variable {X:Cx}{N':List Str}{pick:List (Option Nat)}{scope:Scope}{elt iter tg:Expr}{ifs:List Expr}{pos:Pos}{wi:TI}{g:TG}{tc:TT}{te:TE}
def O9 {pins:List (Addr×Obj)}{O:St}{H:Hp}{s:Shared}{it C:Addr}{fp:List Addr}{tn:Nat->Heap->Prop}{J:It}{cl:List (Str×Addr)}{W:Nat->Nat->St->Hp->Prop}{Q:V->Hp->Prop}{R:Result->Shared->Prop}{D:Addr}
  (hc:X.calm=true) (hg:PG (xj X N' scope cl C s H fp) tg g) (hf:PF (xj X N' scope cl C s H fp) ifs tc) (he:PE (xj X N' scope cl C s H fp) elt te)
  (T:Turn X.prog X.w X.K tg J fp it tn) (Bj:∀ b∈fp,um X pins H b) (hstat:∀ b∈fp,b≠C/\b∉ua X.stack/\∀ x c,cl.lookup x=some c->c≠b)
  (turn:∀ i m O H,W i m O H->(J.stop i H/\Q (.ref D) H)\/(J.go i H/\∀ x H',J.ot i H x H'->g x O H' fun O2 H2=>tc O2 H2 λ b H3=>
   if b=true then te O2 H3 λ y H4=>∃ ys m',H4 D=some (.lst ys)/\ys.length<sizeLine/\m'<m/\W (i+1) m' O2 (upd H4 D (.lst (ys++[y]))) else ∃ m',m'<m/\W (i+1) m' O2 H3))
  (fin:∀ O' H' s',Inv (xj X N' scope cl C s H fp) [] O' H' s'->Q (.ref D) H'->R (.ok .next) s')
  {m0:Nat}{O0:St}{H0:Hp}{s0:Shared}(I0:Inv (xj X N' scope cl C s H fp) [] O0 H0 s0) (t0:tn 0 s0.heap) (f0:∀ b∈fp,H0 b=none) (w0:W 0 m0 O0 H0):
  codeAny (model X.prog X.w) X.A (.compLoop (.ListComp elt [⟨tg,iter,ifs,0⟩] scope pos) 0 (.ref it) (.ref D) (compEnvC scope cl C X.env)) R s0:=by
 have stat:∀ {H':Hp},(∀ b∈fp,H' b=none)->∀ b∈fp,um (xj X N' scope cl C s H fp) [] H' b:=λ hn b hb=>⟨hn b hb,(hstat b hb).1,(hstat b hb).2.1,.inl hb,(hstat b hb).2.2,λ p hp=>absurd (show p∈([]:List (Addr×Obj)) from hp) (by simp)⟩;refine codeAny_loop rfl (λ n s'=>∃ i O' H',Inv (xj X N' scope cl C s H fp) [] O' H' s'/\tn i s'.heap/\(∀ b∈fp,H' b=none)/\W i n O' H') (λ n s3 hI=>?_) m0 ⟨0,O0,H0,I0,t0,f0,w0⟩;obtain⟨i,O3,H3,I3,st3,fr3,w3⟩:=hI;show wpAny _ X.A ((compTurn (.ListComp elt [⟨tg,iter,ifs,0⟩] scope pos) 0 (.ref it) (.ref D) (compEnvC scope cl C X.env)).onRaise (λ x=>do noteFrame x (compEnvC scope cl C X.env);theTreesLotGoes x)) _ _ s3;refine wpAny_noted ?_;rw[compTurn_list];refine Ab (wpAny_standAt (Ab ?_));rcases turn i n O3 H3 w3 with ⟨stop,qn⟩ | ⟨go,step⟩
 .refine zK (T.done (xj X N' scope cl C s H fp) rfl rfl rfl hc i [] s3 O3 H3 _ I3 (stat fr3) st3 stop) λ r s4 ⟨hr,I4⟩=>?_;subst hr;exact Ad (fin O3 H3 s4 I4 qn)
 .refine zK (T.item (xj X N' scope cl C s H fp) rfl rfl rfl hc i [] s3 O3 H3 _ I3 (stat fr3) st3 go) λ r s4 ⟨u,hr,h4⟩=>?_;subst hr;refine Ab (zK h4 λ _ s5 ⟨x,H5,I5,r5,y5,st5,fr5⟩=>?_);have I5':=I5.pinned (stat fr5) (T.obj _ _ st5);refine Ab (za5 (hg _ s5 O3 H5 x u _ I5' r5 (step x H5 y5)) (λ _ s6 ⟨O6,H6,I6,q6⟩=>?_) λ _ _ z=>False.elim z);refine Ab (za5 (hf _ s6 O6 H6 _ I6 q6) (λ ok s7 ⟨H7,I7,q7⟩=>?_) λ _ _ z=>False.elim z);have back:∀ {H8:Hp}{s8:Shared},Inv (xj X N' scope cl C s H fp) ([]++mE fp s5.heap) O6 H8 s8->(∃ m',m'<n/\W (i+1) m' O6 H8)->∃ m,m<n/\∃ i O' H',Inv (xj X N' scope cl C s H fp) [] O' H' s8/\tn i s8.heap/\(∀ b∈fp,H' b=none)/\W i m O' H':=λ{H8 s8} I8 ⟨m',hm,w8⟩=>by
   refine⟨m',hm,i+1,O6,H8,I8.me,T.keep _ _ _ st5 λ b hb o e=>(I8.pin (b,o) (AY _ (AY _ (jw hb e)))).1,λ b hb=>?_,w8⟩;obtain⟨o,e,d⟩:=T.obj _ _ st5 b hb;exact (I8.pin (b,o) (AY _ (AY _ (jw hb e)))).2.1
  cases ok with
  | false=>
   rw[if_neg BE] at q7;exact Ad ⟨rfl,back I7 q7⟩
  | true=>
   rw[if_pos rfl] at q7;refine Ab (Ab (za5 (he _ s7 O6 H7 _ I7 q7) (λ uy s8 ⟨y,H8,I8,r8,ys,m',e8,z8,hm,w8⟩=>?_) λ _ _ z=>False.elim z));refine Ab (za5 (Yr (X:=xj X N' scope cl C s H fp) _ s8 O6 H8 (.ref D) [y] (.ref D) [uy] (λ _ H9=>W (i+1) m' O6 H9) I8 rfl (.cons r8 .nil) ⟨D,ys,y,rfl,rfl,e8,z8,w8⟩) (λ _ s9 ⟨_,H9,I9,_,q9⟩=>?_) λ _ _ z=>False.elim z);exact Ad (Ad ⟨rfl,back I9 ⟨m',hm,q9⟩⟩)
def YA {pins:List (Addr×Obj)}{O:St}{H:Hp}{s:Shared}{it:Addr}{fp:List Addr}{tn:Nat->Heap->Prop}{J:It}{cl:List (Str×Addr)}{Q:V->Hp->Prop}{E:Value->Shared->Prop}{RR:Value->Addr->Result->Shared->Prop}
  (S:oq X N' pick scope) (hc:X.calm=true) (hg:∀ cl C s H fp,PG (xj X N' scope cl C s H fp) tg g) (hf:∀ cl C s H fp,PF (xj X N' scope cl C s H fp) ifs tc) (he:∀ cl C s H fp,PE (xj X N' scope cl C s H fp) elt te)
  (c1:∀ x c,cl.lookup x=some c->(x,NameKind.free)∈scope.names/\X.env.cells.lookup x=some c) (c2:∀ x,(x,NameKind.free)∈scope.names->(cl.lookup x).isSome)
  (I:Inv X pins O H s) (T:Turn X.prog X.w X.K tg J fp it tn) (t0:tn 0 s.heap) (Bj:∀ b∈fp,um X pins H b)
  (rd:∀ D,H D=none->∃ W:Nat->Nat->St->Hp->Prop,(∃ m,W 0 m (uz pick O) (upd H D (.lst [])))/\
   ∀ i m O H,W i m O H->(J.stop i H/\Q (.ref D) H)\/(J.go i H/\∀ x H',J.ot i H x H'->g x O H' fun O2 H2=>tc O2 H2 λ b H3=>
    if b=true then te O2 H3 λ y H4=>∃ ys m',H4 D=some (.lst ys)/\ys.length<sizeLine/\m'<m/\W (i+1) m' O2 (upd H4 D (.lst (ys++[y]))) else ∃ m',m'<m/\W (i+1) m' O2 H3))
  (fin:∀ C D oC H' s',s.heap.objs.size<C->Inv X (pins++[(C,oC)]) O H' s'->s'.heap.get? C=some oC->(∃ m,s'.heap.Ns C m)->Q (.ref D) H'->RR (.ref D) C (.ok .next) s'):
  wpAny (model X.prog X.w) X.A (newList []) (λ acc s₃=>wpAny (model X.prog X.w) X.A (newFunctionEnv scope X.env.globals cl [] X.env.qual none .none (some X.env)) (λ cenv s₄=>
   codeAny (model X.prog X.w) X.A (.compStart (.ListComp elt [⟨tg,iter,ifs,0⟩] scope pos) 0 (.ref it) acc { cenv with scope:=relabel scope X.env }) (RR acc cenv.locals) s₄) E s₃) E s:=by
 refine za7 (wpAny_newFunctionEnv S.Ym (by intro y hy;simp at hy) (λ h₁ hns₁ hsb₁=>?_) S.kind);dsimp only at hns₁ hsb₁ ⊢;generalize hH2:s.heap.push { cls:=.type "list",dict:=none,data:=.seq ([]:List Value).toArray }=H2 at hns₁ hsb₁ ⊢;have hC:H2.objs.size=s.heap.objs.size+1:=by rw[<- hH2,Heap.size_push]
 have Am:s.heap.objs.size<H2.objs.size:=by rw[hC];exact Cj _
 have old:∀ b o,s.heap.get? b=some o->h₁.get? b=some o:=λ b o e=>hsb₁.extBut b o (Ax (CZ (Ap e) Am)) (Ao _ (hH2▸Ao _ e));have AO:h₁.get? s.heap.objs.size=some { cls:=.type "list",data:=.seq #[] 0 }:=hsb₁.extBut _ _ (Ax Am) (Ao _ (hH2▸AF _ rfl));have Dh:∀ b∈fp,b<s.heap.objs.size:=λ b hb=>by
  obtain⟨o,e,_⟩:=T.obj _ _ t0 b hb;exact Ap e
 have hDn:H s.heap.objs.size=none:=I.zE.fresh (Ah _);obtain⟨W,⟨m0,w0⟩,turn⟩:=rd s.heap.objs.size hDn;have I0:=Ni (t':=s.toks+([]:List (Str×Value)).length) S I Bj Dh c1 c2 Am old hns₁ AO;have t1:tn 0 h₁:=T.keep _ _ _ t0 λ b _ o e=>old b o e;have AZ:∀ b∈fp,b≠H2.objs.size/\b∉ua X.stack/\∀ x c,cl.lookup x=some c->c≠b:=λ b hb=>I0.ok.dB b hb |> λ q=>⟨q.1,I0.ok.lg b hb,q.2⟩
 have loop:codeAny (model X.prog X.w) X.A (.compLoop (.ListComp elt [⟨tg,iter,ifs,0⟩] scope pos) 0 (.ref it) (.ref s.heap.objs.size) (compEnvC scope cl H2.objs.size X.env)) (RR (.ref s.heap.objs.size) H2.objs.size) { s with heap:=h₁,toks:=s.toks+([]:List (Str×Value)).length }:=by
  refine O9 (O:=O) hc (hg _ _ _ _ _) (hf _ _ _ _ _) (he _ _ _ _ _) T Bj AZ turn (fun O' H' s' I' q=>?_) I0 t1 (λ b hb=>?_) w0
  .obtain⟨m,hn,_⟩:=I'.loc;have hn':s'.heap.Ns H2.objs.size m:=hn;obtain⟨oC,es,ep,ho,hr⟩:=id hn';exact fin _ _ oC H' s' Am (Ng I Bj Am I' ho) ho ⟨m,hn'⟩ q
  .show upd H s.heap.objs.size (.lst []) b=none;rw[yV (Ax (Dh b hb))];exact (Bj b hb).1
 exact codeAny_compStart_list loop (T.self _ 0 _ _ _ t1 loop)
def SK (S:oq X N' pick scope) (hc:X.calm=true) (hi:PI X tg iter wi) (hg:∀ cl C s H fp,PG (xj X N' scope cl C s H fp) tg g) (hf:∀ cl C s H fp,PF (xj X N' scope cl C s H fp) ifs tc) (he:∀ cl C s H fp,PE (xj X N' scope cl C s H fp) elt te)
  (hs:∀ x,foldedSetIterable iter X.env x=pure x:=by intro _;rfl):PE X (.ListComp elt [⟨tg,iter,ifs,0⟩] scope pos) (iX pick wi g tc te):=by
 intro pins s O H Q I h;obtain⟨cl,hclos,c1,c2⟩:=X_ (scope:=scope) (env:=X.env) λ y hy hk=>I.ok.has y.1 (S.free y hy hk);rw[eval_ListComp];refine wpAny_comprehension_free (use:=none) rfl hs hclos S.kind S.names (zK (hi pins s O H _ I h) λ v s1 h1=>zK h1 λ itv s2 h2=>?_);obtain⟨it,fp,tn,J,H2,e,I2,T,st2,f2,rd⟩:=h2;subst e;refine YA (RR:=λ acc C=>compPost (model X.prog X.w) X.A X.xe none (EP X pins O Q) acc C) S hc hg hf he c1 c2 I2 T st2 f2 rd λ C D oC H' s' hC J' ho hn q=>?_;obtain⟨m,hn⟩:=hn;exact⟨m,hn,λ h' hs'=>⟨.ref D,H',YR I2 hC J' hs',rfl,q⟩⟩
def TH {i:Nat}{y:Str}{py BG:Pos}(S:oq X N' pick scope) (hc:X.calm=true) (hi:PI X tg iter wi) (hg:∀ cl C s H fp,PG (xj X N' scope cl C s H fp) tg g) (hf:∀ cl C s H fp,PF (xj X N' scope cl C s H fp) ifs tc) (he:∀ cl C s H fp,PE (xj X N' scope cl C s H fp) elt te)
  (hN:X.N.Nodup) (hy:X.N[i]?=some y) (hx:Loc X.env.scope y)
  (Ck:swapsWith (.ListComp elt [⟨tg,iter,ifs,0⟩] scope pos) (some (.Name y py)) BG.line X.env=pure true:=by rfl)
  (Cr:X.fn y=true\/X.env.scope.names.lookup y=some .local:=by first | exact .inl rfl | exact .inr rfl | assumption)
  (hs:∀ x,foldedSetIterable iter X.env x=pure x:=by intro _;rfl):PS X (.Assign [.Name y py] (.ListComp elt [⟨tg,iter,ifs,0⟩] scope pos) BG) (kG (iX pick wi g tc te) (nh i)):=by
 intro pins s O H Q I h;obtain⟨cl,hclos,c1,c2⟩:=X_ (scope:=scope) (env:=X.env) λ y hy hk=>I.ok.has y.1 (S.free y hy hk);rw[exec_Assign_Name_used _ _ _ _ Ck];refine Ab (wpAny_standAt (Ab ?_));show wpAny _ X.A (do let _ <- comprehension (.ListComp elt [⟨tg,iter,ifs,0⟩] scope pos) scope X.env _ (newList []) false (eval iter X.env) (some (assign (.Name y py) X.env))) _ _ s;refine Ab (za5 (wpAny_comprehension_free (use:=some (assign (.Name y py) X.env)) (Q:=λ _ s'=>SP X pins Q .next s') rfl hs hclos S.kind S.names
  (zK (hi pins s O H _ I h) λ v s1 h1=>zK h1 λ itv s2 h2=>?_)) (λ _ s' hq=>Ad (Ad hq)) λ _ _ e=>e)
 obtain⟨it,fp,tn,J,H2,e,I2,T,st2,f2,rd⟩:=h2;subst e;refine YA (Q:=λ x H1=>nh i x O H1 Q.nx) (RR:=λ acc C=>compPost (model X.prog X.w) X.A X.xe (some (assign (.Name y py) X.env)) (λ _ s'=>SP X pins Q .next s') acc C) S hc hg hf he c1 c2 I2 T st2 f2 rd λ C D oC H' s' hC J' ho hn q=>?_;show wpAny _ X.A (assign (.Name y py) X.env (.ref D)) _ _ _;refine wpAny_assign_Name (hJ J' hN hy hx (v:=.ref D) rfl (λ s3 J3=>?_) Cr);have hp:=(J3.pin (C,oC) (AY _ (AY _ (AR.mpr rfl)))).1;obtain⟨m,o,es,ep,ho',hr⟩:=hn;have:o=oC:=A4 (ho'.symm.trans ho);subst this;exact⟨m,⟨o,es,ep,hp,hr⟩,λ h' hs'=>⟨_,H',YR I2 hC J3 hs',q⟩⟩
end
end L2
namespace L3
open PySem PySem.Spec L2
open PyProof.Rows hiding St
inductive D where
 | zl | bl (b:Bool) | int (i:Int) | str (x:Str) | tup (ds:List D) | yN (ds:List D) | ref (a:Addr)
def nF (K:Ac) (H:Hp) (a:Addr) (xs:List V):Prop:=
 (∃ o,H a=some (.wG o (.lst xs)))\/
  ∃ (o:Obj) (its:Array Value) (n:Nat),K.lookup a=some o/\o.cls=.type "list"/\o.dict=none/\o.data=.seq its n/\its.size<=sizeLine/\Vals xs its.toList
def nF.sq {K:Ac}{H:Hp}{a:Addr}{xs:List V}(h:nF K H a xs):zT K H a xs:=by
 rcases h with h | h
 .exact .inl (.inr h)
 .exact .inr h
mutual
noncomputable def zi (K:Ac) (H:Hp):D->V->Prop
 | .zl,v=>v=.zl
 | .bl b,v=>v=.bl b
 | .int i,v=>v=.int i
 | .str x,v=>v=.str x
 | .tup ds,v=>∃ a xs,v=.ref a/\ye K H a xs/\zq K H ds xs
 | .yN ds,v=>∃ a xs,v=.ref a/\nF K H a xs/\zq K H ds xs
 | .ref a,v=>v=.ref a
noncomputable def zq (K:Ac) (H:Hp):List D->List V->Prop
 | [],xs=>xs=[]
 | d::ds,xs=>∃ x r,xs=x::r/\zi K H d x/\zq K H ds r
end
structure Ext (H H':Hp):Prop where
 tup:∀ b xs,H b=some (.tup xs)->H' b=some (.tup xs)
 wG:∀ b o u,H b=some (.wG o u)->H' b=some (.wG o u)
def Ext.refl (H:Hp):Ext H H:=⟨λ _ _ h=>h,λ _ _ _ h=>h⟩
def Ext.trans {H H1 H2:Hp}(a:Ext H H1) (b:Ext H1 H2):Ext H H2:=⟨λ c xs h=>b.tup c xs (a.tup c xs h),λ c o u h=>b.wG c o u (a.wG c o u h)⟩
def Ext.new {H:Hp}{p:Addr}(h:H p=none) (o:HO):Ext H (upd H p o):=
 ⟨λ b xs q=>by rw[yV (qe q h)];exact q,λ b ob u q=>by rw[yV (qe q h)];exact q⟩
theorem Ext.lst {H:Hp}{p:Addr}{xs:List V}(h:H p=some (.lst xs)) (o:HO):Ext H (upd H p o):=
 ⟨λ b ys q=>by rw[yV (mP q h (by intro z;cases z))];exact q,λ b ob u q=>by rw[yV (mP q h (by intro z;cases z))];exact q⟩
def Ext.kJ {K:Ac}{H H':Hp}{a:Addr}{xs:List V}(e:Ext H H') (h:ye K H a xs):ye K H' a xs:=by
 rcases h with (h | ⟨o,h⟩) | h
 .exact .inl (.inl (e.tup _ _ h))
 .exact .inl (.inr ⟨o,e.wG _ _ _ h⟩)
 .exact .inr h
def Ext.kK {K:Ac}{H H':Hp}{a:Addr}{xs:List V}(e:Ext H H') (h:nF K H a xs):nF K H' a xs:=by
 rcases h with ⟨o,h⟩ | h
 .exact .inl ⟨o,e.wG _ _ _ h⟩
 .exact .inr h
section
variable {K:Ac}{H H':Hp}
mutual
theorem zi.ext (e:Ext H H'):∀ (d:D) {v:V},zi K H d v->zi K H' d v
 | .zl,v,h=>by simpa only [zi] using h
 | .bl b,v,h=>by simpa only [zi] using h
 | .int i,v,h=>by simpa only [zi] using h
 | .str x,v,h=>by simpa only [zi] using h
 | .ref a,v,h=>by simpa only [zi] using h
 | .tup ds,v,h=>by
  simp only[zi] at h ⊢;obtain⟨a,xs,h1,h2,h3⟩:=h;exact⟨a,xs,h1,e.kJ h2,zq.ext e ds h3⟩
 | .yN ds,v,h=>by
  simp only[zi] at h ⊢;obtain⟨a,xs,h1,h2,h3⟩:=h;exact⟨a,xs,h1,e.kK h2,zq.ext e ds h3⟩
theorem zq.ext (e:Ext H H'):∀ (ds:List D) {xs:List V},zq K H ds xs->zq K H' ds xs
 | [],xs,h=>by simpa only [zq] using h
 | d::ds,xs,h=>by
  simp only[zq] at h ⊢;obtain⟨x,r,h1,h2,h3⟩:=h;exact⟨x,r,h1,zi.ext e d h2,zq.ext e ds h3⟩
end
theorem zq.length:∀ {ds:List D}{xs:List V},zq K H ds xs->ds.length=xs.length
 | [],xs,h=>by simp only[zq] at h;subst h;rfl
 | d::ds,xs,h=>by
  simp only[zq] at h;obtain⟨x,r,h1,_,h3⟩:=h;subst h1;simp[zq.length h3]
theorem zq.get:∀ {ds:List D}{xs:List V}{i:Nat}{d:D},zq K H ds xs->ds[i]?=some d->∃ x,xs[i]?=some x/\zi K H d x
 | [],_,i,d,_,e=>by simp at e
 | c::ds,xs,i,d,h,e=>by
  simp only[zq] at h;obtain⟨x,r,h1,h2,h3⟩:=h;subst h1;cases i with
  | zero=>simp at e;subst e;exact⟨x,rfl,h2⟩
  | succ i=>
   obtain⟨y,e1,e2⟩:=zq.get (i:=i) h3 (by simpa using e);exact⟨y,by simpa using e1,e2⟩
theorem zq.append:∀ {ds es:List D}{xs ys:List V},zq K H ds xs->zq K H es ys->zq K H (ds++es) (xs++ys)
 | [],es,xs,ys,h,h'=>by simp only[zq] at h;subst h;simpa using h'
 | d::ds,es,xs,ys,h,h'=>by
  simp only[zq] at h;obtain⟨x,r,h1,h2,h3⟩:=h;subst h1;show zq K H (d::(ds++es)) (x::(r++ys));simp only[zq];exact⟨x,r++ys,rfl,h2,zq.append h3 h'⟩
def zq.nil:zq K H [] []:=by simp only[zq]
def zq.cons {d:D}{ds:List D}{x:V}{xs:List V}(h:zi K H d x) (h':zq K H ds xs):zq K H (d::ds) (x::xs):=by
 simp only[zq];exact⟨x,xs,rfl,h,h'⟩
def zq.snoc {d:D}{ds:List D}{x:V}{xs:List V}(h':zq K H ds xs) (h:zi K H d x):zq K H (ds++[d]) (xs++[x]):=h'.append (.cons h .nil)
theorem zq.ints:∀ {ns:List Int}{xs:List V},zq K H (ns.map D.int) xs->xs=ns.map V.int
 | [],xs,h=>by simpa only [A8,zq] using h
 | n::ns,xs,h=>by
  rw[Aq] at h;simp only[zq,zi] at h;obtain⟨x,r,h1,h2,h3⟩:=h;subst h1 h2;rw[Aq,zq.ints h3]
theorem zq.f_:∀ (ns:List Int),zq K H (ns.map D.int) (ns.map V.int)
 | []=>.nil
 | n::ns=>.cons (by simp only[zi]) (zq.f_ ns)
theorem zq.bools:∀ {ns:List Bool}{xs:List V},zq K H (ns.map D.bl) xs->xs=ns.map V.bl
 | [],xs,h=>by simpa only [A8,zq] using h
 | n::ns,xs,h=>by
  rw[Aq] at h;simp only[zq,zi] at h;obtain⟨x,r,h1,h2,h3⟩:=h;subst h1 h2;rw[Aq,zq.bools h3]
end
inductive O where
 | lst (ds:List D)
 | yq (Aa:List (Key×D))
abbrev SS:=Addr->Option O
def xr (K:Ac) (H:Hp):List (Key×D)->List (Key×V)->Prop:=Paired λ p q=>p.1=q.1/\zi K H p.2 q.2
noncomputable def pW (K:Ac) (H:Hp) (a:Addr):O->Prop
 | .lst ds=>∃ xs,H a=some (.lst xs)/\zq K H ds xs
 | .yq Aa=>∃ vs,H a=some (.dK vs)/\xr K H Aa vs
def zR (K:Ac) (H:Hp) (S:SS):Prop:=∀ a o,S a=some o->pW K H a o
noncomputable def ups (S:SS) (a:Addr) (o:O):SS:=λ b=>if b=a then some o else S b
def rM {S:SS}{a:Addr}{o:O}:ups S a o a=some o:=by unfold ups;rw[if_pos rfl]
def sC {S:SS}{a b:Addr}{o:O}(h:b≠a):ups S a o b=S b:=by unfold ups;rw[if_neg h]
def Sx (S S':SS):Prop:=∀ b o,S b=some o->S' b=some o
def Sx.refl (S:SS):Sx S S:=λ _ _ h=>h
def Sx.trans {S S1 S2:SS}(a:Sx S S1) (b:Sx S1 S2):Sx S S2:=λ c o h=>b c o (a c o h)
def Sx.new {S:SS}{p:Addr}(h:S p=none) (o:O):Sx S (ups S p o):=λ b u q=>by
 rw[sC (by intro z;subst z;rw[h] at q;cases q)];exact q
theorem Sx.none {S S':SS}(e:Sx S S') {p:Addr}(h:S' p=Option.none):S p=Option.none:=by
 cases q:S p with
 | none=>rfl
 | some o=>rw[e p o q] at h;cases h
section
variable {K:Ac}{H H':Hp}{S:SS}
def pW.has {a:Addr}{o:O}(h:pW K H a o):H a≠none:=by
 cases o with
 | lst ds=>obtain⟨xs,h,_⟩:=h;rw[h];simp
 | yq Aa=>obtain⟨xs,h,_⟩:=h;rw[h];simp
theorem zR.none (r:zR K H S) {p:Addr}(h:H p=Option.none):S p=Option.none:=by
 cases q:S p with
 | none=>rfl
 | some o=>exact absurd h (r p o q).has
theorem xr.ext (e:Ext H H') {Aa:List (Key×D)}{vs:List (Key×V)}(h:xr K H Aa vs):xr K H' Aa vs:=
 Paired.jz h λ p q z=>⟨z.1,zi.ext e p.2 z.2⟩
def pW.keep {a:Addr}{o:O}(e:Ext H H') (k:∀ u,H a=some u->H' a=some u) (h:pW K H a o):pW K H' a o:=by
 cases o with
 | lst ds=>obtain⟨xs,h1,h2⟩:=h;exact⟨xs,k _ h1,zq.ext e ds h2⟩
 | yq Aa=>obtain⟨xs,h1,h2⟩:=h;exact⟨xs,k _ h1,h2.ext e⟩
theorem zR.keep (e:Ext H H') (k:∀ a u o,S a=some o->H a=some u->H' a=some u) (r:zR K H S):zR K H' S:=λ a o h=>(r a o h).keep e λ u q=>k a u o h q
theorem zR.new {p:Addr}{u:HO}(hp:H p=Option.none) (r:zR K H S):zR K (upd H p u) S:=
 r.keep (Ext.new hp u) λ a v o _ q=>by rw[yV (qe q hp)];exact q
theorem zR.ups {p:Addr}{u:HO}{o:O}(e:Ext H (upd H p u)) (hn:pW K (upd H p u) p o) (r:zR K H S):zR K (upd H p u) (ups S p o):=λ a o' h=>by
 by_cases ha:a=p
 .subst ha;rw[rM] at h;cases h;exact hn
 .rw[sC ha] at h;exact (r a o' h).keep e λ v q=>by rw[yV ha];exact q
end
abbrev yr:=List (Option D)
def xb (K:Ac) (H:Hp) (Y:yr) (O:St):Prop:=Y.length=O.length/\∀ (i:Nat) (d:D),Y[i]?=some (some d)->∃ v,O[i]?=some (some v)/\zi K H d v
theorem xb.ext {K:Ac}{H H':Hp}{Y:yr}{O:St}(e:Ext H H') (r:xb K H Y O):xb K H' Y O:=⟨r.1,λ i d h=>by
 obtain⟨v,h1,h2⟩:=r.2 i d h;exact⟨v,h1,zi.ext e d h2⟩⟩
theorem xb.set {K:Ac}{H:Hp}{Y:yr}{O:St}(i:Nat) {d:D}{v:V}(r:xb K H Y O) (h:zi K H d v):xb K H (Y.set i (some d)) (O.set i (some v)):=by
 refine⟨by rw[DC,DC];exact r.1,λ j c hc=>?_⟩;rw[DA] at hc ⊢;by_cases hj:i=j
 .subst hj;rw[if_pos rfl] at hc ⊢;by_cases hl:i < Y.length
  .rw[if_pos hl] at hc;rw[if_pos (by rw[<- r.1];exact hl)];cases hc;exact⟨v,rfl,h⟩
  .rw[if_neg hl] at hc;cases hc
 .rw[if_neg hj] at hc ⊢;exact r.2 j c hc
abbrev DK:=D->SS->Prop
abbrev zy:=yr->SS->DK->Prop
abbrev yU:=yr->SS->(Bool->SS->Prop)->Prop
abbrev yz:=yr->SS->(List D->SS->Prop)->Prop
def yt (t:zy):Prop:=∀ Y S (Q Q':DK),(∀ d S',Q d S'->Q' d S')->t Y S Q->t Y S Q'
def vk (t:yU):Prop:=∀ Y S (Q Q':Bool->SS->Prop),(∀ d S',Q d S'->Q' d S')->t Y S Q->t Y S Q'
def r9 (t:yz):Prop:=∀ Y S (Q Q':List D->SS->Prop),(∀ d S',Q d S'->Q' d S')->t Y S Q->t Y S Q'
def wW (K:Ac) (H:Hp) (Q:VK):DK:=λ d S'=>∀ v H',zi K H' d v->Ext H H'->zR K H' S'->Q v H'
def ly (K:Ac) (H:Hp) (Q:Bool->Hp->Prop):Bool->SS->Prop:=λ b S'=>∀ H',Ext H H'->zR K H' S'->Q b H'
def Mr (K:Ac) (H:Hp) (Q:List V->Hp->Prop):List D->SS->Prop:=λ ds S'=>∀ vs H',zq K H' ds vs->Ext H H'->zR K H' S'->Q vs H'
def vG (K:Ac) (H:Hp) (Q:St->Hp->Prop):yr->SS->Prop:=fun Y S'=>∀ O H',xb K H' Y O->Ext H H'->zR K H' S'->Q O H'
def wW.ext {K:Ac}{H H':Hp}{Q:VK}(e:Ext H H') {d:D}{S:SS}(h:wW K H Q d S):wW K H' Q d S:=λ v H2 r x q=>h v H2 r (e.trans x) q
def ly.ext {K:Ac}{H H':Hp}{Q:Bool->Hp->Prop}(e:Ext H H') {d:Bool}{S:SS}(h:ly K H Q d S):ly K H' Q d S:=λ H2 x q=>h H2 (e.trans x) q
def vG.ext {K:Ac}{H H':Hp}{Q:St->Hp->Prop}(e:Ext H H') {d:yr}{S:SS}(h:vG K H Q d S):vG K H' Q d S:=λ v H2 r x q=>h v H2 r (e.trans x) q
def zX (K:Ac) (t:zy):TE:=fun O H Q=>∃ Y S,xb K H Y O/\zR K H S/\t Y S (wW K H Q)
def wK (K:Ac) (t:yU):TT:=fun O H Q=>∃ Y S,xb K H Y O/\zR K H S/\t Y S (ly K H Q)
def wY (K:Ac) (t:yz):TA:=fun O H Q=>∃ Y S,xb K H Y O/\zR K H S/\t Y S (Mr K H Q)
structure PD (X:Cx) (e:Expr) (t:zy):Prop where
 mo:yt t
 pe:PE X e (zX X.K t)
structure xU (X:Cx) (e:Expr) (t:yU):Prop where
 mo:vk t
 pt:PT X e (wK X.K t)
structure xH (X:Cx) (es:List Expr) (t:yz):Prop where
 mo:r9 t
 pa:PA X es (wY X.K t)
def PE.imp {X:Cx}{e:Expr}{t t':TE}(h:PE X e t) (hi:∀ O H Q,t' O H Q->t O H Q):PE X e t':=λ pins s O H Q I q=>h pins s O H Q I (hi O H Q q)
def PT.imp {X:Cx}{e:Expr}{t t':TT}(h:PT X e t) (hi:∀ O H Q,t' O H Q->t O H Q):PT X e t':=λ pins s O H Q I q=>h pins s O H Q I (hi O H Q q)
def PA.imp {X:Cx}{e:List Expr}{t t':TA}(h:PA X e t) (hi:∀ O H Q,t' O H Q->t O H Q):PA X e t':=λ pos pins s O H Q I q=>h pos pins s O H Q I (hi O H Q q)
def PS.imp {X:Cx}{e:Stmt}{t t':TS}(h:PS X e t) (hi:∀ D O H,t' D O H->t D O H):PS X e t':=λ pins s O H Q I q=>h pins s O H Q I (hi Q O H q)
def wB.imp {X:Cx}{e:List Stmt}{t t':TS}(h:wB X e t) (hi:∀ D O H,t' D O H->t D O H):wB X e t':=λ pins s O H Q I q=>h pins s O H Q I (hi Q O H q)
section
variable {X:Cx}{K:Ac}
def zX.go {t:zy}{O:St}{H:Hp}{Q:VK}{Y:yr}{S:SS}{R:DK}(mo:yt t) (r1:xb K H Y O) (r2:zR K H S) (h:t Y S R) (k:∀ d S' v H',R d S'->zi K H' d v->Ext H H'->zR K H' S'->Q v H'):zX K t O H Q:=
 ⟨Y,S,r1,r2,mo Y S _ _ (λ d S' q v H' a b c=>k d S' v H' q a b c) h⟩
def wK.go {t:yU}{O:St}{H:Hp}{Q:Bool->Hp->Prop}{Y:yr}{S:SS}{R:Bool->SS->Prop}(mo:vk t) (r1:xb K H Y O) (r2:zR K H S) (h:t Y S R) (k:∀ d S' H',R d S'->Ext H H'->zR K H' S'->Q d H'):wK K t O H Q:=
 ⟨Y,S,r1,r2,mo Y S _ _ (λ d S' q H' b c=>k d S' H' q b c) h⟩
def wY.go {t:yz}{O:St}{H:Hp}{Q:List V->Hp->Prop}{Y:yr}{S:SS}{R:List D->SS->Prop}(mo:r9 t) (r1:xb K H Y O) (r2:zR K H S) (h:t Y S R) (k:∀ d S' v H',R d S'->zq K H' d v->Ext H H'->zR K H' S'->Q v H'):wY K t O H Q:=
 ⟨Y,S,r1,r2,mo Y S _ _ (λ d S' q v H' a b c=>k d S' v H' q a b c) h⟩
def yO (i:Nat):zy:=fun Y S Q=>match Y[i]? with
 | some (some d)=>Q d S
 | _=>False
def dC (d:D):zy:=λ _ S Q=>Q d S
def Rp (i:Nat) {x:Str}{pos:Pos}(h:PE X (.Name x pos) (iV i)):PD X (.Name x pos) (yO i):=by
 refine⟨fun Y S Q Q' hq h=>?_,PE.imp h fun O H Q hu=>?_⟩
 .unfold yO at h ⊢;split at h
  .exact hq _ _ h
  .exact h
 .obtain⟨Y,S,r1,r2,h⟩:=hu;unfold yO at h;split at h
  .rename_i d e;obtain⟨v,h1,h2⟩:=r1.2 i d e;exact⟨v,h1,h v H h2 (Ext.refl H) r2⟩
  .exact h.elim
def dC.mo (d:D):yt (dC d):=λ _ _ _ _ hq h=>hq _ _ h
def mJ {e:Expr}{d:D}{v:V}(h:PE X e (tC v)) (r:∀ H,zi X.K H d v):PD X e (dC d):=
 ⟨dC.mo d,PE.imp h λ _ H _ ⟨_,_,_,r2,h⟩=>h v H (r H) (Ext.refl H) r2⟩
def zg {i j pos}:PD X (.Constant (.int i) j pos) (dC (.int i)):=mJ SN λ _=>by simp only[zi]
def tN {i j pos}:PD X (.Constant (.bool i) j pos) (dC (.bl i)):=mJ Rb λ _=>by simp only[zi]
def uV {j pos}:PD X (.Constant .none j pos) (dC .zl):=mJ SH λ _=>by simp only[zi]
def oJ {x j pos}:PD X (.Constant (.str x) j pos) (dC (.str x)):=mJ SA λ _=>by simp only[zi]
abbrev yW:=D->D->SS->DK->Prop
def xJ (f:yW):Prop:=∀ x y S (Q Q':DK),(∀ d S',Q d S'->Q' d S')->f x y S Q->f x y S Q'
def xB (K:Ac) (f:yW) (r:R2):Prop:=∀ x y d e H S Q,zi K H d x->zi K H e y->zR K H S->f d e S (wW K H Q)->r x y H Q
def yF (f:yW) (ta tb:zy):zy:=fun Y S Q=>ta Y S λ x S1=>tb Y S1 λ y S2=>f x y S2 Q
def yF.mo {f:yW}{ta tb:zy}(hf:xJ f) (ha:yt ta) (hb:yt tb):yt (yF f ta tb):=fun Y S Q Q' hq h=>
 ha Y S _ _ (λ x S1 h=>hb Y S1 _ _ (λ y S2 h=>hf x y S2 _ _ hq h) h) h
def k9 {f:yW}{r:R2}{ta tb:zy}(hr:xB K f r) (hf:xJ f) (ha:yt ta) (hb:yt tb) {O:St}{H:Hp}{Q:VK}(h:zX K (yF f ta tb) O H Q):mj r (zX K ta) (zX K tb) O H Q:=by
 obtain⟨Y,S,r1,r2,h⟩:=h;refine zX.go ha r1 r2 h λ x S1 v H1 h1 q1 e1 p1=>?_;refine zX.go hb (r1.ext e1) p1 h1 λ y S2 w H2 h2 q2 e2 p2=>?_;exact hr v w x y H2 S2 Q (zi.ext e2 x q1) q2 p2 (hf x y S2 _ _ (λ d S' z=>z.ext (e1.trans e2)) h2)
def oK {a b:Expr}{op:Operator}{pos:Pos}{f:yW}{r:R2}{ta tb:zy}(ho:yj X (binaryOp op) r) (hr:xB X.K f r) (hf:xJ f) (ha:PD X a ta) (hb:PD X b tb):PD X (.BinOp a op b pos) (yF f ta tb):=
 ⟨yF.mo hf ha.mo hb.mo,PE.imp (SE ho ha.pe hb.pe) λ _ _ _ h=>k9 hr hf ha.mo hb.mo h⟩
def jl {a b:Expr}{op:CmpOp}{pos:Pos}{f:yW}{r:R2}{ta tb:zy}(ho:yj X (compareOp op) r) (hr:xB X.K f r) (hf:xJ f) (ha:PD X a ta) (hb:PD X b tb) (hm:behindInMarks op b=false):PD X (.Compare a [op] [b] pos) (yF f ta tb):=
 ⟨yF.mo hf ha.mo hb.mo,PE.imp (SX ho ha.pe hb.pe hm) λ _ _ _ h=>k9 hr hf ha.mo hb.mo h⟩
def vy (t:zy):yU:=fun Y S Q=>t Y S λ x S1=>match x with
 | .bl b=>Q b S1
 | _=>False
def vy.mo {t:zy}(h:yt t):vk (vy t):=fun Y S Q Q' hq q=>h Y S _ _ (λ d S' z=>by
 cases d <;> first
  | exact hq _ _ z
  | exact z) q
def rZ {a b:Expr}{op:CmpOp}{pos:Pos}{f:yW}{r:R2}{ta tb:zy}(ho:yj X (compareOp op) r) (hr:xB X.K f r) (hf:xJ f) (ha:PD X a ta) (hb:PD X b tb) (hm:behindInMarks op b=false):xU X (.Compare a [op] [b] pos) (vy (yF f ta tb)):=by
 refine⟨vy.mo (yF.mo hf ha.mo hb.mo),PT.imp (T6 ho ha.pe hb.pe hm) fun O H Q h=>?_⟩;obtain⟨Y,S,r1,r2,h⟩:=h;refine k9 hr hf ha.mo hb.mo ⟨Y,S,r1,r2,yF.mo hf ha.mo hb.mo Y S _ _ (λ d S' z v H' a b c=>?_) h⟩;cases d with
 | bl k=>simp only[zi] at a;exact⟨k,a,z H' b c⟩
 | zl=>exact z.elim
 | int _=>exact z.elim
 | str _=>exact z.elim
 | tup _=>exact z.elim
 | yN _=>exact z.elim
 | ref _=>exact z.elim
def fI (C:Int->Int->Prop) (g:Int->Int->D):yW:=λ x y S Q=>match x,y with
 | .int i,.int j=>C i j/\Q (g i j) S
 | _,_=>False
def fI.mo {C:Int->Int->Prop}{g:Int->Int->D}:xJ (fI C g):=λ x y S Q Q' hq h=>by
 unfold fI at h ⊢;split at h
 .exact⟨h.1,hq _ _ h.2⟩
 .exact h.elim
def xA (g:Int->Int->D):yW:=λ x y S Q=>match x,y with
 | .int i,.int j=>Q (g i j) S
 | _,_=>False
def xA.mo {g:Int->Int->D}:xJ (xA g):=λ x y S Q Q' hq h=>by
 unfold xA at h ⊢;split at h
 .exact hq _ _ h
 .exact h.elim
def fI.fits {C:Int->Int->Prop}{g:Int->Int->D}{g':Int->Int->V}(hg:∀ i j H,zi K H (g i j) (g' i j)):xB K (fI C g) (rI C g'):=λ x y d e H S Q h1 h2 h3 h=>by
 unfold fI at h;split at h
 .simp only[zi] at h1 h2;exact⟨_,_,h1,h2,h.1,h.2 _ H (hg _ _ H) (Ext.refl H) h3⟩
 .exact h.elim
def xA.fits {g:Int->Int->D}{g':Int->Int->V}(hg:∀ i j H,zi K H (g i j) (g' i j)):xB K (xA g) (vo g'):=λ x y d e H S Q h1 h2 h3 h=>by
 unfold xA at h;split at h
 .simp only[zi] at h1 h2;exact⟨_,_,h1,h2,h _ H (hg _ _ H) (Ext.refl H) h3⟩
 .exact h.elim
variable {a b:Expr}{ta tb:zy}{pos:Pos}
def va (ha:PD X a ta) (hb:PD X b tb):PD X (.BinOp a .Sub b pos) (yF (xA λ i j=>.int (i-j)) ta tb):=oK RD (xA.fits λ _ _ _=>by simp only[zi]) xA.mo ha hb
def yB (ha:PD X a ta) (hb:PD X b tb):PD X (.BinOp a .Mod b pos) (yF (fI (λ _ j=>0<j) λ i j=>.int (i%j)) ta tb):=oK RL (fI.fits λ _ _ _=>by simp only[zi]) fI.mo ha hb
def wz (ha:PD X a ta) (hb:PD X b tb):PD X (.BinOp a .FloorDiv b pos) (yF (fI wx λ i j=>.int (i/j)) ta tb):=oK RT (fI.fits λ _ _ _=>by simp only[zi]) fI.mo ha hb
def ZK (ha:PD X a ta) (hb:PD X b tb):PD X (.BinOp a .Pow b pos) (yF (fI rL λ i j=>.int (i ^ j.toNat)) ta tb):=oK RE (fI.fits λ _ _ _=>by simp only[zi]) fI.mo ha hb
abbrev dA:yW:=xA λ i j=>.bl (decide (i<=j))
abbrev jM:yW:=xA λ i j=>.bl (decide (j<i))
abbrev jN:yW:=xA λ i j=>.bl (decide (j<=i))
def fit_le:xB K dA (vo λ i j=>.bl (decide (i<=j))):=xA.fits λ _ _ _=>by simp only[zi]
def Xl:xB K jM (vo λ i j=>.bl (decide (j<i))):=xA.fits λ _ _ _=>by simp only[zi]
def Xm:xB K jN (vo λ i j=>.bl (decide (j<=i))):=xA.fits λ _ _ _=>by simp only[zi]
def ZO (ha:PD X a ta) (hb:PD X b tb):PD X (.Compare a [.Gt] [b] pos) (yF jM ta tb):=jl ZV Xl xA.mo ha hb (uW _)
def ZR (ha:PD X a ta) (hb:PD X b tb):PD X (.Compare a [.GtE] [b] pos) (yF jN ta tb):=jl ZW Xm xA.mo ha hb (uW _)
def Rf (ha:PD X a ta) (hb:PD X b tb):xU X (.Compare a [.LtE] [b] pos) (vy (yF dA ta tb)):=rZ jo fit_le xA.mo ha hb (uW _)
def fE (ha:PD X a ta) (hb:PD X b tb):xU X (.Compare a [.Gt] [b] pos) (vy (yF jM ta tb)):=rZ ZV Xl xA.mo ha hb (uW _)
def ji (ha:PD X a ta) (hb:PD X b tb):xU X (.Compare a [.GtE] [b] pos) (vy (yF jN ta tb)):=rZ ZW Xm xA.mo ha hb (uW _)
end
section
variable {X:Cx}{K:Ac}{a b c:Expr}{ta tb:zy}{pos:Pos}
def lA (ta tb:zy):zy:=fun Y S Q=>ta Y S λ x S1=>match x with
 | .bl k=>if k=true then tb Y S1 Q else Q (.bl false) S1
 | _=>False
def l6 (ta:zy):zy:=fun Y S Q=>ta Y S λ x S1=>match x with
 | .bl k=>Q (.bl (!k)) S1
 | _=>False
def vq {c:Prop} [Decidable c] {A B A' B':Prop}(h1:A->A') (h2:B->B') (h:if c then A else B):if c then A' else B':=by
 by_cases q:c
 .rw[if_pos q] at h ⊢;exact h1 h
 .rw[if_neg q] at h ⊢;exact h2 h
def lA.mo (ha:yt ta) (hb:yt tb):yt (lA ta tb):=fun Y S Q Q' hq h=>ha Y S _ _ (λ x S1 z=>by
 cases x <;> first
  | exact vq (hb Y S1 _ _ hq) (hq _ _) z
  | exact z) h
def l6.mo (ha:yt ta):yt (l6 ta):=fun Y S Q Q' hq h=>ha Y S _ _ (λ x S1 z=>by
 cases x <;> first
  | exact hq _ _ z
  | exact z) h
def mH {op} {t:zy}(h:PD X a t):PD X (.BoolOp op [a] pos) t:=⟨h.mo,SF h.pe⟩
variable {rest:List Expr}
def mK (ha:PD X a ta) (hb:PD X (.BoolOp .And (b::rest) pos) tb):PD X (.BoolOp .And (a::b::rest) pos) (lA ta tb):=by
 refine⟨lA.mo ha.mo hb.mo,PE.imp (Rc ha.pe hb.pe) fun O H Q hu=>?_⟩;obtain⟨Y,S,r1,r2,h⟩:=hu;refine zX.go ha.mo r1 r2 h λ x S1 v H1 h1 q1 e1 p1=>?_;cases x with
 | bl k=>
  simp only[zi] at q1;refine⟨k,q1,vq (λ z=>?_) (λ z=>?_) h1⟩
  .exact zX.go hb.mo (r1.ext e1) p1 z λ y S2 w H2 h2 q2 e2 p2=>h2 w H2 q2 (e1.trans e2) p2
  .exact z _ H1 (by simp only[zi]) e1 p1
 | zl=>exact h1.elim
 | int _=>exact h1.elim
 | str _=>exact h1.elim
 | tup _=>exact h1.elim
 | yN _=>exact h1.elim
 | ref _=>exact h1.elim
def Rq (ha:PD X a ta):PD X (.UnaryOp .Not a pos) (l6 ta):=by
 refine⟨l6.mo ha.mo,PE.imp (SG ha.pe) fun O H Q hu=>?_⟩;obtain⟨Y,S,r1,r2,h⟩:=hu;refine zX.go ha.mo r1 r2 h λ x S1 v H1 h1 q1 e1 p1=>?_;cases x with
 | bl k=>
  simp only[zi] at q1;exact⟨k,q1,h1 _ H1 (by simp only[zi]) e1 p1⟩
 | zl=>exact h1.elim
 | int _=>exact h1.elim
 | str _=>exact h1.elim
 | tup _=>exact h1.elim
 | yN _=>exact h1.elim
 | ref _=>exact h1.elim
def lq (t u:yU):yU:=fun Y S Q=>t Y S λ k S1=>if k=true then u Y S1 Q else Q false S1
def lj (t u:yU):yU:=fun Y S Q=>t Y S λ k S1=>if k=true then Q true S1 else u Y S1 Q
def lp (t:yU):yU:=fun Y S Q=>t Y S λ k S1=>Q (!k) S1
variable {t u:yU}
def lq.mo (h:vk t) (h':vk u):vk (lq t u):=fun Y S _ _ hq z=>h Y S _ _ (λ k S1 z=>vq (h' Y S1 _ _ hq) (hq _ _) z) z
def lj.mo (h:vk t) (h':vk u):vk (lj t u):=fun Y S _ _ hq z=>h Y S _ _ (λ k S1 z=>vq (hq _ _) (h' Y S1 _ _ hq) z) z
def lp.mo (h:vk t):vk (lp t):=fun Y S _ _ hq z=>h Y S _ _ (λ k S1 z=>hq _ _ z) z
structure xT (X:Cx) (e:Expr) (t:yU):Prop where
 mo:vk t
 pw:PW X e (wK X.K t)
def PW.imp {e:Expr}{t t':TT}(h:PW X e t) (hi:∀ O H Q,t' O H Q->t O H Q):PW X e t':=λ whole pins s O H Q I q=>h whole pins s O H Q I (hi O H Q q)
theorem xT.pt {e:Expr}{t:yU}(h:xT X e t):xU X e t:=⟨h.mo,PW.pt h.pw⟩
def oE (h:xU X a t):xT X (.BoolOp .And [a] pos) t:=⟨h.mo,Tx h.pt⟩
def rY (h:xU X a t):xT X (.BoolOp .Or [a] pos) t:=⟨h.mo,Tv h.pt⟩
def oG (ha:xU X a t) (hb:xT X (.BoolOp .And (b::rest) pos) u):xT X (.BoolOp .And (a::b::rest) pos) (lq t u):=by
 refine⟨lq.mo ha.mo hb.mo,PW.imp (Tz ha.pt hb.pw) fun O H Q hu=>?_⟩;obtain⟨Y,S,r1,r2,h⟩:=hu;refine wK.go ha.mo r1 r2 h λ k S1 H1 h1 e1 p1=>vq (λ z=>?_) (λ z=>z H1 e1 p1) h1;exact wK.go hb.mo (r1.ext e1) p1 z λ y S2 H2 h2 e2 p2=>h2 H2 (e1.trans e2) p2
def sM (ha:xU X a t) (hb:xT X (.BoolOp .Or (b::rest) pos) u):xT X (.BoolOp .Or (a::b::rest) pos) (lj t u):=by
 refine⟨lj.mo ha.mo hb.mo,PW.imp (Tw ha.pt hb.pw) fun O H Q hu=>?_⟩;obtain⟨Y,S,r1,r2,h⟩:=hu;refine wK.go ha.mo r1 r2 h λ k S1 H1 h1 e1 p1=>vq (λ z=>z H1 e1 p1) (λ z=>?_) h1;exact wK.go hb.mo (r1.ext e1) p1 z λ y S2 H2 h2 e2 p2=>h2 H2 (e1.trans e2) p2
def tK (ha:xU X a t):xU X (.UnaryOp .Not a pos) (lp t):=by
 refine⟨lp.mo ha.mo,PT.imp (T5 ha.pt) fun O H Q hu=>?_⟩;obtain⟨Y,S,r1,r2,h⟩:=hu;exact wK.go ha.mo r1 r2 h λ k S1 H1 h1 e1 p1=>h1 H1 e1 p1
def l8 (t:yU) (ta tb:zy):zy:=fun Y S Q=>t Y S λ k S1=>if k=true then ta Y S1 Q else tb Y S1 Q
def l8.mo (h:vk t) (ha:yt ta) (hb:yt tb):yt (l8 t ta tb):=fun Y S _ _ hq z=>h Y S _ _ (λ k S1 z=>vq (ha Y S1 _ _ hq) (hb Y S1 _ _ hq) z) z
def Ry (hc:xU X c t) (ha:PD X a ta) (hb:PD X b tb):PD X (.IfExp c a b pos) (l8 t ta tb):=by
 refine⟨l8.mo hc.mo ha.mo hb.mo,PE.imp (SO hc.pt ha.pe hb.pe) fun O H Q hu=>?_⟩;obtain⟨Y,S,r1,r2,h⟩:=hu;refine wK.go hc.mo r1 r2 h λ k S1 H1 h1 e1 p1=>vq (λ z=>?_) (λ z=>?_) h1
 .exact zX.go ha.mo (r1.ext e1) p1 z λ y S2 w H2 h2 q2 e2 p2=>h2 w H2 q2 (e1.trans e2) p2
 .exact zX.go hb.mo (r1.ext e1) p1 z λ y S2 w H2 h2 q2 e2 p2=>h2 w H2 q2 (e1.trans e2) p2
def vR (d:D) (S:SS) (Q:Bool->SS->Prop):Prop:=match d with
 | .zl=>Q false S
 | .bl k=>Q k S
 | .int i=>Q (i != 0) S
 | .str x=>x.length<=sizeLine/\Q ((x.length:Int) != 0) S
 | .tup ds=>Q (!ds.isEmpty) S
 | .yN ds=>Q (!ds.isEmpty) S
 | .ref p=>match S p with
  | some (.lst ds)=>Q (!ds.isEmpty) S
  | some (.yq Aa)=>Q (!Aa.isEmpty) S
  | none=>False
def X0 (ta:zy):yU:=fun Y S Q=>ta Y S λ x S1=>vR x S1 Q
def vR.mo {d:D}{S:SS}{Q Q':Bool->SS->Prop}(hq:∀ k S',Q k S'->Q' k S') (h:vR d S Q):vR d S Q':=by
 cases d with
 | str x=>exact⟨h.1,hq _ _ h.2⟩
 | ref p=>
  unfold vR at h ⊢;dsimp only at h ⊢;split at h
  .exact hq _ _ h
  .exact hq _ _ h
  .exact h
 | _=>exact hq _ _ h
theorem zq.isEmpty {H:Hp}{ds:List D}{xs:List V}(h:zq K H ds xs):ds.isEmpty=xs.isEmpty:=by
 have:=h.length;cases ds <;> cases xs <;> simp_all
def LG {α β:Type}{F:α->β->Prop}{xs:List α}{ys:List β}(h:Paired F xs ys):xs.isEmpty=ys.isEmpty:=by cases h <;> rfl
def vR.fits {H:Hp}{d:D}{v:V}{S:SS}{Q:Bool->Hp->Prop}(r:zi K H d v) (p:zR K H S) (h:vR d S (ly K H Q)):∃ k,c6 K v H k/\Q k H:=by
 cases d with
 | zl=>simp only[zi] at r;subst r;exact⟨false,rfl,h H (.refl H) p⟩
 | bl k=>simp only[zi] at r;subst r;exact⟨k,rfl,h H (.refl H) p⟩
 | int i=>simp only[zi] at r;subst r;exact⟨_,rfl,h H (.refl H) p⟩
 | str x=>simp only[zi] at r;subst r;exact⟨_,⟨h.1,rfl⟩,h.2 H (.refl H) p⟩
 | tup ds=>
  simp only[zi] at r;obtain⟨a,xs,rfl,r1,r2⟩:=r;exact⟨_,.inr (.inl ⟨xs,r1,by rw[r2.isEmpty]⟩),h H (.refl H) p⟩
 | yN ds=>
  simp only[zi] at r;obtain⟨a,xs,rfl,r1,r2⟩:=r;exact⟨_,.inl ⟨xs,r1.sq,by rw[r2.isEmpty]⟩,h H (.refl H) p⟩
 | ref a=>
  simp only[zi] at r;subst r;unfold vR at h;dsimp only at h;split at h
  .rename_i ds e;obtain⟨xs,e1,r2⟩:=p a _ e;exact⟨_,.inl ⟨xs,zT.of e1,by rw[r2.isEmpty]⟩,h H (.refl H) p⟩
  .rename_i Aa e;obtain⟨xs,e1,r2⟩:=p a _ e;exact⟨_,.inr (.inr ⟨xs,e1,by rw[LG r2]⟩),h H (.refl H) p⟩
  .exact h.elim
def vV (ha:PD X a ta) (he:∀ whole,isTrue a X.env whole=(do let v <- whole;standAt a.pos;holding [v] (truthy v)):=by intro _;rfl):xU X a (X0 ta):=by
 refine⟨fun Y S Q Q' hq h=>ha.mo Y S _ _ (λ x S1 z=>vR.mo hq z) h,PT.imp (T4 ha.pe he) fun O H Q hu=>?_⟩;obtain⟨Y,S,r1,r2,h⟩:=hu;refine zX.go ha.mo r1 r2 h λ x S1 v H1 h1 q1 e1 p1=>?_;exact vR.fits q1 p1 (vR.mo (λ k S' z=>z.ext e1) h1)
def jR:yz:=λ _ S Q=>Q [] S
def pK (te:zy) (tr:yz):yz:=fun Y S Q=>te Y S λ x S1=>tr Y S1 λ xs S2=>Q (x::xs) S2
variable {e:Expr}{es:List Expr}{te:zy}{tA:yz}
def pK.mo (h:yt te) (h':r9 tA):r9 (pK te tA):=fun Y S _ _ hq z=>h Y S _ _ (λ x S1 z=>h' Y S1 _ _ (λ xs S2 z=>hq _ _ z) z) z
def zm:xH X [] jR:=⟨λ _ _ _ _ hq h=>hq _ _ h,PA.imp pj fun O H Q ⟨_,_,_,r2,h⟩=>h [] H .nil (.refl H) r2⟩
def ze (ha:PD X e te) (hr:xH X es tA) (hs:starEach (e::es) X.env=(false,eval e X.env)::starEach es X.env:=by rfl):xH X (e::es) (pK te tA):=by
 refine⟨pK.mo ha.mo hr.mo,PA.imp (qa ha.pe hr.pa hs) fun O H Q hu=>?_⟩;obtain⟨Y,S,r1,r2,h⟩:=hu;refine zX.go ha.mo r1 r2 h λ x S1 v H1 h1 q1 e1 p1=>?_;refine wY.go hr.mo (r1.ext e1) p1 h1 λ xs S2 w H2 h2 q2 e2 p2=>?_;exact h2 (v::w) H2 (.cons (zi.ext e2 x q1) q2) (e1.trans e2) p2
def XB (t:yz):zy:=fun Y S Q=>t Y S λ ds S1=>ds.length<=sizeLine/\Q (.tup ds) S1
def XG (t:yz):zy:=fun Y S Q=>t Y S λ ds S1=>ds.length<=sizeLine/\∀ p,S1 p=none->Q (.ref p) (ups S1 p (.lst ds))
def xm {k} (h:xH X es tA):PD X (.Tuple es k pos) (XB tA):=by
 refine⟨fun Y S _ _ hq z=>h.mo Y S _ _ (λ ds S1 z=>⟨z.1,hq _ _ z.2⟩) z,PE.imp (S9 h.pa) fun O H Q hu=>?_⟩;obtain⟨Y,S,r1,r2,h'⟩:=hu;refine wY.go h.mo r1 r2 h' λ ds S1 xs H1 h1 q1 e1 p1=>⟨by rw[<- q1.length];exact h1.1,λ p hp=>?_⟩;refine h1.2 _ _ ?_ (e1.trans (.new hp _)) (p1.new hp);simp only[zi];exact⟨p,xs,rfl,ye.of yR,zq.ext (.new hp _) ds q1⟩
def xM (h:xH X es tA):PD X (.List es pos) (XG tA):=by
 refine⟨fun Y S _ _ hq z=>h.mo Y S _ _ (λ ds S1 z=>⟨z.1,λ p hp=>hq _ _ (z.2 p hp)⟩) z,PE.imp (SJ h.pa) fun O H Q hu=>?_⟩;obtain⟨Y,S,r1,r2,h'⟩:=hu;refine wY.go h.mo r1 r2 h' λ ds S1 xs H1 h1 q1 e1 p1=>⟨by rw[<- q1.length];exact h1.1,λ p hp=>?_⟩;refine h1.2 p (p1.none hp) _ _ (by simp only[zi]) (e1.trans (.new hp _)) ?_;exact p1.ups (.new hp _) ⟨xs,yR,zq.ext (.new hp _) ds q1⟩
def wU:yW:=λ x y S Q=>match x,y with
 | .tup ds,.int i=>match zZ ds i with
  | some d=>Q d S
  | none=>False
 | .yN ds,.int i=>match zZ ds i with
  | some d=>Q d S
  | none=>False
 | .ref p,.int i=>match S p with
  | some (.lst ds)=>match zZ ds i with
   | some d=>Q d S
   | none=>False
  | _=>False
 | _,_=>False
def wU.mo:xJ wU:=λ x y S Q Q' hq h=>by
 unfold wU at h ⊢;split at h
 .skip
  split at h
  .exact hq _ _ h
  .exact h
 .skip
  split at h
  .exact hq _ _ h
  .exact h
 .skip
  split at h
  .skip
   split at h
   .exact hq _ _ h
   .exact h
  .exact h.elim
 .exact h.elim
theorem zq.zZ {H:Hp}{ds:List D}{xs:List V}{i:Int}{d:D}(h:zq K H ds xs) (e:L2.zZ ds i=some d):∃ x,L2.zZ xs i=some x/\zi K H d x:=by
 unfold L2.zZ at e ⊢;rw[h.length] at e;cases q:wR xs.length i with
 | none=>rw[q] at e;cases e
 | some j=>
  rw[q] at e;exact h.get e
def wU.fits:xB K wU (Z2 K):=λ x y d e H S Q h1 h2 h3 h=>by
 unfold wU at h;split at h
 .split at h
  .rename_i q;simp only[zi] at h1 h2;obtain⟨a,xs,rfl,r1,r2⟩:=h1;obtain⟨x',e1,e2⟩:=r2.zZ q;exact .inr (.inl ⟨a,xs,_,x',rfl,h2,r1,e1,h x' H e2 (.refl H) h3⟩)
  .exact h.elim
 .split at h
  .rename_i q;simp only[zi] at h1 h2;obtain⟨a,xs,rfl,r1,r2⟩:=h1;obtain⟨x',e1,e2⟩:=r2.zZ q;exact .inl ⟨a,xs,_,x',rfl,h2,r1.sq,e1,h x' H e2 (.refl H) h3⟩
  .exact h.elim
 .split at h
  .rename_i q0;split at h
   .rename_i q;simp only[zi] at h1 h2;subst h1;obtain⟨xs,r1,r2⟩:=h3 _ _ q0;obtain⟨x',e1,e2⟩:=r2.zZ q;exact .inl ⟨_,xs,_,x',rfl,h2,zT.of r1,e1,h x' H e2 (.refl H) h3⟩
   .exact h.elim
  .exact h.elim
 .exact h.elim
def zu (ha:PD X a ta) (hb:PD X b tb) (hs:W7 b:=by exact λ _ _=>rfl):PD X (.Subscript a b pos) (yF wU ta tb):=
 ⟨yF.mo wU.mo ha.mo hb.mo,PE.imp (SM OX ha.pe hb.pe hs) λ _ _ _ h=>k9 wU.fits wU.mo ha.mo hb.mo h⟩
abbrev xS:=List D->SS->DK->Prop
def vN (f:xS):Prop:=∀ ds S (Q Q':DK),(∀ d S',Q d S'->Q' d S')->f ds S Q->f ds S Q'
def uP (K:Ac) (f:xS) (r:List V->Hp->VK->Prop):Prop:=∀ xs ds H S Q,zq K H ds xs->zR K H S->f ds S (wW K H Q)->r xs H Q
def xR (f:xS) (t:yz):zy:=fun Y S Q=>t Y S λ ds S1=>f ds S1 Q
def xR.mo {f:xS}(hf:vN f) (h:r9 tA):yt (xR f tA):=fun Y S _ _ hq z=>h Y S _ _ (λ ds S1 z=>hf ds S1 _ _ hq z) z
def aG {f:xS}{r:List V->Hp->VK->Prop}(hf:vN f) (hr:uP K f r) (h:r9 tA) {O:St}{H:Hp}{Q:VK}(hu:zX K (xR f tA) O H Q):kF r (wY K tA) O H Q:=by
 obtain⟨Y,S,r1,r2,h'⟩:=hu;refine wY.go h r1 r2 h' λ ds S1 xs H1 h1 q1 e1 p1=>?_;exact hr xs ds H1 S1 Q q1 p1 (hf ds S1 _ _ (λ d S' z=>z.ext e1) h1)
def uU {f:xS}{r:List V->Hp->VK->Prop}{e:Expr}(h:PE X e (kF r (wY X.K tA))) (hf:vN f) (hr:uP X.K f r) (ha:r9 tA):PD X e (xR f tA):=
 ⟨xR.mo hf ha,PE.imp h λ _ _ _ hu=>aG hf hr ha hu⟩
noncomputable def zV (d:D) (S:SS):Option (List D):=match d with
 | .tup ds=>some ds
 | .yN ds=>some ds
 | .ref p=>match S p with
  | some (.lst ds)=>some ds
  | _=>none
 | _=>none
theorem zV.sq {H:Hp}{S:SS}{d:D}{v:V}{ds:List D}(r:zi K H d v) (p:zR K H S) (e:zV d S=some ds):∃ a xs,v=.ref a/\(zT K H a xs\/ye K H a xs)/\zq K H ds xs:=by
 unfold zV at e;split at e
 .cases e;simp only[zi] at r;obtain⟨a,xs,h1,h2,h3⟩:=r;exact⟨a,xs,h1,.inr h2,h3⟩
 .cases e;simp only[zi] at r;obtain⟨a,xs,h1,h2,h3⟩:=r;exact⟨a,xs,h1,.inl h2.sq,h3⟩
 .split at e
  .rename_i q;cases e;simp only[zi] at r;subst r;obtain⟨xs,h1,h2⟩:=p _ _ q;exact⟨_,xs,rfl,.inl (zT.of h1),h2⟩
  .cases e
 .cases e
def zq.one {H:Hp}{d:D}{xs:List V}(h:zq K H [d] xs):∃ x,xs=[x]/\zi K H d x:=by
 simp only[zq] at h;obtain⟨x,r,rfl,h2,rfl⟩:=h;exact⟨x,rfl,h2⟩
def zq.two {H:Hp}{d d':D}{xs:List V}(h:zq K H [d,d'] xs):∃ x y,xs=[x,y]/\zi K H d x/\zi K H d' y:=by
 simp only[zq] at h;obtain⟨x,r,rfl,h2,y,r',rfl,h3,rfl⟩:=h;exact⟨x,y,rfl,h2,h3⟩
def uC:xS:=λ ds S Q=>match ds with
 | [d]=>match zV d S with
  | some ds=>Q (.int ds.length) S
  | none=>match d with
   | .str z=>z.length<=sizeLine/\Q (.int z.length) S
   | _=>False
 | _=>False
def uC.mo:vN uC:=λ ds S Q Q' hq h=>by
 unfold uC at h ⊢;split at h
 .skip
  split at h
  .exact hq _ _ h
  .split at h
   .exact⟨h.1,hq _ _ h.2⟩
   .exact h.elim
 .exact h.elim
abbrev Tt (K:Ac):List V->Hp->VK->Prop:=λ xs H Q=>(∃ p ys,xs=[.ref p]/\(zT K H p ys\/ye K H p ys)/\Q (.int ys.length) H)\/(∃ z,xs=[.str z]/\z.length<=sizeLine/\Q (.int z.length) H)
def uC.fits:uP K uC (Tt K):=λ xs ds H S Q h0 h2 h=>by
 unfold uC at h;split at h
 .obtain⟨x,hx,h1⟩:=h0.one;subst hx;split at h
  .rename_i e;obtain⟨a,ys,rfl,q,r⟩:=zV.sq h1 h2 e;refine .inl ⟨a,ys,rfl,q,?_⟩;rw[<- r.length];exact h _ H (by simp only[zi]) (.refl H) h2
  .split at h
   .simp only[zi] at h1;subst h1;exact .inr ⟨_,rfl,h.1,h.2 _ H (by simp only[zi]) (.refl H) h2⟩
   .exact h.elim
 .exact h.elim
def uB:xS:=λ ds S Q=>match ds with
 | [d]=>match zV d S with
  | some ds=>∀ p,S p=none->Q (.ref p) (ups S p (.lst ds))
  | none=>False
 | _=>False
def uB.mo:vN uB:=λ ds S Q Q' hq h=>by
 unfold uB at h ⊢;split at h
 .skip
  split at h
  .exact λ p hp=>hq _ _ (h p hp)
  .exact h.elim
 .exact h.elim
def uB.fits:uP K uB (λ xs H Q=>∃ p ys,xs=[.ref p]/\(zT K H p ys\/ye K H p ys)/\∀ l,H l=none->Q (.ref l) (upd H l (.lst ys))):=λ xs ds H S Q h0 h2 h=>by
 unfold uB at h;split at h
 .obtain⟨x,hx,h1⟩:=h0.one;subst hx;split at h
  .rename_i e;obtain⟨a,ys,rfl,q,r⟩:=zV.sq h1 h2 e;refine⟨a,ys,rfl,q,λ l hl=>?_⟩;exact h l (h2.none hl) _ _ (by simp only[zi]) (.new hl _) (h2.ups (.new hl _) ⟨ys,yR,zq.ext (.new hl _) _ r⟩)
  .exact h.elim
 .exact h.elim
def uA:xS:=λ ds S Q=>match ds with
 | [.tup ds]=>Q (.tup ds) S
 | [.yN ds]=>Q (.tup ds) S
 | [.ref p]=>match S p with
  | some (.lst ds)=>Q (.tup ds) S
  | _=>False
 | _=>False
def uA.mo:vN uA:=λ ds S Q Q' hq h=>by
 unfold uA at h ⊢;split at h
 .exact hq _ _ h
 .exact hq _ _ h
 .skip
  split at h
  .exact hq _ _ h
  .exact h.elim
 .exact h.elim
def uA.fits:uP K uA (λ xs H Q=>∃ p ys,xs=[.ref p]/\((zT K H p ys/\∀ l,H l=none->Q (.ref l) (upd H l (.tup ys)))\/(ye K H p ys/\Q (.ref p) H))):=λ xs ds H S Q h0 h2 h=>by
 unfold uA at h;split at h
 .obtain⟨x,hx,h1⟩:=h0.one;subst hx;have h1':=h1;simp only[zi] at h1;obtain⟨a,xs,rfl,r1,r2⟩:=h1;exact⟨a,xs,rfl,.inr ⟨r1,h _ H h1' (.refl H) h2⟩⟩
 .obtain⟨x,hx,h1⟩:=h0.one;subst hx;simp only[zi] at h1;obtain⟨a,xs,rfl,r1,r2⟩:=h1;refine⟨a,xs,rfl,.inl ⟨r1.sq,λ l hl=>h _ _ ?_ (.new hl _) (h2.new hl)⟩⟩;simp only[zi];exact⟨l,xs,rfl,ye.of yR,zq.ext (.new hl _) _ r2⟩
 .obtain⟨x,hx,h1⟩:=h0.one;subst hx;split at h
  .rename_i e;simp only[zi] at h1;subst h1;obtain⟨xs,r1,r2⟩:=h2 _ _ e;refine⟨_,xs,rfl,.inl ⟨zT.of r1,λ l hl=>h _ _ ?_ (.new hl _) (h2.new hl)⟩⟩;simp only[zi];exact⟨l,xs,rfl,ye.of yR,zq.ext (.new hl _) _ r2⟩
  .exact h.elim
 .exact h.elim
def uc (g:Int->Int->D):xS:=λ ds S Q=>match ds with
 | [.int i,.int j]=>Q (g i j) S
 | _=>False
def uc.mo {g:Int->Int->D}:vN (uc g):=λ ds S Q Q' hq h=>by
 unfold uc at h ⊢;split at h
 .exact hq _ _ h
 .exact h.elim
def uc.fits {g:Int->Int->D}{g':Int->Int->V}(hg:∀ i j H,zi K H (g i j) (g' i j)):uP K (uc g) (λ xs H Q=>∃ i j,xs=[.int i,.int j]/\Q (g' i j) H):=λ xs ds H S Q h0 h2 h=>by
 unfold uc at h;split at h
 .obtain⟨x,y,hx,h1,h3⟩:=h0.two;subst hx;simp only[zi] at h1 h3;subst h1 h3;exact⟨_,_,rfl,h _ H (hg _ _ H) (.refl H) h2⟩
 .exact h.elim
def zad:yW:=λ x y S Q=>match x,y with
 | .ref p,.ref q=>match S p,S q with
  | some (.lst ds),some (.lst es)=>ds.length+es.length<=sizeLine/\∀ r,S r=none->Q (.ref r) (ups S r (.lst (ds++es)))
  | _,_=>False
 | _,_=>False
def qx (to te:zy):zy:=fun Y S Q=>to Y S λ x S1=>match x with
 | .ref p=>(∃ ds,S1 p=some (.lst ds))/\te Y S1 λ y S2=>match S2 p with
  | some (.lst ds)=>ds.length<sizeLine/\Q .zl (ups S2 p (.lst (ds++[y])))
  | _=>False
 | _=>False
def qx.mo {to te:zy}(h:yt to) (h':yt te):yt (qx to te):=fun Y S Q Q' hq z=>h Y S _ _ (λ x S1 z=>by
 cases x with
 | ref p=>
  refine⟨z.1,h' Y S1 _ _ (λ y S2 w=>?_) z.2⟩;split at w
  .exact⟨w.1,hq _ _ w.2⟩
  .exact w.elim
 | _=>exact z) z
def R7 {o e:Expr}{to te:zy}{e0:Expr}(Ef:PE X e0 (i_ X.K "list" Z9 (zX X.K to) (iY (zX X.K te) iW))) (h:yt to) (h':yt te):PD X e0 (qx to te):=by
 refine⟨qx.mo h h',PE.imp Ef fun O H Q hu=>?_⟩;obtain⟨Y,S,r1,r2,z⟩:=hu;refine zX.go h r1 r2 z λ x S1 v H1 h1 q1 e1 p1=>?_;cases x with
 | ref p=>
  obtain⟨⟨ds,hd⟩,h1⟩:=h1;simp only[zi] at q1;subst q1;obtain⟨xs,g1,g2⟩:=p1 _ _ hd;refine⟨.inl ⟨rfl,xs,zT.of g1⟩,?_⟩;refine zX.go h' (r1.ext e1) p1 h1 λ y S2 w H2 h2 q2 e2 p2=>?_;split at h2
  .rename_i ds' e3;obtain⟨xs',g3,g4⟩:=p2 _ _ e3;refine⟨p,xs',w,rfl,rfl,g3,by rw[<- g4.length];exact h2.1,?_⟩;have e4:Ext H2 (upd H2 p (.lst (xs'++[w]))):=.lst g3 _;exact h2.2 _ _ (by simp only[zi]) ((e1.trans e2).trans e4) (p2.ups e4 ⟨_,yR,zq.ext e4 _ (g4.snoc q2)⟩)
  .exact h2.elim
 | zl=>exact h1.elim
 | bl _=>exact h1.elim
 | int _=>exact h1.elim
 | str _=>exact h1.elim
 | tup _=>exact h1.elim
 | yN _=>exact h1.elim
end
structure qJ where
 nx:yr->SS->Prop
 rt:DK
 bk:yr->SS->Prop:=λ _ _=>False
 ct:yr->SS->Prop:=λ _ _=>False
abbrev y_:=qJ->yr->SS->Prop
structure qJ.Le (E E':qJ):Prop where
 nx:∀ Y S,E.nx Y S->E'.nx Y S
 rt:∀ d S,E.rt d S->E'.rt d S
 bk:∀ Y S,E.bk Y S->E'.bk Y S
 ct:∀ Y S,E.ct Y S->E'.ct Y S
def sr (t:y_):Prop:=∀ E E' Y S,qJ.Le E E'->t E Y S->t E' Y S
def tY (K:Ac) (H:Hp) (D:Ends):qJ:=⟨vG K H D.nx,wW K H D.rt,vG K H D.bk,vG K H D.ct⟩
theorem tY.ext {K:Ac}{H H':Hp}{D:Ends}(e:Ext H H'):(tY K H D).Le (tY K H' D):=⟨λ _ _ h=>vG.ext e h,λ _ _ h=>wW.ext e h,λ _ _ h=>vG.ext e h,λ _ _ h=>vG.ext e h⟩
def aB (K:Ac) (t:y_):TS:=λ D O H=>∃ Y S,xb K H Y O/\zR K H S/\t (tY K H D) Y S
structure ui (X:Cx) (st:Stmt) (t:y_):Prop where
 mo:sr t
 ps:PS X st (aB X.K t)
structure uL (X:Cx) (st:List Stmt) (t:y_):Prop where
 mo:sr t
 ps:wB X st (aB X.K t)
section
variable {X:Cx}{K:Ac}{st:Stmt}{rest:List Stmt}{t u:y_}{pos:Pos}{e:Expr}{te:zy}
def XD:y_:=λ E Y S=>E.nx Y S
def l5 (t u:y_):y_:=λ E Y S=>t { E with nx:=u E } Y S
def l5.mo (h:sr t) (h':sr u):sr (l5 t u):=λ E E' Y S hE z=>h { E with nx:=u E } { E' with nx:=u E' } Y S ⟨fun Y S q=>h' E E' Y S hE q,hE.rt,hE.bk,hE.ct⟩ z
def y9:uL X [] XD:=⟨λ _ _ _ _ hE h=>hE.nx _ _ h,wB.imp TB λ D O H ⟨Y,S,r1,r2,h⟩=>h O H r1 (.refl H) r2⟩
def zA (h:ui X st t):uL X [st] t:=⟨h.mo,T9 h.ps⟩
def zv (h:ui X st t) (h':uL X rest u):uL X (st::rest) (l5 t u):=by
 refine⟨l5.mo h.mo h'.mo,wB.imp (TC h.ps h'.ps) λ D O H hu=>?_⟩;obtain⟨Y,S,r1,r2,z⟩:=hu;refine⟨Y,S,r1,r2,h.mo { tY X.K H D with nx:=u (tY X.K H D) } _ Y S ⟨fun Y' S' q O' H' q1 q2 q3=>?_,λ _ _ q=>q,λ _ _ q=>q,λ _ _ q=>q⟩ z⟩;exact⟨Y',S',q1,q3,h'.mo _ _ Y' S' (tY.ext q2) q⟩
def jS (te:zy):y_:=λ E Y S=>te Y S λ _ S1=>E.nx Y S1
def wM (he:PD X e te) (hs:swapsWith e none pos.line X.env=pure false:=by rfl):ui X (.Expr e pos) (jS te):=by
 refine⟨λ E E' Y S hE z=>he.mo Y S _ _ (λ _ _ q=>hE.nx _ _ q) z,PS.imp (TQ he.pe hs) λ D O H hu=>?_⟩;obtain⟨Y,S,r1,r2,z⟩:=hu;exact zX.go he.mo r1 r2 z λ x S1 v H1 h1 q1 e1 p1=>h1 O H1 (r1.ext e1) e1 p1
def dR (te:zy):y_:=λ E Y S=>te Y S E.rt
def zO (he:PD X e te):ui X (.Return (some e) pos) (dR te):=by
 refine⟨λ E E' Y S hE z=>he.mo Y S _ _ (λ _ _ q=>hE.rt _ _ q) z,PS.imp (TK he.pe) λ D O H hu=>?_⟩;obtain⟨Y,S,r1,r2,z⟩:=hu;exact zX.go he.mo r1 r2 z λ x S1 v H1 h1 q1 e1 p1=>h1 v H1 q1 e1 p1
def XJ (c:yU) (t u:y_):y_:=λ E Y S=>c Y S λ k S1=>if k=true then t E Y S1 else u E Y S1
def yA {c:Expr}{p q:List Stmt}{tc:yU}(hc:xU X c tc) (h:uL X p t) (h':uL X q u):ui X (.If c p q pos) (XJ tc t u):=by
 refine⟨λ E E' Y S hE z=>hc.mo Y S _ _ (λ k S1 z=>vq (h.mo _ _ Y S1 hE) (h'.mo _ _ Y S1 hE) z) z,PS.imp (TL hc.pt h.ps h'.ps) λ D O H hu=>?_⟩;obtain⟨Y,S,r1,r2,z⟩:=hu;refine wK.go hc.mo r1 r2 z λ k S1 H1 h1 e1 p1=>vq (λ z=>?_) (λ z=>?_) h1
 .exact⟨Y,S1,r1.ext e1,p1,h.mo _ _ Y S1 (tY.ext e1) z⟩
 .exact⟨Y,S1,r1.ext e1,p1,h'.mo _ _ Y S1 (tY.ext e1) z⟩
abbrev xZ:=D->yr->SS->(yr->SS->Prop)->Prop
abbrev vi:=List D->yr->SS->(yr->SS->Prop)->Prop
def iw (t:xZ):Prop:=∀ d Y S (Q Q':yr->SS->Prop),(∀ Y S,Q Y S->Q' Y S)->t d Y S Q->t d Y S Q'
def WD (t:vi):Prop:=∀ d Y S (Q Q':yr->SS->Prop),(∀ Y S,Q Y S->Q' Y S)->t d Y S Q->t d Y S Q'
def kA (K:Ac) (t:xZ):TG:=λ v O H Q=>∃ d Y S,zi K H d v/\xb K H Y O/\zR K H S/\t d Y S (vG K H Q)
def aE (K:Ac) (t:vi):rn:=λ v O H Q=>∃ d Y S,zq K H d v/\xb K H Y O/\zR K H S/\t d Y S (vG K H Q)
structure qC (X:Cx) (e:Expr) (t:xZ):Prop where
 mo:iw t
 pg:PG X e (kA X.K t)
structure ie (X:Cx) (es:List Expr) (t:vi):Prop where
 mo:WD t
 pg:sk X es (aE X.K t)
def PG.imp {e:Expr}{t t':TG}(h:PG X e t) (hi:∀ v O H Q,t' v O H Q->t v O H Q):PG X e t':=λ pins s O H v w Q I r q=>h pins s O H v w Q I r (hi v O H Q q)
def sk.imp {e:List Expr}{t t':rn}(h:sk X e t) (hi:∀ v O H Q,t' v O H Q->t v O H Q):sk X e t':=λ pins s O H v w Q I r q=>h pins s O H v w Q I r (hi v O H Q q)
def hName (i:Nat):xZ:=λ d Y S Q=>Q (Y.set i (some d)) S
def Ro {e:Expr}{i:Nat}(h:PG X e (nh i)):qC X e (hName i):=
 ⟨λ _ _ _ _ _ hq z=>hq _ _ z,PG.imp h λ v O H Q ⟨d,Y,S,r1,r2,r3,z⟩=>z _ H (r2.set i r1) (.refl H) r3⟩
def eY:vi:=λ ds Y S Q=>ds=[]/\Q Y S
def eZ (t:xZ) (u:vi):vi:=λ ds Y S Q=>match ds with
 | d::r=>t d Y S fun Y' S'=>u r Y' S' Q
 | []=>False
def qY:ie X [] eY:=by
 refine⟨λ _ _ _ _ _ hq z=>⟨z.1,hq _ _ z.2⟩,sk.imp Sk λ v O H Q hu=>?_⟩;obtain⟨d,Y,S,r1,r2,r3,z1,z2⟩:=hu;subst z1;simp only[zq] at r1;exact⟨r1,z2 O H r2 (.refl H) r3⟩
def wN {e:Expr}{es:List Expr}{t:xZ}{u:vi}(h:qC X e t) (h':ie X es u) (hs:(assignEach (e::es) X.env).map (·.2)=assign e X.env::(assignEach es X.env).map (·.2):=by rfl):ie X (e::es) (eZ t u):=by
 refine⟨λ ds Y S Q Q' hq z=>?_,sk.imp (So h.pg h'.pg hs) λ v O H Q hu=>?_⟩
 .cases ds with
  | nil=>exact z
  | cons d r=>exact h.mo d Y S _ _ (fun Y' S' z=>h'.mo r Y' S' _ _ hq z) z
 .obtain⟨ds,Y,S,r1,r2,r3,z⟩:=hu;cases ds with
  | nil=>exact z.elim
  | cons d r=>
   simp only[zq] at r1;obtain⟨x,xs,rfl,q1,q2⟩:=r1;refine⟨x,xs,rfl,d,Y,S,q1,r2,r3,h.mo d Y S _ _ (fun Y' S' z O' H' g1 g2 g3=>?_) z⟩;exact⟨r,Y',S',zq.ext g2 r q2,g1,g3,h'.mo r Y' S' _ _ (fun Y2 S2 z2=>vG.ext g2 z2) z⟩
def jE (n:Nat) (t:vi):xZ:=λ d Y S Q=>match d with
 | .tup ds=>ds.length=n/\t ds Y S Q
 | _=>False
def Rn {e:Expr}{n:Nat}{t:vi}(h:PG X e (Xh X.K n (aE X.K t))) (hm:WD t):qC X e (jE n t):=by
 refine⟨λ d Y S Q Q' hq z=>?_,PG.imp h λ v O H Q hu=>?_⟩
 .cases d with
  | tup ds=>exact⟨z.1,hm ds Y S _ _ hq z.2⟩
  | _=>exact z
 .obtain⟨d,Y,S,r1,r2,r3,z⟩:=hu;cases d with
  | tup ds=>
   simp only[zi] at r1;obtain⟨a,xs,rfl,q1,q2⟩:=r1;exact⟨a,xs,rfl,q1,by rw[<- q2.length];exact z.1,ds,Y,S,q2,r2,r3,z.2⟩
  | zl=>exact z.elim
  | bl _=>exact z.elim
  | int _=>exact z.elim
  | str _=>exact z.elim
  | yN _=>exact z.elim
  | ref _=>exact z.elim
def tZ (te:zy) (g:xZ):y_:=λ E Y S=>te Y S λ x S1=>g x Y S1 E.nx
def tZ.mo {g:xZ}(h:yt te) (h':iw g):sr (tZ te g):=λ E E' Y S hE z=>h Y S _ _ (λ x S1 q=>h' x Y S1 _ _ (fun Y S q=>hE.nx _ _ q) q) z
def Ri {e0:Stmt}{i:Nat}(h:PS X e0 (kG (zX X.K te) (nh i))) (hm:yt te):ui X e0 (tZ te (hName i)):=by
 refine⟨tZ.mo hm λ _ _ _ _ _ hq z=>hq _ _ z,PS.imp h λ D O H hu=>?_⟩;obtain⟨Y,S,r1,r2,z⟩:=hu;refine zX.go hm r1 r2 z λ x S1 v H1 h1 q1 e1 p1=>?_;exact h1 _ H1 ((r1.ext e1).set i q1) e1 p1
end
structure kz where
 items:List D
 keep:SS->Prop
abbrev vh:=yr->SS->(kz->SS->Prop)->Prop
def iu (t:vh):Prop:=∀ Y S (Q Q':kz->SS->Prop),(∀ I S',Q I S'->Q' I S')->t Y S Q->t Y S Q'
def cA (K:Ac) (H1:Hp) (J:It) (I:kz):Prop:=∀ (i:Nat) (H:Hp) (S:SS),Ext H1 H->zR K H S->I.keep S->
 (∀ d,I.items[i]?=some d->J.go i H/\∀ x H',J.ot i H x H'->Ext H H'/\zR K H' S/\zi K H' d x)/\(I.items.length<=i->J.stop i H)
def Ms (K:Ac) (H:Hp) (R:It->Hp->Prop):kz->SS->Prop:=λ I S1=>∀ J H1,Ext H H1->zR K H1 S1->cA K H1 J I->R J H1
def wX (K:Ac) (t:vh):TI:=fun O H R=>∃ Y S,xb K H Y O/\zR K H S/\t Y S (Ms K H R)
structure qB (X:Cx) (tg iter:Expr) (t:vh):Prop where
 mo:iu t
 pi:PI X tg iter (wX X.K t)
def PI.imp {X:Cx}{tg e:Expr}{t t':TI}(h:PI X tg e t) (hi:∀ O H Q,t' O H Q->t O H Q):PI X tg e t':=λ pins s O H Q I q=>h pins s O H Q I (hi O H Q q)
section
variable {X:Cx}{K:Ac}{tg e:Expr}{pos:Pos}
theorem zq.at {H:Hp}{ds:List D}{xs:List V}{i:Nat}{d:D}{x:V}(r:zq K H ds xs) (h1:ds[i]?=some d) (h2:xs[i]?=some x):zi K H d x:=by
 obtain⟨y,e1,e2⟩:=r.get h1;rw[h2] at e1;cases e1;exact e2
noncomputable def vU (lo:Int) (n:Nat):List D:=(List.range n).map λ(k:Nat)=>D.int (lo+(k:Int))
def Tp {lo:Int}{n i:Nat}{d:D}(h:(vU lo n)[i]?=some d):i<n/\d=.int (lo+(i:Int)):=by
 unfold vU at h;rw[Ay] at h;cases q:(List.range n)[i]? with
 | none=>rw[q] at h;cases h
 | some j=>
  rw[q] at h;obtain⟨h1,h2⟩:=AN.mp q;rw[Bg] at h1;rw[D2] at h2;subst h2;cases h;exact⟨h1,rfl⟩
def Tn (lo:Int) (n:Nat):(vU lo n).length=n:=by unfold vU;rw[Aw,Bg]
def cA.range {H1:Hp}{lo:Int}{n:Nat}:cA K H1 (iy lo n) ⟨vU lo n,λ _=>True⟩:=λ i H S _ x2 _=>by
 refine⟨λ d hd=>?_,λ hl=>by rw[show (kz.mk (vU lo n) λ _=>True).items=vU lo n from rfl,Tn] at hl;exact hl⟩;obtain⟨h1,rfl⟩:=Tp hd;refine⟨h1,λ x H' q=>?_⟩;obtain⟨rfl,rfl⟩:=q;exact⟨.refl _,x2,by simp only[zi]⟩
def eT (t:yz):vh:=fun Y S R=>t Y S λ ds S1=>match ds with
 | [.int j]=>(-(2 ^ 62)<=j/\j<2 ^ 62)/\R ⟨vU 0 j.toNat,λ _=>True⟩ S1
 | _=>False
variable {tA:yz}
def Rm (h:PI X tg e (Y_ (wY X.K tA))) (hm:r9 tA):qB X tg e (eT tA):=by
 refine⟨fun Y S Q Q' hq z=>hm Y S _ _ (λ ds S1 z=>?_) z,PI.imp h fun O H R hu=>?_⟩
 .split at z
  .exact⟨z.1,hq _ _ z.2⟩
  .exact z.elim
 .obtain⟨Y,S,r1,r2,z⟩:=hu;refine wY.go hm r1 r2 z λ ds S1 xs H1 h1 q1 e1 p1=>?_;split at h1
  .obtain⟨x,rfl,q⟩:=q1.one;simp only[zi] at q;subst q;exact⟨_,rfl,h1.1.1,h1.1.2,h1.2 _ H1 e1 p1 .range⟩
  .exact h1.elim
def l9 (ti:vh) (g:xZ) (tb:y_):y_:=λ E Y S=>ti Y S λ I S1=>∃ W:Nat->yr->SS->Prop,W 0 Y S1/\(∀ i Y S,W i Y S->I.keep S)/\
 (∀ i d Y S,I.items[i]?=some d->W i Y S->g d Y S fun Y2 S2=>tb { E with nx:=W (i+1),ct:=W (i+1),bk:=E.nx } Y2 S2)/\∀ Y S,W I.items.length Y S->E.nx Y S
def l9.mo {ti:vh}{g:xZ}{tb:y_}(hi:iu ti) (hg:iw g) (hb:sr tb):sr (l9 ti g tb):=λ E E' Y S hE z=>hi Y S _ _ (λ I S1 ⟨W,w0,wk,ws,wd⟩=>by
 refine⟨W,w0,wk,λ i d Y S hd hw=>hg d Y S _ _ (fun Y2 S2 z=>hb { E with nx:=W (i+1),ct:=W (i+1),bk:=E.nx } { E' with nx:=W (i+1),ct:=W (i+1),bk:=E'.nx } Y2 S2 ⟨λ _ _ q=>q,hE.rt,hE.nx,λ _ _ q=>q⟩ z) (ws i d Y S hd hw),fun Y S q=>hE.nx _ _ (wd Y S q)⟩) z
def wy {iter:Expr}{body:List Stmt}{ti:vh}{g:xZ}{tb:y_}(hp:PassesOwn (model X.prog X.w) X.A X.env X.xe) (hc:X.calm=true) (hi:qB X tg iter ti) (hg:qC X tg g) (hb:uL X body tb)
  (hs:∀ x,foldedSetIterable iter X.env x=pure x:=by intro _;rfl):ui X (.For tg iter body [] pos) (l9 ti g tb):=by
 refine⟨l9.mo hi.mo hg.mo hb.mo,PS.imp (TN hp hc hi.pi hg.pg hb.ps hs) λ D O H hu=>?_⟩;obtain⟨Y,S,r1,r2,z⟩:=hu;refine⟨Y,S,r1,r2,hi.mo Y S _ _ (λ I S1 hW J H1 e1 p1 rep=>?_) z⟩;obtain⟨W,w0,wk,ws,wd⟩:=hW;refine⟨λ i m O H2=>m=I.items.length-i/\i<=I.items.length/\Ext H1 H2/\∃ Y S,xb X.K H2 Y O/\zR X.K H2 S/\W i Y S,⟨_,rfl,AL _,.refl _,Y,S1,r1.ext e1,p1,w0⟩,?_⟩;rintro i m O2 H2 ⟨rfl,hi',x2,Y2,S2,q1,q2,w2⟩;obtain⟨g1,g2⟩:=rep i H2 S2 x2 q2 (wk i Y2 S2 w2);by_cases hl:i<I.items.length
 .have hd:I.items[i]?=some I.items[i]:=by simp[hl]
  obtain⟨go,yl⟩:=g1 _ hd;refine .inr ⟨go,fun O' H'=>Ext H1 H'/\∃ Y S,xb X.K H' Y O'/\zR X.K H' S/\W (i+1) Y S,fun O' H' q=>⟨_,by lia,rfl,hl,q⟩,λ x H3 hy=>?_⟩;obtain⟨x3,p3,d3⟩:=yl x H3 hy;refine⟨_,Y2,S2,d3,q1.ext x3,p3,hg.mo _ Y2 S2 _ _ (fun Y4 S4 z4 O4 H4 a1 a2 a3=>?_) (ws i _ Y2 S2 hd w2)⟩;refine⟨Y4,S4,a1,a3,hb.mo _ _ Y4 S4 ⟨fun Y5 S5 w5 O5 H5 b1 b2 b3=>⟨((x2.trans x3).trans a2).trans b2,Y5,S5,b1,b3,w5⟩,λ _ _ q=>wW.ext (((e1.trans x2).trans x3).trans a2) q,λ _ _ q=>vG.ext (((e1.trans x2).trans x3).trans a2) q,fun Y5 S5 w5 O5 H5 b1 b2 b3=>⟨((x2.trans x3).trans a2).trans b2,Y5,S5,b1,b3,w5⟩⟩ z4⟩
 .have e:i=I.items.length:=by lia
  subst e;exact .inl ⟨g2 (Ah _),wd Y2 S2 w2 O2 H2 q1 (e1.trans x2) q2⟩
abbrev rp:=List D->SS->DK->Prop
def c9 (sp:rp):Prop:=∀ ds S (Q Q':DK),(∀ d S',Q d S'->Q' d S')->sp ds S Q->sp ds S Q'
def sD (K:Ac) (sp:rp):Sp:=λ vs H Q _=>∃ ds S,zq K H ds vs/\zR K H S/\sp ds S (wW K H Q)
def jT (sp:rp) (t:yz):zy:=fun Y S Q=>t Y S λ ds S1=>sp ds S1 Q
def R6 {sp:rp}{E:XK}{e:Expr}(h:PE X e (aN (sD X.K sp) [] E (wY X.K tA))) (hs:c9 sp) (hm:r9 tA):PD X e (jT sp tA):=by
 refine⟨fun Y S Q Q' hq z=>hm Y S _ _ (λ ds S1 z=>hs ds S1 _ _ hq z) z,PE.imp h fun O H Q hu=>?_⟩;obtain⟨Y,S,r1,r2,z⟩:=hu;refine wY.go hm r1 r2 z λ ds S1 xs H1 h1 q1 e1 p1=>?_;rw[CB];exact⟨ds,S1,q1,p1,hs ds S1 _ _ (λ d S' q=>wW.ext e1 q) h1⟩
noncomputable def sG (N:List Str) (ds:List D):yr:=ds.map some++List.replicate (N.length-ds.length) none
def xb.init {H:Hp}{N:List Str}{ds:List D}{vs:List V}(r:zq K H ds vs):xb K H (sG N ds) (start N vs):=by
 have hl:=r.length;refine⟨by unfold sG L2.start;simp[hl],λ i d h=>?_⟩;unfold sG at h;have hi:i<ds.length:=by
  rcases A3 i ds.length with q | q
  .exact q
  .rw[Cz (by simpa using q),Cf] at h;split at h <;> cases h
 rw[Ce (by simpa using hi),Ay] at h;cases q:ds[i]? with
 | none=>rw[q] at h;cases h
 | some d'=>
  rw[q] at h;cases h;obtain⟨x,e1,e2⟩:=r.get q;refine⟨x,?_,e2⟩;unfold L2.start;rw[Ce (by simpa using by lia),Ay,e1];rfl
def NL {P:Program}{w:World}{K:Ac}{mg:Str->Option Value}{base:Heap}{x qual:Str}{st:Stmt}{f:Addr}{fd:FuncData}{N ps:List Str}{k:Nat}{sp:rp}(F:t9 K x qual st f fd) (Sc:yf N ps (zF st))
  (len:∀ ds S Q,sp ds S Q->ds.length=ps.length)
  (hbody:∀ (Af:Value) (A:Around) (outer:List Env) (s:Shared) (H:Hp) (E:XK),yK k (A.deeper (envOfC qual (zF st) s.heap.objs.size f Af))->
   ∃ t,uL (t_ vQ P w K mg base N qual (zF st) f Af A outer s H E).qc (vH st) t/\∀ ds S Q,sp ds S Q->t { nx:=λ _ S'=>Q .zl S',rt:=Q } (sG N ds) S):uO P w K mg base vQ (k+1) f fd ps (sD K sp):=by
 refine F.ok Sc (λ vs H Q E h=>?_) λ Af A outer s H vs Q E hr h=>?_
 .obtain⟨ds,S,r1,_,z⟩:=h;rw[<- r1.length];exact len _ _ _ z
 .obtain⟨ds,S,r1,r2,z⟩:=h;obtain⟨t,ht,hq⟩:=hbody Af A outer s H E hr;refine⟨_,ht.ps,sG N ds,S,.init r1,r2,ht.mo { nx:=λ _ S'=>wW K H Q .zl S',rt:=wW K H Q } _ _ _ ⟨fun Y S' q O' H' _ b c=>q .zl H' (by simp only[zi]) b c,λ _ _ q=>q,λ _ _ q=>False.elim q,λ _ _ q=>False.elim q⟩ (hq ds S _ z)⟩
noncomputable def u0 (pick:List (Option Nat)) (Y:yr):yr:=pick.map λ o=>o.bind λ i=>(Y[i]?).join
theorem xb.pick {H:Hp}{Y:yr}{O:St}(r:xb K H Y O) (pick:List (Option Nat)):xb K H (u0 pick Y) (uz pick O):=by
 refine⟨by unfold u0 uz;simp,λ i d h=>?_⟩;unfold u0 at h;rw[Ay] at h;cases q:pick[i]? with
 | none=>rw[q] at h;cases h
 | some o=>
  rw[q] at h;cases o with
  | none=>simp at h
  | some j=>
   simp only[Option.map_some,A_,Option.some.injEq] at h;have hj:Y[j]?=some (some d):=by
    cases q2:Y[j]? with
    | none=>rw[q2] at h;cases h
    | some o2=>rw[q2] at h;simp only[Option.join_some] at h;rw[h]
   obtain⟨v,e1,e2⟩:=r.2 j d hj;refine⟨v,?_,e2⟩;unfold uz;rw[Ay,q];simp[e1]
def pV (Y Y':yr):Prop:=Y.length=Y'.length/\∀ (i:Nat) d,Y[i]?=some (some d)->Y'[i]?=some (some d)
def pV.rep {H:Hp}{Y Y':yr}{O:St}(h:pV Y Y') (r:xb K H Y' O):xb K H Y O:=⟨h.1.trans r.1,λ i d q=>r.2 i d (h.2 i d q)⟩
structure ig (X:Cx) (ifs:List Expr) (t:yU):Prop where
 mo:vk t
 pf:PF X ifs (wK X.K t)
def PF.imp {ifs:List Expr}{t t':TT}(h:PF X ifs t) (hi:∀ O H Q,t' O H Q->t O H Q):PF X ifs t':=λ pins s O H Q I q=>h pins s O H Q I (hi O H Q q)
def Xz:yU:=λ _ S Q=>Q true S
def sP:ig X [] Xz:=⟨λ _ _ _ _ hq z=>hq _ _ z,PF.imp Sy λ _ H _ ⟨_,_,_,r2,z⟩=>z H (.refl H) r2⟩
def q_ {c:Expr}{t:yU}(h:xU X c t):ig X [c] t:=⟨h.mo,Sv h.pt⟩
end
end L3
namespace L2
open PySem PySem.Spec PyProof.Rows
def Nr (K:Ac) (tl:TE):TI:=fun O H R=>tl O H λ x H1=>∃ a,x=.ref a/\(((∃ xs,zT K H1 a xs)/\R (WH K a) H1)\/((∃ xs,ye K H1 a xs)/\R (WG K a) H1))
def Sh {X:Cx}{tg l:Expr}{tl:TE}(hl:PE X l tl):PI X tg l (Nr X.K tl):=by
 intro pins s O H R I h;refine zK (hl pins s O H _ I h) λ v s1 ⟨x,H1,I1,r1,a,hx,q1⟩=>?_;subst hx;cases r1;have new:∀ b∈[s1.heap.objs.size],um X pins H1 b:=λ b hb=>by
  obtain rfl:b=s1.heap.objs.size:=AR.mp hb;exact I1.jG (Ah _) (I1.zE.fresh (Ah _))
 rcases q1 with ⟨⟨xs,hq⟩,q⟩ | ⟨⟨xs,hq⟩,q⟩
 .obtain⟨its,_,pl,_⟩:=I1.list hq;exact zaF pl.isList ⟨_,_,_,_,H1,rfl,I1.kept (t':=s1.toks) λ b o eo=>Ao _ eo,VL a _,⟨_,AF _ rfl,rfl,rfl⟩,new,q⟩
 .obtain⟨its,_,pt,_⟩:=I1.tuple hq;exact wpAny_pyIter_tuple (show s1.heap.IsTuple a its.toArray from pt) ⟨_,_,_,_,H1,rfl,I1.kept (t':=s1.toks) λ b o eo=>Ao _ eo,VI a _,⟨_,AF _ rfl,rfl,rfl⟩,new,q⟩
def range_all (bs:List Bool):(List.range bs.length).all (λ i=>bs.getD i true)=bs.all id:=by
 rw[A5,BA,BA];constructor
 .intro h b hb;obtain⟨i,hi,rfl⟩:=BQ.mp hb;have:=h i (AA.mpr hi);simpa [hi] using this
 .intro h i hi;have hi':=AA.mp hi;have:=h bs[i] (Bn hi');simpa [hi'] using this
def range_any (bs:List Bool):(List.range bs.length).any (λ i=>bs.getD i true)=bs.any id:=by
 rw[A5,AM,AM];constructor
 .rintro⟨i,hi,h⟩;have hi':=AA.mp hi;exact⟨bs[i],Bn hi',by simpa [hi'] using h⟩
 .rintro⟨b,hb,h⟩;obtain⟨i,hi,rfl⟩:=BQ.mp hb;exact⟨i,AA.mpr hi,by simpa [hi] using h⟩
def Wm {bs:List Bool}{its:List Value}(r:Vals (bs.map V.bl) its) {i:Nat}{v:Value}(h:its.toArray[i]?=some v):v=.bool (bs.getD i true):=by
 have hl:=r.length;rw[Aw] at hl;have h':its[i]?=some v:=by simpa using h
 have hi:i<bs.length:=by
  rw[hl];rcases A3 i its.length with q | q
  .exact q
  .rw[Cd q] at h';cases h'
 obtain⟨u,e1,e2⟩:=r.get (i:=i) (x:=.bl bs[i]) (by simp[hi]);rw[h'] at e1;cases e1;have:v=.bool bs[i]:=e2;rw[this];simp[hi]
section
variable {X:Cx}
def Lj (hc:X.calm=true):yQ X (.builtin "all") (λ xs H Q=>∃ p,∃ bs:List Bool,xs=[.ref p]/\zT X.K H p (bs.map V.bl)/\Q (.bl (bs.all id)) H):=by
 intro pins s O H xs us Q I r h;obtain⟨p,bs,rfl,hq,q⟩:=h;obtain⟨u,rfl,ru⟩:=vals1 r;cases ru;obtain⟨its,rv,pl,hz⟩:=I.list hq;have hl:=rv.length;rw[Aw] at hl;have Am:p<s.heap.objs.size:=by obtain⟨o,n,e,_⟩:=pl;exact Ap e
 refine call_all_walk (zaF pl.isList ?_);refine⟨s.heap.objs.size,_,_,_,_,_,λ i=>bs.getD i true,rfl,Walks.list (A:=X.A.in1) (I.ok.hd hc) s.heap.objs.size p (Ax Am) its.toArray,⟨⟨_,AF _ rfl,rfl,rfl⟩,pl.isList.push _⟩,λ i v s' Q' E' hv hq'=>?_,λ h' tk hk=>?_⟩
 .rw[Wm rv hv];exact zaA hq'
 .have e:(List.range its.toArray.size).all (λ i=>bs.getD i true)=bs.all id:=by rw[Ar,<- hl,range_all]
  rw[e];exact⟨.bl _,H,I.kept (t':=tk) λ b o eo=>hk b o (by simpa using Ax (Ap eo)) (Ao _ eo),rfl,q⟩
def Li (hc:X.calm=true):yQ X (.builtin "any") (λ xs H Q=>∃ p,∃ bs:List Bool,xs=[.ref p]/\zT X.K H p (bs.map V.bl)/\Q (.bl (bs.any id)) H):=by
 intro pins s O H xs us Q I r h;obtain⟨p,bs,rfl,hq,q⟩:=h;obtain⟨u,rfl,ru⟩:=vals1 r;cases ru;obtain⟨its,rv,pl,hz⟩:=I.list hq;have hl:=rv.length;rw[Aw] at hl;have Am:p<s.heap.objs.size:=by obtain⟨o,n,e,_⟩:=pl;exact Ap e
 refine call_any_walk (zaF pl.isList ?_);refine⟨s.heap.objs.size,_,_,_,_,_,λ i=>bs.getD i true,rfl,Walks.list (A:=X.A.in1) (I.ok.hd hc) s.heap.objs.size p (Ax Am) its.toArray,⟨⟨_,AF _ rfl,rfl,rfl⟩,pl.isList.push _⟩,λ i v s' Q' E' hv hq'=>?_,λ h' tk hk=>?_⟩
 .rw[Wm rv hv];exact zaA hq'
 .have e:(List.range its.toArray.size).any (λ i=>bs.getD i true)=bs.any id:=by rw[Ar,<- hl,range_any]
  rw[e];exact⟨.bl _,H,I.kept (t':=tk) λ b o eo=>hk b o (by simpa using Ax (Ap eo)) (Ao _ eo),rfl,q⟩
end
end L2
namespace L3
open PySem PySem.Spec L2
open PyProof.Rows hiding St
structure Bt (mg:Str->Option Value):Prop where
 len:mg "len"=none
 range:mg "range"=none
 any:mg "any"=none
 all:mg "all"=none
 sorted:mg "sorted"=none
 isinstance:mg "isinstance"=none
 bool:mg "bool"=none
 int:mg "int"=none
 str:mg "str"=none
 list:mg "list"=none
 tuple:mg "tuple"=none
 max:mg "max"=none
 min:mg "min"=none
section
variable {X:Cx}{a e:Expr}{es:List Expr}{te:zy}{pos p:Pos}
def vf {N':List Str}{pick:List (Option Nat)}{scope esc:Scope}{N:List Str}(hE:X.env.scope=esc:=by rfl) (hN:X.N=N:=by rfl) (h1:scope.kind=.function:=by rfl) (h2:scope.names.all (λ y=>decide (y.2≠.cell))=true:=by decide +kernel)
  (h3:scope.names.all (λ y=>!decide (y.2=.local)||decide (scope.names.lookup y.1=some .local))=true:=by decide +kernel)
  (h4:scope.names.all (λ y=>!decide (y.2=.free)||(decide (esc.names.lookup y.1=some .cell)||decide (esc.names.lookup y.1=some .free)))=true:=by decide +kernel)
  (h5:pick.length=N'.length:=by rfl) (h6:oB N N' pick scope=true:=by decide +kernel):oq X N' pick scope:=by
 refine⟨h1,λ y hy=>?_,λ y hy hl=>?_,λ y hy hf=>?_,h5,by rw[hN];exact h6⟩
 .exact of_decide_eq_true (BA.mp h2 y hy)
 .have:=BA.mp h3 y hy;rw[za2 hl] at this;simpa using this
 .have:=BA.mp h4 y hy;rw[za2 hf] at this;rw[hE];simpa using this
def yk (i:Nat) {x:Str}(hN:X.N.Nodup) (hi:X.N[i]?=some x:=by rfl) (hx:Loc X.env.scope x:=by first | exact Or.inl rfl | exact Or.inr rfl) (hf:X.fn x=true\/X.env.scope.names.lookup x=some .local:=by first | exact .inl rfl | exact .inr rfl):qC X (.Name x pos) (hName i):=
 Ro (Su hN hi hx hf)
def qZ {k:Nat}{t:vi}{n:Nat}(h:ie X es t) (hc:X.calm=true:=by rfl) (hn:(assignEach es X.env).length=n:=by rfl) (AZ:(assignEach es X.env).findIdx? (·.1)=none:=by rfl):qC X (.Tuple es k pos) (jE n t):=
 Rn (Sq hc h.pg hn AZ) h.mo
def zH (i:Nat) {x:Str}{pos':Pos}(hN:X.N.Nodup) (he:PD X e te) (hi:X.N[i]?=some x:=by rfl) (hx:Loc X.env.scope x:=by first | exact Or.inl rfl | exact Or.inr rfl) (hs:swapsWith e (some (.Name x pos')) pos.line X.env=pure false:=by rfl)
  (hf:X.fn x=true\/X.env.scope.names.lookup x=some .local:=by first | exact .inl rfl | exact .inr rfl):ui X (.Assign [.Name x pos'] e pos) (tZ te (hName i)):=
 Ri (TJ hN hi hx he.pe hs hf) he.mo
def eS (te:zy):vh:=fun Y S R=>te Y S λ x S1=>match x with
 | .tup ds=>R ⟨ds,λ _=>True⟩ S1
 | .yN ds=>R ⟨ds,λ _=>True⟩ S1
 | .ref p=>match S1 p with
  | some (.lst ds)=>R ⟨ds,λ S=>S p=some (.lst ds)⟩ S1
  | _=>False
 | _=>False
def xK {tg:Expr}(h:PD X e te):qB X tg e (eS te):=by
 refine⟨fun Y S Q Q' hq z=>h.mo Y S _ _ (λ x S1 z=>?_) z,?_⟩
 .cases x with
  | ref p=>
   dsimp only at z ⊢;split at z
   .exact hq _ _ z
   .exact z.elim
  | yN ds=>exact hq _ _ z
  | tup ds=>exact hq _ _ z
  | _=>exact z
 .refine PI.imp (Sh h.pe) fun O H R hu=>?_
  obtain⟨Y,S,r1,r2,z⟩:=hu;refine zX.go h.mo r1 r2 z λ x S1 v H1 h1 q1 e1 p1=>?_;cases x with
  | tup ds=>
   simp only[zi] at q1;obtain⟨a,xs,rfl,g1,g2⟩:=q1;refine⟨a,rfl,.inr ⟨⟨xs,g1⟩,h1 _ H1 e1 p1 λ i H2 S2 x1 x2 _=>⟨λ d hd=>?_,λ hl=>⟨xs,x1.kJ g1,by rw[<- g2.length];exact hl⟩⟩⟩⟩;obtain⟨y,hy,_⟩:=g2.get hd;refine⟨⟨xs,y,x1.kJ g1,hy⟩,λ x H' q=>?_⟩;obtain⟨rfl,q⟩:=q;exact⟨.refl _,x2,(zq.ext x1 ds g2).at hd (q xs (x1.kJ g1))⟩
  | ref p=>
   dsimp only at h1;split at h1
   .rename_i ds e2;simp only[zi] at q1;subst q1;obtain⟨xs0,g1,_⟩:=p1 _ _ e2;refine⟨p,rfl,.inl ⟨⟨xs0,zT.of g1⟩,h1 _ H1 e1 p1 λ i H2 S2 x1 x2 hk=>?_⟩⟩;obtain⟨xs,g3,g4⟩:=x2 _ _ hk;refine⟨λ d hd=>?_,λ hl=>⟨xs,zT.of g3,by rw[<- g4.length];exact hl⟩⟩;obtain⟨y,hy,_⟩:=g4.get hd;refine⟨⟨xs,y,zT.of g3,hy⟩,λ x H' q=>?_⟩;obtain⟨rfl,q⟩:=q;exact⟨.refl _,x2,g4.at hd (q xs (zT.of g3))⟩
   .exact h1.elim
  | yN ds=>
   simp only[zi] at q1;obtain⟨a,xs,rfl,g1,g2⟩:=q1;refine⟨a,rfl,.inl ⟨⟨xs,g1.sq⟩,h1 _ H1 e1 p1 λ i H2 S2 x1 x2 _=>⟨λ d hd=>?_,λ hl=>⟨xs,(x1.kK g1).sq,by rw[<- g2.length];exact hl⟩⟩⟩⟩;obtain⟨y,hy,_⟩:=g2.get hd;refine⟨⟨xs,y,(x1.kK g1).sq,hy⟩,λ x H' q=>?_⟩;obtain⟨rfl,q⟩:=q;exact⟨.refl _,x2,(zq.ext x1 ds g2).at hd (q xs (x1.kK g1).sq)⟩
  | zl=>exact h1.elim
  | bl _=>exact h1.elim
  | int _=>exact h1.elim
  | str _=>exact h1.elim
end
end L3
namespace L4
open PySem PySem.W PyProof.Rows
noncomputable def yJ {α:Type}(n:Nat) (lt:Nat->Nat->Bool):KasT α->(α->Prop)->Prop
 | .ret a,Q=>Q a
 | .ask i j k,Q=>i<n/\j<n/\yJ n lt (k (lt i j)) Q
theorem yJ.mono {α:Type}{n:Nat}{lt:Nat->Nat->Bool}{Q Q':α->Prop}(hq:∀ a,Q a->Q' a):∀ {t:KasT α},yJ n lt t Q->yJ n lt t Q'
 | .ret _,h=>hq _ h
 | .ask _ _ _,h=>⟨h.1,h.2.1,yJ.mono hq h.2.2⟩
theorem yJ.bind {α β:Type}{n:Nat}{lt:Nat->Nat->Bool}{f:α->KasT β}{Q:β->Prop}:∀ {t:KasT α},yJ n lt t (λ a=>yJ n lt (f a) Q)->yJ n lt (t.bind f) Q
 | .ret _,h=>h
 | .ask _ _ _,h=>⟨h.1,h.2.1,yJ.bind h.2.2⟩
section
variable {n:Nat}{lt:Nat->Nat->Bool}
def Le (lt:Nat->Nat->Bool) (a b:Nat):Prop:=lt b a=false
structure Ord (lt:Nat->Nat->Bool):Prop where
 tr:∀ a b c,Le lt a b->Le lt b c->Le lt a c
 as:∀ a b,lt a b=true->Le lt a b
def Ord.refl (o:Ord lt) (a:Nat):Le lt a a:=by
 cases h:lt a a with
 | false=>exact h
 | true=>exact o.as a a h
def xI (n:Nat) (p:Array Nat):Prop:=p.Perm (List.range n).toArray
theorem xI.size {p:Array Nat}(h:xI n p):p.size=n:=by rw[Array.Perm.size_eq h];simp
def xI.below {p:Array Nat}(h:xI n p) {i:Nat}(hi:i<n):p.getD i 0<n:=by
 have hs:=h.size;have hm:p.getD i 0∈p:=by
  rw[Dz,Bh (by lia)];exact Array.getElem_mem (by lia)
 have:p.getD i 0∈(List.range n).toArray:=(Array.Perm.mem_iff h).mp hm;simpa using this
def mX {p q:Array Nat}{i j:Nat}(h:p[i]?=q[j]?):p.getD i 0=q.getD j 0:=by rw[Dz,Dz,h]
def vK (lt:Nat->Nat->Bool) (p:Array Nat) (k:Nat):Prop:=∀ i j,i<=j->j<k->Le lt (p.getD i 0) (p.getD j 0)
def sA (lt:Nat->Nat->Bool) (p:Array Nat) (k:Nat):Prop:=∀ i j,i<=j->j<k->Le lt (p.getD j 0) (p.getD i 0)
def vK.next (o:Ord lt) {p:Array Nat}{k:Nat}(h:vK lt p k) (hk:1<=k) (hl:Le lt (p.getD (k-1) 0) (p.getD k 0)):vK lt p (k+1):=λ i j A1 hj=>by
 by_cases Et:j<k
 .exact h i j A1 Et
 .have e:j=k:=by lia
  subst e;by_cases hi:i=j
  .subst hi;exact o.refl _
  .exact o.tr _ _ _ (h i (j-1) (by lia) (by lia)) hl
def sA.next (o:Ord lt) {p:Array Nat}{k:Nat}(h:sA lt p k) (hk:1<=k) (hl:Le lt (p.getD k 0) (p.getD (k-1) 0)):sA lt p (k+1):=λ i j A1 hj=>by
 by_cases Et:j<k
 .exact h i j A1 Et
 .have e:j=k:=by lia
  subst e;by_cases hi:i=j
  .subst hi;exact o.refl _
  .exact o.tr _ _ _ hl (h i (j-1) (by lia) (by lia))
theorem cw (o:Ord lt) {p:Array Nat}(hp:xI n p):∀ (f a:Nat),1<=a->a+f<=n->vK lt p a->
  yJ n lt (kas_asc p f a) λ m=>a<=m/\m<=a+f/\vK lt p m/\(m=a+f\/lt (p.getD m 0) (p.getD (m-1) 0)=true)
 | 0,a,_,_,hs=>⟨Ah _,Ah _,hs,.inl rfl⟩
 | f+1,a,h1,h2,hs=>by
  refine⟨hp.below (by lia),hp.below (by lia),?_⟩;cases c:lt (p.getD a 0) (p.getD (a-1) 0) with
  | true=>exact⟨Ah _,by lia,hs,.inr c⟩
  | false=>
   refine yJ.mono ?_ (cw o hp f (a+1) (by lia) (by lia) (hs.next o h1 c));rintro m ⟨g1,g2,g3,g4⟩;exact⟨by lia,by lia,g3,g4.imp (λ e=>by lia) id⟩
def m9 {p:Array Nat}(hp:xI n p) (i j:Nat):xI n (kas_rev p i j):=Array.Perm.trans (mirror_perm _ _ _ _) hp
def mB {p:Array Nat}(hp:xI n p) {i j:Nat}(hj:j<=n) (k:Nat):(kas_rev p i j).getD k 0=if i<=k/\k<j then p.getD (i+j-1-k) 0 else p.getD k 0:=by
 have e:=getElem?_mirror_all (xs:=p) (i:=i) (j:=j) (by rw[hp.size];exact hj) k;split
 .rename_i h;rw[if_pos h] at e;exact mX e
 .rename_i h;rw[if_neg h] at e;exact mX e
def rev_eq (o:Ord lt) {p:Array Nat}(hp:xI n p) {i j:Nat}(hj:j<=n) (he:∀ a b,i<=a->a<j->i<=b->b<j->Le lt (p.getD a 0) (p.getD b 0)) (k:Nat):
  Le lt ((kas_rev p i j).getD k 0) (p.getD k 0)/\Le lt (p.getD k 0) ((kas_rev p i j).getD k 0):=by
 rw[mB hp hj];split
 .rename_i h;exact⟨he _ _ (by lia) (by lia) h.1 h.2,he _ _ h.1 h.2 (by lia) (by lia)⟩
 .exact⟨o.refl _,o.refl _⟩
def sA.of_eq (o:Ord lt) {p q:Array Nat}{k:Nat}(h:sA lt p k) (e:∀ k,Le lt (q.getD k 0) (p.getD k 0)/\Le lt (p.getD k 0) (q.getD k 0)):sA lt q k:=λ i j A1 hj=>
 o.tr _ _ _ (e j).1 (o.tr _ _ _ (h i j A1 hj) (e i).2)
def b6 (lt:Nat->Nat->Bool) (p:Array Nat) (m q:Nat):Prop:=∀ a b,m-(q+1)<=a->a<m->m-(q+1)<=b->b<m->Le lt (p.getD a 0) (p.getD b 0)
theorem jP (o:Ord lt):∀ (f:Nat) (p:Array Nat) (m q:Nat),xI n p->1<=m->m+f<=n->sA lt p m->q+1<=m->b6 lt p m q->
  yJ n lt (kas_desc f p m q) λ r=>xI n r.1/\m<=r.2.1/\r.2.1<=m+f/\sA lt r.1 r.2.1/\r.2.2+1<=r.2.1/\b6 lt r.1 r.2.1 r.2.2
 | 0,p,m,q,hp,_,_,hd,hq,hb=>⟨hp,Ah _,Ah _,hd,hq,hb⟩
 | f+1,p,m,q,hp,h1,h2,hd,hq,hb=>by
  have one:∀ p':Array Nat,b6 lt p' (m+1) 0:=λ p' a b a1 a2 b1 b2=>by
   have:a=b:=by lia
   subst this;exact o.refl _
  refine⟨hp.below (by lia),hp.below (by lia),?_⟩;cases c:lt (p.getD m 0) (p.getD (m-1) 0) with
  | true=>
   dsimp only;rw[if_pos rfl];have hl:=o.as _ _ c;by_cases h0:q>0
   .rw[if_pos h0];have e:=rev_eq o hp (i:=m-(q+1)) (j:=m) (by lia) hb;have hp':=m9 hp (m-(q+1)) m;refine yJ.mono ?_ (jP o f _ (m+1) 0 hp' (by lia) (by lia) ((hd.of_eq o e).next o h1 (o.tr _ _ _ (e m).1 (o.tr _ _ _ hl (e (m-1)).2))) (by lia) (one _));rintro r ⟨a1,a2,a3,a4⟩;exact⟨a1,by lia,by lia,a4⟩
   .rw[if_neg h0];refine yJ.mono ?_ (jP o f _ (m+1) 0 hp (by lia) (by lia) (hd.next o h1 hl) (by lia) (one _));rintro r ⟨a1,a2,a3,a4⟩;exact⟨a1,by lia,by lia,a4⟩
  | false=>
   dsimp only;rw[if_neg BE];refine⟨hp.below (by lia),hp.below (by lia),?_⟩;cases d:lt (p.getD (m-1) 0) (p.getD m 0) with
   | true=>exact⟨hp,Ah _,(by show m<=m+(f+1);lia),hd,hq,hb⟩
   | false=>
    dsimp only;rw[if_neg BE];refine yJ.mono ?_ (jP o f _ (m+1) (q+1) hp (by lia) (by lia) (hd.next o h1 d) (by lia) λ a b a1 a2 b1 b2=>?_)
    .rintro r ⟨a1,a2,a3,a4⟩;exact⟨a1,by lia,by lia,a4⟩
    .by_cases ha:a=m
     .by_cases hb':b=m
      .subst ha;subst hb';exact o.refl _
      .subst ha;exact o.tr _ _ _ d (hb (a-1) b (by lia) (by lia) (by lia) (by lia))
     .by_cases hb':b=m
      .subst hb';exact o.tr _ _ _ (hb a (b-1) (by lia) (by lia) (by lia) (by lia)) c
      .exact hb a b (by lia) (by lia) (by lia) (by lia)
def aL (o:Ord lt) {p:Array Nat}{m:Nat}(hp:xI n p) (h1:1<=m) (h2:m<=n) (hd:sA lt p m):yJ n lt (kas_tail3 m n p) λ r=>xI n r.2/\r.1<=n/\vK lt r.2 r.1:=by
 refine yJ.bind (yJ.mono ?_ (cw o (m9 hp 0 m) (n-m) m h1 (by lia) λ i j A1 hj=>?_))
 .rintro k ⟨a1,a2,a3,_⟩;exact⟨m9 hp 0 m,by lia,a3⟩
 .rw[mB hp h2,mB hp h2,if_pos ⟨AL _,by lia⟩,if_pos ⟨AL _,hj⟩];exact hd _ _ (by lia) (by lia)
def X5 (o:Ord lt) {p:Array Nat}{m:Nat}(hp:xI n p) (h1:1<=m) (h2:m<n) (hd:sA lt p m) (hl:lt (p.getD m 0) (p.getD (m-1) 0)=true):yJ n lt (kas_descPart m n p) λ r=>xI n r.2/\r.1<=n/\vK lt r.2 r.1:=by
 refine yJ.bind (yJ.mono ?_ (jP o (n-(m+1)) p (m+1) 0 hp (by lia) (by lia) (hd.next o h1 (o.as _ _ hl)) (by lia) λ a b a1 a2 b1 b2=>?_))
 .rintro⟨p',m',q'⟩ ⟨a1,a2,a3,a4,a5,a6⟩;dsimp only at a1 a2 a3 a4 a5 a6 ⊢;by_cases h0:q'>0
  .rw[if_pos h0];exact aL o (m9 a1 _ _) (by lia) (by lia) (a4.of_eq o (rev_eq o a1 (i:=m'-(q' + 1)) (j:=m') (by lia) a6))
  .rw[if_neg h0];exact aL o a1 (by lia) (by lia) a4
 .have:a=b:=by lia
  subst this;exact o.refl _
def M8 (o:Ord lt) {p:Array Nat}(hp:xI n p) (h1:1<=n):yJ n lt (kas_count n p) λ r=>xI n r.2/\r.1<=n/\vK lt r.2 r.1:=by
 refine yJ.bind (yJ.mono ?_ (cw o hp (n-1) 1 (Ah _) (by lia) λ i j A1 hj=>?_))
 .rintro m ⟨a1,a2,a3,a4⟩;by_cases hm:m=n
  .rw[if_pos (by simp[hm])];exact⟨hp,by lia,a3⟩
  .rw[if_neg (by simp[hm])];have hl:lt (p.getD m 0) (p.getD (m-1) 0)=true:=a4.resolve_left (by lia);by_cases h2:m>1
   .rw[if_pos h2];refine⟨hp.below (by lia),hp.below (by lia),?_⟩;cases c:lt (p.getD 0 0) (p.getD (m-1) 0) with
    | true=>exact⟨hp,by lia,a3⟩
    | false=>
     dsimp only;rw[if_neg BE];have all:∀ a b,0<=a->a<m->0<=b->b<m->Le lt (p.getD a 0) (p.getD b 0):=λ a b _ ha _ hb=>
      o.tr _ _ _ (a3 a (m-1) (by lia) (by lia)) (o.tr _ _ _ c (a3 0 b (by lia) hb))
     have e:=rev_eq o hp (i:=0) (j:=m) (by lia) all;refine X5 o (m9 hp 0 m) (by lia) (by lia) (λ i j A1 hj=>o.tr _ _ _ (e j).1 (o.tr _ _ _ (all _ _ (AL _) hj (AL _) (by lia)) (e i).2)) ?_;rw[mB hp (by lia),mB hp (by lia),if_neg (by lia),if_pos (by lia)];cases q:lt (p.getD m 0) (p.getD (0+m-1-(m-1)) 0) with
     | true=>rfl
     | false=>
      have:=o.tr _ _ _ (all (m-1) (0+m-1-(m-1)) (AL _) (by lia) (AL _) (by lia)) q;unfold Le at this;rw[this] at hl;cases hl
   .rw[if_neg h2];have e:m=1:=by lia
    subst e;refine X5 o hp (Ah _) (by lia) (λ i j A1 hj=>?_) hl;have:i=j:=by lia
    subst this;exact o.refl _
 .have:i=j:=by lia
  subst this;exact o.refl _
theorem f9 {p:Array Nat}{k:Nat}(hp:xI n p) (hk:k<n) (hs:vK lt p k) (o:Ord lt):∀ (f l r:Nat),r-l<=f->l<=r->r<=k->(∀ i,i<l->Le lt (p.getD i 0) (p.getD k 0))->(∀ i,r<=i->i<k->lt (p.getD k 0) (p.getD i 0)=true)->
  yJ n lt (kas_place p k f l r) λ m=>m<=k/\(∀ i,i<m->Le lt (p.getD i 0) (p.getD k 0))/\(∀ i,m<=i->i<k->lt (p.getD k 0) (p.getD i 0)=true)
 | 0,l,r,h0,h1,h2,ha,hb=>by
  have:l=r:=by lia
  subst this;exact⟨h2,ha,hb⟩
 | f+1,l,r,h0,h1,h2,ha,hb=>by
  unfold kas_place;by_cases B9:l≥r
  .rw[if_pos B9];have:l=r:=by lia
   subst this;exact⟨h2,ha,hb⟩
  .rw[if_neg B9];refine⟨hp.below hk,hp.below (by lia),?_⟩;cases c:lt (p.getD k 0) (p.getD ((l+r)/2) 0) with
   | true=>
    dsimp only;rw[if_pos rfl];refine f9 hp hk hs o f l ((l+r)/2) (by lia) (by lia) (by lia) ha λ i hi DJ=>?_;cases q:lt (p.getD k 0) (p.getD i 0) with
    | true=>rfl
    | false=>
     have:=o.tr _ _ _ (hs ((l+r)/2) i hi DJ) q;unfold Le at this;rw[this] at c;cases c
   | false=>
    dsimp only;rw[if_neg BE];refine f9 hp hk hs o f ((l+r)/2+1) r (by lia) (by lia) h2 (λ i hi=>?_) hb;exact o.tr _ _ _ (hs i ((l+r)/2) (by lia) (by lia)) c
theorem Wu (o:Ord lt):∀ (f:Nat) (p:Array Nat) (k:Nat),xI n p->k+f=n->vK lt p k->yJ n lt (kas_bin f p k) λ r=>xI n r/\vK lt r n
 | 0,p,k,hp,h1,hs=>by
  have:k=n:=by lia
  subst this;exact⟨hp,hs⟩
 | f+1,p,k,hp,h1,hs=>by
  refine yJ.bind (yJ.mono ?_ (f9 hp (by lia) hs o k 0 k (by lia) (AL _) (Ah _) (λ i hi=>absurd hi (Nat.not_lt_zero _)) λ i hi DJ=>absurd DJ (by lia)));rintro l ⟨a1,a2,a3⟩;refine Wu o f _ (k+1) (Array.Perm.trans (bubble_perm _ _ _) hp) (by lia) λ i j A1 hj=>?_;have ev:∀ x,(bubble p k (k-l)).getD x 0=if x=l then p.getD k 0 else if l<x/\x<=k then p.getD (x-1) 0 else p.getD x 0:=λ x=>by
   have e:=getElem?_bubble (xs:=p) (src:=k) (by rw[hp.size];lia) (k-l) (by lia) x;rw[show k-(k-l)=l by lia] at e;split
   .rename_i h;rw[if_pos h] at e;exact mX e
   .rename_i h;rw[if_neg h] at e;split
    .rename_i h';rw[if_pos h'] at e;exact mX e
    .rename_i h';rw[if_neg h'] at e;exact mX e
  rw[ev i,ev j];by_cases hi:i=l
  .rw[if_pos hi];by_cases hj':j=l
   .rw[if_pos hj'];exact o.refl _
   .rw[if_neg hj',if_pos ⟨by lia,by lia⟩];exact o.as _ _ (a3 (j-1) (by lia) (by lia))
  .rw[if_neg hi];by_cases hj':j=l
   .rw[if_pos hj',if_neg (by lia)];exact a2 i (by lia)
   .rw[if_neg hj'];by_cases hi2:l<i/\i<=k
    .rw[if_pos hi2,if_pos ⟨by lia,by lia⟩];exact hs _ _ (by lia) (by lia)
    .rw[if_neg hi2];by_cases hj2:l<j/\j<=k
     .rw[if_pos hj2];exact hs _ _ (by lia) (by lia)
     .rw[if_neg hj2];exact hs _ _ A1 (by lia)
def U3 (o:Ord lt) (h1:1<=n):yJ n lt (kas_sort n) λ r=>xI n r/\vK lt r n:=by
 have hp:xI n (List.range n).toArray:=Array.Perm.refl _;refine yJ.bind (yJ.mono ?_ (M8 o hp h1));rintro⟨m,p⟩ ⟨a1,a2,a3⟩;dsimp only at a1 a2 a3 ⊢;by_cases hm:m<n
 .rw[if_pos hm];refine Wu o _ p (max m 1) a1 (by lia) ?_;by_cases h0:m=0
  .subst h0;intro i j A1 hj;have:i=j:=by lia
   subst this;exact o.refl _
  .rw[show max m 1=m by lia];exact a3
 .rw[if_neg hm];have:m=n:=by lia
  subst this;exact⟨a1,a3⟩
end
end L4
namespace L4
open PySem PySem.W PySem.Calls PyProof.Rows
section
variable {prog:Program}{w:World}{A:Around}{E:Value->Shared->Prop}{s:Shared}
def Core (prog:Program) (w:World) (A:Around) (E:Value->Shared->Prop) (vs:List Value) (Out:Array Value->Prop) (s6:Shared):Prop:=
 wpAny (model prog w) A (keyKind' vs.toArray) (fun κ s'=>s'=s6/\wpAny (model prog w) A ((sortRuns').run (SortSt.mk' κ (vs.toArray.zip vs.toArray) #[] 7 none))
  (λ r s''=>s''=s6/\failedOf r.2=none/\Out ((arrOf r.2).map (·.2))/\(arrOf r.2).size=vs.length) E s') E s6
def eL {a:Addr}{vs:List Value}{n:Nat}{P:PySem.Fin->Shared->Prop}{Out:Array Value->Prop}(ho:s.heap.get? a=some (seqObj "list" vs.toArray n)) (hz:vs.length<=sizeLine)
  (core:2<=vs.length->∀ s6:Shared,(∀ b o,b≠a->s.heap.get? b=some o->s6.heap.get? b=some o)->Core prog w A E vs Out s6) (short:vs.length<2->Out vs.toArray)
  (fin:∀ out:Array Value,Out out->out.size=vs.length->P (.done (.ret .none)) { s with heap:=sortedHeap s.heap a vs out }):
  wpAny (model prog w) A (Builtin.«list.sort» ⟨[.ref a],[]⟩) P E s:=by
 have ha:a<s.heap.objs.size:=Ap ho;obtain⟨e1,g1⟩:∃ e1,(s.heap.update a (Obj.mapSeq λ _=>#[])).get? a=some (seqObj "list" #[] e1):=⟨_,get?_update_seq ho (λ _=>#[])⟩
 have hz':vs.toArray.size<=sizeLine:=by rw[Ar];exact hz
 have g6:(((s.heap.update a (Obj.mapSeq λ _=>#[])).push (seqObj "tuple" vs.toArray 0)).push (seqObj "list" #[] 0)).get? a=some (seqObj "list" #[] e1):=Ao _ (Ao _ g1);have keep:∀ b o,b≠a->s.heap.get? b=some o->(((s.heap.update a (Obj.mapSeq λ _=>#[])).push (seqObj "tuple" vs.toArray 0)).push (seqObj "list" #[] 0)).get? b=some o:=
  λ b o hb e=>Ao _ (Ao _ (by rw[Heap.get?_update_ne _ _ _ _ hb];exact e))
 rw[list_sort_plain];refine Ab (listItems_at ho rfl (Ab (listUpdate_at ho rfl (Ab (seqEpoch_at g1 rfl (Ab (wpAny_newTuple (Ab (wpAny_newList (za3 ?_))) (by simpa using hz))))) hz' (AL _))));by_cases h2:vs.toArray.size<2
 .rw[if_pos h2,if_pos h2];have e2:(arrOf (SortSt.mk' general' (vs.toArray.zip vs.toArray) #[] 7 none)).map (·.2)=vs.toArray:=by
   show (vs.toArray.zip vs.toArray).map (·.2)=vs.toArray;apply Array.ext (by simp);intro i h1 h2;simp
  refine Ab (Ad ?_);dsimp only;rw[StateT.run_pure];refine Ab (Ad ?_);dsimp only;refine Ab (seqEpoch_at g6 rfl (Ab (listUpdate_at g6 rfl ?_ (AL _) ?_)))
  .simp only[bne_self_eq_false,Ba,if_false];have q:=fin _ (e2▸short (by simpa using h2)) (by rw[e2];simp);exact Ad q
  .show (((arrOf (SortSt.mk' general' (vs.toArray.zip vs.toArray) #[] 7 none)).map (·.2))).size<=sizeLine+1;rw[e2];lia
 .rw[if_neg h2,if_neg h2];have h2':2<=vs.length:=by simpa using h2
  refine Ab (za5 (core h2' _ keep) (fun κ s7 ⟨hs,h7⟩=>?_) λ _ _ z=>z);subst hs;refine Ab (za5 h7 (λ r s8 ⟨hs,hf,Eg,hsz⟩=>?_) λ _ _ z=>z);subst hs;obtain⟨⟨⟩,st⟩:=r;refine Ab (seqEpoch_at g6 rfl (Ab (listUpdate_at g6 rfl ?_ (AL _) ?_)))
  .have hf':failedOf st=none:=hf;rw[hf'];simp only[bne_self_eq_false,Ba,if_false];exact Ad (fin _ Eg (by rw[CY];exact hsz))
  .show ((arrOf st).map (·.2)).size<=sizeLine+1;rw[CY];have:(arrOf st).size=vs.length:=hsz;lia
def U1 {l:Addr}{vs:List Value}{Q:Value->Shared->Prop}{Out:Array Value->Prop}(hl:s.heap.IsList l vs.toArray) (hz:vs.length<=sizeLine)
  (core:2<=vs.length->∀ s6:Shared,(∀ b o,s.heap.get? b=some o->s6.heap.get? b=some o)->Core prog w A.in1.in1 E vs Out s6) (short:vs.length<2->Out vs.toArray)
  (fin:∀ out:Array Value,Out out->out.size=vs.length->Q (.ref (s.heap.objs.size+1)) { s with heap:=sortedAll s.heap vs out }):
  wpAny (model prog w) A (call (.builtin "sorted") [.ref l]) Q E s:=by
 have hsz:((s.heap.push (seqObj "list" #[] 0)).update s.heap.objs.size (Obj.mapSeq (·++vs.toArray))).objs.size=s.heap.objs.size+1:=by
  rw[Heap.size_update,size_push']
 have hoL:(((s.heap.push (seqObj "list" #[] 0)).update s.heap.objs.size (Obj.mapSeq (·++vs.toArray))).push (seqObj "list" vs.toArray 0)).get? (s.heap.objs.size+1)=some (seqObj "list" vs.toArray 0):=hsz▸AF _ rfl;have keep:∀ b o,s.heap.get? b=some o->(((s.heap.push (seqObj "list" #[] 0)).update s.heap.objs.size (Obj.mapSeq (·++vs.toArray))).push (seqObj "list" vs.toArray 0)).get? b=some o:=λ b o q=>
  Ao _ (by rw[Heap.get?_update_ne _ _ _ _ (Ax (Ap q))];exact Ao _ q)
 refine Calls.call_function_entry kind_sorted plain_sorted entry_sorted (args_sorted1 _) ?_;unfold Builtin.«sorted»;refine Ab (m:=checkCount "sorted" 1 1 _) (Ad (Ab (collect_list hl (Ab (wpAny_newList ?_ hz)) hz)));show wpAny _ _ _ _ _ { s with heap:=((s.heap.push (seqObj "list" #[] 0)).update s.heap.objs.size (Obj.mapSeq (·++vs.toArray))).push (seqObj "list" vs.toArray 0) };rw[hsz];refine Ab (za3 (za6 slot_list_sort ⟨_,hoL,rfl⟩ entry_list_sort (eL hoL hz (λ h2 s6 k=>core h2 s6 λ b o q=>k b o ?_ (keep b o q)) short λ out h1 h2=>⟨_,rfl,?_⟩) (args_list_sort _)))
 .exact Ax (Bx (Ap q))
 .exact Ad ⟨_,rfl,fin out h1 h2⟩
end
end L4
namespace L4
open PySem PySem.W PySem.Calls PyProof.Rows L2
theorem eO:∀ a b:List Int,HT.lexLt a b=true->HT.lexLt b a=false
 | [],[],h=>by cases h
 | [],_::_,_=>rfl
 | _::_,[],h=>by cases h
 | x::a,y::b,h=>by
  rw[HT.qg] at h ⊢;by_cases e:x=y
  .subst e;rw[if_pos rfl] at h ⊢;exact eO a b h
  .rw[if_neg e] at h;rw[if_neg (Ne.symm e)];have:=of_decide_eq_true h;exact za0 (by lia)
theorem Y1:∀ a b:List Int,HT.lexLt a b=false->HT.lexLt b a=false->a=b
 | [],[],_,_=>rfl
 | [],_::_,h,_=>by cases h
 | _::_,[],_,h=>by cases h
 | x::a,y::b,h,h'=>by
  rw[HT.qg] at h h';by_cases e:x=y
  .subst e;rw[if_pos rfl] at h h';rw[Y1 a b h h']
  .rw[if_neg e] at h;rw[if_neg (Ne.symm e)] at h';have h1:=of_decide_eq_false h;have h2:=of_decide_eq_false h';lia
theorem eN:∀ a b c:List Int,HT.lexLt b a=false->HT.lexLt c b=false->HT.lexLt c a=false
 | [],[],[],_,_=>rfl
 | [],[],_::_,_,h=>h
 | [],_::_,[],_,h=>by cases h
 | [],_::_,_::_,_,_=>rfl
 | _::_,[],_,h,_=>by cases h
 | _::_,_::_,[],_,h=>by cases h
 | x::a,y::b,z::c,h,h'=>by
  rw[HT.qg] at h h' ⊢;by_cases e1:y=x
  .subst e1;rw[if_pos rfl] at h;by_cases e2:z=y
   .subst e2;rw[if_pos rfl] at h' ⊢;exact eN a b c h h'
   .rw[if_neg e2] at h' ⊢;exact h'
  .rw[if_neg e1] at h;have h1:=of_decide_eq_false h;by_cases e2:z=y
   .subst e2;rw[if_neg e1];exact h
   .rw[if_neg e2] at h';have h2:=of_decide_eq_false h';rw[if_neg (by lia)];exact za0 (by lia)
theorem fC {α:Type}{r:α->α->Prop}(an:∀ a b,r a b->r b a->a=b):∀ {l₁ l₂:List α},l₁.Perm l₂->l₁.Pairwise r->l₂.Pairwise r->l₁=l₂
 | [],l₂,h,_,_=>(List.nil_perm.mp h).symm
 | a::l₁,[],h,_,_=>absurd (List.perm_nil.mp h) (by simp)
 | a::l₁,b::l₂,h,h1,h2=>by
  have CM:a=b:=by
   have ha:a∈b::l₂:=h.mem_iff.mp Al;have hb:b∈a::l₁:=h.mem_iff.mpr Al;rcases Ai.mp ha with e | ha
   .exact e
   .rcases Ai.mp hb with e | hb
    .exact e.symm
    .exact an _ _ (List.rel_of_pairwise_cons h1 hb) (List.rel_of_pairwise_cons h2 ha)
  subst CM;rw[fC an (List.Perm.cons_inv h) (Bs.mp h1).2 (Bs.mp h2).2]
def wb (rows:List (List Int)):List (List Int):=rows.mergeSort λ a b=>!HT.lexLt b a
def uR (rows:List (List Int)):(wb rows).Perm rows:=List.mergeSort_perm _ _
def hX (rows:List (List Int)):(wb rows).Pairwise λ a b=>HT.lexLt b a=false:=by
 have:=List.pairwise_mergeSort (le:=λ a b:List Int=>!HT.lexLt b a) (λ a b c h1 h2=>by simp at h1 h2 ⊢;exact eN a b c h1 h2)
  (λ a b=>by
   cases h:HT.lexLt b a with
   | false=>simp
   | true=>simp[eO b a h]) rows
 exact this.imp λ h=>by simpa using h
def aR {rows out:List (List Int)}(hp:out.Perm rows) (hs:out.Pairwise λ a b=>HT.lexLt b a=false):out=wb rows:=
 fC (λ a b h1 h2=>Y1 a b h2 h1) (hp.trans (uR rows).symm) hs (hX rows)
def m7 (rows:List (List Int)) (i j:Nat):Bool:=HT.lexLt (rows.getD i []) (rows.getD j [])
def Tb (rows:List (List Int)):Ord (m7 rows):=⟨λ _ _ _ h1 h2=>eN _ _ _ h1 h2,λ _ _ h=>eO _ _ h⟩
section
variable {prog:Program}{w:World}{A:Around}{E:Value->Shared->Prop}{s:Shared}{Q:Bool->Shared->Prop}
theorem YD {b:Bool}:∀ (ns ms:List Int) (us ws:List Value) (i:Nat),IntsAre us ns->IntsAre ws ms->Q (HT.lexLt ns ms) s->KatLex prog w A b (decide (ns.length<ms.length)) Q (us.zip ws) i s
 | [],[],_,_,_,.nil,.nil,h=>kat_nil (by simpa [HT.lexLt] using h)
 | [],_::_,_,_,_,.nil,.cons _ _ _,h=>kat_nil (by simpa [HT.lexLt] using h)
 | _::_,[],_,_,_,.cons _ _ _,.nil,h=>kat_nil (by simpa [HT.lexLt] using h)
 | n::ns,m::ms,_,_,i,.cons _ t hu,.cons _ u hw,h=>by
  rw[HT.qg] at h;refine kat_cons (SeqAt.EqAt.int_int n t m u prog w _ _ (kat_go (λ e=>kat_yes ?_) λ e=>kat_no ?_))
  .have e':n=m:=by simpa using e
   rw[if_pos e'] at h;rw[show decide ((n::ns).length<(m::ms).length)=decide (ns.length<ms.length) by simp];exact YD ns ms _ _ (i+1) hu hw h
  .have e':¬ n=m:=by simpa using e
   rw[if_neg e'] at h;cases b&&i == 0 with
   | true=>exact kat_lt_int h
   | false=>exact kat_one _ _ (lt_int h)
def rq (h:Heap):List Value->List (List Int)->Prop:=Paired λ v r=>r≠[]/\∃ b o its n,v=.ref b/\h.get? b=some o/\o.cls=.type "tuple"/\o.data=.seq its n/\IntsAre its.toList r
theorem rq.Xn {h:Heap}:∀ {vs:List Value}{rows:List (List Int)},rq h vs rows->∃ fs,KatTups h vs fs/\fs.length=vs.length/\∀ v∈fs,∃ n t,v=Value.int n t
 | _,_,.nil=>⟨[],KatTups.nil,rfl,λ _ hv=>absurd hv (by simp)⟩
 | _,_,.cons ⟨Aj,b,o,its,n,hv,ho,hc,hd,hi⟩ r=>by
  obtain⟨fs,h1,h2,h3⟩:=rq.Xn r;subst hv;obtain⟨its⟩:=its;cases hi with
  | nil=>exact absurd rfl Aj
  | cons k t _=>exact⟨.int k t::fs,KatTups.cons ho hc hd rfl h1,by simp[h2],λ v hv=>(Ai.mp hv).elim (λ e=>⟨k,t,e⟩) (h3 v)⟩
theorem Paired.at' {α β:Type}{F:α->β->Prop}:∀ {l₁:List α}{l₂:List β}{i:Nat},Paired F l₁ l₂->i<l₁.length->∀ (d:α) (e:β),F (l₁.getD i d) (l₂.getD i e)
 | _,_,_,.nil,h,_,_=>absurd h (by simp)
 | _,_,0,.cons r _,_,_,_=>r
 | _,_,i+1,.cons _ t,h,d,e=>by simpa using Paired.at' (i:=i) t (by simpa using h) d e
def rq.ask {vs:List Value}{rows:List (List Int)}{b:Bool}(r:rq s.heap vs rows) {i j:Nat}(hi:i<vs.length) (hj:j<vs.length) {C:Bool->Shared->Prop}(h:C (m7 rows i j) s):kas_ask prog w A (tuples' b) vs i j C s:=by
 obtain⟨_,b1,o1,its1,n1,e1,g1,_,d1,q1⟩:=Paired.at' r hi Value.none [];obtain⟨_,b2,o2,its2,n2,e2,g2,_,d2,q2⟩:=Paired.at' r hj Value.none [];unfold kas_ask;rw[e1,e2];refine kat_lt g1 d1 g2 d2 ?_;have l1:=q1.length;have l2:=q2.length;rw[Bo] at l1 l2;rw[l1,l2];exact YD _ _ _ _ 0 q1 q2 h
theorem aq {α:Type}{n:Nat}{lt:Nat->Nat->Bool}{cmp:Nat->Nat->(Bool->Shared->Prop)->Shared->Prop}{Q:α->Shared->Prop}(hc:∀ i j C,i<n->j<n->C (lt i j) s->cmp i j C s):∀ {t:KasT α},yJ n lt t (λ a=>Q a s)->t.kasWp cmp Q s
 | .ret _,h=>h
 | .ask i j _,h=>hc i j _ h.1 h.2.1 (aq hc h.2.2)
def lX (vs:List Value) (rows:List (List Int)) (out:Array Value):Prop:=
 ∃ idx:List Nat,idx.Perm (List.range vs.length)/\out.toList=idx.map (λ i=>vs.getD i Value.none)/\(idx.map λ i=>rows.getD i []).Pairwise λ a b=>HT.lexLt b a=false
def Uy {rows:List (List Int)}{p:Array Nat}{n:Nat}(hn:p.size=n) (h:vK (m7 rows) p n):(p.toList.map λ i=>rows.getD i []).Pairwise λ a b=>HT.lexLt b a=false:=by
 rw[B3,Cc];intro i j hi hj A1;have:=h i j (BF A1) (by rw[<- hn];simpa using hj);simp only[Bo] at hi hj;unfold Le m7 at this;simpa [Dz,hi,hj] using this
def dS {vs:List Value}{rows:List (List Int)}(r:rq s.heap vs rows) (h2:2<=vs.length) (h64:vs.length<64):Core prog w A E vs (lX vs rows) s:=by
 obtain⟨fs,t,hl,hf⟩:=r.Xn;unfold Core;refine kat_kind (T:=.type "int") t (by lia) (λ v hv=>?_) rfl ⟨rfl,?_⟩
 .obtain⟨n,t,rfl⟩:=hf v hv;exact Looks.of_pure rfl
 .refine kat_run (ks:=vs) (Q:=λ st s''=>s''=s/\failedOf st=none/\lX vs rows ((arrOf st).map (·.2))/\(arrOf st).size=vs.length) (G:=λ p s''=>s''=s/\xI vs.length p/\vK (m7 rows) p vs.length) rfl h2 h64 (λ p st s' hs ha DM hg=>?_) ?_
  .obtain⟨h1,h3,h4⟩:=hg;refine⟨h1,DM,⟨p.toList,?_,?_,Uy hs h4⟩,by rw[ha,CY];exact hs⟩
   .have:=Array.Perm.toList h3;simpa using this
   .rw[kat_snds rfl ha]
  .exact aq (λ i j C hi hj hC=>r.ask hi hj hC) (yJ.mono (λ p hp=>⟨rfl,hp⟩) (U3 (Tb rows) (by lia)))
end
section
variable {X:Cx}
def MR:yQ X (.builtin "sorted") (λ xs H Q=>∃ p ys,∃ rows:List (List Int),xs=[.ref p]/\zT X.K H p ys/\Paired (λ v r=>r≠[]/\∃ b,v=V.ref b/\ye X.K H b (r.map V.int)) ys rows/\rows.length<64/\
  ∀ (l:Addr) (idx:List Nat),H l=none->idx.Perm (List.range ys.length)->(idx.map λ i=>rows.getD i []).Pairwise (λ a b=>HT.lexLt b a=false)->Q (.ref l) (upd H l (.lst (idx.map λ i=>ys.getD i .zl)))):=by
 intro pins s O H xs us Q I r h;obtain⟨p,ys,rows,rfl,hq,hr,h64,q⟩:=h;obtain⟨u,rfl,ru⟩:=vals1 r;cases ru;obtain⟨its,rv,pl,hz⟩:=I.list hq;have hl:=rv.length;have B9:ys.length=rows.length:=Paired.length hr;have rows_at:∀ h6:Heap,(∀ b o,s.heap.get? b=some o->h6.get? b=some o)->rq h6 its rows:=λ h6 k=>by
  clear q hz hl B9 h64 hq pl r
  induction hr generalizing its with
  | nil=>cases rv;exact .nil
  | cons g t ih=>
   cases rv with
   | cons r1 r2=>
    refine .cons ?_ (ih _ r2);obtain⟨Aj,b,rfl,hb⟩:=g;cases r1;obtain⟨its2,rv2,⟨o,e,hc,n,hd⟩,_⟩:=I.tuple hb;exact⟨Aj,b,o,_,n,rfl,k _ _ e,hc,hd,by simpa using intsAre_of rv2⟩
 refine U1 (Out:=lX its rows) pl.isList (by rw[<- hl];exact hz) (λ h2 s6 k=>dS (rows_at _ k) h2 (by lia)) (λ h1=>?_) λ out ho hs=>?_
 .refine⟨List.range its.length,.refl _,?_,?_⟩
  .refine BD (by simp) λ i h1 h2=>?_;simp at h1;simp[h1]
  .rw[B3,Cc];intro i j hi hj A1;simp at hi hj;lia
 .obtain⟨idx,g1,g2,g3⟩:=ho;obtain⟨e,ho⟩:=sortedAll_at s.heap its out;have A6:H (s.heap.objs.size+1)=none:=I.zE.fresh (CW _);have g1':idx.Perm (List.range ys.length):=by rw[hl];exact g1
  refine⟨.ref (s.heap.objs.size+1),_,I.laid (t':=s.toks) (o:=.lst (idx.map λ i=>ys.getD i .zl)) (λ b o q=>sortedAll_old q) (CW _) ?_,rfl,q _ idx A6 g1' g3⟩;refine⟨by rw[Aw,g1'.length_eq,Bg];exact hz,out.toList,e,?_,by simpa using ho⟩;rw[g2];have Am:∀ i∈idx,i<ys.length:=λ i hi=>by simpa using g1'.mem_iff.mp hi
  clear g1 g1' g2 g3 q
  induction idx with
  | nil=>exact .nil
  | cons i idx ih=>
   refine .cons ?_ (ih λ j hj=>Am j (Av _ hj));have hi:=Am i Al;obtain⟨u,e1,e2⟩:=rv.get (i:=i) (x:=ys[i]) (by simp[hi]);have e3:its.getD i Value.none=u:=by simp[e1]
   have e4:ys.getD i .zl=ys[i]:=by simp[hi]
   show RelV (ys.getD i .zl) (its.getD i Value.none);rw[e3,e4];exact e2
end
end L4
namespace L2
open PySem PySem.Spec PyProof.Rows
noncomputable def u6 (ty T:String):Bool:=ty == T||(ty == "bool"&&T == "int")
def kC (ty T:String):Bool:=PySem.W.kitMeta T&&decide ((fastBuiltinMro ty).map (λ l=>l.contains (Value.type T))=some (u6 ty T))
def VG:(["NoneType","bool","int","str","tuple","list","dict"].all λ ty=>["int","bool","tuple","list","str"].all λ T=>kC ty T)=true:=by decide +kernel
def OI {K:Ac}{ty T:String}(h:kC ty T=true):PySem.W.kitOne K (.type ty) (.type T)=some (u6 ty T):=by
 unfold kC at h;rw[BO] at h;unfold PySem.W.kitOne;split
 .rename_i e;have e':ty=T:=by have:=eq_of_beq e;injection this
  subst e';simp[u6]
 .show (if PySem.W.kitMeta T=true then PySem.W.subIn K (.type ty) (.type T) else none)=_;rw[if_pos h.1];exact of_decide_eq_true h.2
noncomputable def W5 (K:Ac) (H:Hp):V->String->Prop
 | .zl,t=>t="NoneType"
 | .bl _,t=>t="bool"
 | .int _,t=>t="int"
 | .str _,t=>t="str"
 | .ref a,t=>(t="tuple"/\∃ xs,ye K H a xs)\/(t="list"/\∃ xs,zT K H a xs)\/(t="dict"/\∃ Aa,H a=some (.dK Aa))
 | _,_=>False
def Lh {X:Cx}:yQ X (.builtin "isinstance") (λ xs H Q=>∃ x T ty,xs=[x,.ty T]/\W5 X.K H x ty/\kC ty T=true/\Q (.bl (u6 ty T)) H):=by
 intro pins s O H xs us Q I r h;obtain⟨x,T,ty,rfl,hx,hT,q⟩:=h;obtain⟨u,c,rfl,ru,rc⟩:=vals2 r;cases (show c=Value.type T from rc);have e:PySem.W.kitOne X.K (.type ty) (.type T)=some (u6 ty T):=OI hT;have fin:∀ tk,EP X pins O Q (.bool (u6 ty T)) { s with toks:=tk }:=λ tk=>⟨.bl _,H,I.tok tk,rfl,q⟩;cases x with
 | zl=>cases (show u=Value.none from ru);cases (show ty=_ from hx);exact PySem.W.kia_one PySem.W.kitx_none I.vZ True.intro e (λ z=>nomatch z) fin
 | bl y=>cases (show u=Value.bool y from ru);cases (show ty=_ from hx);exact PySem.W.kia_one PySem.W.kitx_bool I.vZ True.intro e (λ z=>nomatch z) fin
 | int i=>obtain⟨t,rfl⟩:=(show ∃ t,u=Value.int i t from ru);cases (show ty=_ from hx);exact PySem.W.kia_one PySem.W.kitx_int I.vZ True.intro e (λ z=>nomatch z) fin
 | str y=>obtain⟨t,rfl⟩:=(show ∃ t,u=Value.str y t from ru);cases (show ty=_ from hx);exact PySem.W.kia_one PySem.W.kitx_str I.vZ True.intro e (λ z=>nomatch z) fin
 | ref a=>
  cases (show u=Value.ref a from ru);rcases hx with ⟨rfl,ys,hq⟩ | ⟨rfl,ys,hq⟩ | ⟨rfl,Aa,hq⟩
  .obtain⟨its,_,⟨o,h1,h2,_⟩,_⟩:=I.tuple hq;exact PySem.W.kia_one PySem.W.kitx_tuple I.vZ ⟨o,h1,h2⟩ e (λ z=>nomatch z) fin
  .obtain⟨its,_,⟨o,n,h1,h2,_⟩,_⟩:=I.list hq;exact PySem.W.kia_one PySem.W.kitx_list I.vZ ⟨o,h1,h2⟩ e (λ z=>nomatch z) fin
  .obtain⟨_,_,vs,_,p⟩:=(show xv X.prog X.w H s.heap a (.dK Aa) from I.zE a _ hq)
   obtain⟨o,es,ep,h1,h2,_⟩:=p;exact PySem.W.kia_one PySem.W.kitx_dict I.vZ ⟨o,h1,h2.1⟩ e (λ z=>nomatch z) fin
 | ny _=>exact hx.elim
 | jH _=>exact hx.elim
 | ty _=>exact hx.elim
end L2
namespace L3
open PySem PySem.Spec L2
open PyProof.Rows hiding St
section
variable {X:Cx}{K:Ac}{a b e:Expr}{es:List Expr}{te:zy}{tA:yz}{pos p q:Pos}
def vA (hm:X.mg "len"=none) (ha:xH X (e::es) tA) (hg:Gl X "len":=by rfl) (he:starEach (e::es) X.env=(false,eval e X.env)::starEach es X.env:=by rfl) (Au:(backTo pos (starEach es X.env)).any (·.1)=false:=by rfl):PD X (.Call (.Name "len" p) (e::es) [] pos) (xR uC tA):=
 uU (tJ (Ld.or Lc) hg hm PySem.boot_len ha.pa (by decide) (by decide) he Au) uC.mo uC.fits ha.mo
def jk (hm:X.mg "list"=none) (ha:xH X (e::es) tA) (hg:Gl X "list":=by rfl) (he:starEach (e::es) X.env=(false,eval e X.env)::starEach es X.env:=by rfl) (Au:(backTo pos (starEach es X.env)).any (·.1)=false:=by rfl):PD X (.Call (.Name "list" p) (e::es) [] pos) (xR uB tA):=
 uU (oD La hg hm PyProof.Rows.boot_list ha.pa (by decide) (by decide) he Au) uB.mo uB.fits ha.mo
def oI (hm:X.mg "tuple"=none) (ha:xH X (e::es) tA) (hg:Gl X "tuple":=by rfl) (he:starEach (e::es) X.env=(false,eval e X.env)::starEach es X.env:=by rfl) (Au:(backTo pos (starEach es X.env)).any (·.1)=false:=by rfl):PD X (.Call (.Name "tuple" p) (e::es) [] pos) (xR uA tA):=
 uU (oD MN hg hm PyProof.Rows.boot_tuple ha.pa (by decide) (by decide) he Au) uA.mo uA.fits ha.mo
abbrev Xq:xS:=uc λ i j=>.int (if j>i then j else i)
abbrev Xp:xS:=uc λ i j=>.int (if j<i then j else i)
def jj (hm:X.mg "max"=none) (ha:xH X (e::es) tA) (hc:X.calm=true:=by rfl) (hg:Gl X "max":=by rfl) (he:starEach (e::es) X.env=(false,eval e X.env)::starEach es X.env:=by rfl) (Au:(backTo pos (starEach es X.env)).any (·.1)=false:=by rfl):PD X (.Call (.Name "max" p) (e::es) [] pos) (xR Xq tA):=
 uU (tJ (M_ hc) hg hm boot_max ha.pa (by decide) (by decide) he Au) uc.mo (uc.fits λ _ _ _=>by simp only[zi]) ha.mo
def tL (hm:X.mg "min"=none) (ha:xH X (e::es) tA) (hc:X.calm=true:=by rfl) (hg:Gl X "min":=by rfl) (he:starEach (e::es) X.env=(false,eval e X.env)::starEach es X.env:=by rfl) (Au:(backTo pos (starEach es X.env)).any (·.1)=false:=by rfl):PD X (.Call (.Name "min" p) (e::es) [] pos) (xR Xp tA):=
 uU (tJ (MY hc) hg hm boot_min ha.pa (by decide) (by decide) he Au) uc.mo (uc.fits λ _ _ _=>by simp only[zi]) ha.mo
noncomputable def wF (r:List Int):D:=.tup (r.map D.int)
theorem mz {H:Hp}:∀ {rows:List (List Int)}{ys:List V},zq K H (rows.map wF) ys->(∀ r∈rows,r≠[])->Paired (λ v r=>r≠[]/\∃ b,v=V.ref b/\ye K H b (r.map V.int)) ys rows
 | [],ys,h,_=>by simp only[A8,zq] at h;subst h;exact .nil
 | r::rows,ys,h,hn=>by
  rw[Aq] at h;simp only[zq,wF,zi] at h;obtain⟨x,ys',rfl,⟨a,xs,rfl,g1,g2⟩,h3⟩:=h;rw[g2.ints] at g1;exact .cons ⟨hn r Al,a,rfl,g1⟩ (mz h3 λ r' hr=>hn r' (Av _ hr))
def Yu {α:Type}{rows:List α}{d:α}{idx:List Nat}(h:idx.Perm (List.range rows.length)):(idx.map λ i=>rows.getD i d).Perm rows:=by
 refine (h.map _).trans ?_;have:(List.range rows.length).map (λ i=>rows.getD i d)=rows:=by
  refine BD (by simp) λ i h1 h2=>?_;simp[h2]
 rw[this]
theorem zq.perm {H:Hp}{rows:List (List Int)}{ys:List V}(h:zq K H (rows.map wF) ys):∀ {idx:List Nat},(∀ i∈idx,i<rows.length)->zq K H ((idx.map λ i=>rows.getD i []).map wF) (idx.map λ i=>ys.getD i .zl)
 | [],_=>.nil
 | i::idx,hi=>by
  have h1:=hi i Al;obtain⟨x,e1,e2⟩:=h.get (i:=i) (d:=wF rows[i]) (by simp[h1]);refine .cons ?_ (zq.perm h λ j hj=>hi j (Av _ hj));have e3:ys.getD i .zl=x:=by simp[e1]
  have e4:rows.getD i []=rows[i]:=by simp[h1]
  show zi K H (wF (rows.getD i [])) (ys.getD i .zl);rw[e3,e4];exact e2
def sO {tg:Expr}(hm:X.mg "range"=none) (ha:xH X [a] tA) (hg:Gl X "range":=by rfl) (hs:starEach [a] X.env=[(false,eval a X.env)]:=by rfl):qB X tg (.Call (.Name "range" p) [a] [] pos) (eT tA):=Rm (Si hg hm ha.pa hs) ha.mo
noncomputable def rO (d:D) (S:SS):Option String:=match d with
 | .zl=>some "NoneType"
 | .bl _=>some "bool"
 | .int _=>some "int"
 | .str _=>some "str"
 | .tup _=>some "tuple"
 | .yN _=>some "list"
 | .ref p=>match S p with
  | some (.lst _)=>some "list"
  | some (.yq _)=>some "dict"
  | none=>none
def l7 (T:String) (te:zy):zy:=fun Y S Q=>te Y S λ x S1=>match rO x S1 with
 | some ty=>Q (.bl (u6 ty T)) S1
 | none=>False
def rO.ok {H:Hp}{d:D}{v:V}{S:SS}{ty:String}(r:zi K H d v) (p:zR K H S) (h:rO d S=some ty):W5 K H v ty/\ty∈["NoneType","bool","int","str","tuple","list","dict"]:=by
 cases d with
 | zl=>simp only[zi] at r;subst r;cases h;exact⟨rfl,by simp⟩
 | bl _=>simp only[zi] at r;subst r;cases h;exact⟨rfl,by simp⟩
 | int _=>simp only[zi] at r;subst r;cases h;exact⟨rfl,by simp⟩
 | str _=>simp only[zi] at r;subst r;cases h;exact⟨rfl,by simp⟩
 | tup ds=>
  simp only[zi] at r;obtain⟨a,xs,rfl,g1,_⟩:=r;cases h;exact⟨.inl ⟨rfl,xs,g1⟩,by simp⟩
 | yN ds=>
  simp only[zi] at r;obtain⟨a,xs,rfl,g1,_⟩:=r;cases h;exact⟨.inr (.inl ⟨rfl,xs,g1.sq⟩),by simp⟩
 | ref a=>
  simp only[zi] at r;subst r;unfold rO at h;dsimp only at h;split at h
  .rename_i e;cases h;obtain⟨xs,g1,_⟩:=p _ _ e;exact⟨.inr (.inl ⟨rfl,xs,zT.of g1⟩),by simp⟩
  .rename_i e;cases h;obtain⟨xs,g1,_⟩:=p _ _ e;exact⟨.inr (.inr ⟨rfl,xs,g1⟩),by simp⟩
  .cases h
def fN {T:String}{x:Str}(hT:T∈["int","bool","tuple","list","str"]) (hm:X.mg "isinstance"=none) (hm2:X.mg x=none) (hv:bootBuiltins x=some (.type T)) (hg2:Gl X x) (hn:x≠"__name__") (hd:(x == ("__debug__":Str))=false) (he:PD X e te) (hg:Gl X "isinstance":=by rfl)
  (h1:starEach (e::[.Name x q]) X.env=(false,eval e X.env)::starEach [.Name x q] X.env:=by rfl) (h2:(backTo pos (starEach [.Name x q] X.env)).any (·.1)=false:=by rfl) (h3:starEach [.Name x q] X.env=(false,eval (.Name x q) X.env)::starEach [] X.env:=by rfl):
  PD X (.Call (.Name "isinstance" p) [e,.Name x q] [] pos) (l7 T te):=by
 refine⟨fun Y S Q Q' hq z=>he.mo Y S _ _ (λ y S1 z=>?_) z,PE.imp (tJ Lh hg hm boot_isinstance (qa he.pe (qa (Ra (v:=.ty T) hg2 hm2 hv rfl hn hd) pj h3) h1) (by decide) (by decide) h1 h2) fun O H Q hu=>?_⟩
 .split at z
  .exact hq _ _ z
  .exact z
 .obtain⟨Y,S,r1,r2,z⟩:=hu;refine zX.go he.mo r1 r2 z λ y S1 v H1 z1 q1 e1 p1=>?_;split at z1
  .rename_i ty ht;obtain⟨g1,g2⟩:=rO.ok q1 p1 ht;refine⟨v,T,ty,rfl,g1,?_,z1 _ H1 (by simp only[zi]) e1 p1⟩;exact BA.mp (BA.mp VG ty g2) T hT
  .exact z1.elim
def ZM (T:Bt X.mg) (he:PD X e te) (hg:Gl X "isinstance":=by rfl) (hg2:Gl X "bool":=by rfl) (h1:starEach (e::[.Name "bool" q]) X.env=(false,eval e X.env)::starEach [.Name "bool" q] X.env:=by rfl) (h2:(backTo pos (starEach [.Name "bool" q] X.env)).any (·.1)=false:=by rfl) (h3:starEach [.Name "bool" q] X.env=(false,eval (.Name "bool" q) X.env)::starEach [] X.env:=by rfl):
  PD X (.Call (.Name "isinstance" p) [e,.Name "bool" q] [] pos) (l7 "bool" te):=fN (by simp) T.isinstance T.bool PyProof.Rows.boot_bool hg2 (by decide) (by decide) he hg h1 h2 h3
def ZL (T:Bt X.mg) (he:PD X e te) (hg:Gl X "isinstance":=by rfl) (hg2:Gl X "int":=by rfl) (h1:starEach (e::[.Name "int" q]) X.env=(false,eval e X.env)::starEach [.Name "int" q] X.env:=by rfl) (h2:(backTo pos (starEach [.Name "int" q] X.env)).any (·.1)=false:=by rfl) (h3:starEach [.Name "int" q] X.env=(false,eval (.Name "int" q) X.env)::starEach [] X.env:=by rfl):
  PD X (.Call (.Name "isinstance" p) [e,.Name "int" q] [] pos) (l7 "int" te):=fN (by simp) T.isinstance T.int PyProof.Rows.boot_int hg2 (by decide) (by decide) he hg h1 h2 h3
def Rw (T:Bt X.mg) (he:PD X e te) (hg:Gl X "isinstance":=by rfl) (hg2:Gl X "tuple":=by rfl) (h1:starEach (e::[.Name "tuple" q]) X.env=(false,eval e X.env)::starEach [.Name "tuple" q] X.env:=by rfl) (h2:(backTo pos (starEach [.Name "tuple" q] X.env)).any (·.1)=false:=by rfl) (h3:starEach [.Name "tuple" q] X.env=(false,eval (.Name "tuple" q) X.env)::starEach [] X.env:=by rfl):
  PD X (.Call (.Name "isinstance" p) [e,.Name "tuple" q] [] pos) (l7 "tuple" te):=fN (by simp) T.isinstance T.tuple PyProof.Rows.boot_tuple hg2 (by decide) (by decide) he hg h1 h2 h3
def r_ {o:Expr}{to:zy}{apos Ag:Pos}(ho:PD X o to) (he:PD X e te)
  (hbase:attributeBase o "append" X.env (eval o X.env)=eval o X.env:=by rfl)
  (AG:((backTo Ag (starEach [e] X.env)).all (λ x=>!x.1)&&(backToKw Ag (keywordEach [] X.env)).all (λ x=>x.1.isSome)
   && decide ([e].length+([]:List Keyword).length+(if ([]:List Keyword).isEmpty then 0 else 1)<30))=true:=by rfl)
  (hline:(apos.endLine == Ag.line)=true:=by rfl) (hs:starEach [e] X.env=(false,eval e X.env)::starEach [] X.env:=by rfl) (hplain:(backTo Ag (starEach [] X.env)).any (·.1)=false:=by rfl):
  PD X (.Call (.Attribute o "append" apos) [e] [] Ag) (qx to te):=
 R7 (o:=o) (e:=e) (fD PySem.F.plainAttrs_list PySem.F.slot_list_append PySem.F.type_list_append Yr ho.pe (qa he.pe pj hs) hbase AG hline hs hplain) ho.mo he.mo
structure FD (P:Program) (w:World) (K:Ac) (mg:Str->Option Value) (base:Heap) (x:Str) (k:Nat) (ps:List Str) (sp:rp):Prop where
 ex:∃ (f:Addr) (fd:FuncData),uO P w K mg base vQ k f fd ps (sD K sp)/\mg x=some (.ref f)/\PySem.W.keepIn K (.ref f)=true/\Binds K fd ps []
 mo:c9 sp
def R5 {x:Str}{k:Nat}{ps:List Str}{sp:rp}(F:FD X.prog X.w X.K X.mg X.base x k ps sp) (hr:yK k X.A) (ha:xH X (e::es) tA) (hg:Gl X x:=by rfl) (B0:(x == ("__debug__":Str))=false:=by decide)
  (he:starEach (e::es) X.env=(false,eval e X.env)::starEach es X.env:=by rfl) (Au:(backTo pos (starEach es X.env)).any (·.1)=false:=by rfl):PD X (.Call (.Name x p) (e::es) [] pos) (jT sp tA):=by
 obtain⟨⟨f,fd,h1,h2,h3,h4⟩,hm⟩:=F;exact R6 (E:=E0) (S_ h1 hr hg h2 h3 h4 .nil RA ha.pa B0 he Au) hm ha.mo
end
def NY {S:SS}{p:Addr}{ds:List D}{Q:DK}(e:S p=some (.lst ds)) (h:Q (.tup ds) S):uA [.ref p] S Q:=by
 unfold uA;dsimp only;rw[e];exact h
def NZ {S:SS}{d:D}{ds:List D}{Q:DK}(e:zV d S=some ds) (h:∀ p,S p=none->Q (.ref p) (ups S p (.lst ds))):uB [d] S Q:=by
 unfold uB;dsimp only;rw[e];exact h
def N_ {S:SS}{d:D}{ds:List D}{Q:DK}(e:zV d S=some ds) (h:Q (.int ds.length) S):uC [d] S Q:=by
 unfold uC;dsimp only;rw[e];exact h
def VO {S:SS}{p:Addr}{ds:List D}{Q:Bool->SS->Prop}(e:S p=some (.lst ds)) (h:Q (!ds.isEmpty) S):vR (.ref p) S Q:=by
 unfold vR;dsimp only;rw[e];exact h
def Mc {S:SS}{p:Addr}{ds:List D}{i:Int}{d:D}{Q:DK}(e:S p=some (.lst ds)) (e2:L2.zZ ds i=some d) (h:Q d S):wU (.ref p) (.int i) S Q:=by
 unfold wU;dsimp only;rw[e];dsimp only;rw[e2];exact h
def Ma {S:SS}{ds:List D}{i:Int}{d:D}{Q:DK}(e2:L2.zZ ds i=some d) (h:Q d S):wU (.tup ds) (.int i) S Q:=by
 unfold wU;dsimp only;rw[e2];exact h
def Mb {S:SS}{ds:List D}{i:Int}{d:D}{Q:DK}(e2:L2.zZ ds i=some d) (h:Q d S):wU (.yN ds) (.int i) S Q:=by
 unfold wU;dsimp only;rw[e2];exact h
inductive T where
 | zl | bl (b:Bool) | int (i:Int) | str (x:Str) | tup (ts:List T) | lst (ts:List T) | yd
mutual
noncomputable def eqT:T->T->Bool
 | .zl,.zl=>true
 | .bl a,.bl b=>a == b
 | .bl a,.int b=>(if a then 1 else 0) == b
 | .int a,.bl b=>a == (if b then 1 else 0)
 | .int a,.int b=>a == b
 | .str a,.str b=>a == b
 | .tup a,.tup b=>xQ a b
 | .lst a,.lst b=>xQ a b
 | .yd,.yd=>true
 | _,_=>false
noncomputable def xQ:List T->List T->Bool
 | [],[]=>true
 | a::as,b::bs=>eqT a b&&xQ as bs
 | _,_=>false
end
mutual
noncomputable def dep:T->Nat
 | .tup ts=>1+yE ts
 | .lst ts=>1+yE ts
 | .yd=>cLine
 | _=>0
noncomputable def yE:List T->Nat
 | []=>0
 | t::ts=>max (dep t) (yE ts)
end
noncomputable def fQ:List T->Bool
 | []=>true
 | .int _::ts=>fQ ts
 | _=>false
def R_ (ns:List Int):fQ (ns.map T.int)=true:=by
 induction ns with
 | nil=>rfl
 | cons n ns ih=>exact ih
mutual
noncomputable def Sn (S:SS):T->D->Prop
 | .zl,d=>d=.zl
 | .bl b,d=>d=.bl b
 | .int i,d=>d=.int i
 | .str x,d=>d=.str x
 | .tup ts,d=>∃ ds,d=.tup ds/\zo S ts ds
 | .lst ts,d=>∃ ds,((d=.yN ds/\fQ ts=true)\/∃ a,d=.ref a/\S a=some (.lst ds))/\zo S ts ds
 | .yd,d=>∃ a Aa,d=.ref a/\S a=some (.yq Aa)
noncomputable def zo (S:SS):List T->List D->Prop
 | [],ds=>ds=[]
 | t::ts,ds=>∃ c cs,ds=c::cs/\Sn S t c/\zo S ts cs
end
mutual
theorem dF:∀ t:T,eqT t t=true
 | .zl=>by simp[eqT]
 | .bl b=>by simp[eqT]
 | .int i=>by simp[eqT]
 | .str x=>by simp[eqT]
 | .tup ts=>by simp only[eqT];exact dE ts
 | .lst ts=>by simp only[eqT];exact dE ts
 | .yd=>by simp[eqT]
theorem dE:∀ ts:List T,xQ ts ts=true
 | []=>by simp[xQ]
 | t::ts=>by simp only[xQ,dF t,dE ts,Dy]
end
theorem tW:∀ ts us:List T,xQ ts us=((List.range (min ts.length us.length)).all (λ j=>eqT (ts.getD j .zl) (us.getD j .zl))&&ts.length == us.length)
 | [],[]=>by simp[xQ]
 | [],_::_=>by simp[xQ]
 | _::_,[]=>by simp[xQ]
 | t::ts,u::us=>by
  simp only[xQ,tW ts us,AW];rw[show min (ts.length+1) (us.length+1)=min ts.length us.length+1 by lia,CV,List.all_cons,List.all_map];have:(ts.length+1 == us.length+1)=(ts.length == us.length):=by rw[A5];simp
  rw[this,Bool.and_assoc];rfl
theorem zo.length {S:SS}:∀ {ts:List T}{ds:List D},zo S ts ds->ts.length=ds.length
 | [],ds,h=>by simp only[zo] at h;subst h;rfl
 | t::ts,ds,h=>by
  simp only[zo] at h;obtain⟨c,cs,rfl,_,h2⟩:=h;simp[zo.length h2]
section
variable {X:Cx}{pins:List (Addr×Obj)}{O:St}{H:Hp}{s:Shared}{S:SS}
def YO (I:Inv X pins O H s) {a:Addr}{xs ys:List V}(h1:ye X.K H a xs) (h2:zT X.K H a ys):False:=by
 obtain⟨_,_,⟨o,e,c,_⟩,_⟩:=I.tuple h1;obtain⟨_,_,⟨o',n,e',c',_⟩,_⟩:=I.list h2;rw[e] at e';cases e';rw[c] at c'
 injection c' with q
 exact absurd q (by decide)
def Sn.xh (p:zR X.K H S) {ts:List T}{d:D}{x:V}(h:Sn S (.lst ts) d) (r:zi X.K H d x):∃ a xs ds,x=.ref a/\zT X.K H a xs/\zq X.K H ds xs/\zo S ts ds:=by
 simp only[Sn] at h;obtain⟨ds,⟨h,_⟩ | ⟨a,h,e⟩,h2⟩:=h
 .subst h;simp only[zi] at r;obtain⟨a,xs,rfl,g1,g2⟩:=r;exact⟨a,xs,ds,rfl,g1.sq,g2,h2⟩
 .subst h;simp only[zi] at r;obtain⟨xs,g1,g2⟩:=p _ _ e;exact⟨a,xs,ds,r,zT.of g1,g2,h2⟩
def Sn.xf {ts:List T}{d:D}{x:V}(h:Sn S (.tup ts) d) (r:zi X.K H d x):∃ a xs ds,x=.ref a/\ye X.K H a xs/\zq X.K H ds xs/\zo S ts ds:=by
 simp only[Sn] at h;obtain⟨ds,rfl,h2⟩:=h;simp only[zi] at r;obtain⟨a,xs,rfl,g1,g2⟩:=r;exact⟨a,xs,ds,rfl,g1,g2,h2⟩
def Sn.pJ (p:zR X.K H S) {d:D}{x:V}(h:Sn S .yd d) (r:zi X.K H d x):∃ a vs,x=.ref a/\H a=some (.dK vs):=by
 simp only[Sn] at h;obtain⟨a,Aa,rfl,e⟩:=h;simp only[zi] at r;obtain⟨xs,g1,g2⟩:=p _ _ e;exact⟨a,xs,r,g1⟩
def YT (I:Inv X pins O H s) {a:Addr}{vs:List (Key×V)}(h:H a=some (.dK vs)):∃ o,s.heap.get? a=some o/\o.cls=.type "dict":=by
 obtain⟨_,_,_,_,o,_,_,e,c⟩:=(show xv X.prog X.w H s.heap a (.dK vs) from I.zE a _ h)
 exact⟨o,e,c.1.1⟩
def YQ (I:Inv X pins O H s) {a:Addr}{xs:List V}{vs:List (Key×V)}(h1:ye X.K H a xs) (h2:H a=some (.dK vs)):False:=by
 obtain⟨_,_,⟨o,e,c,_⟩,_⟩:=I.tuple h1;obtain⟨o',e',c'⟩:=YT I h2;rw[e] at e';cases e';rw[c] at c'
 injection c' with q
 exact absurd q (by decide)
def YS (I:Inv X pins O H s) {a:Addr}{xs:List V}{vs:List (Key×V)}(h1:zT X.K H a xs) (h2:H a=some (.dK vs)):False:=by
 obtain⟨_,_,⟨o,n,e,c,_⟩,_⟩:=I.list h1;obtain⟨o',e',c'⟩:=YT I h2;rw[e] at e';cases e';rw[c] at c'
 injection c' with q
 exact absurd q (by decide)
theorem Sn.flat {t:T}{d:D}{x:V}(h:Sn S t d) (r:zi X.K H d x):match t with
  | .zl=>x=.zl
  | .bl b=>x=.bl b
  | .int i=>x=.int i
  | .str y=>x=.str y
  | _=>True:=by
 cases t <;> first
  | trivial
  | (simp only[Sn] at h;subst h;simpa only [zi] using r)
mutual
theorem kB (I:Inv X pins O H s) (p:zR X.K H S):∀ (t u:T) {d e:D}{x:V},Sn S t d->Sn S u e->zi X.K H d x->zi X.K H e x->t=u
 | .tup ts,u,d,e,x,h1,h2,r1,r2=>by
  obtain⟨a,xs,ds,rfl,g1,g2,g3⟩:=h1.xf r1;cases u with
  | yd=>obtain⟨_,_,q,g⟩:=h2.pJ p r2;cases q;exact (YQ I g1 g).elim
  | tup us=>
   obtain⟨a',xs',ds',q,k1,k2,k3⟩:=h2.xf r2;cases q;have:=I.iR g1 k1;subst this;rw[iQ I p ts us g3 k3 g2 k2]
  | lst us=>
   obtain⟨a',xs',ds',q,k1,k2,k3⟩:=h2.xh p r2;cases q;exact (YO I g1 k1).elim
  | zl=>exact nomatch h2.flat r2
  | bl _=>exact nomatch h2.flat r2
  | int _=>exact nomatch h2.flat r2
  | str _=>exact nomatch h2.flat r2
 | .lst ts,u,d,e,x,h1,h2,r1,r2=>by
  obtain⟨a,xs,ds,rfl,g1,g2,g3⟩:=h1.xh p r1;cases u with
  | yd=>obtain⟨_,_,q,g⟩:=h2.pJ p r2;cases q;exact (YS I g1 g).elim
  | lst us=>
   obtain⟨a',xs',ds',q,k1,k2,k3⟩:=h2.xh p r2;cases q;have:=I.eM g1 k1;subst this;rw[iQ I p ts us g3 k3 g2 k2]
  | tup us=>
   obtain⟨a',xs',ds',q,k1,k2,k3⟩:=h2.xf r2;cases q;exact (YO I k1 g1).elim
  | zl=>exact nomatch h2.flat r2
  | bl _=>exact nomatch h2.flat r2
  | int _=>exact nomatch h2.flat r2
  | str _=>exact nomatch h2.flat r2
 | .zl,u,d,e,x,h1,h2,r1,r2=>by
  have q:=h1.flat r1;subst q;cases u with
  | yd=>obtain⟨_,_,q,g⟩:=h2.pJ p r2;cases q
  | zl=>rfl
  | tup us=>obtain⟨_,_,_,q,_⟩:=h2.xf r2;cases q
  | lst us=>obtain⟨_,_,_,q,_⟩:=h2.xh p r2;cases q
  | bl _=>exact nomatch h2.flat r2
  | int _=>exact nomatch h2.flat r2
  | str _=>exact nomatch h2.flat r2
 | .bl b,u,d,e,x,h1,h2,r1,r2=>by
  have q:=h1.flat r1;subst q;cases u with
  | yd=>obtain⟨_,_,q,g⟩:=h2.pJ p r2;cases q
  | bl _=>have q:=h2.flat r2;cases q;rfl
  | tup us=>obtain⟨_,_,_,q,_⟩:=h2.xf r2;cases q
  | lst us=>obtain⟨_,_,_,q,_⟩:=h2.xh p r2;cases q
  | zl=>exact nomatch h2.flat r2
  | int _=>exact nomatch h2.flat r2
  | str _=>exact nomatch h2.flat r2
 | .int b,u,d,e,x,h1,h2,r1,r2=>by
  have q:=h1.flat r1;subst q;cases u with
  | yd=>obtain⟨_,_,q,g⟩:=h2.pJ p r2;cases q
  | int _=>have q:=h2.flat r2;cases q;rfl
  | tup us=>obtain⟨_,_,_,q,_⟩:=h2.xf r2;cases q
  | lst us=>obtain⟨_,_,_,q,_⟩:=h2.xh p r2;cases q
  | zl=>exact nomatch h2.flat r2
  | bl _=>exact nomatch h2.flat r2
  | str _=>exact nomatch h2.flat r2
 | .str b,u,d,e,x,h1,h2,r1,r2=>by
  have q:=h1.flat r1;subst q;cases u with
  | yd=>obtain⟨_,_,q,g⟩:=h2.pJ p r2;cases q
  | str _=>have q:=h2.flat r2;cases q;rfl
  | tup us=>obtain⟨_,_,_,q,_⟩:=h2.xf r2;cases q
  | lst us=>obtain⟨_,_,_,q,_⟩:=h2.xh p r2;cases q
  | zl=>exact nomatch h2.flat r2
  | bl _=>exact nomatch h2.flat r2
  | int _=>exact nomatch h2.flat r2
 | .yd,u,d,e,x,h1,h2,r1,r2=>by
  obtain⟨a,vs,rfl,g⟩:=h1.pJ p r1;cases u with
  | yd=>rfl
  | tup us=>obtain⟨_,_,_,q,g1,_⟩:=h2.xf r2;cases q;exact (YQ I g1 g).elim
  | lst us=>obtain⟨_,_,_,q,g1,_⟩:=h2.xh p r2;cases q;exact (YS I g1 g).elim
  | zl=>exact nomatch h2.flat r2
  | bl _=>exact nomatch h2.flat r2
  | int _=>exact nomatch h2.flat r2
  | str _=>exact nomatch h2.flat r2
theorem iQ (I:Inv X pins O H s) (p:zR X.K H S):∀ (ts us:List T) {ds es:List D}{xs:List V},zo S ts ds->zo S us es->zq X.K H ds xs->zq X.K H es xs->ts=us
 | [],us,ds,es,xs,h1,h2,r1,r2=>by
  have e:=h1.length.trans (r1.length.trans (r2.length.symm.trans h2.length.symm));cases us with
  | nil=>rfl
  | cons _ _=>simp at e
 | t::ts,[],ds,es,xs,h1,h2,r1,r2=>by
  have e:=h1.length.trans (r1.length.trans (r2.length.symm.trans h2.length.symm));simp at e
 | t::ts,u::us,ds,es,xs,h1,h2,r1,r2=>by
  simp only[zo] at h1 h2;obtain⟨c,cs,rfl,a1,a2⟩:=h1;obtain⟨c',cs',rfl,b1,b2⟩:=h2;simp only[zq] at r1 r2;obtain⟨y,ys,rfl,g1,g2⟩:=r1;obtain⟨y',ys',q,k1,k2⟩:=r2;cases q;rw[kB I p t u a1 b1 g1 k1,iQ I p ts us a2 b2 g2 k2]
end
def zo.get {ts:List T}{ds:List D}(h:zo S ts ds):∀ {j:Nat},j<ts.length->∃ c,ds[j]?=some c/\Sn S (ts.getD j .zl) c:=by
 induction ts generalizing ds with
 | nil=>intro j hj;simp at hj
 | cons t ts ih=>
  intro j hj;simp only[zo] at h;obtain⟨c,cs,rfl,h1,h2⟩:=h;cases j with
  | zero=>exact⟨c,rfl,h1⟩
  | succ j=>
   obtain⟨c',e,h3⟩:=ih h2 (j:=j) (by simpa using hj);exact⟨c',by simpa using e,by simpa using h3⟩
theorem X6:∀ {ts:List T}{j:Nat},j<ts.length->dep (ts.getD j .zl)<=yE ts
 | [],j,h=>by simp at h
 | t::ts,0,_=>by simp only[yE,List.getD_cons_zero];lia
 | t::ts,j+1,h=>by
  have:=X6 (ts:=ts) (j:=j) (by simpa using h);simp only[yE,List.getD_cons_succ];lia
mutual
theorem Xu (I:Inv X pins O H s) (p:zR X.K H S):∀ (t u:T) {A:Around}{d e:D}{x y:V}{a b:Value},A.units+dep t<cLine->A.units+dep u<cLine->Sn S t d->Sn S u e->zi X.K H d x->zi X.K H e y->RelV x a->RelV y b->SeqAt.EqAt A s a b (eqT t u)
 | .zl,u,A,d,e,x,y,a,b,hu,hu',h1,h2,r1,r2,v1,v2=>by
  have q:=h1.flat r1;subst q;cases v1;cases u with
  | yd=>simp only[dep] at hu';lia
  | zl=>have q:=h2.flat r2;subst q;cases v2;simp only[eqT];exact SeqAt.EqAt.same _
  | bl b=>have q:=h2.flat r2;subst q;cases v2;simp only[eqT];exact SeqAt.EqAt.none_bool _
  | int i=>have q:=h2.flat r2;subst q;obtain⟨t,rfl⟩:=v2;simp only[eqT];exact SeqAt.EqAt.none_int _ _
  | str i=>have q:=h2.flat r2;subst q;obtain⟨t,rfl⟩:=v2;simp only[eqT];exact SeqAt.EqAt.none_str _ _
  | tup us=>obtain⟨a',xs',ds',rfl,k1,k2,k3⟩:=h2.xf r2;cases v2;obtain⟨_,_,pt,_⟩:=I.tuple k1;simp only[eqT];exact SeqAt.EqAt.none_tuple pt (by lia)
  | lst us=>obtain⟨a',xs',ds',rfl,k1,k2,k3⟩:=h2.xh p r2;cases v2;obtain⟨_,_,pl,_⟩:=I.list k1;simp only[eqT];exact SeqAt.EqAt.none_list pl.isList (by lia)
 | .bl c,u,A,d,e,x,y,a,b,hu,hu',h1,h2,r1,r2,v1,v2=>by
  have q:=h1.flat r1;subst q;cases v1;cases u with
  | yd=>simp only[dep] at hu';lia
  | zl=>have q:=h2.flat r2;subst q;cases v2;simp only[eqT];exact SeqAt.EqAt.bool_none _
  | bl b=>have q:=h2.flat r2;subst q;cases v2;simp only[eqT];exact SeqAt.EqAt.bool_bool _ _
  | int i=>have q:=h2.flat r2;subst q;obtain⟨t,rfl⟩:=v2;simp only[eqT];exact SeqAt.EqAt.bool_int _ _ _
  | str i=>have q:=h2.flat r2;subst q;obtain⟨t,rfl⟩:=v2;simp only[eqT];exact SeqAt.EqAt.bool_str _ _ _
  | tup us=>obtain⟨a',xs',ds',rfl,k1,k2,k3⟩:=h2.xf r2;cases v2;obtain⟨_,_,pt,_⟩:=I.tuple k1;simp only[eqT];exact SeqAt.EqAt.bool_tuple _ pt (by lia)
  | lst us=>obtain⟨a',xs',ds',rfl,k1,k2,k3⟩:=h2.xh p r2;cases v2;obtain⟨_,_,pl,_⟩:=I.list k1;simp only[eqT];exact SeqAt.EqAt.bool_list _ pl.isList (by lia)
 | .int c,u,A,d,e,x,y,a,b,hu,hu',h1,h2,r1,r2,v1,v2=>by
  have q:=h1.flat r1;subst q;obtain⟨tk,rfl⟩:=v1;cases u with
  | yd=>simp only[dep] at hu';lia
  | zl=>have q:=h2.flat r2;subst q;cases v2;simp only[eqT];exact SeqAt.EqAt.int_none _ _
  | bl b=>have q:=h2.flat r2;subst q;cases v2;simp only[eqT];exact SeqAt.EqAt.int_bool _ _ _
  | int i=>have q:=h2.flat r2;subst q;obtain⟨t,rfl⟩:=v2;simp only[eqT];exact SeqAt.EqAt.int_int _ _ _ _
  | str i=>have q:=h2.flat r2;subst q;obtain⟨t,rfl⟩:=v2;simp only[eqT];exact SeqAt.EqAt.int_str _ _ _ _
  | tup us=>obtain⟨a',xs',ds',rfl,k1,k2,k3⟩:=h2.xf r2;cases v2;obtain⟨_,_,pt,_⟩:=I.tuple k1;simp only[eqT];exact SeqAt.EqAt.int_tuple _ _ pt (by lia)
  | lst us=>obtain⟨a',xs',ds',rfl,k1,k2,k3⟩:=h2.xh p r2;cases v2;obtain⟨_,_,pl,_⟩:=I.list k1;simp only[eqT];exact SeqAt.EqAt.int_list _ _ pl.isList (by lia)
 | .str c,u,A,d,e,x,y,a,b,hu,hu',h1,h2,r1,r2,v1,v2=>by
  have q:=h1.flat r1;subst q;obtain⟨tk,rfl⟩:=v1;cases u with
  | yd=>simp only[dep] at hu';lia
  | zl=>have q:=h2.flat r2;subst q;cases v2;simp only[eqT];exact SeqAt.EqAt.str_none _ _
  | bl b=>have q:=h2.flat r2;subst q;cases v2;simp only[eqT];exact SeqAt.EqAt.str_bool _ _ _
  | int i=>have q:=h2.flat r2;subst q;obtain⟨t,rfl⟩:=v2;simp only[eqT];exact SeqAt.EqAt.str_int _ _ _ _
  | str i=>have q:=h2.flat r2;subst q;obtain⟨t,rfl⟩:=v2;simp only[eqT];exact SeqAt.EqAt.str_str _ _ _ _
  | tup us=>obtain⟨a',xs',ds',rfl,k1,k2,k3⟩:=h2.xf r2;cases v2;obtain⟨_,_,pt,_⟩:=I.tuple k1;simp only[eqT];exact SeqAt.EqAt.str_tuple _ _ pt (by lia)
  | lst us=>obtain⟨a',xs',ds',rfl,k1,k2,k3⟩:=h2.xh p r2;cases v2;obtain⟨_,_,pl,_⟩:=I.list k1;simp only[eqT];exact SeqAt.EqAt.str_list _ _ pl.isList (by lia)
 | .tup ts,u,A,d,e,x,y,a,b,hu,hu',h1,h2,r1,r2,v1,v2=>by
  have hd1:=h1;have hr1:=r1;obtain⟨l,xs,ds,rfl,g1,g2,g3⟩:=h1.xf r1;cases v1;obtain⟨its,w1,pt,_⟩:=I.tuple g1;simp only[dep] at hu;cases u with
  | yd=>simp only[dep] at hu';lia
  | zl=>have q:=h2.flat r2;subst q;cases v2;simp only[eqT];exact SeqAt.EqAt.tuple_none pt (by lia)
  | bl b=>have q:=h2.flat r2;subst q;cases v2;simp only[eqT];exact SeqAt.EqAt.tuple_bool _ pt (by lia)
  | int i=>have q:=h2.flat r2;subst q;obtain⟨t,rfl⟩:=v2;simp only[eqT];exact SeqAt.EqAt.tuple_int _ _ pt (by lia)
  | str i=>have q:=h2.flat r2;subst q;obtain⟨t,rfl⟩:=v2;simp only[eqT];exact SeqAt.EqAt.tuple_str _ _ pt (by lia)
  | tup us=>
   by_cases B_:(Value.ref l)=b
   .subst B_;have hy:y=.ref l:=RelV.inj v2 rfl;subst hy;have:=kB I p (.tup ts) (.tup us) hd1 h2 hr1 r2;rw[<- this,dF];exact SeqAt.EqAt.same _
   .obtain⟨l',xs',ds',rfl,k1,k2,k3⟩:=h2.xf r2;cases v2;obtain⟨Ae,w2,pt',_⟩:=I.tuple k1;simp only[dep] at hu';have e1:its.toArray.size=ts.length:=by rw[Ar,<- w1.length,<- g2.length,<- g3.length]
    have e2:Ae.toArray.size=us.length:=by rw[Ar,<- w2.length,<- k2.length,<- k3.length]
    have q:=SeqAt.RcAt.tuples (A:=A) (e:=λ j=>eqT (ts.getD j .zl) (us.getD j .zl)) pt pt' (by lia) λ j h1 h2=>by
     have:=pF I p ts us (A:=A.in1) (by show A.units+1+yE ts<cLine;lia) (by show A.units+1+yE us<cLine;lia) g3 k3 g2 k2 w1 w2 j (by simpa using h1) (by simpa using h2);simpa using this
    rw[e1,e2] at q;have q':=SeqAt.EqAt.of_refs (λ z=>B_ (by rw[z])) q;simp only[eqT,tW];exact q'
  | lst us=>obtain⟨l',xs',ds',rfl,k1,k2,k3⟩:=h2.xh p r2;cases v2;obtain⟨_,_,pl,_⟩:=I.list k1;simp only[eqT];exact SeqAt.EqAt.tuple_list pt pl.isList (by lia)
 | .lst ts,u,A,d,e,x,y,a,b,hu,hu',h1,h2,r1,r2,v1,v2=>by
  have hd1:=h1;have hr1:=r1;obtain⟨l,xs,ds,rfl,g1,g2,g3⟩:=h1.xh p r1;cases v1;obtain⟨its,w1,pl,_⟩:=I.list g1;simp only[dep] at hu;cases u with
  | yd=>simp only[dep] at hu';lia
  | zl=>have q:=h2.flat r2;subst q;cases v2;simp only[eqT];exact SeqAt.EqAt.list_none pl.isList (by lia)
  | bl b=>have q:=h2.flat r2;subst q;cases v2;simp only[eqT];exact SeqAt.EqAt.list_bool _ pl.isList (by lia)
  | int i=>have q:=h2.flat r2;subst q;obtain⟨t,rfl⟩:=v2;simp only[eqT];exact SeqAt.EqAt.list_int _ _ pl.isList (by lia)
  | str i=>have q:=h2.flat r2;subst q;obtain⟨t,rfl⟩:=v2;simp only[eqT];exact SeqAt.EqAt.list_str _ _ pl.isList (by lia)
  | tup us=>obtain⟨l',xs',ds',rfl,k1,k2,k3⟩:=h2.xf r2;cases v2;obtain⟨_,_,pt,_⟩:=I.tuple k1;simp only[eqT];exact SeqAt.EqAt.list_tuple pl.isList pt (by lia)
  | lst us=>
   by_cases B_:(Value.ref l)=b
   .subst B_;have hy:y=.ref l:=RelV.inj v2 rfl;subst hy;have:=kB I p (.lst ts) (.lst us) hd1 h2 hr1 r2;rw[<- this,dF];exact SeqAt.EqAt.same _
   .obtain⟨l',xs',ds',rfl,k1,k2,k3⟩:=h2.xh p r2;cases v2;obtain⟨Ae,w2,pl',_⟩:=I.list k1;simp only[dep] at hu';have e1:its.toArray.size=ts.length:=by rw[Ar,<- w1.length,<- g2.length,<- g3.length]
    have e2:Ae.toArray.size=us.length:=by rw[Ar,<- w2.length,<- k2.length,<- k3.length]
    have Aj:l≠l':=λ z=>B_ (by rw[z]);by_cases hsz:ts.length=us.length
    .have q:=SeqAt.RcAt.lists (A:=A) (e:=λ j=>eqT (ts.getD j .zl) (us.getD j .zl)) pl.isList pl'.isList (by rw[e1,e2];exact hsz) (by lia) λ j h1 h2=>by
      have:=pF I p ts us (A:=A.in1) (by show A.units+1+yE ts<cLine;lia) (by show A.units+1+yE us<cLine;lia) g3 k3 g2 k2 w1 w2 j (by simpa using h1) (by simpa using h2);simpa using this
     rw[e1] at q;have q':=SeqAt.EqAt.of_refs Aj q;simp only[eqT,tW];rw[<- hsz,Nat.min_self];simpa using q'
    .have q:=SeqAt.RcAt.lists_lengths (A:=A) pl.isList pl'.isList (by rw[e1,e2];simpa using hsz) (by lia);have q':=SeqAt.EqAt.of_refs Aj q;simp only[eqT,tW];have:(ts.length == us.length)=false:=by simpa using hsz
     rw[this,B4];exact q'
 | .yd,u,A,d,e,x,y,a,b,hu,hu',h1,h2,r1,r2,v1,v2=>by simp only[dep] at hu;lia
theorem pF (I:Inv X pins O H s) (p:zR X.K H S):∀ (ts us:List T) {A:Around}{ds es:List D}{xs ys:List V}{its Ae:List Value},A.units+yE ts<cLine->A.units+yE us<cLine->zo S ts ds->zo S us es->zq X.K H ds xs->zq X.K H es ys->Vals xs its->Vals ys Ae->
  ∀ (j:Nat) (h1:j<its.length) (h2:j<Ae.length),SeqAt.EqAt A s its[j] Ae[j] (eqT (ts.getD j .zl) (us.getD j .zl))
 | [],us,A,ds,es,xs,ys,its,Ae,hu,hu',s1,s2,r1,r2,v1,v2,j,h1,h2=>by
  rw[<- v1.length,<- r1.length,<- s1.length] at h1;simp at h1
 | t::ts,[],A,ds,es,xs,ys,its,Ae,hu,hu',s1,s2,r1,r2,v1,v2,j,h1,h2=>by
  rw[<- v2.length,<- r2.length,<- s2.length] at h2;simp at h2
 | t::ts,u::us,A,ds,es,xs,ys,its,Ae,hu,hu',s1,s2,r1,r2,v1,v2,j,h1,h2=>by
  simp only[zo] at s1 s2;obtain⟨c,cs,rfl,a1,a2⟩:=s1;obtain⟨c',cs',rfl,b1,b2⟩:=s2;simp only[zq] at r1 r2;obtain⟨y,ys,rfl,g1,g2⟩:=r1;obtain⟨y',ys',rfl,k1,k2⟩:=r2;cases v1 with
  | cons m1 m2=>
   cases v2 with
   | cons n1 n2=>
    simp only[yE] at hu hu';cases j with
    | zero=>simpa using Xu I p t u (A:=A) (by lia) (by lia) a1 b1 g1 k1 m1 n1
    | succ j=>simpa using pF I p ts us (A:=A) (by lia) (by lia) a2 b2 g2 k2 m2 n2 j (by simpa using h1) (by simpa using h2)
end
theorem Ti (I:Inv X pins O H s) (p:zR X.K H S):∀ (t u:T) {A:Around}{d e:D}{x y:V}{a b:Value},A.units+dep t<cLine->A.units+dep u<cLine->Sn S t d->Sn S u e->zi X.K H d x->zi X.K H e y->RelV x a->RelV y b->SeqAt.RcAt A s a b (eqT t u)
 | .zl,u,A,d,e,x,y,a,b,hu,hu',h1,h2,r1,r2,v1,v2=>by
  have q:=h1.flat r1;subst q;cases v1;cases u with
  | yd=>simp only[dep] at hu';lia
  | zl=>have q:=h2.flat r2;subst q;cases v2;simp only[eqT];exact SeqAt.RcAt.none_none
  | bl c2=>have q:=h2.flat r2;subst q;cases v2;simp only[eqT];exact SeqAt.RcAt.none_bool _
  | int c2=>have q:=h2.flat r2;subst q;obtain⟨tk2,rfl⟩:=v2;simp only[eqT];exact SeqAt.RcAt.none_int _ _
  | str c2=>have q:=h2.flat r2;subst q;obtain⟨tk2,rfl⟩:=v2;simp only[eqT];exact SeqAt.RcAt.none_str _ _
  | tup c2=>obtain⟨l',xs',ds',rfl,k1,k2,k3⟩:=h2.xf r2;cases v2;obtain⟨Ae,w2,pt',_⟩:=I.tuple k1;simp only[dep] at hu';simp only[eqT];exact SeqAt.RcAt.none_tuple pt' (by lia)
  | lst c2=>obtain⟨l',xs',ds',rfl,k1,k2,k3⟩:=h2.xh p r2;cases v2;obtain⟨Ae,w2,pl',_⟩:=I.list k1;simp only[dep] at hu';simp only[eqT];exact SeqAt.RcAt.none_list pl'.isList (by lia)
 | .bl c,u,A,d,e,x,y,a,b,hu,hu',h1,h2,r1,r2,v1,v2=>by
  have q:=h1.flat r1;subst q;cases v1;cases u with
  | yd=>simp only[dep] at hu';lia
  | zl=>have q:=h2.flat r2;subst q;cases v2;simp only[eqT];exact SeqAt.RcAt.bool_none _
  | bl c2=>have q:=h2.flat r2;subst q;cases v2;simp only[eqT];exact SeqAt.RcAt.bool_bool _ _
  | int c2=>have q:=h2.flat r2;subst q;obtain⟨tk2,rfl⟩:=v2;simp only[eqT];exact SeqAt.RcAt.bool_int _ _ _
  | str c2=>have q:=h2.flat r2;subst q;obtain⟨tk2,rfl⟩:=v2;simp only[eqT];exact SeqAt.RcAt.bool_str _ _ _
  | tup c2=>obtain⟨l',xs',ds',rfl,k1,k2,k3⟩:=h2.xf r2;cases v2;obtain⟨Ae,w2,pt',_⟩:=I.tuple k1;simp only[dep] at hu';simp only[eqT];exact SeqAt.RcAt.bool_tuple _ pt' (by lia)
  | lst c2=>obtain⟨l',xs',ds',rfl,k1,k2,k3⟩:=h2.xh p r2;cases v2;obtain⟨Ae,w2,pl',_⟩:=I.list k1;simp only[dep] at hu';simp only[eqT];exact SeqAt.RcAt.bool_list _ pl'.isList (by lia)
 | .int c,u,A,d,e,x,y,a,b,hu,hu',h1,h2,r1,r2,v1,v2=>by
  have q:=h1.flat r1;subst q;obtain⟨tk,rfl⟩:=v1;cases u with
  | yd=>simp only[dep] at hu';lia
  | zl=>have q:=h2.flat r2;subst q;cases v2;simp only[eqT];exact SeqAt.RcAt.int_none _ _
  | bl c2=>have q:=h2.flat r2;subst q;cases v2;simp only[eqT];exact SeqAt.RcAt.int_bool _ _ _
  | int c2=>have q:=h2.flat r2;subst q;obtain⟨tk2,rfl⟩:=v2;simp only[eqT];exact SeqAt.RcAt.int_int _ _ _ _
  | str c2=>have q:=h2.flat r2;subst q;obtain⟨tk2,rfl⟩:=v2;simp only[eqT];exact SeqAt.RcAt.int_str _ _ _ _
  | tup c2=>obtain⟨l',xs',ds',rfl,k1,k2,k3⟩:=h2.xf r2;cases v2;obtain⟨Ae,w2,pt',_⟩:=I.tuple k1;simp only[dep] at hu';simp only[eqT];exact SeqAt.RcAt.int_tuple _ _ pt' (by lia)
  | lst c2=>obtain⟨l',xs',ds',rfl,k1,k2,k3⟩:=h2.xh p r2;cases v2;obtain⟨Ae,w2,pl',_⟩:=I.list k1;simp only[dep] at hu';simp only[eqT];exact SeqAt.RcAt.int_list _ _ pl'.isList (by lia)
 | .str c,u,A,d,e,x,y,a,b,hu,hu',h1,h2,r1,r2,v1,v2=>by
  have q:=h1.flat r1;subst q;obtain⟨tk,rfl⟩:=v1;cases u with
  | yd=>simp only[dep] at hu';lia
  | zl=>have q:=h2.flat r2;subst q;cases v2;simp only[eqT];exact SeqAt.RcAt.str_none _ _
  | bl c2=>have q:=h2.flat r2;subst q;cases v2;simp only[eqT];exact SeqAt.RcAt.str_bool _ _ _
  | int c2=>have q:=h2.flat r2;subst q;obtain⟨tk2,rfl⟩:=v2;simp only[eqT];exact SeqAt.RcAt.str_int _ _ _ _
  | str c2=>have q:=h2.flat r2;subst q;obtain⟨tk2,rfl⟩:=v2;simp only[eqT];exact SeqAt.RcAt.str_str _ _ _ _
  | tup c2=>obtain⟨l',xs',ds',rfl,k1,k2,k3⟩:=h2.xf r2;cases v2;obtain⟨Ae,w2,pt',_⟩:=I.tuple k1;simp only[dep] at hu';simp only[eqT];exact SeqAt.RcAt.str_tuple _ _ pt' (by lia)
  | lst c2=>obtain⟨l',xs',ds',rfl,k1,k2,k3⟩:=h2.xh p r2;cases v2;obtain⟨Ae,w2,pl',_⟩:=I.list k1;simp only[dep] at hu';simp only[eqT];exact SeqAt.RcAt.str_list _ _ pl'.isList (by lia)
 | .tup c,u,A,d,e,x,y,a,b,hu,hu',h1,h2,r1,r2,v1,v2=>by
  obtain⟨l,xs,ds,rfl,g1,g2,g3⟩:=h1.xf r1;cases v1;obtain⟨its,w1,pt,_⟩:=I.tuple g1;simp only[dep] at hu;cases u with
  | yd=>simp only[dep] at hu';lia
  | zl=>have q:=h2.flat r2;subst q;cases v2;simp only[eqT];exact SeqAt.RcAt.tuple_none pt (by lia)
  | bl c2=>have q:=h2.flat r2;subst q;cases v2;simp only[eqT];exact SeqAt.RcAt.tuple_bool _ pt (by lia)
  | int c2=>have q:=h2.flat r2;subst q;obtain⟨tk2,rfl⟩:=v2;simp only[eqT];exact SeqAt.RcAt.tuple_int _ _ pt (by lia)
  | str c2=>have q:=h2.flat r2;subst q;obtain⟨tk2,rfl⟩:=v2;simp only[eqT];exact SeqAt.RcAt.tuple_str _ _ pt (by lia)
  | tup c2=>
   obtain⟨l',xs',ds',rfl,k1,k2,k3⟩:=h2.xf r2;cases v2;obtain⟨Ae,w2,pt',_⟩:=I.tuple k1;simp only[dep] at hu';have e1:its.toArray.size=c.length:=by rw[Ar,<- w1.length,<- g2.length,<- g3.length]
   have e2:Ae.toArray.size=c2.length:=by rw[Ar,<- w2.length,<- k2.length,<- k3.length]
   have q:=SeqAt.RcAt.tuples (A:=A) (e:=λ j=>eqT (c.getD j .zl) (c2.getD j .zl)) pt pt' (by lia) λ j h1 h2=>by
    have:=pF I p c c2 (A:=A.in1) (by show A.units+1+yE c<cLine;lia) (by show A.units+1+yE c2<cLine;lia) g3 k3 g2 k2 w1 w2 j (by simpa using h1) (by simpa using h2);simpa using this
   rw[e1,e2] at q;simp only[eqT,tW];exact q
  | lst c2=>obtain⟨l',xs',ds',rfl,k1,k2,k3⟩:=h2.xh p r2;cases v2;obtain⟨Ae,w2,pl',_⟩:=I.list k1;simp only[dep] at hu';simp only[eqT];exact SeqAt.RcAt.tuple_list pt pl'.isList (by lia)
 | .lst c,u,A,d,e,x,y,a,b,hu,hu',h1,h2,r1,r2,v1,v2=>by
  obtain⟨l,xs,ds,rfl,g1,g2,g3⟩:=h1.xh p r1;cases v1;obtain⟨its,w1,pl,_⟩:=I.list g1;simp only[dep] at hu;cases u with
  | yd=>simp only[dep] at hu';lia
  | zl=>have q:=h2.flat r2;subst q;cases v2;simp only[eqT];exact SeqAt.RcAt.list_none pl.isList (by lia)
  | bl c2=>have q:=h2.flat r2;subst q;cases v2;simp only[eqT];exact SeqAt.RcAt.list_bool _ pl.isList (by lia)
  | int c2=>have q:=h2.flat r2;subst q;obtain⟨tk2,rfl⟩:=v2;simp only[eqT];exact SeqAt.RcAt.list_int _ _ pl.isList (by lia)
  | str c2=>have q:=h2.flat r2;subst q;obtain⟨tk2,rfl⟩:=v2;simp only[eqT];exact SeqAt.RcAt.list_str _ _ pl.isList (by lia)
  | tup c2=>obtain⟨l',xs',ds',rfl,k1,k2,k3⟩:=h2.xf r2;cases v2;obtain⟨Ae,w2,pt',_⟩:=I.tuple k1;simp only[dep] at hu';simp only[eqT];exact SeqAt.RcAt.list_tuple pl.isList pt' (by lia)
  | lst c2=>
   obtain⟨l',xs',ds',rfl,k1,k2,k3⟩:=h2.xh p r2;cases v2;obtain⟨Ae,w2,pl',_⟩:=I.list k1;simp only[dep] at hu';have e1:its.toArray.size=c.length:=by rw[Ar,<- w1.length,<- g2.length,<- g3.length]
   have e2:Ae.toArray.size=c2.length:=by rw[Ar,<- w2.length,<- k2.length,<- k3.length]
   by_cases hsz:c.length=c2.length
   .have q:=SeqAt.RcAt.lists (A:=A) (e:=λ j=>eqT (c.getD j .zl) (c2.getD j .zl)) pl.isList pl'.isList (by rw[e1,e2];exact hsz) (by lia) λ j h1 h2=>by
     have:=pF I p c c2 (A:=A.in1) (by show A.units+1+yE c<cLine;lia) (by show A.units+1+yE c2<cLine;lia) g3 k3 g2 k2 w1 w2 j (by simpa using h1) (by simpa using h2);simpa using this
    rw[e1] at q;simp only[eqT,tW];rw[<- hsz,Nat.min_self];simpa using q
   .have q:=SeqAt.RcAt.lists_lengths (A:=A) pl.isList pl'.isList (by rw[e1,e2];simpa using hsz) (by lia);simp only[eqT,tW];have z:(c.length == c2.length)=false:=by simpa using hsz
    rw[z,B4];exact q
 | .yd,u,A,d,e,x,y,a,b,hu,hu',h1,h2,r1,r2,v1,v2=>by simp only[dep] at hu;lia
theorem Tg (I:Inv X pins O H s) (p:zR X.K H S):∀ (t u:T) {A:Around}{d e:D}{x y:V}{a b:Value},A.units+dep t<cLine->A.units+dep u<cLine->Sn S t d->Sn S u e->zi X.K H d x->zi X.K H e y->RelV x a->RelV y b->SeqAt.RcNeAt A s a b (!eqT t u)
 | .zl,u,A,d,e,x,y,a,b,hu,hu',h1,h2,r1,r2,v1,v2=>by
  have q:=h1.flat r1;subst q;cases v1;cases u with
  | yd=>simp only[dep] at hu';lia
  | zl=>have q:=h2.flat r2;subst q;cases v2;simp only[eqT,AE,AD];exact SeqAt.RcNeAt.none_none
  | bl c2=>have q:=h2.flat r2;subst q;cases v2;simp only[eqT,AE,AD];exact SeqAt.RcNeAt.none_bool _
  | int c2=>have q:=h2.flat r2;subst q;obtain⟨tk2,rfl⟩:=v2;simp only[eqT,AE,AD];exact SeqAt.RcNeAt.none_int _ _
  | str c2=>have q:=h2.flat r2;subst q;obtain⟨tk2,rfl⟩:=v2;simp only[eqT,AE,AD];exact SeqAt.RcNeAt.none_str _ _
  | tup c2=>obtain⟨l',xs',ds',rfl,k1,k2,k3⟩:=h2.xf r2;cases v2;obtain⟨Ae,w2,pt',_⟩:=I.tuple k1;simp only[dep] at hu';simp only[eqT,AE,AD];exact SeqAt.RcNeAt.none_tuple pt' (by lia)
  | lst c2=>obtain⟨l',xs',ds',rfl,k1,k2,k3⟩:=h2.xh p r2;cases v2;obtain⟨Ae,w2,pl',_⟩:=I.list k1;simp only[dep] at hu';simp only[eqT,AE,AD];exact SeqAt.RcNeAt.none_list pl'.isList (by lia)
 | .bl c,u,A,d,e,x,y,a,b,hu,hu',h1,h2,r1,r2,v1,v2=>by
  have q:=h1.flat r1;subst q;cases v1;cases u with
  | yd=>simp only[dep] at hu';lia
  | zl=>have q:=h2.flat r2;subst q;cases v2;simp only[eqT,AE,AD];exact SeqAt.RcNeAt.bool_none _
  | bl c2=>have q:=h2.flat r2;subst q;cases v2;simp only[eqT];exact SeqAt.RcNeAt.bool_bool _ _
  | int c2=>have q:=h2.flat r2;subst q;obtain⟨tk2,rfl⟩:=v2;simp only[eqT];exact SeqAt.RcNeAt.bool_int _ _ _
  | str c2=>have q:=h2.flat r2;subst q;obtain⟨tk2,rfl⟩:=v2;simp only[eqT,AE,AD];exact SeqAt.RcNeAt.bool_str _ _ _
  | tup c2=>obtain⟨l',xs',ds',rfl,k1,k2,k3⟩:=h2.xf r2;cases v2;obtain⟨Ae,w2,pt',_⟩:=I.tuple k1;simp only[dep] at hu';simp only[eqT,AE,AD];exact SeqAt.RcNeAt.bool_tuple _ pt' (by lia)
  | lst c2=>obtain⟨l',xs',ds',rfl,k1,k2,k3⟩:=h2.xh p r2;cases v2;obtain⟨Ae,w2,pl',_⟩:=I.list k1;simp only[dep] at hu';simp only[eqT,AE,AD];exact SeqAt.RcNeAt.bool_list _ pl'.isList (by lia)
 | .int c,u,A,d,e,x,y,a,b,hu,hu',h1,h2,r1,r2,v1,v2=>by
  have q:=h1.flat r1;subst q;obtain⟨tk,rfl⟩:=v1;cases u with
  | yd=>simp only[dep] at hu';lia
  | zl=>have q:=h2.flat r2;subst q;cases v2;simp only[eqT,AE,AD];exact SeqAt.RcNeAt.int_none _ _
  | bl c2=>have q:=h2.flat r2;subst q;cases v2;simp only[eqT];exact SeqAt.RcNeAt.int_bool _ _ _
  | int c2=>have q:=h2.flat r2;subst q;obtain⟨tk2,rfl⟩:=v2;simp only[eqT];exact SeqAt.RcNeAt.int_int _ _ _ _
  | str c2=>have q:=h2.flat r2;subst q;obtain⟨tk2,rfl⟩:=v2;simp only[eqT,AE,AD];exact SeqAt.RcNeAt.int_str _ _ _ _
  | tup c2=>obtain⟨l',xs',ds',rfl,k1,k2,k3⟩:=h2.xf r2;cases v2;obtain⟨Ae,w2,pt',_⟩:=I.tuple k1;simp only[dep] at hu';simp only[eqT,AE,AD];exact SeqAt.RcNeAt.int_tuple _ _ pt' (by lia)
  | lst c2=>obtain⟨l',xs',ds',rfl,k1,k2,k3⟩:=h2.xh p r2;cases v2;obtain⟨Ae,w2,pl',_⟩:=I.list k1;simp only[dep] at hu';simp only[eqT,AE,AD];exact SeqAt.RcNeAt.int_list _ _ pl'.isList (by lia)
 | .str c,u,A,d,e,x,y,a,b,hu,hu',h1,h2,r1,r2,v1,v2=>by
  have q:=h1.flat r1;subst q;obtain⟨tk,rfl⟩:=v1;cases u with
  | yd=>simp only[dep] at hu';lia
  | zl=>have q:=h2.flat r2;subst q;cases v2;simp only[eqT,AE,AD];exact SeqAt.RcNeAt.str_none _ _
  | bl c2=>have q:=h2.flat r2;subst q;cases v2;simp only[eqT,AE,AD];exact SeqAt.RcNeAt.str_bool _ _ _
  | int c2=>have q:=h2.flat r2;subst q;obtain⟨tk2,rfl⟩:=v2;simp only[eqT,AE,AD];exact SeqAt.RcNeAt.str_int _ _ _ _
  | str c2=>have q:=h2.flat r2;subst q;obtain⟨tk2,rfl⟩:=v2;simp only[eqT];exact SeqAt.RcNeAt.str_str _ _ _ _
  | tup c2=>obtain⟨l',xs',ds',rfl,k1,k2,k3⟩:=h2.xf r2;cases v2;obtain⟨Ae,w2,pt',_⟩:=I.tuple k1;simp only[dep] at hu';simp only[eqT,AE,AD];exact SeqAt.RcNeAt.str_tuple _ _ pt' (by lia)
  | lst c2=>obtain⟨l',xs',ds',rfl,k1,k2,k3⟩:=h2.xh p r2;cases v2;obtain⟨Ae,w2,pl',_⟩:=I.list k1;simp only[dep] at hu';simp only[eqT,AE,AD];exact SeqAt.RcNeAt.str_list _ _ pl'.isList (by lia)
 | .tup c,u,A,d,e,x,y,a,b,hu,hu',h1,h2,r1,r2,v1,v2=>by
  obtain⟨l,xs,ds,rfl,g1,g2,g3⟩:=h1.xf r1;cases v1;obtain⟨its,w1,pt,_⟩:=I.tuple g1;simp only[dep] at hu;cases u with
  | yd=>simp only[dep] at hu';lia
  | zl=>have q:=h2.flat r2;subst q;cases v2;simp only[eqT,AE,AD];exact SeqAt.RcNeAt.tuple_none pt (by lia)
  | bl c2=>have q:=h2.flat r2;subst q;cases v2;simp only[eqT,AE,AD];exact SeqAt.RcNeAt.tuple_bool _ pt (by lia)
  | int c2=>have q:=h2.flat r2;subst q;obtain⟨tk2,rfl⟩:=v2;simp only[eqT,AE,AD];exact SeqAt.RcNeAt.tuple_int _ _ pt (by lia)
  | str c2=>have q:=h2.flat r2;subst q;obtain⟨tk2,rfl⟩:=v2;simp only[eqT,AE,AD];exact SeqAt.RcNeAt.tuple_str _ _ pt (by lia)
  | tup c2=>
   obtain⟨l',xs',ds',rfl,k1,k2,k3⟩:=h2.xf r2;cases v2;obtain⟨Ae,w2,pt',_⟩:=I.tuple k1;simp only[dep] at hu';have e1:its.toArray.size=c.length:=by rw[Ar,<- w1.length,<- g2.length,<- g3.length]
   have e2:Ae.toArray.size=c2.length:=by rw[Ar,<- w2.length,<- k2.length,<- k3.length]
   have q:=SeqAt.RcNeAt.tuples (A:=A) (e:=λ j=>eqT (c.getD j .zl) (c2.getD j .zl)) pt pt' (by lia) λ j h1 h2=>by
    have:=pF I p c c2 (A:=A.in1) (by show A.units+1+yE c<cLine;lia) (by show A.units+1+yE c2<cLine;lia) g3 k3 g2 k2 w1 w2 j (by simpa using h1) (by simpa using h2);simpa using this
   rw[e1,e2] at q;simp only[eqT,tW];exact q
  | lst c2=>obtain⟨l',xs',ds',rfl,k1,k2,k3⟩:=h2.xh p r2;cases v2;obtain⟨Ae,w2,pl',_⟩:=I.list k1;simp only[dep] at hu';simp only[eqT,AE,AD];exact SeqAt.RcNeAt.tuple_list pt pl'.isList (by lia)
 | .lst c,u,A,d,e,x,y,a,b,hu,hu',h1,h2,r1,r2,v1,v2=>by
  obtain⟨l,xs,ds,rfl,g1,g2,g3⟩:=h1.xh p r1;cases v1;obtain⟨its,w1,pl,_⟩:=I.list g1;simp only[dep] at hu;cases u with
  | yd=>simp only[dep] at hu';lia
  | zl=>have q:=h2.flat r2;subst q;cases v2;simp only[eqT,AE,AD];exact SeqAt.RcNeAt.list_none pl.isList (by lia)
  | bl c2=>have q:=h2.flat r2;subst q;cases v2;simp only[eqT,AE,AD];exact SeqAt.RcNeAt.list_bool _ pl.isList (by lia)
  | int c2=>have q:=h2.flat r2;subst q;obtain⟨tk2,rfl⟩:=v2;simp only[eqT,AE,AD];exact SeqAt.RcNeAt.list_int _ _ pl.isList (by lia)
  | str c2=>have q:=h2.flat r2;subst q;obtain⟨tk2,rfl⟩:=v2;simp only[eqT,AE,AD];exact SeqAt.RcNeAt.list_str _ _ pl.isList (by lia)
  | tup c2=>obtain⟨l',xs',ds',rfl,k1,k2,k3⟩:=h2.xf r2;cases v2;obtain⟨Ae,w2,pt',_⟩:=I.tuple k1;simp only[dep] at hu';simp only[eqT,AE,AD];exact SeqAt.RcNeAt.list_tuple pl.isList pt' (by lia)
  | lst c2=>
   obtain⟨l',xs',ds',rfl,k1,k2,k3⟩:=h2.xh p r2;cases v2;obtain⟨Ae,w2,pl',_⟩:=I.list k1;simp only[dep] at hu';have e1:its.toArray.size=c.length:=by rw[Ar,<- w1.length,<- g2.length,<- g3.length]
   have e2:Ae.toArray.size=c2.length:=by rw[Ar,<- w2.length,<- k2.length,<- k3.length]
   by_cases hsz:c.length=c2.length
   .have q:=SeqAt.RcNeAt.lists (A:=A) (e:=λ j=>eqT (c.getD j .zl) (c2.getD j .zl)) pl.isList pl'.isList (by rw[e1,e2];exact hsz) (by lia) λ j h1 h2=>by
     have:=pF I p c c2 (A:=A.in1) (by show A.units+1+yE c<cLine;lia) (by show A.units+1+yE c2<cLine;lia) g3 k3 g2 k2 w1 w2 j (by simpa using h1) (by simpa using h2);simpa using this
    rw[e1] at q;simp only[eqT,tW];rw[<- hsz,Nat.min_self];simpa using q
   .have q:=SeqAt.RcNeAt.lists_lengths (A:=A) pl.isList pl'.isList (by rw[e1,e2];simpa using hsz) (by lia);simp only[eqT,tW];have z:(c.length == c2.length)=false:=by simpa using hsz
    rw[z,B4];exact q
 | .yd,u,A,d,e,x,y,a,b,hu,hu',h1,h2,r1,r2,v1,v2=>by simp only[dep] at hu;lia
end
def fy (K:Ac) (neg:Bool):R2:=λ x y H Q=>∃ S d e t u,zi K H d x/\zi K H e y/\zR K H S/\Sn S t d/\Sn S u e/\dep t<=60/\dep u<=60/\Q (.bl (cond neg (!eqT t u) (eqT t u))) H
def tm (neg:Bool):yW:=λ x y S Q=>∃ t u,Sn S t x/\Sn S u y/\dep t<=60/\dep u<=60/\Q (.bl (cond neg (!eqT t u) (eqT t u))) S
def tm.mo {neg:Bool}:xJ (tm neg):=λ _ _ _ _ _ hq ⟨t,u,a,b,c,d,h⟩=>⟨t,u,a,b,c,d,hq _ _ h⟩
def tm.fits {K:Ac}{neg:Bool}:xB K (tm neg) (fy K neg):=λ x y d e H S Q h1 h2 h3 ⟨t,u,a,b,c,c',h⟩=>⟨S,d,e,t,u,h1,h2,h3,a,b,c,c',h _ H (by simp only[zi]) (.refl H) h3⟩
section
variable {X:Cx}{a b:Expr}{ta tb:zy}{pos:Pos}
def RU (hu:X.A.units+64<cLine):yj X (compareOp .Eq) (fy X.K false):=by
 intro pins s O H x y v u Q I rx ry h;obtain⟨S,d,e,t,u',a1,a2,a3,a4,a5,a6,a7,q⟩:=h;exact Ti I a3 t u' (A:=X.A) (by lia) (by lia) a4 a5 a1 a2 rx ry X.prog X.w X.xe _ ⟨.bl _,H,I,rfl,q⟩
def RH (hu:X.A.units+64<cLine):yj X (compareOp .NotEq) (fy X.K true):=by
 intro pins s O H x y v u Q I rx ry h;obtain⟨S,d,e,t,u',a1,a2,a3,a4,a5,a6,a7,q⟩:=h;exact Tg I a3 t u' (A:=X.A) (by lia) (by lia) a4 a5 a1 a2 rx ry X.prog X.w X.xe _ ⟨.bl _,H,I,rfl,q⟩
def xW {k:Nat}(hr:yK k X.A) (ha:PD X a ta) (hb:PD X b tb):xU X (.Compare a [.Eq] [b] pos) (vy (yF (tm false) ta tb)):=rZ (RU hr.units) tm.fits tm.mo ha hb (uW _)
def jg {k:Nat}(hr:yK k X.A) (ha:PD X a ta) (hb:PD X b tb):xU X (.Compare a [.NotEq] [b] pos) (vy (yF (tm true) ta tb)):=rZ (RH hr.units) tm.fits tm.mo ha hb (uW _)
def Z4 (K:Ac) (neg:Bool):R2:=λ x y H Q=>∃ S d e u ts ds,zi K H d x/\zi K H e y/\zR K H S/\Sn S u d/\zV e S=some ds/\zo S ts ds/\dep u<=60/\yE ts<=60/\Q (.bl (cond neg (!(ts.any λ t=>eqT t u)) (ts.any λ t=>eqT t u))) H
def qu (neg:Bool):yW:=λ x y S Q=>∃ u ts ds,Sn S u x/\zV y S=some ds/\zo S ts ds/\dep u<=60/\yE ts<=60/\Q (.bl (cond neg (!(ts.any λ t=>eqT t u)) (ts.any λ t=>eqT t u))) S
def qu.mo {neg:Bool}:xJ (qu neg):=λ _ _ _ _ _ hq ⟨u,ts,ds,a,b,c,d,e,h⟩=>⟨u,ts,ds,a,b,c,d,e,hq _ _ h⟩
def qu.fits {K:Ac}{neg:Bool}:xB K (qu neg) (Z4 K neg):=λ x y d e H S Q h1 h2 h3 ⟨u,ts,ds,a,b,c,c',c2,h⟩=>⟨S,d,e,u,ts,ds,h1,h2,h3,a,b,c,c',c2,h _ H (by simp only[zi]) (.refl H) h3⟩
open Classical in
def sg (its:List Value) (ts:List T) (u:T) (v:Value):Bool:=if h:∃ j,its[j]?=some v then eqT (ts.getD (Classical.choose h) .zl) u else false
def cx {pins:List (Addr×Obj)}{O:St}{H:Hp}{s:Shared}{S:SS}(I:Inv X pins O H s) (p:zR X.K H S) {ts:List T}{ds:List D}{xs:List V}{its:List Value}(h1:zo S ts ds) (h2:zq X.K H ds xs) (h3:Vals xs its) (u:T) {j:Nat}{v:Value}(hj:its[j]?=some v):
  sg its ts u v=eqT (ts.getD j .zl) u:=by
 have h:∃ j,its[j]?=some v:=⟨j,hj⟩
 unfold sg;rw[dif_pos h];have hc:=Classical.choose_spec h;have lt:∀ i,its[i]?=some v->i<ts.length:=λ i hi=>by
  rw[h1.length,h2.length,h3.length];exact (AN.mp hi).1
 obtain⟨c1,e1,s1⟩:=h1.get (lt _ hc);obtain⟨c2,e2,s2⟩:=h1.get (lt _ hj);obtain⟨x1,f1,r1⟩:=h2.get e1;obtain⟨x2,f2,r2⟩:=h2.get e2;obtain⟨v1,g1,q1⟩:=h3.get f1;obtain⟨v2,g2,q2⟩:=h3.get f2;rw[hc] at g1;cases g1;rw[hj] at g2;cases g2;have hx:=q1.inj q2;subst hx;rw[kB I p _ _ s1 s2 r1 r2]
def W2 {pins:List (Addr×Obj)}{O:St}{H:Hp}{s:Shared}{S:SS}(I:Inv X pins O H s) (p:zR X.K H S) {ts:List T}{ds:List D}{xs:List V}{its:List Value}(h1:zo S ts ds) (h2:zq X.K H ds xs) (h3:Vals xs its) (u:T):its.any (sg its ts u)=ts.any λ t=>eqT t u:=by
 have hl:ts.length=its.length:=by rw[h1.length,h2.length,h3.length]
 rw[A5,AM,AM];constructor
 .rintro⟨v,hv,h⟩;obtain⟨j,hj,rfl⟩:=BQ.mp hv;rw[cx I p h1 h2 h3 u (j:=j) (by simp[hj])] at h;have hj':j<ts.length:=by lia
  exact⟨ts[j],Bn hj',by simpa [hj'] using h⟩
 .rintro⟨t,ht,h⟩;obtain⟨j,hj,rfl⟩:=BQ.mp ht;have hj':j<its.length:=by lia
  exact⟨its[j],Bn hj',by rw[cx I p h1 h2 h3 u (j:=j) (by simp[hj'])];simpa [hj] using h⟩
def W3 {pins:List (Addr×Obj)}{O:St}{H:Hp}{s:Shared}{S:SS}(I:Inv X pins O H s) (p:zR X.K H S) {ts:List T}{ds:List D}{xs:List V}{its:List Value}(h1:zo S ts ds) (h2:zq X.K H ds xs) (h3:Vals xs its) {u:T}{d:D}{x:V}{v:Value}(hu:Sn S u d) (hd:zi X.K H d x) (hx:RelV x v) {A:Around}(b1:A.units+yE ts<cLine) (b2:A.units+dep u<cLine) {y:Value}(hy:y∈its):
  SeqAt.EqAt A s y v (sg its ts u y):=by
 obtain⟨j,hj,rfl⟩:=BQ.mp hy;have hjt:j<ts.length:=by rw[h1.length,h2.length,h3.length];exact hj
 rw[cx I p h1 h2 h3 u (j:=j) (by simp[hj])];obtain⟨c1,e1,s1⟩:=h1.get hjt;obtain⟨x1,f1,r1⟩:=h2.get e1;obtain⟨v1,g1,q1⟩:=h3.get f1;have:its[j]=v1:=by
  have:=AN.mp g1;exact this.2
 rw[this];have:=X6 hjt;exact Xu I p _ u (A:=A) (by lia) b2 s1 hu r1 hd q1 hx
def RS (hu:X.A.units+64<cLine):yj X (compareOp .In) (Z4 X.K false):=by
 intro pins s O H x y v w Q I rx ry h;obtain⟨S,d,e,u,ts,ds,a1,a2,a3,a4,a5,a6,a7,a8,q⟩:=h;obtain⟨l,xs,rfl,g1,g2⟩:=zV.sq a2 a3 a5;cases ry;rcases g1 with g1 | g1
 .obtain⟨its,w1,pl,_⟩:=I.list g1;refine SeqAt.in_listAt (sg its ts u) pl.isList (λ y hy=>W3 I a3 a6 g2 w1 a4 a1 rx (A:=X.A.in1) (by show X.A.units+1+_<_;lia) (by show X.A.units+1+_<_;lia) (by simpa using hy)) ⟨.bl _,H,I,rfl,?_⟩;rw[show its.toArray.any (sg its ts u)=its.any (sg its ts u) by simp,W2 I a3 a6 g2 w1];exact q
 .obtain⟨its,w1,pt,_⟩:=I.tuple g1;refine SeqAt.in_tupleAt (sg its ts u) pt (λ y hy=>W3 I a3 a6 g2 w1 a4 a1 rx (A:=X.A.in1) (by show X.A.units+1+_<_;lia) (by show X.A.units+1+_<_;lia) (by simpa using hy)) ⟨.bl _,H,I,rfl,?_⟩;rw[show its.toArray.any (sg its ts u)=its.any (sg its ts u) by simp,W2 I a3 a6 g2 w1];exact q
def Rg {k:Nat}(hr:yK k X.A) (ha:PD X a ta) (hb:PD X b tb) (hm:behindInMarks .In b=false:=by rfl):xU X (.Compare a [.In] [b] pos) (vy (yF (qu false) ta tb)):=rZ (RS hr.units) qu.fits qu.mo ha hb hm
end
end L3
namespace L2
open PySem PySem.Spec PyProof.Rows
section
variable {κ:Type}[DecidableEq κ]
noncomputable def wJ (Aa:List (κ × V)) (k:κ):Option V:=(Aa.find? λ kv=>decide (kv.1=k)).map (·.2)
noncomputable def putK (Aa:List (κ × V)) (k:κ) (v:V):List (κ × V):=
 if (Aa.any λ kv=>decide (kv.1=k))=true then Aa.map (λ kv=>if kv.1=k then (kv.1,v) else kv) else Aa++[(k,v)]
def iO {p:κ × V}{r:List (κ × V)}{k:κ}(e:p.1=k):wJ (p::r) k=some p.2:=by simp[wJ,BP,e]
def iP {p:κ × V}{r:List (κ × V)}{k:κ}(e:¬ p.1=k):wJ (p::r) k=wJ r k:=by simp[wJ,BP,e]
theorem az (k:κ):∀ Aa:List (κ × V),(Aa.any λ kv=>decide (kv.1=k))=(wJ Aa k).isSome
 | []=>rfl
 | p::r=>by
  rw[Bl];by_cases e:p.1=k
  .simp only[iO e,za2 e,Bool.true_or,Option.isSome_some]
  .rw[iP e,za0 e,Bool.false_or];exact az k r
def Y2 (Aa:List (κ × V)) (k:κ) (v:V):(putK Aa k v).length<=Aa.length+1:=by
 unfold putK;split
 .rw[Aw];lia
 .rw[Bf,AW,C1];lia
def uJ.Nb {o:Option V}{u:Option Value}(r:uJ o u):o.isSome=u.isSome:=by
 cases o with
 | none=>cases u with
  | none=>rfl
  | some _=>exact (show False from r).elim
 | some _=>cases u with
  | none=>exact (show False from r).elim
  | some _=>rfl
theorem uJ.getD {o:Option V}{u:Option Value}{d:V}{d':Value}(r:uJ o u) (rd:RelV d d'):RelV (o.getD d) (u.getD d'):=by
 cases o with
 | none=>cases u with
  | none=>exact rd
  | some _=>exact (show False from r).elim
 | some _=>cases u with
  | none=>exact (show False from r).elim
  | some _=>exact r
def KV.val {Aa:List (κ × V)}{vs:List (κ × Value)}(r:KV Aa vs) (k:κ):uJ (wJ Aa k) (valueAt vs k):=by
 unfold KV at r
 induction r with
 | nil=>exact True.intro
 | @cons p q ps qs h t ih=>
  obtain⟨h1,h2⟩:=h;by_cases e:p.1=k
  .have e':q.1=k:=h1.symm.trans e;have b:valueAt (q::qs) k=some q.2:=by simp[valueAt,BP,e']
   rw[iO e,b];exact h2
  .have e':¬ q.1=k:=λ z=>e (h1.trans z);have b:valueAt (q::qs) k=valueAt qs k:=by simp[valueAt,BP,e']
   rw[iP e,b];exact ih
theorem KV.any {Aa:List (κ × V)}{vs:List (κ × Value)}(r:KV Aa vs) (k:κ):(Aa.any λ kv=>decide (kv.1=k))=vs.any λ kv=>decide (kv.1=k):=by
 unfold KV at r
 induction r with
 | nil=>rfl
 | cons h t ih=>rw[Bl,Bl,ih,h.1]
def KV.tI {Aa:List (κ × V)}{vs:List (κ × Value)}(r:KV Aa vs) (k:κ) {y:V}{u:Value}(ry:RelV y u):
  KV (Aa.map λ kv=>if kv.1=k then (kv.1,y) else kv) (vs.map λ kv=>if kv.1=k then (kv.1,u) else kv):=by
 unfold KV at r ⊢
 induction r with
 | nil=>exact .nil
 | @cons p q ps qs h t ih=>
  rw[Aq,Aq];refine .cons ?_ ih;obtain⟨h1,h2⟩:=h;by_cases e:p.1=k
  .rw[if_pos e,if_pos (h1.symm.trans e)];exact⟨h1,ry⟩
  .rw[if_neg e,if_neg (λ z=>e (h1.trans z))];exact⟨h1,h2⟩
def KV.put {Aa:List (κ × V)}{vs:List (κ × Value)}(r:KV Aa vs) (k:κ) {y:V}{u:Value}(ry:RelV y u):KV (putK Aa k y) (stored vs k u):=by
 unfold putK stored;rw[r.any k];by_cases e:(vs.any λ kv=>decide (kv.1=k))=true
 .rw[if_pos e,if_pos e];exact r.tI k ry
 .rw[if_neg e,if_neg e];exact Paired.snoc r ⟨rfl,ry⟩
theorem KV.length {Aa:List (κ × V)}{vs:List (κ × Value)}(r:KV Aa vs):Aa.length=vs.length:=Paired.length r
end
def j9 {P:Program}{w:World}{k:Key}{u:Value}(r:RelV (kV k) u):(vc P w).is k u=true:=by
 cases k with
 | inl i=>obtain⟨t,e⟩:=(show ∃ t,u=Value.int i t from r);subst e;exact Oj P w i t
 | inr x=>obtain⟨t,e⟩:=(show ∃ t,u=Value.str x t from r);subst e;exact Oi P w x t
theorem YJ {P:Program}{w:World}:∀ {ks:List Key}{us:List Value},Vals (ks.map kV) us->ItemsAre (vc P w) ks us
 | [],_,r=>by rw[A8] at r;cases r;exact .nil
 | k::ks,_,r=>by
  rw[Aq] at r;cases r with
  | cons h t=>exact .cons (j9 h) (YJ t)
abbrev KT (H:Hp):List (List Key×V)->List (List Key×Addr×Value)->Prop:=Paired λ p q=>p.1=q.1/\H q.2.1=some (.tup (p.1.map kV))/\RelV p.2 q.2.2
def KT.val {H:Hp}{Aa:List (List Key×V)}{xs:List (List Key×Addr×Value)}(r:KT H Aa xs) (k:List Key):uJ (wJ Aa k) ((atKey xs k).map (·.2)):=by
 induction r with
 | nil=>exact True.intro
 | @cons p q ps qs h t ih=>
  obtain⟨h1,_,h2⟩:=h;by_cases e:p.1=k
  .have e':q.1=k:=h1.symm.trans e;have b:atKey (q::qs) k=some q.2:=by simp[atKey,BP,e']
   rw[iO e,b];exact h2
  .have e':¬ q.1=k:=λ z=>e (h1.trans z);have b:atKey (q::qs) k=atKey qs k:=by simp[atKey,BP,e']
   rw[iP e,b];exact ih
def KT.tI {H:Hp}{Aa:List (List Key×V)}{xs:List (List Key×Addr×Value)}(r:KT H Aa xs) (k:List Key) {y:V}{u:Value}(ry:RelV y u):
  KT H (Aa.map λ kv=>if kv.1=k then (kv.1,y) else kv) (xs.map (putAt k u)):=by
 induction r with
 | nil=>exact .nil
 | @cons p q ps qs h t ih=>
  rw[Aq,Aq];refine .cons ?_ ih;obtain⟨h1,h2,h3⟩:=h;unfold putAt;by_cases e:p.1=k
  .rw[if_pos e,if_pos (h1.symm.trans e)];exact⟨h1,h2,ry⟩
  .rw[if_neg e,if_neg (λ z=>e (h1.trans z))];exact⟨h1,h2,h3⟩
def KT.put {H:Hp}{Aa:List (List Key×V)}{xs:List (List Key×Addr×Value)}(r:KT H Aa xs) (k:List Key) {b:Addr}{y:V}{u:Value}(hb:H b=some (.tup (k.map kV))) (ry:RelV y u):
  KT H (putK Aa k y) (storedH xs k b u):=by
 have e:(Aa.any λ kv=>decide (kv.1=k))=(atKey xs k).isSome:=by
  rw[az,(r.val k).Nb,Option.isSome_map]
 unfold putK storedH;rw[e];by_cases q:(atKey xs k).isSome=true
 .rw[if_pos q,if_pos q];exact r.tI k ry
 .rw[if_neg q,if_neg q];exact Paired.snoc r ⟨rfl,hb,ry⟩
def KT.keeps {H H':Hp}{Aa:List (List Key×V)}{xs:List (List Key×Addr×Value)}(r:KT H Aa xs) (ht:∀ b ys,H b=some (.tup ys)->H' b=some (.tup ys)):KT H' Aa xs:=
 Paired.jz r λ _ _ z=>⟨z.1,ht _ _ z.2.1,z.2.2⟩
section
variable {P:Program}{w:World}{H:Hp}{h:Heap}{a:Addr}
def Zs {u:HO}(ok:xk P w H h) (e:Rd H a u):xv P w H h a u:=e.ok ok
def nk {Aa:List (Key×V)}(ok:xk P w H h) (e:Rd H a (.dK Aa)):Aa.length<=sizeLine/\(a == sysModules)=false/\∃ vs,KV Aa vs/\h.DictOf (vc P w) a vs:=
 show xv P w H h a (.dK Aa) from Zs ok e
def Mt {Aa:List (Key×V)}(ok:xk P w H h) (e:H a=some (.dK Aa)):Aa.length<=sizeLine/\(a == sysModules)=false/\∃ vs,KV Aa vs/\h.DictOf (vc P w) a vs:=nk ok (.inl e)
def j8 {ks:List Key}(ok:xk P w H h) (e:H a=some (.tup (ks.map kV))):(tupleKind (vc P w)).is h ks a:=by
 obtain⟨_,its,r,o,h1,h2,n,h3⟩:=(show xv P w H h a (.tup (ks.map kV)) from ok a _ e)
 exact⟨o,its.toArray,n,h1,h2,h3,by simpa using YJ r⟩
def lx {Aa:List (List Key×V)}(ok:xk P w H h) (e:Rd H a (.dT Aa)):Aa.length<=sizeLine/\(a == sysModules)=false/\
  ∃ xs,KT H Aa xs/\h.DictOfH (tupleKind (vc P w)) a xs:=by
 obtain⟨z,y,xs,r,o,es,ep,h1,h2,h3,h4,h5⟩:=(show xv P w H h a (.dT Aa) from Zs ok e)
 refine⟨z,y,xs,r,o,es,ep,h1,h2,h3,h4,λ x hx=>?_,h5⟩;have all:∀ {l:List (List Key×V)}{m:List (List Key×Addr×Value)},KT H l m->∀ x∈m,(tupleKind (vc P w)).is h x.1 x.2.1:=by
  intro l m q
  induction q with
  | nil=>intro x hx;exact nomatch hx
  | @cons p q ps qs hq t ih=>
   intro x hx;rcases Ai.mp hx with e | hx
   .subst e;exact j8 ok (by rw[<- hq.1];exact hq.2.1)
   .exact ih x hx
 exact all r x hx
def Mo {Aa:List (List Key×V)}(ok:xk P w H h) (e:H a=some (.dT Aa)):Aa.length<=sizeLine/\(a == sysModules)=false/\
  ∃ xs,KT H Aa xs/\h.DictOfH (tupleKind (vc P w)) a xs:=lx ok (.inl e)
end
def rK (H:Hp) (a:Addr) (y:V) (r:Option V):Prop:=
 (∃ Aa k,Rd H a (.dK Aa)/\y=kV k/\r=wJ Aa k)\/∃ Aa k b,Rd H a (.dT Aa)/\y=.ref b/\H b=some (.tup (k.map kV))/\r=wJ Aa k
def ky (H:Hp) (a:Addr) (y v:V) (H':Hp):Prop:=
 (∃ Aa k,H a=some (.dK Aa)/\y=kV k/\Aa.length<sizeLine/\H'=upd H a (.dK (putK Aa k v)))\/
 ∃ Aa k b,H a=some (.dT Aa)/\y=.ref b/\H b=some (.tup (k.map kV))/\Aa.length<sizeLine/\H'=upd H a (.dT (putK Aa k v))
theorem rK.k {H:Hp}{a:Addr}{Aa:List (Key×V)}{k:Key}(e:H a=some (.dK Aa)):rK H a (kV k) (wJ Aa k):=.inl ⟨Aa,k,.inl e,rfl,rfl⟩
theorem ky.k {H:Hp}{a:Addr}{Aa:List (Key×V)}{k:Key}{v:V}(e:H a=some (.dK Aa)) (hl:Aa.length<sizeLine):ky H a (kV k) v (upd H a (.dK (putK Aa k v))):=.inl ⟨Aa,k,e,rfl,hl,rfl⟩
section
variable {X:Cx}{pins:List (Addr×Obj)}{O:St}{H:Hp}{s:Shared}{a:Addr}{y v:V}{u r:Value}{o:Option V}{A:Around}{E:Value->Shared->Prop}
def Inv.big (I:Inv X pins O H s):sysModules<s.heap.objs.size:=by
 have h:mainGlobals<s.heap.objs.size:=(I.mod.glob.keeps I.bk).lt;exact CZ (by decide) h
def M0 {Q:Value->Shared->Prop}(hu:A.units+1<cLine) (I:Inv X pins O H s) (g:rK H a y (some v)) (ry:RelV y u) (h:∀ w' s',Inv X pins O H s'->RelV v w'->Q w' s'):
  wpAny (model X.prog X.w) A (getItem (.ref a) u) Q E s:=by
 rcases g with ⟨Aa,k,e,ey,l⟩ | ⟨Aa,k,b,e,ey,eb,l⟩
 .subst ey;obtain⟨z,hd,vs,rel,dd⟩:=nk I.zE e;obtain⟨w',hw,rw'⟩:=uJ.some_of (v:=v) (o:=valueAt vs k) (by rw[l];exact rel.val k);exact wpAny_getItem_of (j9 ry) dd.mapOf hw (h w' _ (I.tok _) rw')
 .subst ey;cases (show u=Value.ref b from ry);obtain⟨z,hd,xs,rel,dd⟩:=lx I.zE e;obtain⟨w',hw,rw'⟩:=uJ.some_of (v:=v) (o:=(atKey xs k).map (·.2)) (by rw[l];exact rel.val k);obtain⟨p,hp,oZ⟩:=AB hw;refine wpAny_getItem_heap (tupleKind_room_in1 hu) (j8 I.zE eb) dd hp ?_;rw[oZ];exact h w' _ (I.tok _) rw'
def XA {h':Heap}{t':Nat}{ob:HO}(I:Inv X pins O H s) (mu:lY (H a)) (hs:Heap.SameBut a s.heap h') (he:∃ q,h'.get? a=some q) (new:xv X.prog X.w (upd H a ob) h' a ob):
  Inv X pins O (upd H a ob) { s with heap:=h',toks:=t' }:=
 I.write (x:=a) (e:=a) mu (.inl rfl) (λ b q hb z=>(hs.2 b hb).trans z) he new
def Mu {P:Program}{w:World}{H':Hp}{h':Heap}{Aa:List (Key×V)}{vs:List (Key×Value)}(z:Aa.length<=sizeLine) (hd:(a == sysModules)=false) (rel:KV Aa vs) (dd:h'.DictOf (vc P w) a vs):
  xv P w H' h' a (.dK Aa):=⟨z,hd,vs,rel,dd⟩
def My {H':Hp}{Q:Unit->Shared->Prop}(hu:A.units+1<cLine) (I:Inv X pins O H s) (g:ky H a y v H') (ry:RelV y u) (rv:RelV v r) (h:∀ s',Inv X pins O H' s'->Q () s'):
  wpAny (model X.prog X.w) A (setItem (.ref a) u r) Q E s:=by
 rcases g with ⟨Aa,k,e,ey,l,eH⟩ | ⟨Aa,k,b,e,ey,eb,l,eH⟩
 .subst ey eH;obtain⟨z,hd,vs,rel,dd⟩:=Mt I.zE e;have hz:vs.length<=sizeLine:=by rw[<- rel.length];exact z
  have hl:(putK Aa k v).length<=sizeLine:=by have:=Y2 Aa k v;lia
  refine wpAny_setItem_pairs (hsz:=hz) (j9 ry) dd λ h' dd' hs=>h _ ?_;have he:∃ q,h'.get? a=some q:=let ⟨q,_,_,hq,_⟩:=dd';⟨q,hq⟩
  exact XA I (by rw[e];exact True.intro) hs he (Mu hl hd (rel.put k rv) dd')
 .subst ey eH;cases (show u=Value.ref b from ry);obtain⟨z,hd,xs,rel,dd⟩:=Mo I.zE e;have hz:xs.length<=sizeLine:=by rw[<- Paired.length rel];exact z
  have hl:(putK Aa k v).length<=sizeLine:=by have:=Y2 Aa k v;lia
  refine wpAny_setItem_heap (hsz:=hz) (tupleKind_room_in1 hu) (j8 I.zE eb) dd λ h' dd' hs=>h _ ?_;obtain⟨q,es,ep,hq,h2,h3,h4,_,h5⟩:=dd';refine XA I (by rw[e];exact True.intro) hs ⟨q,hq⟩ ⟨hl,hd,_,(rel.put k eb rv).keeps λ c ys ec=>?_,q,es,ep,hq,h2,h3,h4,h5⟩;rw[yV (mP ec e (λ z=>nomatch z))];exact ec
end
section
variable {X:Cx}{pins:List (Addr×Obj)}{O:St}{H:Hp}{s:Shared}{a:Addr}{Aa:List (Key×V)}{A:Around}{E:Value->Shared->Prop}
def Mz {Q:Value->Shared->Prop}(I:Inv X pins O H s) (e:Rd H a (.dK Aa)) (h:∀ t s',Inv X pins O H s'->Q (.int Aa.length t) s'):wpAny (model X.prog X.w) A (call (.builtin "len") [.ref a]) Q E s:=by
 obtain⟨z,hd,vs,rel,dd⟩:=nk I.zE e;refine call_len_dict hd dd (by rw[<- rel.length];rw[sizeLine_eq] at z;lia) ?_;rw[<- rel.length];exact h _ _ (I.tok _)
end
def c8 (i:Expr):Prop:=∀ ov iv,subscripted i false ov iv=operate [ov,iv] (getItem ov iv)
def Ut {prog:Program}{w:World}{A:Around}{E:Value->Shared->Prop}{s:Shared}{env:Env}{value slice:Expr}{pos:Pos}{T id:String}{Q:Value->Shared->Prop}
  (hl:typeLookup (.type T) "__getitem__"=pure (some (.builtin id))) (hs:c8 slice)
  (h:wpAny (model prog w) A (eval value env) (λ o s₁=>wpAny (model prog w) A (eval slice env) (λ i s₂=>s₂.TypeIs o T/\wpAny (model prog w) A (getItem o i) Q E s₂) E s₁) E s):
  wpAny (model prog w) A (eval (.Subscript value slice pos) env) Q E s:=by
 refine Subscript_ (za5 h (λ o s₁ h₁=>za5 h₁ (λ i s₂ h₂=>?_) λ _ _ x=>x) λ _ _ x=>x);obtain⟨hT,h₂⟩:=h₂;unfold subscriptTail;refine Ab ?_;rw[getitemInPython_of_ne hT.not_modules];refine Ab (wpAny_specialOf hT hl ?_);have fin:wpAny (model prog w) A (subscripted slice false o i) (λ r s₃=>wpAny (model prog w) A (letTemporaryGo value o r >>= λ _=>pure r) Q E s₃) E s₂:=by
  rw[hs o i];exact wpAny_operating (za5 h₂ (λ r s₃ h₃=>Ab (wpAny_letTemporaryGo (Ad h₃))) λ _ _ x=>x)
 first
  | exact Ad (Ab fin)
  | exact Ab (Ad (Ab fin))
  | exact Ab fin
def Mw {X:Cx}{pins:List (Addr×Obj)}{O:St}{H:Hp}{s:Shared}{a:Addr}{y:V}{o:Option V}(I:Inv X pins O H s) (g:rK H a y o):s.TypeIs (.ref a) "dict":=by
 rcases g with ⟨Aa,k,e,_,_⟩ | ⟨Aa,k,b,e,_,_,_⟩
 .obtain⟨_,_,vs,_,dd⟩:=nk I.zE e;exact dd.typeIs
 .obtain⟨_,_,xs,_,dd⟩:=lx I.zE e;exact dd.typeIs
def Uq (td ty:TE):TE:=fun O H Q=>td O H λ x H1=>ty O H1 λ y H2=>∃ a v,x=.ref a/\rK H2 a y (some v)/\Q v H2
def UY (td ty tv:TE):TS:=λ D O H=>tv O H λ v H1=>td O H1 λ x H2=>ty O H2 λ y H3=>∃ a H4,x=.ref a/\ky H3 a y v H4/\D.nx O H4
section
variable {X:Cx}{o i value:Expr}{pos pos':Pos}{td ty tv:TE}
def SW (hu:X.A.units+1<cLine) (ho:PE X o td) (hi:PE X i ty) (hs:c8 i):PE X (.Subscript o i pos) (Uq td ty):=by
 intro pins s O H Q I h;refine Ut PySem.F.slot_dict_getitem.lookup hs (zK (ho pins s O H _ I h) λ u s1 ⟨x,H1,I1,rx,q1⟩=>zK (hi pins s1 O H1 _ I1 q1) λ iv s2 ⟨y,H2,I2,ry,a,v,ex,g,q2⟩=>?_);subst ex;obtain rfl:u=Value.ref a:=rx;exact⟨Mw I2 g,M0 hu I2 g ry λ w' s3 I3 rw'=>⟨v,H2,I3,rw',q2⟩⟩
def TR (hu:X.A.units+1<cLine) (ho:PE X o td) (hi:PE X i ty) (hv:PE X value tv) (hs:swapsWith value (some (.Subscript o i pos')) pos.line X.env=pure false):
  PS X (.Assign [.Subscript o i pos'] value pos) (UY td ty tv):=by
 intro pins s O H D I h;refine wpAny_Assign_Subscript (zK (hv pins s O H _ I h) λ r s1 ⟨v,H1,I1,rv,q1⟩=>zK (ho pins s1 O H1 _ I1 q1) λ u s2 ⟨x,H2,I2,rx,q2⟩=>zK (hi pins s2 O H2 _ I2 q2) λ iv s3 ⟨y,H3,I3,ry,a,H4,ex,g,q3⟩=>?_) hs;subst ex;obtain rfl:u=Value.ref a:=rx;exact My hu I3 g ry rv λ s4 I4=>⟨O,H4,I4,q3⟩
end
def Mv {P:Program}{w:World}{H:Hp}(h:Heap) (hb:sysModules<h.objs.size):xv P w H (h.push { cls:=.type "dict",data:=.dict #[] }) h.objs.size (.dK []):=
 ⟨AL _,beq_eq_false_iff_ne.mpr (Ne.symm (Ax hb)),[],.nil,Heap.DictOf.new h⟩
def Um:TE:=λ _ H Q=>∀ p,H p=none->Q (.ref p) (upd H p (.dK []))
section
variable {X:Cx}{pos:Pos}
def SU:PE X (.Dict [] [] pos) Um:=λ pins s O H Q I h=>
 wpAny_Dict_empty ⟨.ref s.heap.objs.size,_,I.laid (a:=s.heap.objs.size) (o:=.dK []) (t':=s.toks) (λ _ _ q=>Ao _ q) (Ah _) (Mv s.heap I.big),rfl,h _ (I.zE.fresh (Ah _))⟩
end
structure M2 (X:Cx) (o:Expr) (m:Str) (apos:Pos) (e f:Expr) (Ag:Pos):Prop where
 base:attributeBase o m X.env (eval o X.env)=eval o X.env
 mZ:((backTo Ag (starEach [e,f] X.env)).all (λ x=>!x.1)&&(backToKw Ag (keywordEach [] X.env)).all (λ x=>x.1.isSome)
  && decide (([e,f]:List Expr).length+([]:List Keyword).length+(if ([]:List Keyword).isEmpty then 0 else 1)<30))=true
 line:(apos.endLine == Ag.line)=true
 trees:backTo Ag (starEach [e,f] X.env)=[(false,eval e X.env),(false,eval f X.env)]
def WJ (H:Hp) (a:Addr):Prop:=(∃ Aa,Rd H a (.dK Aa))\/∃ Aa,Rd H a (.dT Aa)
def Nf {X:Cx}{pins:List (Addr×Obj)}{O:St}{H:Hp}{s:Shared}{a:Addr}(I:Inv X pins O H s) (d:WJ H a):
  s.TypeIs (.ref a) "dict"/\(∀ b,Value.ref a=.ref b->∃ ob,s.heap.get? b=some ob/\ob.dict=none)/\(a == sysModules)=false:=by
 rcases d with ⟨Aa,e⟩ | ⟨Aa,e⟩
 .obtain⟨_,hd,vs,_,dd⟩:=nk I.zE e;refine⟨dd.typeIs,λ b q=>?_,hd⟩;cases q;obtain⟨ob,_,_,h1,h2,_⟩:=dd;exact⟨ob,h1,h2.2.1⟩
 .obtain⟨_,hd,xs,_,dd⟩:=lx I.zE e;refine⟨dd.typeIs,λ b q=>?_,hd⟩;cases q;obtain⟨ob,_,_,h1,h2,_⟩:=dd;exact⟨ob,h1,h2.2.1⟩
section
variable {X:Cx}{pins:List (Addr×Obj)}{O:St}{H:Hp}{s:Shared}{a:Addr}{y d:V}{u r:Value}{o:Option V}{A:Around}{E:Value->Shared->Prop}
def M1 {Q:Value->Shared->Prop}(hu:A.units+1<cLine) (I:Inv X pins O H s) (g:rK H a y o) (ry:RelV y u) (rd:RelV d r) (h:∀ w' s',Inv X pins O H s'->RelV (o.getD d) w'->Q w' s'):
  wpAny (model X.prog X.w) A (call (.builtin "dict.get") [.ref a,u,r]) Q E s:=by
 rcases g with ⟨Aa,k,e,ey,l⟩ | ⟨Aa,k,b,e,ey,eb,l⟩
 .subst ey;obtain⟨z,hd,vs,rel,dd⟩:=nk I.zE e;refine call_meetsIn PySem.F.slot_dict_get dd.typeIs PySem.F.entry_dict_get (PySem.F.args_dict_get_3 _ _ _) (meets_dict_get_default (vc X.prog X.w) a (j9 ry) hd r) ⟨_,dd.mapOf,h _ _ (I.tok _) ?_⟩;rw[l];exact (rel.val k).getD rd
 .subst ey;cases (show u=Value.ref b from ry);obtain⟨z,hd,xs,rel,dd⟩:=lx I.zE e;refine call_meetsIn PySem.F.slot_dict_get dd.typeIs PySem.F.entry_dict_get (PySem.F.args_dict_get_3 _ _ _) (meetsH_dict_get_default (tupleKind (vc X.prog X.w)) a b hd r) ⟨tupleKind_room_in1 hu,k,xs,j8 I.zE eb,dd,h _ _ (I.tok _) ?_⟩;rw[l];exact (rel.val k).getD rd
end
def Uo (td ty tx:TE):TE:=fun O H Q=>td O H λ x H1=>∃ a,x=.ref a/\WJ H1 a/\ty O H1 λ y H2=>tx O H2 λ z H3=>∃ o,rK H3 a y o/\Q (o.getD z) H3
section
variable {X:Cx}{o e f:Expr}{apos Ag:Pos}{td ty tx:TE}
def SV (hu:X.A.units+1<cLine) (ho:PE X o td) (he:PE X e ty) (hf:PE X f tx) (m:M2 X o "get" apos e f Ag):PE X (.Call (.Attribute o "get" apos) [e,f] [] Ag) (Uo td ty tx):=by
 intro pins s O H Q I h;refine wpAny_Call_method m.base m.mZ m.line PySem.F.plainAttrs_dict PySem.F.slot_dict_get PySem.F.type_dict_get (zK (ho pins s O H _ I h) λ u s1 ⟨x,H1,I1,rx,a,ex,d,q1⟩=>?_);subst ex;obtain rfl:u=Value.ref a:=rx;obtain⟨t1,t2,_⟩:=Nf I1 d;refine⟨t1,t2,?_⟩;rw[m.trees];refine Calls.callWith_builtin rfl (Calls.evalArgs_plain (Calls.spliced_cons (zK (he pins s1 O H1 _ I1 q1) λ iv s2 ⟨y,H2,I2,ry,q2⟩=>
  Calls.spliced_cons (zK (hf pins s2 O H2 _ I2 q2) λ fv s3 ⟨z,H3,I3,rz,ov,g,q3⟩=>Calls.spliced_nil ?_))))
 exact M1 hu I3 g ry rz λ w' s4 I4 rw'=>⟨_,H3,I4,rw',q3⟩
end
end L2
namespace L3
open PySem PySem.Spec L2
open PyProof.Rows hiding St
noncomputable def ur (Aa:List (Key×D)) (k:Key):Option D:=(Aa.find? λ kv=>decide (kv.1=k)).map (·.2)
noncomputable def putD (Aa:List (Key×D)) (k:Key) (v:D):List (Key×D):=
 if (Aa.any λ kv=>decide (kv.1=k))=true then Aa.map (λ kv=>if kv.1=k then (kv.1,v) else kv) else Aa++[(k,v)]
section
variable {K:Ac}{H:Hp}
theorem xr.val:∀ {Aa:List (Key×D)}{vs:List (Key×V)},xr K H Aa vs->∀ k,(ur Aa k=none/\wJ vs k=none)\/∃ d v,ur Aa k=some d/\wJ vs k=some v/\zi K H d v
 | _,_,.nil,k=>.inl ⟨rfl,rfl⟩
 | (a,d)::Aa,(b,v)::vs,.cons ⟨e,r⟩ t,k=>by
  have e':a=b:=e;subst e';by_cases h:a=k
  .subst h;exact .inr ⟨d,v,by simp[ur],by simp[wJ],r⟩
  .rcases xr.val t k with ⟨h1,h2⟩ | ⟨d',v',h1,h2,h3⟩
   .exact .inl ⟨by simpa [ur,h] using h1,by simpa [wJ,h] using h2⟩
   .exact .inr ⟨d',v',by simpa [ur,h] using h1,by simpa [wJ,h] using h2,h3⟩
theorem xr.any {Aa:List (Key×D)}{vs:List (Key×V)}(h:xr K H Aa vs) (k:Key):(Aa.any λ kv=>decide (kv.1=k))=vs.any λ kv=>decide (kv.1=k):=by
 induction h with
 | nil=>rfl
 | cons r _ ih=>rw[Bl,Bl,ih,r.1]
def xr.len {Aa:List (Key×D)}{vs:List (Key×V)}(h:xr K H Aa vs):Aa.length=vs.length:=Paired.length h
theorem xr.tI {k:Key}{d:D}{v:V}(r:zi K H d v):∀ {Aa:List (Key×D)}{vs:List (Key×V)},xr K H Aa vs->xr K H (Aa.map λ kv=>if kv.1=k then (kv.1,d) else kv) (vs.map λ kv=>if kv.1=k then (kv.1,v) else kv)
 | _,_,.nil=>.nil
 | (a1,a2)::_,(b1,b2)::_,.cons ⟨e,q⟩ t=>by
  have e':a1=b1:=e;subst e';refine .cons ?_ (xr.tI r t);by_cases hk:a1=k
  .simp[hk,r]
  .simpa [hk] using q
theorem xr.snoc {k:Key}{d:D}{v:V}(r:zi K H d v):∀ {Aa:List (Key×D)}{vs:List (Key×V)},xr K H Aa vs->xr K H (Aa++[(k,d)]) (vs++[(k,v)])
 | _,_,.nil=>.cons ⟨rfl,r⟩ .nil
 | _,_,.cons q t=>.cons q (xr.snoc r t)
def xr.put {Aa:List (Key×D)}{vs:List (Key×V)}(h:xr K H Aa vs) (k:Key) {d:D}{v:V}(r:zi K H d v):xr K H (putD Aa k d) (putK vs k v):=by
 unfold putD putK;rw[h.any k];split
 .exact xr.tI r h
 .exact xr.snoc r h
end
section
variable {X:Cx}{o i e f v:Expr}{td ty tx tv:zy}{pos pos' apos Ag:Pos}
def XM:zy:=λ _ S Q=>∀ p,S p=none->Q (.ref p) (ups S p (.yq []))
def R1:PD X (.Dict [] [] pos) XM:=by
 refine⟨λ _ _ _ _ hq z p hp=>hq _ _ (z p hp),PE.imp SU fun O H Q hu p hp=>?_⟩;obtain⟨Y,S,r1,r2,z⟩:=hu;exact z p (r2.none hp) _ _ (by simp only[zi]) (.new hp _) (r2.ups (.new hp _) ⟨[],yR,.nil⟩)
def XQ (td ty:zy):zy:=fun Y S Q=>td Y S λ x S1=>ty Y S1 λ y S2=>∃ p Aa k d,x=.ref p/\y=.int k/\S2 p=some (.yq Aa)/\ur Aa (.inl k)=some d/\Q d S2
def ZS {k:Nat}(hr:yK k X.A) (ho:PD X o td) (hi:PD X i ty) (hs:c8 i:=by exact λ _ _=>rfl):PD X (.Subscript o i pos) (XQ td ty):=by
 refine⟨fun Y S Q Q' hq z=>ho.mo Y S _ _ (λ x S1 z=>hi.mo Y S1 _ _ (λ y S2 ⟨p,Aa,k,d,a,b,c,e,h⟩=>⟨p,Aa,k,d,a,b,c,e,hq _ _ h⟩) z) z,PE.imp (SW (eW hr) ho.pe hi.pe hs) fun O H Q hu=>?_⟩;obtain⟨Y,S,r1,r2,z⟩:=hu;refine zX.go ho.mo r1 r2 z λ x S1 w H1 h1 q1 e1 p1=>?_;refine zX.go hi.mo (r1.ext e1) p1 h1 λ y S2 w2 H2 h2 q2 e2 p2=>?_;obtain⟨p,Aa,k,d,rfl,rfl,c1,c2,h⟩:=h2;simp only[zi] at q1 q2;subst q1 q2;obtain⟨vs,g1,g2⟩:=p2 _ _ c1;rcases xr.val g2 (.inl k) with ⟨n1,_⟩ | ⟨d',v',n1,n2,n3⟩
 .rw[c2] at n1;cases n1
 .rw[c2] at n1;cases n1;exact⟨p,v',rfl,n2▸rK.k (k:=Sum.inl k) g1,h v' H2 n3 (e1.trans e2) p2⟩
def XO (td ty tx:zy):zy:=fun Y S Q=>td Y S λ x S1=>∃ p,x=.ref p/\(∃ Aa,S1 p=some (.yq Aa))/\ty Y S1 λ y S2=>tx Y S2 λ z S3=>∃ k Aa,y=.int k/\S3 p=some (.yq Aa)/\Q ((ur Aa (.inl k)).getD z) S3
def R3 {k:Nat}(hr:yK k X.A) (ho:PD X o td) (he:PD X e ty) (hf:PD X f tx) (m:M2 X o "get" apos e f Ag:=by exact⟨rfl,rfl,rfl,rfl⟩):PD X (.Call (.Attribute o "get" apos) [e,f] [] Ag) (XO td ty tx):=by
 refine⟨fun Y S Q Q' hq z=>ho.mo Y S _ _ (λ x S1 ⟨p,a,b,z⟩=>⟨p,a,b,he.mo Y S1 _ _ (λ y S2 z=>hf.mo Y S2 _ _ (λ w S3 ⟨k,Aa,a,b,h⟩=>⟨k,Aa,a,b,hq _ _ h⟩) z) z⟩) z,PE.imp (SV (eW hr) ho.pe he.pe hf.pe m) fun O H Q hu=>?_⟩;obtain⟨Y,S,r1,r2,z⟩:=hu;refine zX.go ho.mo r1 r2 z λ x S1 w H1 h1 q1 e1 p1=>?_;obtain⟨p,rfl,⟨kvs0,c0⟩,h1⟩:=h1;simp only[zi] at q1;subst q1;obtain⟨vs0,g0,_⟩:=p1 _ _ c0;refine⟨p,rfl,.inl ⟨vs0,.inl g0⟩,?_⟩;refine zX.go he.mo (r1.ext e1) p1 h1 λ y S2 w2 H2 h2 q2 e2 p2=>?_;refine zX.go hf.mo ((r1.ext e1).ext e2) p2 h2 λ y3 S3 w3 H3 h3 q3 e3 p3=>?_;obtain⟨k,Aa,rfl,c1,h⟩:=h3;simp only[zi] at q2;subst q2;obtain⟨vs,g1,g2⟩:=p3 _ _ c1;refine⟨wJ vs (.inl k),rK.k (k:=Sum.inl k) g1,?_⟩;rcases xr.val g2 (.inl k) with ⟨n1,n2⟩ | ⟨d',v',n1,n2,n3⟩
 .rw[n1] at h;rw[n2];exact h _ H3 q3 ((e1.trans e2).trans e3) p3
 .rw[n1] at h;rw[n2];exact h _ H3 n3 ((e1.trans e2).trans e3) p3
def XN (td ty tv:zy):y_:=λ E Y S=>tv Y S λ v S1=>td Y S1 λ x S2=>ty Y S2 λ y S3=>∃ p Aa k,x=.ref p/\y=.int k/\S3 p=some (.yq Aa)/\Aa.length<sizeLine/\E.nx Y (ups S3 p (.yq (putD Aa (.inl k) v)))
theorem Ext.dK {H:Hp}{p:Addr}{Aa:List (Key×V)}(h:H p=some (.dK Aa)) (o:HO):Ext H (upd H p o):=
 ⟨λ b ys q=>by rw[yV (mP q h (by intro z;cases z))];exact q,λ b ob u q=>by rw[yV (mP q h (by intro z;cases z))];exact q⟩
def Rj {k:Nat}(hr:yK k X.A) (ho:PD X o td) (hi:PD X i ty) (hv:PD X v tv) (hs:swapsWith v (some (.Subscript o i pos')) pos.line X.env=pure false:=by rfl):ui X (.Assign [.Subscript o i pos'] v pos) (XN td ty tv):=by
 refine⟨λ E E' Y S hE z=>hv.mo Y S _ _ (λ w S1 z=>ho.mo Y S1 _ _ (λ x S2 z=>hi.mo Y S2 _ _ (λ y S3 ⟨p,Aa,k,a,b,c,d,h⟩=>⟨p,Aa,k,a,b,c,d,hE.nx _ _ h⟩) z) z) z,PS.imp (TR (eW hr) ho.pe hi.pe hv.pe hs) λ D O H hu=>?_⟩;obtain⟨Y,S,r1,r2,z⟩:=hu;refine zX.go hv.mo r1 r2 z λ w S1 w1 H1 h1 q1 e1 p1=>?_;refine zX.go ho.mo (r1.ext e1) p1 h1 λ x S2 w2 H2 h2 q2 e2 p2=>?_;refine zX.go hi.mo ((r1.ext e1).ext e2) p2 h2 λ y S3 w3 H3 h3 q3 e3 p3=>?_;obtain⟨p,Aa,k,rfl,rfl,c1,c2,h⟩:=h3;simp only[zi] at q2 q3;subst q2 q3;obtain⟨vs,g1,g2⟩:=p3 _ _ c1;have e4:Ext H3 (upd H3 p (.dK (putK vs (.inl k) w1))):=.dK g1 _;refine⟨p,_,rfl,ky.k (k:=Sum.inl k) g1 (by rw[<- g2.len];exact c2),?_⟩;exact h O _ ((((r1.ext e1).ext e2).ext e3).ext e4) (((e1.trans e2).trans e3).trans e4) (p3.ups e4 ⟨_,yR,(xr.put g2 _ (zi.ext (e2.trans e3) w q1)).ext e4⟩)
def Lf:yQ X (.builtin "len") (λ xs H Q=>∃ p Aa,xs=[.ref p]/\H p=some (.dK Aa)/\Q (.int Aa.length) H):=by
 intro pins s O H xs us Q I r h;obtain⟨p,Aa,rfl,e,q⟩:=h;obtain⟨u,rfl,ru⟩:=vals1 r;cases ru;exact Mz I (.inl e) λ t s' I'=>⟨.int _,H,I',⟨_,rfl⟩,q⟩
def Xr:xS:=λ ds S Q=>∃ p Aa,ds=[.ref p]/\S p=some (.yq Aa)/\Q (.int Aa.length) S
def R0 {es:List Expr}{tA:yz}{p:Pos}(hm:X.mg "len"=none) (ha:xH X (e::es) tA) (hg:Gl X "len":=by rfl) (he:starEach (e::es) X.env=(false,eval e X.env)::starEach es X.env:=by rfl) (Au:(backTo pos (starEach es X.env)).any (·.1)=false:=by rfl):PD X (.Call (.Name "len" p) (e::es) [] pos) (xR Xr tA):=
 uU (tJ Lf hg hm PySem.boot_len ha.pa (by decide) (by decide) he Au) (λ _ _ _ _ hq ⟨p,Aa,a,b,h⟩=>⟨p,Aa,a,b,hq _ _ h⟩) (λ xs ds H S Q h0 h2 ⟨p,Aa,a,b,h⟩=>by
  subst a;obtain⟨x,rfl,h1⟩:=h0.one;simp only[zi] at h1;subst h1;obtain⟨vs,g1,g2⟩:=h2 _ _ b;refine⟨p,vs,rfl,g1,?_⟩;rw[<- g2.len];exact h _ H (by simp only[zi]) (.refl H) h2) ha.mo
end
end L3
namespace L3
open PySem L2
section
variable {S S':SS}
mutual
theorem Sn.sx (h:Sx S S'):∀ (t:T) {d:D},Sn S t d->Sn S' t d
 | .zl,d,q=>by simpa only [Sn] using q
 | .bl b,d,q=>by simpa only [Sn] using q
 | .int i,d,q=>by simpa only [Sn] using q
 | .str x,d,q=>by simpa only [Sn] using q
 | .tup ts,d,q=>by
  simp only[Sn] at q ⊢;obtain⟨ds,q1,q2⟩:=q;exact⟨ds,q1,zo.sx h ts q2⟩
 | .lst ts,d,q=>by
  simp only[Sn] at q ⊢;obtain⟨ds,q1,q2⟩:=q;refine⟨ds,?_,zo.sx h ts q2⟩;rcases q1 with q1 | ⟨a,q1,q3⟩
  .exact .inl q1
  .exact .inr ⟨a,q1,h _ _ q3⟩
 | .yd,d,q=>by
  simp only[Sn] at q ⊢;obtain⟨a,Aa,q1,q2⟩:=q;exact⟨a,Aa,q1,h _ _ q2⟩
theorem zo.sx (h:Sx S S'):∀ (ts:List T) {ds:List D},zo S ts ds->zo S' ts ds
 | [],ds,q=>by simpa only [zo] using q
 | t::ts,ds,q=>by
  simp only[zo] at q ⊢;obtain⟨c,cs,q1,q2,q3⟩:=q;exact⟨c,cs,q1,Sn.sx h t q2,zo.sx h ts q3⟩
end
def zo.nil:zo S [] []:=by simp only[zo]
def zo.cons {t:T}{ts:List T}{d:D}{ds:List D}(h:Sn S t d) (h':zo S ts ds):zo S (t::ts) (d::ds):=by
 simp only[zo];exact⟨d,ds,rfl,h,h'⟩
theorem zo.append:∀ {ts us:List T}{ds es:List D},zo S ts ds->zo S us es->zo S (ts++us) (ds++es)
 | [],us,ds,es,h,h'=>by simp only[zo] at h;subst h;simpa using h'
 | t::ts,us,ds,es,h,h'=>by
  simp only[zo] at h;obtain⟨c,cs,rfl,h1,h2⟩:=h;exact zo.cons h1 (zo.append h2 h')
theorem zo.dm:∀ {ts:List T}{ds:List D}{i:Nat}{t:T},zo S ts ds->ts[i]?=some t->∃ d,ds[i]?=some d/\Sn S t d
 | [],_,i,t,_,e=>by simp at e
 | u::ts,ds,i,t,h,e=>by
  simp only[zo] at h;obtain⟨c,cs,rfl,h1,h2⟩:=h;cases i with
  | zero=>simp at e;subst e;exact⟨c,rfl,h1⟩
  | succ i=>
   obtain⟨y,e1,e2⟩:=zo.dm (i:=i) h2 (by simpa using e);exact⟨y,by simpa using e1,e2⟩
theorem zo.du:∀ {ts:List T}{ds:List D}{i:Nat}{d:D},zo S ts ds->ds[i]?=some d->∃ t,ts[i]?=some t/\Sn S t d
 | [],ds,i,t,h,e=>by simp only[zo] at h;subst h;simp at e
 | u::ts,ds,i,t,h,e=>by
  simp only[zo] at h;obtain⟨c,cs,rfl,h1,h2⟩:=h;cases i with
  | zero=>simp at e;subst e;exact⟨u,rfl,h1⟩
  | succ i=>
   obtain⟨y,e1,e2⟩:=zo.du (i:=i) h2 (by simpa using e);exact⟨y,by simpa using e1,e2⟩
def zo.len {ts:List T}{ds:List D}(h:zo S ts ds):ds.length=ts.length:=(L3.zo.length h).symm
theorem zo.at {ts:List T}{ds:List D}{i:Int}{t:T}(h:zo S ts ds) (e:L2.zZ ts i=some t):∃ d,L2.zZ ds i=some d/\Sn S t d:=by
 unfold L2.zZ at e ⊢;rw[h.len];cases q:L2.wR ts.length i with
 | none=>rw[q] at e;cases e
 | some j=>
  rw[q] at e;exact h.dm e
theorem zo.Ze:∀ {ts:List T}{ds:List D}{t:T}{d:D}(i:Nat),zo S ts ds->Sn S t d->zo S (ts.set i t) (ds.set i d)
 | [],ds,t,d,i,h,_=>by simp only[zo] at h;subst h;simpa using zo.nil
 | u::ts,ds,t,d,0,h,hd=>by
  simp only[zo] at h;obtain⟨c,cs,rfl,h1,h2⟩:=h;exact zo.cons hd h2
 | u::ts,ds,t,d,i+1,h,hd=>by
  simp only[zo] at h;obtain⟨c,cs,rfl,h1,h2⟩:=h;exact zo.cons h1 (zo.Ze i h2 hd)
theorem zo.take':∀ {ts:List T}{ds:List D}(n:Nat),zo S ts ds->zo S (ts.take n) (ds.take n)
 | ts,ds,0,h=>by simpa using zo.nil
 | [],ds,n+1,h=>by simp only[zo] at h;subst h;simpa using zo.nil
 | t::ts,ds,n+1,h=>by
  simp only[zo] at h;obtain⟨c,cs,rfl,h1,h2⟩:=h;exact zo.cons h1 (zo.take' n h2)
theorem zo.drop':∀ {ts:List T}{ds:List D}(n:Nat),zo S ts ds->zo S (ts.drop n) (ds.drop n)
 | ts,ds,0,h=>h
 | [],ds,n+1,h=>by simp only[zo] at h;subst h;simpa using zo.nil
 | t::ts,ds,n+1,h=>by
  simp only[zo] at h;obtain⟨c,cs,rfl,h1,h2⟩:=h;exact zo.drop' n h2
def zo.empty {ts:List T}{ds:List D}(h:zo S ts ds):ds.isEmpty=ts.isEmpty:=by
 have:=h.len;cases ds <;> cases ts <;> simp_all
theorem zo.Wo:∀ {bs:List Bool}{ds:List D},zo S (bs.map T.bl) ds->ds=bs.map D.bl
 | [],ds,h=>by simpa only [A8,zo] using h
 | b::bs,ds,h=>by
  rw[Aq] at h;simp only[zo,Sn] at h;obtain⟨c,cs,rfl,rfl,h3⟩:=h;rw[zo.Wo h3];rfl
end
end L3
namespace L5
open PySem L2 L3
noncomputable def zW (S:SS) (Z:Addr->Prop):SS:=open Classical in λ a=>if Z a then none else S a
section
variable {S S':SS}{Z Z':Addr->Prop}{a p:Addr}
def u9 (h:¬ Z a):zW S Z a=S a:=if_neg h
def eX (h:Z a):zW S Z a=none:=if_pos h
def uX {o:O}(h:zW S Z a=some o):¬ Z a/\S a=some o:=by
 by_cases z:Z a
 .rw[eX z] at h;cases h
 .rw[u9 z] at h;exact⟨z,h⟩
def mV (S:SS) (Z:Addr->Prop):Sx (zW S Z) S:=λ _ _ h=>(uX h).2
def ve (h:Sx S S'):Sx (zW S Z) (zW S' Z):=λ b o q=>by
 obtain⟨q1,q2⟩:=uX q;rw[u9 q1];exact h _ _ q2
def tS (h:∀ a,Z' a->Z a):Sx (zW S Z) (zW S Z'):=λ b o q=>by
 obtain⟨q1,q2⟩:=uX q;rw[u9 (λ z=>q1 (h _ z))];exact q2
def o_ (h:Sx S S') (hp:S p=none):Sx (zW S Z) (zW S' λ a=>Z a\/a=p):=λ b o q=>by
 obtain⟨q1,q2⟩:=uX q;rw[u9]
 .exact h _ _ q2
 .rintro (z | z)
  .exact q1 z
  .subst z;rw[hp] at q2;cases q2
def Nu {o:O}(h:Z p):zW (ups S p o) Z=zW S Z:=by
 funext b;by_cases z:Z b
 .rw[eX z,eX z]
 .rw[u9 z,u9 z,sC (λ e=>z (by rw[e];exact h))]
end
inductive C where
 | lst (ts:List T) | yq (Aa:List (Key×T))
noncomputable def yL (S:SS):List (Key×T)->List (Key×D)->Prop
 | [],l=>l=[]
 | (k,t)::r,l=>∃ d m,l=(k,d)::m/\Sn S t d/\yL S r m
theorem yL.sx {S S':SS}(h:Sx S S'):∀ {a:List (Key×T)}{b:List (Key×D)},yL S a b->yL S' a b
 | [],_,q=>q
 | (k,t)::r,_,q=>by
  obtain⟨d,m,q1,q2,q3⟩:=q;exact⟨d,m,q1,Sn.sx h t q2,yL.sx h q3⟩
noncomputable def sj (S:SS):C->O->Prop
 | .lst ts,.lst ds=>zo S ts ds
 | .yq a,.yq b=>yL S a b
 | _,_=>False
theorem sj.sx {S S':SS}(h:Sx S S'):∀ {c:C}{o:O},sj S c o->sj S' c o
 | .lst ts,.lst ds,q=>zo.sx h ts q
 | .yq a,.yq b,q=>yL.sx h q
inductive W where
 | im (t:T) | own (c:C)
abbrev Ev:=List (Option W)
structure ER (S:SS) (Z:Addr->Prop) (Y:yr) (J:Ev):Prop where
 zd:∀ a,Z a->S a≠none
 im:∀ (i:Nat) t,J[i]?=some (some (.im t))->∃ d,Y[i]?=some (some d)/\Sn (zW S Z) t d
 ow:∀ (i:Nat) c,J[i]?=some (some (.own c))->∃ p o,Y[i]?=some (some (.ref p))/\S p=some o/\sj (zW S Z) c o/\Z p
def Vw (S:SS) (Z:Addr->Prop) (y:T) (d:D):Prop:=Sn (zW S Z) y d\/∃ ts p ds,y=.lst ts/\d=.ref p/\S p=some (.lst ds)/\zo (zW S Z) ts ds/\Z p
abbrev Rk:=SS->SS->(Addr->Prop)->T->D->Prop
def W6:Rk:=λ _ S' Z y d=>Vw S' Z y d
def x_:Rk:=λ _ S' Z y d=>Sn (zW S' Z) y d
def zL:Rk:=λ S S' Z y d=>Sn (zW S' Z) y d/\∀ ts,y=.lst ts->∃ p ds,d=.ref p/\S p=none/\S' p=some (.lst ds)/\zo (zW S' λ a=>Z a\/a=p) ts ds
class Cl (R:Rk):Prop where
 cl:∀ {S S1 S':SS}{Z:Addr->Prop}{y:T}{d:D},Sx S S1->R S1 S' Z y d->R S S' Z y d
 of:∀ {S S':SS}{Z:Addr->Prop}{y:T}{d:D},(∀ ts,y≠.lst ts)->Sn (zW S' Z) y d->R S S' Z y d
instance:Cl W6:=⟨λ _ h=>h,λ _ h=>.inl h⟩
instance:Cl x_:=⟨λ _ h=>h,λ _ h=>h⟩
instance:Cl zL:=⟨λ s h=>⟨h.1,λ ts e=>by
 obtain⟨p,ds,h1,h2,h3⟩:=h.2 ts e;exact⟨p,ds,h1,s.none h2,h3⟩⟩,λ n h=>⟨h,λ ts e=>absurd e (n ts)⟩⟩
section
variable {S S':SS}{Z:Addr->Prop}{Y:yr}{J:Ev}{y:T}{d:D}
def ER.grow (h:ER S Z Y J) (s:Sx S S'):ER S' Z Y J:=
 ⟨λ a z q=>h.zd a z (s.none q),λ i t e=>by
  obtain⟨d,h1,h2⟩:=h.im i t e;exact⟨d,h1,Sn.sx (ve s) t h2⟩,λ i ts e=>by
  obtain⟨p,ds,h1,h2,h3,h4⟩:=h.ow i ts e;exact⟨p,ds,h1,s _ _ h2,sj.sx (ve s) h3,h4⟩⟩
def Vw.grow (h:Vw S Z y d) (s:Sx S S'):Vw S' Z y d:=by
 rcases h with h | ⟨ts,p,ds,h1,h2,h3,h4,h5⟩
 .exact .inl (Sn.sx (ve s) y h)
 .exact .inr ⟨ts,p,ds,h1,h2,s _ _ h3,zo.sx (ve s) ts h4,h5⟩
def Vw.sn (h:Vw S Z y d):Sn S y d:=by
 rcases h with h | ⟨ts,p,ds,rfl,rfl,h3,h4,_⟩
 .exact Sn.sx (mV S Z) y h
 .simp only[Sn];exact⟨ds,.inr ⟨p,rfl,h3⟩,zo.sx (mV S Z) ts h4⟩
theorem Vw.zl (h:Vw S Z .zl d):d=.zl:=by
 rcases h with h | ⟨_,_,_,h,_⟩
 .simpa only [Sn] using h
 .cases h
theorem Vw.bl {b:Bool}(h:Vw S Z (.bl b) d):d=.bl b:=by
 rcases h with h | ⟨_,_,_,h,_⟩
 .simpa only [Sn] using h
 .cases h
theorem Vw.int {b:Int}(h:Vw S Z (.int b) d):d=.int b:=by
 rcases h with h | ⟨_,_,_,h,_⟩
 .simpa only [Sn] using h
 .cases h
theorem Vw.str {b:Str}(h:Vw S Z (.str b) d):d=.str b:=by
 rcases h with h | ⟨_,_,_,h,_⟩
 .simpa only [Sn] using h
 .cases h
theorem Vw.tup {ts:List T}(h:Vw S Z (.tup ts) d):∃ ds,d=.tup ds/\zo (zW S Z) ts ds:=by
 rcases h with h | ⟨_,_,_,h,_⟩
 .simpa only [Sn] using h
 .cases h
theorem Vw.lst {ts:List T}(h:Vw S Z (.lst ts) d):∃ ds,(d=.yN ds\/∃ a,d=.ref a/\S a=some (.lst ds))/\zo (zW S Z) ts ds:=by
 rcases h with h | ⟨us,p,ds,h1,h2,h3,h4,_⟩
 .simp only[Sn] at h;obtain⟨ds,h1,h2⟩:=h;refine⟨ds,?_,h2⟩;rcases h1 with h1 | ⟨a,h1,h3⟩
  .exact .inl h1.1
  .exact .inr ⟨a,h1,(uX h3).2⟩
 .cases h1;exact⟨ds,.inr ⟨p,h2,h3⟩,h4⟩
noncomputable def wc:T->Option (List T)
 | .tup ts=>some ts
 | .lst ts=>some ts
 | _=>none
@[simp] theorem zab (ts:List T):wc (.tup ts)=some ts:=rfl
@[simp] theorem zac (ts:List T):wc (.lst ts)=some ts:=rfl
def Vw.seq {ts:List T}(h:Vw S Z y d) (e:wc y=some ts):∃ ds,zV d S=some ds/\zo (zW S Z) ts ds:=by
 cases y with
 | tup us=>cases e;obtain⟨ds,rfl,h2⟩:=h.tup;exact⟨ds,rfl,h2⟩
 | lst us=>
  cases e;obtain⟨ds,h1 | ⟨a,rfl,h1⟩,h2⟩:=h.lst
  .subst h1;exact⟨ds,rfl,h2⟩
  .exact⟨ds,by unfold zV;dsimp only;rw[h1],h2⟩
 | zl=>cases e
 | bl _=>cases e
 | int _=>cases e
 | str _=>cases e
 | yd=>cases e
theorem Vw.yd (h:Vw S Z .yd d):∃ a Aa,d=.ref a/\S a=some (.yq Aa):=by
 rcases h with h | ⟨_,_,_,h,_⟩
 .simp only[Sn] at h;obtain⟨a,Aa,h1,h2⟩:=h;exact⟨a,Aa,h1,(uX h2).2⟩
 .cases h
def aZ:Sn S .zl .zl:=by simp only[Sn]
def vn {b:Bool}:Sn S (.bl b) (.bl b):=by simp only[Sn]
def wL {i:Int}:Sn S (.int i) (.int i):=by simp only[Sn]
def aY {x:Str}:Sn S (.str x) (.str x):=by simp only[Sn]
def qS {ts:List T}{ds:List D}(h:zo S ts ds):Sn S (.tup ts) (.tup ds):=by simp only[Sn];exact⟨ds,rfl,h⟩
def sL {ts:List T}{ds:List D}{p:Addr}(hz:∀ a,Z a->S a≠none) (hp:S p=none) (h:zo (zW S Z) ts ds):zL S (ups S p (.lst ds)) Z (.lst ts) (.ref p):=by
 have nz:¬ Z p:=λ z=>hz p z hp;have s:Sx S (ups S p (.lst ds)):=.new hp _;refine⟨?_,λ us e=>?_⟩
 .simp only[Sn];exact⟨ds,.inr ⟨p,rfl,by rw[u9 nz,rM]⟩,zo.sx (ve s) ts h⟩
 .cases e;exact⟨p,ds,rfl,hp,rM,zo.sx (o_ s hp) ts h⟩
end
def xV (R:Rk) (f:Ev->Option T) (t:zy):Prop:=∀ S Z Y J y Q,ER S Z Y J->f J=some y->(∀ d S',Sx S S'->R S S' Z y d->Q d S')->t Y S Q
abbrev uj:=xV x_
abbrev yP:=xV W6
abbrev wa:=xV zL
def xV.imp {R R':Rk}{f:Ev->Option T}{t:zy}(h:xV R f t) (i:∀ S S' Z y d,R S S' Z y d->R' S S' Z y d):xV R' f t:=λ S Z Y J y Q hE e hq=>h S Z Y J y Q hE e λ d S' s r=>hq d S' s (i _ _ _ _ _ r)
def xV.er {f:Ev->Option T}{t:zy}(h:uj f t):yP f t:=h.imp λ _ _ _ _ _ r=>.inl r
def xV.fe {f:Ev->Option T}{t:zy}(h:wa f t):uj f t:=h.imp λ _ _ _ _ _ r=>r.1
def xV.fr {f:Ev->Option T}{t:zy}(h:wa f t):yP f t:=h.fe.er
@[simp] noncomputable def zk (i:Nat):Ev->Option T:=fun J=>match J[i]? with
 | some (some (.im t))=>some t
 | _=>none
@[simp] noncomputable def zc (i:Nat):Ev->Option T:=fun J=>match J[i]? with
 | some (some (.im t))=>some t
 | some (some (.own (.lst ts)))=>some (.lst ts)
 | _=>none
@[simp] noncomputable def cS (t:T):Ev->Option T:=λ _=>some t
@[simp] abbrev cI (i:Int):Ev->Option T:=cS (.int i)
def js (i:Nat):uj (zk i) (yO i):=λ S Z Y J y Q hE e hq=>by
 unfold zk at e;split at e
 .rename_i t h;cases e;obtain⟨d,h1,h2⟩:=hE.im i _ h;unfold yO;rw[h1];exact hq d S (.refl S) h2
 .cases e
def fY (i:Nat):yP (zc i) (yO i):=λ S Z Y J y Q hE e hq=>by
 unfold zc at e;split at e
 .rename_i t h;cases e;obtain⟨d,h1,h2⟩:=hE.im i _ h;unfold yO;rw[h1];exact hq d S (.refl S) (.inl h2)
 .rename_i ts h;cases e;obtain⟨p,o,h1,h2,h3,h4⟩:=hE.ow i _ h;unfold yO;rw[h1];cases o with
  | yq _=>exact h3.elim
  | lst ds=>exact hq _ S (.refl S) (.inr ⟨ts,p,ds,rfl,rfl,h2,h3,h4⟩)
 .cases e
def px (i:Int):wa (cS (.int i)) (dC (.int i)):=λ S Z Y J y Q hE e hq=>by cases e;exact hq _ S (.refl S) (Cl.of (λ _=>nofun) wL)
def PH (i:Bool):wa (cS (.bl i)) (dC (.bl i)):=λ S Z Y J y Q hE e hq=>by cases e;exact hq _ S (.refl S) (Cl.of (λ _=>nofun) vn)
def Q5 (i:Str):wa (cS (.str i)) (dC (.str i)):=λ S Z Y J y Q hE e hq=>by cases e;exact hq _ S (.refl S) (Cl.of (λ _=>nofun) aY)
def QE:wa (cS .zl) (dC .zl):=λ S Z Y J y Q hE e hq=>by cases e;exact hq _ S (.refl S) (Cl.of (λ _=>nofun) aZ)
@[simp] noncomputable def zb (f:T->T->Option T) (fa fb:Ev->Option T):Ev->Option T:=fun J=>(fa J).bind λ x=>(fb J).bind λ y=>f x y
def Good2 (R:Rk) (f:T->T->Option T) (g:yW):Prop:=∀ S Z x y z d e Q,(∀ a,Z a->S a≠none)->Vw S Z x d->Vw S Z y e->f x y=some z->(∀ c S',Sx S S'->R S S' Z z c->Q c S')->g d e S Q
def vW {R:Rk} [Cl R] {f:T->T->Option T}{g:yW}{fa fb:Ev->Option T}{ta tb:zy}(hg:Good2 R f g) (ha:yP fa ta) (hb:yP fb tb):xV R (zb f fa fb) (yF g ta tb):=λ S Z Y J y Q hE e hq=>by
 unfold zb at e;obtain⟨x,e1,e⟩:=Ak e;obtain⟨z,e2,e⟩:=Ak e;refine ha S Z Y J x _ hE e1 λ d S1 s1 r1=>?_;refine hb S1 Z Y J z _ (hE.grow s1) e2 λ d2 S2 s2 r2=>?_;exact hg S2 Z x z y d d2 Q ((hE.grow (s1.trans s2)).zd) (Vw.grow r1 s2) r2 e λ c S' s r=>hq c S' ((s1.trans s2).trans s) (Cl.cl (s1.trans s2) r)
@[simp] noncomputable def i2 (g:Int->Int->T):T->T->Option T
 | .int i,.int j=>some (g i j)
 | _,_=>none
instance {i j:Int}:Decidable (wI i j):=by unfold wI;infer_instance
instance {i j:Int}:Decidable (wx i j):=by unfold wx;infer_instance
instance {i j:Int}:Decidable (rL i j):=by unfold rL;infer_instance
@[simp] noncomputable def mU (C:Int->Int->Prop) [∀ i j,Decidable (C i j)] (g:Int->Int->T):T->T->Option T
 | .int i,.int j=>if C i j then some (g i j) else none
 | _,_=>none
def jF {g:Int->Int->T}{g':Int->Int->D}(h:∀ i j S,Sn S (g i j) (g' i j)) (n:∀ i j ts,g i j≠.lst ts):Good2 zL (i2 g) (xA g'):=λ S Z x y z d e Q hz hx hy ef hq=>by
 unfold i2 at ef;split at ef
 .cases ef;cases hx.int;cases hy.int;exact hq _ S (.refl S) (Cl.of (n _ _) (h _ _ _))
 .cases ef
def dg {C:Int->Int->Prop} [∀ i j,Decidable (C i j)] {g:Int->Int->T}{g':Int->Int->D}(h:∀ i j S,Sn S (g i j) (g' i j)) (n:∀ i j ts,g i j≠.lst ts):Good2 zL (mU C g) (fI C g'):=λ S Z x y z d e Q hz hx hy ef hq=>by
 unfold mU at ef;split at ef
 .split at ef
  .rename_i hh;cases ef;cases hx.int;cases hy.int;exact⟨hh,hq _ S (.refl S) (Cl.of (n _ _) (h _ _ _))⟩
  .cases ef
 .cases ef
@[simp] def xC:T->T->Option T:=i2 λ i j=>.int (i-j)
@[simp] def zS:T->T->Option T:=mU (λ _ j=>0<j) λ i j=>.int (i%j)
@[simp] def xi:T->T->Option T:=mU wx λ i j=>.int (i/j)
@[simp] def mD:T->T->Option T:=mU rL λ i j=>.int (i ^ j.toNat)
@[simp] def tR:T->T->Option T:=i2 λ i j=>.bl (decide (i<=j))
@[simp] def vC:T->T->Option T:=i2 λ i j=>.bl (decide (j<i))
@[simp] def vD:T->T->Option T:=i2 λ i j=>.bl (decide (j<=i))
section
variable {fa fb:Ev->Option T}{ta tb:zy}
def Q4 (ha:yP fa ta) (hb:yP fb tb):wa (zb xC fa fb) (yF (xA λ i j=>.int (i-j)) ta tb):=vW (jF (λ _ _ _=>wL) λ _ _ _=>nofun) ha hb
def QI (ha:yP fa ta) (hb:yP fb tb):wa (zb zS fa fb) (yF (fI (λ _ j=>0<j) λ i j=>.int (i%j)) ta tb):=vW (dg (λ _ _ _=>wL) λ _ _ _=>nofun) ha hb
def Pm (ha:yP fa ta) (hb:yP fb tb):wa (zb xi fa fb) (yF (fI wx λ i j=>.int (i/j)) ta tb):=vW (dg (λ _ _ _=>wL) λ _ _ _=>nofun) ha hb
def QA (ha:yP fa ta) (hb:yP fb tb):wa (zb mD fa fb) (yF (fI rL λ i j=>.int (i ^ j.toNat)) ta tb):=vW (dg (λ _ _ _=>wL) λ _ _ _=>nofun) ha hb
end
def zJ (neg:Bool):T->T->Option T:=λ x y=>if dep x<=60/\dep y<=60 then some (.bl (cond neg (!eqT x y) (eqT x y))) else none
def oW (neg:Bool):T->T->Option T:=λ x y=>match wc y with
 | some ts=>if dep x<=60/\yE ts<=60 then some (.bl (cond neg (!(ts.any λ t=>eqT t x)) (ts.any λ t=>eqT t x))) else none
 | none=>none
def NF {neg:Bool}:Good2 zL (zJ neg) (tm neg):=λ S Z x y z d e Q hz hx hy ef hq=>by
 unfold zJ at ef;split at ef
 .rename_i h;cases ef;exact⟨x,y,hx.sn,hy.sn,h.1,h.2,hq _ S (.refl S) (Cl.of (λ _=>nofun) vn)⟩
 .cases ef
def ND {neg:Bool}:Good2 zL (oW neg) (qu neg):=λ S Z x y z d e Q hz hx hy ef hq=>by
 unfold oW at ef;split at ef
 .rename_i ts ht;split at ef
  .rename_i h;cases ef;obtain⟨ds,h1,h2⟩:=hy.seq ht;exact⟨x,ts,ds,hx.sn,h1,zo.sx (mV S Z) ts h2,h.1,h.2,hq _ S (.refl S) (Cl.of (λ _=>nofun) vn)⟩
  .cases ef
 .cases ef
@[simp] def zh:T->T->Option T:=λ x y=>match wc x,y with
 | some ts,.int i=>L2.zZ ts i
 | _,_=>none
def nc:Good2 x_ zh wU:=λ S Z x y z d e Q hz hx hy ef hq=>by
 unfold zh at ef;split at ef
 .rename_i ts i ht;cases hy.int;obtain⟨ds,h1,h2⟩:=hx.seq ht;obtain⟨c,h3,h4⟩:=h2.at ef;unfold zV at h1;split at h1
  .cases h1;exact Ma h3 (hq c S (.refl S) h4)
  .cases h1;exact Mb h3 (hq c S (.refl S) h4)
  .split at h1
   .rename_i q;cases h1;exact Mc q h3 (hq c S (.refl S) h4)
   .cases h1
  .cases h1
 .cases ef
@[simp] noncomputable def yw:T->T->Option T
 | .int i,.int j=>some (.int (i+j))
 | .str i,.str j=>if i.length+j.length<=sizeLine then some (.str (i++j)) else none
 | .lst ts,.lst us=>if ts.length+us.length<=sizeLine then some (.lst (ts++us)) else none
 | .tup ts,.tup us=>if ts.length+us.length<=sizeLine then some (.tup (ts++us)) else none
 | _,_=>none
def uD:yW:=λ x y S Q=>match x,y with
 | .int i,.int j=>Q (.int (i+j)) S
 | .str i,.str j=>i.length+j.length<=sizeLine/\Q (.str (i++j)) S
 | .tup ds,.tup es=>ds.length+es.length<=sizeLine/\Q (.tup (ds++es)) S
 | .zl,_=>False
 | .bl _,_=>False
 | .int _,_=>False
 | .str _,_=>False
 | .tup _,_=>False
 | x,y=>match zV x S,zV y S with
  | some ds,some es=>(∀ ts,y≠.tup ts)/\ds.length+es.length<=sizeLine/\∀ r,S r=none->Q (.ref r) (ups S r (.lst (ds++es)))
  | _,_=>False
def good_add:Good2 zL yw uD:=λ S Z x y z d e Q hz hx hy ef hq=>by
 unfold yw at ef;split at ef
 .cases ef;cases hx.int;cases hy.int;exact hq _ S (.refl S) (Cl.of (λ _=>nofun) wL)
 .split at ef
  .rename_i h;cases ef;cases hx.str;cases hy.str;exact⟨h,hq _ S (.refl S) (Cl.of (λ _=>nofun) aY)⟩
  .cases ef
 .split at ef
  .rename_i h;cases ef;obtain⟨ds,h1,h2⟩:=hx.seq rfl;obtain⟨es,h3,h4⟩:=hy.seq rfl;have nt:∀ ts,e≠.tup ts:=by
    obtain⟨_,q | ⟨_,q,_⟩,_⟩:=hy.lst <;> subst q <;> exact λ _=>nofun
   have key:(∀ ts,e≠.tup ts)/\ds.length+es.length<=sizeLine/\∀ r,S r=none->Q (.ref r) (ups S r (.lst (ds++es))):=
    ⟨nt,by rw[h2.len,h4.len];exact h,λ r hr=>hq _ _ (.new hr _) (sL hz hr (h2.append h4))⟩
   obtain⟨_,q | ⟨a,q,_⟩,_⟩:=hx.lst
   .subst q;unfold uD;dsimp only;rw[h1,h3];exact key
   .subst q;unfold uD;dsimp only;rw[h1,h3];exact key
  .cases ef
 .split at ef
  .rename_i h;cases ef;obtain⟨ds,rfl,h2⟩:=hx.tup;obtain⟨es,rfl,h4⟩:=hy.tup;exact⟨by rw[h2.len,h4.len];exact h,hq _ S (.refl S) (Cl.of (λ _=>nofun) (qS (h2.append h4)))⟩
  .cases ef
 .cases ef
def v7 (f:Ev->Option Bool) (t:yU):Prop:=∀ S Z Y J y Q,ER S Z Y J->f J=some y->(∀ S',Sx S S'->Q y S')->t Y S Q
@[simp] noncomputable def zM (f:Ev->Option T):Ev->Option Bool:=fun J=>(f J).bind λ x=>match x with
 | .bl b=>some b
 | _=>none
@[simp] noncomputable def rQ:T->Option Bool
 | .zl=>some false
 | .bl b=>some b
 | .int i=>some (i != 0)
 | .str x=>if x.length<=sizeLine then some ((x.length:Int) != 0) else none
 | .tup ts=>some (!ts.isEmpty)
 | .lst ts=>some (!ts.isEmpty)
 | .yd=>none
@[simp] def xx (f:Ev->Option T):Ev->Option Bool:=fun J=>(f J).bind rQ
@[simp] noncomputable def tp (f g:Ev->Option Bool):Ev->Option Bool:=fun J=>(f J).bind λ b=>if b=true then g J else some false
@[simp] noncomputable def vF (f g:Ev->Option Bool):Ev->Option Bool:=fun J=>(f J).bind λ b=>if b=true then some true else g J
@[simp] noncomputable def vw (f:Ev->Option Bool):Ev->Option Bool:=fun J=>(f J).map (!·)
section
variable {f g:Ev->Option T}{t u:zy}{fb gb:Ev->Option Bool}{tb ub:yU}{R:Rk}
def Q1 (h:yP f t):v7 (zM f) (vy t):=λ S Z Y J y Q hE e hq=>by
 obtain⟨x,e1,e2⟩:=Ak e;refine h S Z Y J x _ hE e1 λ d S1 s1 r1=>?_;split at e2
 .cases e2;cases Vw.bl r1;exact hq S1 s1
 .cases e2
def Q2 (h:yP f t):v7 (xx f) (X0 t):=λ S Z Y J y Q hE e hq=>by
 obtain⟨x,e1,e2⟩:=Ak e;refine h S Z Y J x _ hE e1 λ d S1 s1 r1=>?_;cases x with
 | zl=>cases Vw.zl r1;cases e2;exact hq S1 s1
 | bl b=>cases Vw.bl r1;cases e2;exact hq S1 s1
 | int b=>cases Vw.int r1;cases e2;exact hq S1 s1
 | str b=>
  cases Vw.str r1;simp only[rQ] at e2;split at e2
  .rename_i hh;cases e2;exact⟨hh,hq S1 s1⟩
  .cases e2
 | tup ts=>
  obtain⟨ds,rfl,h2⟩:=Vw.tup r1;cases e2;show Q (!ds.isEmpty) S1;rw[h2.empty];exact hq S1 s1
 | lst ts=>
  obtain⟨ds,rfl | ⟨a,rfl,h1⟩,h2⟩:=Vw.lst r1
  .cases e2;show Q (!ds.isEmpty) S1;rw[h2.empty];exact hq S1 s1
  .cases e2;refine VO h1 ?_;rw[h2.empty];exact hq S1 s1
 | yd=>cases e2
def Pq (h:v7 fb tb) (h':v7 gb ub):v7 (tp fb gb) (lq tb ub):=λ S Z Y J y Q hE e hq=>by
 obtain⟨b,e1,e2⟩:=Ak e;refine h S Z Y J b _ hE e1 λ S1 s1=>?_;split at e2
 .rename_i hb;rw[if_pos hb];exact h' S1 Z Y J y _ (hE.grow s1) e2 λ S2 s2=>hq S2 (s1.trans s2)
 .rename_i hb;rw[if_neg hb];cases e2;exact hq S1 s1
def Pn (h:v7 fb tb) (h':v7 gb ub):v7 (vF fb gb) (lj tb ub):=λ S Z Y J y Q hE e hq=>by
 obtain⟨b,e1,e2⟩:=Ak e;refine h S Z Y J b _ hE e1 λ S1 s1=>?_;split at e2
 .rename_i hb;rw[if_pos hb];cases e2;exact hq S1 s1
 .rename_i hb;rw[if_neg hb];exact h' S1 Z Y J y _ (hE.grow s1) e2 λ S2 s2=>hq S2 (s1.trans s2)
def Po (h:v7 fb tb):v7 (vw fb) (lp tb):=λ S Z Y J y Q hE e hq=>by
 unfold vw at e;obtain⟨b,e1,rfl⟩:=AB e;exact h S Z Y J b _ hE e1 λ S1 s1=>hq S1 s1
@[simp] noncomputable def nE (f g:Ev->Option T):Ev->Option T:=fun J=>(f J).bind λ x=>match x with
 | .bl k=>if k=true then g J else some (.bl false)
 | _=>none
@[simp] noncomputable def Yi (f:Ev->Option T):Ev->Option T:=fun J=>(f J).bind λ x=>match x with
 | .bl k=>some (.bl (!k))
 | _=>none
@[simp] noncomputable def YZ (c:Ev->Option Bool) (f g:Ev->Option T):Ev->Option T:=fun J=>(c J).bind λ b=>if b=true then f J else g J
def PK [Cl R] (h:yP f t) (h':xV R g u):xV R (nE f g) (lA t u):=λ S Z Y J y Q hE e hq=>by
 obtain⟨x,e1,e2⟩:=Ak e;refine h S Z Y J x _ hE e1 λ d S1 s1 r1=>?_;split at e2
 .cases Vw.bl r1;split at e2
  .rename_i hb;dsimp only;rw[if_pos hb];exact h' S1 Z Y J y _ (hE.grow s1) e2 λ d S2 s2 r2=>hq d S2 (s1.trans s2) (Cl.cl s1 r2)
  .rename_i hb;dsimp only;rw[if_neg hb];cases e2;exact hq _ S1 s1 (Cl.of (λ _=>nofun) vn)
 .cases e2
def QD [Cl R] (h:yP f t):xV R (Yi f) (l6 t):=λ S Z Y J y Q hE e hq=>by
 obtain⟨x,e1,e2⟩:=Ak e;refine h S Z Y J x _ hE e1 λ d S1 s1 r1=>?_;split at e2
 .cases Vw.bl r1;cases e2;exact hq _ S1 s1 (Cl.of (λ _=>nofun) vn)
 .cases e2
def Pj [Cl R] (hc:v7 fb tb) (h:xV R f t) (h':xV R g u):xV R (YZ fb f g) (l8 tb t u):=λ S Z Y J y Q hE e hq=>by
 obtain⟨b,e1,e2⟩:=Ak e;refine hc S Z Y J b _ hE e1 λ S1 s1=>?_;split at e2
 .rename_i hb;rw[if_pos hb];exact h S1 Z Y J y _ (hE.grow s1) e2 λ d S2 s2 r2=>hq d S2 (s1.trans s2) (Cl.cl s1 r2)
 .rename_i hb;rw[if_neg hb];exact h' S1 Z Y J y _ (hE.grow s1) e2 λ d S2 s2 r2=>hq d S2 (s1.trans s2) (Cl.cl s1 r2)
end
noncomputable def lW (S:SS) (Z:Addr->Prop):List T->List D->Prop
 | [],ds=>ds=[]
 | t::ts,ds=>∃ c cs,ds=c::cs/\Vw S Z t c/\lW S Z ts cs
def pZ (f:Ev->Option (List T)) (t:yz):Prop:=∀ S Z Y J ys Q,ER S Z Y J->f J=some ys->(∀ ds S',Sx S S'->lW S' Z ys ds->Q ds S')->t Y S Q
def pY (f:Ev->Option (List T)) (t:yz):Prop:=∀ S Z Y J ys Q,ER S Z Y J->f J=some ys->(∀ ds S',Sx S S'->zo (zW S' Z) ys ds->Q ds S')->t Y S Q
@[simp] noncomputable def zj:Ev->Option (List T):=λ _=>some []
@[simp] noncomputable def za (f:Ev->Option T) (g:Ev->Option (List T)):Ev->Option (List T):=fun J=>(f J).bind λ x=>(g J).bind λ xs=>some (x::xs)
section
variable {f:Ev->Option T}{g:Ev->Option (List T)}{t:zy}{u:yz}
def fW:pZ zj jR:=λ S Z Y J y Q hE e hq=>by cases e;exact hq [] S (.refl S) rfl
def fU:pY zj jR:=λ S Z Y J y Q hE e hq=>by cases e;exact hq [] S (.refl S) .nil
def fX (h:yP f t) (h':pZ g u):pZ (za f g) (pK t u):=λ S Z Y J y Q hE e hq=>by
 obtain⟨x,e1,e0⟩:=Ak e;obtain⟨xs,e2,e3⟩:=Ak e0;cases e3;refine h S Z Y J x _ hE e1 λ d S1 s1 r1=>?_;refine h' S1 Z Y J xs _ (hE.grow s1) e2 λ ds S2 s2 r2=>?_;exact hq _ S2 (s1.trans s2) ⟨d,ds,rfl,Vw.grow r1 s2,r2⟩
def fV (h:uj f t) (h':pY g u):pY (za f g) (pK t u):=λ S Z Y J y Q hE e hq=>by
 obtain⟨x,e1,e0⟩:=Ak e;obtain⟨xs,e2,e3⟩:=Ak e0;cases e3;refine h S Z Y J x _ hE e1 λ d S1 s1 r1=>?_;refine h' S1 Z Y J xs _ (hE.grow s1) e2 λ ds S2 s2 r2=>?_;exact hq _ S2 (s1.trans s2) (.cons (Sn.sx (ve s2) x r1) r2)
@[simp] noncomputable def tupS (g:Ev->Option (List T)):Ev->Option T:=fun J=>(g J).bind λ xs=>if xs.length<=sizeLine then some (.tup xs) else none
@[simp] noncomputable def xy (g:Ev->Option (List T)):Ev->Option T:=fun J=>(g J).bind λ xs=>if xs.length<=sizeLine then some (.lst xs) else none
def Yc (h:pY g u):wa (tupS g) (XB u):=λ S Z Y J y Q hE e hq=>by
 obtain⟨xs,e1,e2⟩:=Ak e;split at e2
 .rename_i hl;cases e2;refine h S Z Y J xs _ hE e1 λ ds S1 s1 r1=>⟨by rw[r1.len];exact hl,hq _ S1 s1 (Cl.of (λ _=>nofun) (qS r1))⟩
 .cases e2
def Ye (h:pY g u):wa (xy g) (XG u):=λ S Z Y J y Q hE e hq=>by
 obtain⟨xs,e1,e2⟩:=Ak e;split at e2
 .rename_i hl;cases e2;refine h S Z Y J xs _ hE e1 λ ds S1 s1 r1=>⟨by rw[r1.len];exact hl,λ p hp=>hq _ _ (s1.trans (.new hp _)) (Cl.cl s1 (sL (hE.grow s1).zd hp r1))⟩
 .cases e2
end
@[simp] noncomputable def zt (F:List T->Option T) (g:Ev->Option (List T)):Ev->Option T:=fun J=>(g J).bind F
def vP (R:Rk) (F:List T->Option T) (f:xS):Prop:=∀ S Z ys z ds Q,(∀ a,Z a->S a≠none)->lW S Z ys ds->F ys=some z->(∀ c S',Sx S S'->R S S' Z z c->Q c S')->f ds S Q
def Px {R:Rk} [Cl R] {F:List T->Option T}{f:xS}{g:Ev->Option (List T)}{u:yz}(hf:vP R F f) (h:pZ g u):xV R (zt F g) (xR f u):=λ S Z Y J y Q hE e hq=>by
 obtain⟨xs,e1,e2⟩:=Ak e;refine h S Z Y J xs _ hE e1 λ ds S1 s1 r1=>?_;exact hf S1 Z xs y ds Q (hE.grow s1).zd r1 e2 λ c S' s r=>hq c S' (s1.trans s) (Cl.cl s1 r)
@[simp] noncomputable def y7:List T->Option T
 | [.str z]=>if z.length<=sizeLine then some (.int z.length) else none
 | [y]=>(wc y).map λ ts=>.int ts.length
 | _=>none
def v8 {S:SS}{Z:Addr->Prop}{y:T}{ds:List D}(h:lW S Z [y] ds):∃ d,ds=[d]/\Vw S Z y d:=by
 obtain⟨c,cs,rfl,h1,h2⟩:=h;cases h2;exact⟨c,rfl,h1⟩
def av {S:SS}{Z:Addr->Prop}{y z:T}{ds:List D}(h:lW S Z [y,z] ds):∃ d e,ds=[d,e]/\Vw S Z y d/\Vw S Z z e:=by
 obtain⟨c,cs,rfl,h1,c2,cs2,rfl,h2,h3⟩:=h;cases h3;exact⟨c,c2,rfl,h1,h2⟩
def NB:vP zL y7 uC:=λ S Z ys z ds Q hz hv e hq=>by
 unfold y7 at e;split at e
 .obtain⟨d,rfl,h1⟩:=v8 hv;split at e
  .rename_i hl;cases e;cases h1.str;exact⟨hl,hq _ S (.refl S) (Cl.of (λ _=>nofun) wL)⟩
  .cases e
 .obtain⟨d,rfl,h1⟩:=v8 hv;obtain⟨ts,e1,rfl⟩:=AB e;obtain⟨es,h2,h3⟩:=h1.seq e1;refine N_ h2 ?_;rw[h3.len];exact hq _ S (.refl S) (Cl.of (λ _=>nofun) wL)
 .cases e
@[simp] noncomputable def listS:List T->Option T
 | [y]=>(wc y).map .lst
 | _=>none
def NA:vP zL listS uB:=λ S Z ys z ds Q hz hv e hq=>by
 unfold listS at e;split at e
 .obtain⟨d,rfl,h1⟩:=v8 hv;obtain⟨ts,e1,rfl⟩:=AB e;obtain⟨es,h2,h3⟩:=h1.seq e1;exact NZ h2 λ p hp=>hq _ _ (.new hp _) (sL hz hp h3)
 .cases e
@[simp] noncomputable def rP:List T->Option T
 | [y]=>(wc y).map .tup
 | _=>none
def N1:vP zL rP uA:=λ S Z ys z ds Q hz hv e hq=>by
 unfold rP at e;split at e
 .rename_i y;obtain⟨d,rfl,h1⟩:=v8 hv;obtain⟨ts,e1,rfl⟩:=AB e;obtain⟨es,h2,h3⟩:=h1.seq e1;have k:Q (.tup es) S:=hq _ S (.refl S) (Cl.of (λ _=>nofun) (qS h3));unfold zV at h2;split at h2
  .cases h2;exact k
  .cases h2;exact k
  .split at h2
   .rename_i q;cases h2;exact NY q k
   .cases h2
  .cases h2
 .cases e
@[simp] noncomputable def pD (g:Int->Int->Int):List T->Option T
 | [.int i,.int j]=>some (.int (g i j))
 | _=>none
def Xb {g:Int->Int->Int}:vP zL (pD g) (uc λ i j=>.int (g i j)):=λ S Z ys z ds Q hz hv e hq=>by
 unfold pD at e;split at e
 .obtain⟨d,d',rfl,h1,h2⟩:=av hv;cases e;cases h1.int;cases h2.int;exact hq _ S (.refl S) (Cl.of (λ _=>nofun) wL)
 .cases e
@[simp] def mQ:List T->Option T:=pD λ i j=>if j>i then j else i
@[simp] def wQ:List T->Option T:=pD λ i j=>if j<i then j else i
noncomputable def qy:List T->Option (List Bool)
 | []=>some []
 | .bl b::ts=>(qy ts).map (b::·)
 | _::_=>none
theorem Wn:∀ {ts:List T}{bs:List Bool},qy ts=some bs->ts=bs.map T.bl
 | [],bs,h=>by cases h;rfl
 | .bl b::ts,bs,h=>by
  unfold qy at h;obtain⟨cs,h1,rfl⟩:=AB h;rw[Aq,<- Wn h1]
 | .zl::ts,bs,h=>by cases h
 | .int _::ts,bs,h=>by cases h
 | .str _::ts,bs,h=>by cases h
 | .tup _::ts,bs,h=>by cases h
 | .lst _::ts,bs,h=>by cases h
def Ls (bs:List Bool):qy (bs.map T.bl)=some bs:=by
 induction bs with
 | nil=>rfl
 | cons b bs ih=>rw[Aq];unfold qy;rw[ih];rfl
@[simp] noncomputable def jW (g:List Bool->Bool):List T->Option T
 | [.lst ts]=>(qy ts).map λ bs=>.bl (g bs)
 | _=>none
def ud (g:List Bool->Bool):xS:=λ ds S Q=>match ds with
 | [.tup _]=>False
 | [d]=>∃ bs:List Bool,zV d S=some (bs.map D.bl)/\Q (.bl (g bs)) S
 | _=>False
def NG {g:List Bool->Bool}:vP zL (jW g) (ud g):=λ S Z ys z ds Q hz hv e hq=>by
 unfold jW at e;split at e
 .obtain⟨d,rfl,h1⟩:=v8 hv;obtain⟨bs,e1,rfl⟩:=AB e;cases Wn e1;obtain⟨es,h2,h3⟩:=h1.seq rfl;cases h3.Wo;have key:∃ bs:List Bool,zV d S=some (bs.map D.bl)/\Q (.bl (g bs)) S:=⟨bs,h2,hq _ S (.refl S) (Cl.of (λ _=>nofun) vn)⟩
  obtain⟨_,q | ⟨a,q,_⟩,_⟩:=h1.lst
  .subst q;exact key
  .subst q;exact key
 .cases e
structure FR (S0:SS) (Z0:Addr->Prop) (S:SS) (Z:Addr->Prop) (Y:yr) (J:Ev):Prop where
 er:ER S Z Y J
 len:Y.length=J.length
 sx:Sx S0 S
 z0:∀ a,Z0 a->S0 a≠none
 zz:∀ a,Z0 a->Z a
 zn:∀ a,Z a->Z0 a\/S0 a=none
 fr:∀ (i:Nat) ts p,J[i]?=some (some (.own ts))->Y[i]?=some (some (.ref p))->S0 p=none
 dj:∀ (i j:Nat) ts us p,i≠j->J[i]?=some (some (.own ts))->J[j]?=some (some (.own us))->Y[i]?=some (some (.ref p))->Y[j]?=some (some (.ref p))->False
def xg {α:Type}{l:List α}{i j:Nat}{a b:α}(h:(l.set i a)[j]?=some b):(i=j/\i<l.length/\b=a)\/(i≠j/\l[j]?=some b):=by
 rw[DA] at h;by_cases e:i=j
 .subst e;rw[if_pos rfl] at h;by_cases hl:i<l.length
  .rw[if_pos hl] at h;cases h;exact .inl ⟨rfl,hl,rfl⟩
  .rw[if_neg hl] at h;cases h
 .rw[if_neg e] at h;exact .inr ⟨e,h⟩
def vt {α:Type}{l:List α}{i j:Nat}{a:α}(h:i≠j):(l.set i a)[j]?=l[j]?:=by rw[DA,if_neg h]
def ng {α:Type}{l:List α}{i:Nat}{a:α}(h:i<l.length):(l.set i a)[i]?=some a:=by rw[DA,if_pos rfl,if_pos h]
section
variable {S0 S S':SS}{Z0 Z:Addr->Prop}{Y:yr}{J:Ev}{y:T}{d:D}
theorem FR.grow (h:FR S0 Z0 S Z Y J) (s:Sx S S'):FR S0 Z0 S' Z Y J:=⟨h.er.grow s,h.len,h.sx.trans s,h.z0,h.zz,h.zn,h.fr,h.dj⟩
def FR.tH (h:FR S0 Z0 S Z Y J) (i:Nat) (r:Sn (zW S Z) y d):FR S0 Z0 S Z (Y.set i (some d)) (J.set i (some (.im y))):=by
 refine⟨⟨h.er.zd,λ j t e=>?_,λ j ts e=>?_⟩,by simp[h.len],h.sx,h.z0,h.zz,h.zn,λ j ts p e e'=>?_,λ j k ts us p n e1 e2 e3 e4=>?_⟩
 .rcases xg e with ⟨rfl,hl,e⟩ | ⟨n,e⟩
  .cases e;exact⟨d,ng (by rw[h.len];exact hl),r⟩
  .rw[vt n];exact h.er.im j t e
 .rcases xg e with ⟨rfl,hl,e⟩ | ⟨n,e⟩
  .cases e
  .rw[vt n];exact h.er.ow j ts e
 .rcases xg e with ⟨rfl,hl,e⟩ | ⟨n,e⟩
  .cases e
  .rw[vt n] at e';exact h.fr j ts p e e'
 .rcases xg e1 with ⟨rfl,hl,e⟩ | ⟨n1,e1⟩
  .cases e
  rcases xg e2 with ⟨rfl,hl,e⟩ | ⟨n2,e2⟩
  .cases e
  rw[vt n1] at e3;rw[vt n2] at e4;exact h.dj j k ts us p n e1 e2 e3 e4
def FR.Zd {ts:C}{ds:O}{p:Addr}(h:FR S0 Z0 S Z Y J) (s:Sx S S') (i:Nat) (hp:S p=none) (hd:S' p=some ds) (r:sj (zW S' λ a=>Z a\/a=p) ts ds):
  FR S0 Z0 S' (λ a=>Z a\/a=p) (Y.set i (some (.ref p))) (J.set i (some (.own ts))):=by
 have np:∀ (j:Nat) us q,J[j]?=some (some (.own us))->Y[j]?=some (some (.ref q))->q≠p:=λ j us q e e' z=>by
  subst z;obtain⟨p',ds',h1,h2,_⟩:=h.er.ow j us e;rw[e'] at h1;cases h1;rw[hp] at h2;cases h2
 refine⟨⟨λ a z=>?_,λ j t e=>?_,λ j us e=>?_⟩,by simp[h.len],h.sx.trans s,h.z0,λ a z=>.inl (h.zz a z),λ a z=>z.elim (h.zn a) (λ q=>.inr (by subst q;exact h.sx.none hp)),λ j us q e e'=>?_,λ j k us vs q n e1 e2 e3 e4=>?_⟩
 .rcases z with z | rfl
  .exact λ q=>h.er.zd a z (s.none q)
  .rw[hd];nofun
 .rcases xg e with ⟨rfl,hl,e⟩ | ⟨n,e⟩
  .cases e
  .rw[vt n];obtain⟨d,h1,h2⟩:=h.er.im j t e;exact⟨d,h1,Sn.sx (o_ s hp) t h2⟩
 .rcases xg e with ⟨rfl,hl,e⟩ | ⟨n,e⟩
  .cases e;exact⟨p,ds,ng (by rw[h.len];exact hl),hd,r,.inr rfl⟩
  .rw[vt n];obtain⟨q,es,h1,h2,h3,h4⟩:=h.er.ow j us e;exact⟨q,es,h1,s _ _ h2,sj.sx (o_ s hp) h3,.inl h4⟩
 .rcases xg e with ⟨rfl,hl,e⟩ | ⟨n,e⟩
  .rw[ng (by rw[h.len];exact hl)] at e';cases e';exact h.sx.none hp
  .rw[vt n] at e';exact h.fr j us q e e'
 .rcases xg e1 with ⟨rfl,hl,e⟩ | ⟨n1,e1⟩
  .rcases xg e2 with ⟨rfl,_,_⟩ | ⟨n2,e2⟩
   .exact n rfl
   .rw[ng (by rw[h.len];exact hl)] at e3;cases e3;rw[vt n2] at e4;exact np k vs p e2 e4 rfl
  .rcases xg e2 with ⟨rfl,hl,_⟩ | ⟨n2,e2⟩
   .rw[ng (by rw[h.len];exact hl)] at e4;cases e4;rw[vt n1] at e3;exact np j us p e1 e3 rfl
   .rw[vt n1] at e3;rw[vt n2] at e4;exact h.dj j k us vs q n e1 e2 e3 e4
def FR.forget (h:FR S0 Z0 S Z Y J) (i:Nat):FR S0 Z0 S Z Y (J.set i none):=by
 refine⟨⟨h.er.zd,λ j t e=>?_,λ j ts e=>?_⟩,by simp[h.len],h.sx,h.z0,h.zz,h.zn,λ j ts p e e'=>?_,λ j k ts us p n e1 e2 e3 e4=>?_⟩
 .rcases xg e with ⟨rfl,hl,e⟩ | ⟨n,e⟩
  .cases e
  .exact h.er.im j t e
 .rcases xg e with ⟨rfl,hl,e⟩ | ⟨n,e⟩
  .cases e
  .exact h.er.ow j ts e
 .rcases xg e with ⟨rfl,hl,e⟩ | ⟨n,e⟩
  .cases e
  .exact h.fr j ts p e e'
 .rcases xg e1 with ⟨rfl,hl,e⟩ | ⟨n1,e1⟩
  .cases e
  rcases xg e2 with ⟨rfl,hl,e⟩ | ⟨n2,e2⟩
  .cases e
  exact h.dj j k ts us p n e1 e2 e3 e4
@[simp] noncomputable def yC (is:List Nat) (J:Ev):Ev:=is.foldl (fun J i=>J.set i none) J
theorem FR.yC:∀ (is:List Nat) {J:Ev},FR S0 Z0 S Z Y J->FR S0 Z0 S Z Y (yC is J)
 | [],_,h=>h
 | i::is,_,h=>FR.yC is (h.forget i)
def FR.freeze {ts:List T}{p:Addr}(h:FR S0 Z0 S Z Y J) (i:Nat) (e:J[i]?=some (some (.own (.lst ts)))) (ed:Y[i]?=some (some (.ref p))):
  FR S0 Z0 S (λ a=>Z a/\a≠p) Y (J.set i (some (.im (.lst ts))))/\Sn (zW S λ a=>Z a/\a≠p) (.lst ts) (.ref p):=by
 obtain⟨p',o,h1,h2,h3,h4⟩:=h.er.ow i _ e;rw[ed] at h1;cases h1;obtain⟨ds,rfl⟩:∃ ds,o=.lst ds:=by
  cases o with
  | lst ds=>exact⟨ds,rfl⟩
  | yq _=>exact h3.elim
 replace h3:zo (zW S Z) ts ds:=h3;have hS:Sn (zW S λ a=>Z a/\a≠p) (.lst ts) (.ref p):=by
  simp only[Sn];exact⟨ds,.inr ⟨p,rfl,by rw[u9 (λ z=>z.2 rfl)];exact h2⟩,zo.sx (tS λ a z=>z.1) ts h3⟩
 refine⟨?_,hS⟩;refine⟨⟨λ a z=>h.er.zd a z.1,λ j t e'=>?_,λ j us e'=>?_⟩,by simp[h.len],h.sx,h.z0,λ a z=>⟨h.zz a z,λ q=>?_⟩,λ a z=>h.zn a z.1,λ j us q e' ed'=>?_,λ j k us vs q n e1 e2 e3 e4=>?_⟩
 .rcases xg e' with ⟨rfl,hl,e'⟩ | ⟨n,e'⟩
  .cases e';exact⟨_,ed,hS⟩
  .obtain⟨d,g1,g2⟩:=h.er.im j t e';exact⟨d,g1,Sn.sx (tS λ a z=>z.1) t g2⟩
 .rcases xg e' with ⟨rfl,hl,e'⟩ | ⟨n,e'⟩
  .cases e'
  .obtain⟨q,es,g1,g2,g3,g4⟩:=h.er.ow j us e';exact⟨q,es,g1,g2,sj.sx (tS λ a z=>z.1) g3,g4,λ z=>by subst z;exact h.dj i j _ us q n e e' ed g1⟩
 .subst q;exact h.z0 a z (h.fr i _ a e ed)
 .rcases xg e' with ⟨rfl,hl,e'⟩ | ⟨n,e'⟩
  .cases e'
  .exact h.fr j us q e' ed'
 .rcases xg e1 with ⟨rfl,hl,e⟩ | ⟨n1,e1⟩
  .cases e
  rcases xg e2 with ⟨rfl,hl,e⟩ | ⟨n2,e2⟩
  .cases e
  exact h.dj j k us vs q n e1 e2 e3 e4
def FR.mut {ts us:C}{es:O}{p:Addr}(h:FR S0 Z0 S Z Y J) (i:Nat) (e:J[i]?=some (some (.own ts))) (ed:Y[i]?=some (some (.ref p))) (r:sj (zW S Z) us es):
  FR S0 Z0 (ups S p es) Z Y (J.set i (some (.own us))):=by
 obtain⟨p',ds,h1,h2,h3,h4⟩:=h.er.ow i ts e;rw[ed] at h1;cases h1;have hh:zW (ups S p es) Z=zW S Z:=Nu h4;have hpn:=h.fr i ts p e ed;refine⟨⟨λ a z=>?_,λ j t e'=>?_,λ j vs e'=>?_⟩,by simp[h.len],λ b o q=>?_,h.z0,h.zz,h.zn,λ j vs q e' ed'=>?_,λ j k vs ws q n e1 e2 e3 e4=>?_⟩
 .by_cases hp:a=p
  .subst hp;rw[rM];nofun
  .rw[sC hp];exact h.er.zd a z
 .rw[hh];rcases xg e' with ⟨rfl,hl,e'⟩ | ⟨n,e'⟩
  .cases e'
  .exact h.er.im j t e'
 .rw[hh];rcases xg e' with ⟨rfl,hl,e'⟩ | ⟨n,e'⟩
  .cases e';exact⟨p,es,ed,rM,r,h4⟩
  .obtain⟨q,es',g1,g2,g3,g4⟩:=h.er.ow j vs e';refine⟨q,es',g1,?_,g3,g4⟩;rw[sC (λ z=>by subst z;exact h.dj i j ts vs q n e e' ed g1)];exact g2
 .rw[sC (λ z=>by subst z;rw[hpn] at q;cases q)];exact h.sx b o q
 .rcases xg e' with ⟨rfl,hl,_⟩ | ⟨n,e'⟩
  .rw[ed] at ed';cases ed';exact hpn
  .exact h.fr j vs q e' ed'
 .rcases xg e1 with ⟨rfl,hl,_⟩ | ⟨n1,e1⟩
  .rcases xg e2 with ⟨rfl,hl,_⟩ | ⟨n2,e2⟩
   .exact n rfl
   .exact h.dj _ k ts ws q n e e2 e3 e4
  .rcases xg e2 with ⟨rfl,hl,_⟩ | ⟨n2,e2⟩
   .exact h.dj j _ vs ts q n e1 e e3 e4
   .exact h.dj j k vs ws q n e1 e2 e3 e4
noncomputable def fm (S0 S:SS) (Z:Addr->Prop):SS:=open Classical in λ a=>if S0 a=none/\Z a then none else S a
def jb {a:Addr}(h:¬ (S0 a=none/\Z a)):fm S0 S Z a=S a:=if_neg h
def fk {a:Addr}(h:S0 a=none/\Z a):fm S0 S Z a=none:=if_pos h
def FR.rebase (h:FR S0 Z0 S Z Y J):∃ S1,Sx S0 S1/\FR S1 Z0 S Z Y J/\Sx (zW S Z) S1:=by
 refine⟨fm S0 S Z,λ b o q=>?_,⟨h.er,h.len,λ b o q=>?_,λ a z=>?_,h.zz,λ a z=>?_,λ i ts p e ed=>?_,h.dj⟩,λ b o q=>?_⟩
 .rw[jb (λ z=>by rw[z.1] at q;cases q)];exact h.sx _ _ q
 .by_cases w:S0 b=none/\Z b
  .rw[fk w] at q;cases q
  .rw[jb w] at q;exact q
 .rw[jb (λ q=>h.z0 a z q.1)];exact h.er.zd a (h.zz a z)
 .rcases h.zn a z with w | w
  .exact .inl w
  .exact .inr (fk ⟨w,z⟩)
 .obtain⟨p',ds,h1,h2,h3,h4⟩:=h.er.ow i ts e;rw[ed] at h1;cases h1;exact fk ⟨h.fr i ts p e ed,h4⟩
 .obtain⟨q1,q2⟩:=uX q;rw[jb (λ z=>q1 z.2)];exact q2
def FR.back {S1:SS}(h:FR S1 Z0 S Z Y J) (s:Sx S0 S1) (z0:∀ a,Z0 a->S0 a≠none):FR S0 Z0 S Z Y J:=⟨h.er,h.len,s.trans h.sx,z0,h.zz,λ a z=>(h.zn a z).imp id s.none,λ i ts p e ed=>s.none (h.fr i ts p e ed),h.dj⟩
def FR.UG {S1:SS}{Z1:Addr->Prop}(h:FR S0 Z0 S Z Y J) (b:Sx (zW S1 Z1) S0) (zz:∀ a,Z0 a->Z1 a):Sx (zW S1 Z1) (zW S Z):=λ a o q=>by
 have q0:=b _ _ q;obtain⟨q1,q2⟩:=uX q;rw[u9]
 .exact h.sx _ _ q0
 .intro z;rcases h.zn a z with w | w
  .exact q1 (zz a w)
  .rw[w] at q0;cases q0
end
inductive Out where
 | nx (J:Ev) | rt (t:T) | bk (J:Ev) | ct (J:Ev)
abbrev Sm:=Ev->Option Out
def LF (R:Rk) (S0:SS) (Z0:Addr->Prop) (o:Out) (E:qJ):Prop:=match o with
 | .nx J=>∀ S Z Y,FR S0 Z0 S Z Y J->E.nx Y S
 | .bk J=>∀ S Z Y,FR S0 Z0 S Z Y J->E.bk Y S
 | .ct J=>∀ S Z Y,FR S0 Z0 S Z Y J->E.ct Y S
 | .rt y=>∀ d S,Sx S0 S->R S0 S Z0 y d->E.rt d S
def xc (R:Rk) (g:Sm) (t:y_):Prop:=∀ S0 Z0 S Z Y J o E,FR S0 Z0 S Z Y J->g J=some o->LF R S0 Z0 o E->t E Y S
class Lo (R:Rk):Prop extends Cl R where
 lo:∀ {S0 S S':SS}{Z0 Z:Addr->Prop}{y:T}{d:D},Sx S0 S->(∀ a,Z0 a->Z a)->R S S' Z y d->R S0 S' Z0 y d
instance:Lo x_:=⟨λ _ z h=>Sn.sx (tS z) _ h⟩
instance:Lo zL:=⟨λ s z h=>⟨Sn.sx (tS z) _ h.1,λ ts e=>by
 obtain⟨p,ds,h1,h2,h3,h4⟩:=h.2 ts e;exact⟨p,ds,h1,s.none h2,h3,zo.sx (tS λ a q=>q.imp (z a) id) ts h4⟩⟩⟩
@[simp] noncomputable def zp (g h:Sm):Sm:=fun J=>(g J).bind λ o=>match o with
 | .nx J'=>h J'
 | o=>some o
@[simp] noncomputable def yn:Sm:=fun J=>some (.nx J)
@[simp] noncomputable def zD (i:Nat) (f:Ev->Option T):Sm:=fun J=>(f J).map λ y=>.nx (J.set i (some (.im y)))
@[simp] noncomputable def vJ (i:Nat) (f:Ev->Option T):Sm:=fun J=>(f J).bind λ y=>match y with
 | .lst ts=>some (.nx (J.set i (some (.own (.lst ts)))))
 | y=>some (.nx (J.set i (some (.im y))))
@[simp] noncomputable def pH (f:Ev->Option T):Sm:=fun J=>(f J).map λ _=>.nx J
@[simp] noncomputable def retS (f:Ev->Option T):Sm:=fun J=>(f J).map .rt
@[simp] noncomputable def rX (i:Nat):Sm:=fun J=>match J[i]? with
 | some (some (.own (.lst ts)))=>some (.rt (.lst ts))
 | _=>none
@[simp] noncomputable def yo (c:Ev->Option Bool) (g h:Sm):Sm:=fun J=>(c J).bind λ b=>if b=true then g J else h J
@[simp] noncomputable def dw (i:Nat) (J:Ev):Ev:=match J[i]? with
 | some (some (.own (.lst ts)))=>J.set i (some (.im (.lst ts)))
 | _=>J
@[simp] def dv (i:Nat) (g:Sm):Sm:=fun J=>g (dw i J)
section
variable {R:Rk}{g h:Sm}{t u:y_}{f:Ev->Option T}{te:zy}
def fR (hg:xc R g t) (hh:xc R h u):xc R (zp g h) (l5 t u):=λ S0 Z0 S Z Y J o E F e P=>by
 obtain⟨o1,e1,e2⟩:=Ak e;refine hg S0 Z0 S Z Y J o1 { E with nx:=u E } F e1 ?_;cases o1 with
 | nx J1=>exact λ S1 Z1 Y1 F1=>hh S0 Z0 S1 Z1 Y1 J1 o E F1 e2 P
 | rt y=>cases e2;exact P
 | bk y=>cases e2;exact P
 | ct y=>cases e2;exact P
def Qb:xc R yn XD:=λ S0 Z0 S Z Y J o E F e P=>by cases e;exact P S Z Y F
def Qk (i:Nat) (hf:uj f te):xc R (zD i f) (tZ te (hName i)):=λ S0 Z0 S Z Y J o E F e P=>by
 obtain⟨y,e1,rfl⟩:=AB e;exact hf S Z Y J y _ F.er e1 λ d S1 s1 r1=>P S1 Z _ ((F.grow s1).tH i r1)
def Z_ (i:Nat) (hf:wa f te):xc R (vJ i f) (tZ te (hName i)):=λ S0 Z0 S Z Y J o E F e P=>by
 obtain⟨y,e1,e2⟩:=Ak e;refine hf S Z Y J y _ F.er e1 λ d S1 s1 r1=>?_;cases y with
 | lst ts=>
  cases e2;obtain⟨p,ds,rfl,h1,h2,h3⟩:=r1.2 ts rfl;exact P S1 _ _ (F.Zd (ts:=.lst ts) (ds:=.lst ds) s1 i h1 h2 h3)
 | zl=>cases e2;exact P S1 Z _ ((F.grow s1).tH i r1.1)
 | bl _=>cases e2;exact P S1 Z _ ((F.grow s1).tH i r1.1)
 | int _=>cases e2;exact P S1 Z _ ((F.grow s1).tH i r1.1)
 | str _=>cases e2;exact P S1 Z _ ((F.grow s1).tH i r1.1)
 | tup _=>cases e2;exact P S1 Z _ ((F.grow s1).tH i r1.1)
 | yd=>cases e2;exact P S1 Z _ ((F.grow s1).tH i r1.1)
def Qh (hf:yP f te):xc R (pH f) (jS te):=λ S0 Z0 S Z Y J o E F e P=>by
 obtain⟨y,e1,rfl⟩:=AB e;exact hf S Z Y J y _ F.er e1 λ d S1 s1 r1=>P S1 Z _ (F.grow s1)
def Qc [Lo R] (hf:xV R f te):xc R (retS f) (dR te):=λ S0 Z0 S Z Y J o E F e P=>by
 obtain⟨y,e1,rfl⟩:=AB e;exact hf S Z Y J y _ F.er e1 λ d S1 s1 r1=>P d S1 (F.sx.trans s1) (Lo.lo F.sx F.zz r1)
def fS (i:Nat):xc zL (rX i) (dR (yO i)):=λ S0 Z0 S Z Y J o E F e P=>by
 unfold rX at e;split at e
 .rename_i ts h;cases e;obtain⟨p,ob,h1,h2,h3,h4⟩:=F.er.ow i _ h;obtain⟨ds,rfl⟩:∃ ds,ob=.lst ds:=by
   cases ob with
   | lst ds=>exact⟨ds,rfl⟩
   | yq _=>exact h3.elim
  replace h3:zo (zW S Z) ts ds:=h3;have hn:=F.fr i _ p h h1;have nz:¬ Z0 p:=λ z=>F.z0 p z hn;show yO i Y S E.rt;unfold yO;rw[h1];refine P _ S F.sx ⟨?_,λ us e=>?_⟩
  .simp only[Sn];exact⟨ds,.inr ⟨p,rfl,by rw[u9 nz];exact h2⟩,zo.sx (tS F.zz) ts h3⟩
  .cases e;exact⟨p,ds,rfl,hn,h2,zo.sx (tS λ a q=>q.elim (F.zz a) λ q=>q▸h4) ts h3⟩
 .cases e
def Qf {c:Ev->Option Bool}{tc:yU}(hc:v7 c tc) (hg:xc R g t) (hh:xc R h u):xc R (yo c g h) (XJ tc t u):=λ S0 Z0 S Z Y J o E F e P=>by
 obtain⟨b,e1,e2⟩:=Ak e;refine hc S Z Y J b _ F.er e1 λ S1 s1=>?_;split at e2
 .rename_i hb;rw[if_pos hb];exact hg S0 Z0 S1 Z Y J o E (F.grow s1) e2 P
 .rename_i hb;rw[if_neg hb];exact hh S0 Z0 S1 Z Y J o E (F.grow s1) e2 P
def FR.fz {S0 S:SS}{Z0 Z:Addr->Prop}{Y:yr}{J:Ev}(F:FR S0 Z0 S Z Y J) (i:Nat):∃ Z',FR S0 Z0 S Z' Y (dw i J):=by
 unfold dw;split
 .rename_i ts h;obtain⟨p,ds,h1,_⟩:=F.er.ow i _ h;exact⟨_,(F.freeze i h h1).1⟩
 .exact⟨Z,F⟩
def Qg (i:Nat) (hg:xc R g t):xc R (dv i g) t:=λ S0 Z0 S Z Y J o E F e P=>by
 obtain⟨Z',F'⟩:=F.fz i;exact hg S0 Z0 S Z' Y _ o E F' e P
def il (g:T->Ev->Option Ev) (t:xZ):Prop:=∀ S0 Z0 S Z Y J J' y d Q,FR S0 Z0 S Z Y J->Sn (zW S Z) y d->g y J=some J'->(∀ Y',FR S0 Z0 S Z Y' J'->Q Y' S)->t d Y S Q
def ik (g:List T->Ev->Option Ev) (t:vi):Prop:=∀ S0 Z0 S Z Y J J' ys ds Q,FR S0 Z0 S Z Y J->zo (zW S Z) ys ds->g ys J=some J'->(∀ Y',FR S0 Z0 S Z Y' J'->Q Y' S)->t ds Y S Q
@[simp] noncomputable def zC (i:Nat):T->Ev->Option Ev:=λ y J=>some (J.set i (some (.im y)))
@[simp] noncomputable def vb:List T->Ev->Option Ev
 | [],J=>some J
 | _::_,_=>none
@[simp] noncomputable def yy (g:T->Ev->Option Ev) (h:List T->Ev->Option Ev):List T->Ev->Option Ev
 | y::ys,J=>(g y J).bind fun J'=>h ys J'
 | [],_=>none
@[simp] noncomputable def wD (n:Nat) (g:List T->Ev->Option Ev):T->Ev->Option Ev
 | .tup ys,J=>if ys.length=n then g ys J else none
 | _,_=>none
def Ya (i:Nat):il (zC i) (hName i):=λ S0 Z0 S Z Y J J' y d Q F r e hq=>by cases e;exact hq _ (F.tH i r)
def Qr:ik vb eY:=λ S0 Z0 S Z Y J J' ys ds Q F r e hq=>by
 cases ys with
 | nil=>simp only[zo] at r;subst r;cases e;exact⟨rfl,hq _ F⟩
 | cons _ _=>cases e
def Qs {g:T->Ev->Option Ev}{h:List T->Ev->Option Ev}{t:xZ}{u:vi}(hg:il g t) (hh:ik h u):ik (yy g h) (eZ t u):=λ S0 Z0 S Z Y J J' ys ds Q F r e hq=>by
 cases ys with
 | nil=>cases e
 | cons y ys=>
  simp only[zo] at r;obtain⟨c,cs,rfl,r1,r2⟩:=r;obtain⟨J1,e1,e2⟩:=Ak e;exact hg S0 Z0 S Z Y J J1 y c _ F r1 e1 fun Y1 F1=>hh S0 Z0 S Z Y1 J1 J' ys cs Q F1 r2 e2 hq
def Qt {n:Nat}{g:List T->Ev->Option Ev}{t:vi}(hg:ik g t):il (wD n g) (jE n t):=λ S0 Z0 S Z Y J J' y d Q F r e hq=>by
 cases y with
 | tup ys=>
  simp only[Sn] at r;obtain⟨ds,rfl,r⟩:=r;simp only[wD] at e;split at e
  .rename_i hl;exact⟨by rw[r.len];exact hl,hg S0 Z0 S Z Y J J' ys ds Q F r e hq⟩
  .cases e
 | zl=>cases e
 | bl _=>cases e
 | int _=>cases e
 | str _=>cases e
 | lst _=>cases e
 | yd=>cases e
def qD (free:Bool) (f:Ev->Option (List T)) (ti:vh):Prop:=∀ S Z Y J ts Q,ER S Z Y J->f J=some ts->(∀ I S',Sx S S'->zo (zW S' Z) ts I.items->(∀ S'',Sx (if free=true then zW S' Z else S') S''->I.keep S'')->Q I S')->ti Y S Q
@[simp] def xn (f:Ev->Option T):Ev->Option (List T):=fun J=>(f J).bind wc
def Qn {f:Ev->Option T}{te:zy}(hf:yP f te):qD false (xn f) (eS te):=λ S Z Y J ts Q hE e hq=>by
 obtain⟨y,e1,e2⟩:=Ak e;refine hf S Z Y J y _ hE e1 λ d S1 s1 r1=>?_;cases y with
 | tup us=>
  cases e2;obtain⟨ds,rfl,h2⟩:=Vw.tup r1;exact hq _ S1 s1 h2 λ _ _=>trivial
 | lst us=>
  cases e2;obtain⟨ds,rfl | ⟨a,rfl,h1⟩,h2⟩:=Vw.lst r1
  .exact hq _ S1 s1 h2 λ _ _=>trivial
  .dsimp only;rw[h1];exact hq ⟨ds,_⟩ S1 s1 h2 λ S'' s=>s _ _ h1
 | zl=>cases e2
 | bl _=>cases e2
 | int _=>cases e2
 | str _=>cases e2
 | yd=>cases e2
def Qo {f:Ev->Option T}{te:zy}(hf:uj f te):qD true (xn f) (eS te):=λ S Z Y J ts Q hE e hq=>by
 obtain⟨y,e1,e2⟩:=Ak e;refine hf S Z Y J y _ hE e1 λ d S1 s1 r1=>?_;cases y with
 | tup us=>
  cases e2;obtain⟨ds,rfl,h2⟩:=Vw.tup (.inl r1);exact hq _ S1 s1 h2 λ _ _=>trivial
 | lst us=>
  cases e2;have r2:=r1;unfold x_ at r2;simp only[Sn] at r2;obtain⟨ds,⟨rfl,_⟩ | ⟨a,rfl,h1⟩,h2⟩:=r2
  .exact hq _ S1 s1 h2 λ _ _=>trivial
  .dsimp only;rw[(uX h1).2];exact hq ⟨ds,_⟩ S1 s1 h2 λ S'' s=>s _ _ h1
 | zl=>cases e2
 | bl _=>cases e2
 | int _=>cases e2
 | str _=>cases e2
 | yd=>cases e2
noncomputable def rangeT (lo:Int) (n:Nat):List T:=(List.range n).map λ(k:Nat)=>T.int (lo+(k:Int))
def aX {S:SS}(lo:Int) (n:Nat):zo S (rangeT lo n) (vU lo n):=by
 unfold rangeT vU
 induction List.range n with
 | nil=>exact .nil
 | cons k l ih=>exact .cons wL ih
noncomputable def inR (j:Int):Bool:=decide (-100000000<=j)&&decide (j<=100000000)
def YY {j:Int}:inR j=true↔-100000000<=j/\j<=100000000:=by simp[inR]
def Nn {j:Int}(h:inR j=true):-(2 ^ 62)<=j/\j<2 ^ 62:=by have:=YY.mp h;lia
noncomputable def v9:List T->Option (List T)
 | [.int j]=>if inR j=true then some (rangeT 0 j.toNat) else none
 | _=>none
@[simp] noncomputable def wg (F:List T->Option (List T)) (g:Ev->Option (List T)):Ev->Option (List T):=fun J=>(g J).bind F
def fT {b:Bool}{g:Ev->Option (List T)}{tA:yz}(h:pZ g tA):qD b (wg v9 g) (eT tA):=λ S Z Y J ts Q hE e hq=>by
 obtain⟨ys,e1,e2⟩:=Ak e;refine h S Z Y J ys _ hE e1 λ ds S1 s1 r1=>?_;unfold v9 at e2;split at e2
 .split at e2
  .rename_i hc;cases e2;obtain⟨d,rfl,h1⟩:=v8 r1;cases h1.int;exact⟨Nn hc,hq _ S1 s1 (aX _ _) λ _ _=>trivial⟩
  .cases e2
 .cases e2
noncomputable def xX (is:List Nat) (g:T->Ev->Option Ev) (b:Sm):List T->Ev->Option Out
 | [],J=>some (.nx (yC is J))
 | y::ys,J=>(g y (yC is J)).bind fun J1=>(b J1).bind λ o=>match o with
  | .nx J2=>xX is g b ys J2
  | .ct J2=>xX is g b ys J2
  | .bk J2=>some (.nx (yC is J2))
  | .rt t=>some (.rt t)
@[simp] def xP (is:List Nat) (f:Ev->Option (List T)) (g:T->Ev->Option Ev) (b:Sm):Sm:=fun J=>(f J).bind λ ts=>xX is g b ts J
def ZY {is:List Nat}{fi:Ev->Option (List T)}{ti:vh}{g:T->Ev->Option Ev}{tg:xZ}{b:Sm}{tb:y_} [Lo R] (hi:qD true fi ti) (hg:il g tg) (hb:xc R b tb):xc R (xP is fi g b) (l9 ti tg tb):=λ S0 Z0 S Z Y J o E F e P=>by
 obtain⟨ts,e1,e2⟩:=Ak e;refine hi S Z Y J ts _ F.er e1 λ I S1 s1 r1 hk=>?_;rw[if_pos rfl] at hk;obtain⟨SB,b1,FB,b2⟩:=(F.grow s1).rebase;have lo:∀ S' d y,R SB S' Z0 y d->R S0 S' Z0 y d:=λ S' d y r=>Lo.lo b1 (λ _ z=>z) r;have zz:=F.zz;refine⟨λ i Y' S'=>∃ Z' J',FR SB Z0 S' Z' Y' J'/\xX is g b (ts.drop i) J'=some o,⟨Z,J,FB,e2⟩,λ i Y' S' ⟨Z',J',F',_⟩=>hk S' (b2.trans F'.sx),λ i d Y' S' hd ⟨Z',J',F',e'⟩=>?_,fun Y' S' ⟨Z',J',F',e'⟩=>?_⟩
 .obtain⟨y,hy,r2⟩:=r1.du hd;have Am:=(AN.mp hy).1;have Di:ts.drop i=y::ts.drop (i+1):=by
   rw[List.drop_eq_getElem_cons Am,(AN.mp hy).2]
  rw[Di] at e';unfold xX at e';obtain⟨J1,g1,e'⟩:=Ak e';obtain⟨o1,g2,e'⟩:=Ak e';refine hg SB Z0 S' Z' Y' _ J1 y d _ (F'.yC is) (Sn.sx (F'.UG b2 zz) y r2) g1 fun Y2 F2=>?_
  refine hb SB Z0 S' Z' Y2 J1 o1 _ F2 g2 ?_;cases o1 with
  | nx J2=>exact λ S3 Z3 Y3 F3=>⟨Z3,J2,F3,e'⟩
  | ct J2=>exact λ S3 Z3 Y3 F3=>⟨Z3,J2,F3,e'⟩
  | bk J2=>cases e';exact λ S3 Z3 Y3 F3=>P S3 Z3 Y3 ((F3.yC is).back b1 F.z0)
  | rt y=>cases e';exact λ d S3 s3 r3=>P d S3 (b1.trans s3) (lo _ _ _ r3)
 .rw[show I.items.length=ts.length from r1.len,List.drop_length] at e';unfold xX at e';cases e';exact P S' Z' Y' ((F'.yC is).back b1 F.z0)
end
@[simp] noncomputable def uH (i:Nat) (f:Ev->Option T):Sm:=fun J=>match J[i]? with
 | some (some (.own (.lst ts)))=>(f J).bind λ y=>if ts.length<sizeLine then some (.nx (J.set i (some (.own (.lst (ts++[y])))))) else none
 | _=>none
section
variable {R:Rk}{f:Ev->Option T}{te:zy}
def Ql (i:Nat) (hf:uj f te):xc R (uH i f) (jS (qx (yO i) te)):=λ S0 Z0 S Z Y J o E F e P=>by
 unfold uH at e;split at e
 .rename_i ts h;obtain⟨y,e1,e2⟩:=Ak e;split at e2
  .rename_i hl;cases e2;obtain⟨p,ob,h1,h2,h3,h4⟩:=F.er.ow i _ h;obtain⟨ds,rfl⟩:∃ ds,ob=.lst ds:=by
    cases ob with
    | lst ds=>exact⟨ds,rfl⟩
    | yq _=>exact h3.elim
   replace h3:zo (zW S Z) ts ds:=h3;show qx (yO i) te Y S _;unfold qx yO;rw[h1];refine⟨⟨ds,h2⟩,hf S Z Y J y _ F.er e1 λ d S1 s1 r1=>?_⟩;dsimp only;rw[s1 _ _ h2];have F1:=F.grow s1;refine⟨by rw[h3.len];exact hl,P _ Z Y (F1.mut (us:=.lst (ts++[y])) (es:=.lst (ds++[d])) i h h1 ((zo.sx (ve s1) ts h3).append (.cons r1 .nil)))⟩
  .cases e2
 .cases e
end
def rg (pick:List (Option Nat)) (ti:vh) (g:xZ) (tc:yU) (te:zy):zy:=fun Y S Q=>ti Y S λ I S1=>I.items.length<=sizeLine/\(∀ S,Sx S1 S->I.keep S)/\∀ p,S1 p=none->∃ W:Nat->SS->List D->Prop,W 0 S1 []/\
 (∀ i S S' acc,(∀ b o,b≠p->S b=some o->S' b=some o)->W i S acc->W i S' acc)/\
 (∀ i d S acc,I.items[i]?=some d->Sx S1 S->S p=some (.lst acc)->W i S acc->g d (u0 pick Y) S fun Y2 S2=>pV (u0 pick Y) Y2/\tc Y2 S2 λ b S3=>if b=true then te Y2 S3 λ y S4=>Sx S S4/\W (i+1) S4 (acc++[y]) else Sx S S3/\W (i+1) S3 acc)/\
 ∀ S2 acc,Sx S1 S2->S2 p=some (.lst acc)->W I.items.length S2 acc->Q (.ref p) S2
@[simp] noncomputable def mG (pick:List (Option Nat)) (J:Ev):Ev:=pick.map λ o=>o.bind λ i=>(J[i]?).join
noncomputable def pL (h:T->Option (Option T)):List T->Option (List T)
 | []=>some []
 | y::ys=>(h y).bind λ o=>(pL h ys).map λ zs=>match o with
  | some z=>z::zs
  | none=>zs
@[simp] def u5 (pick:List (Option Nat)) (g:T->Ev->Option Ev) (c:Ev->Option Bool) (f:Ev->Option T) (J:Ev) (y:T):Option (Option T):=
 (g y (mG pick J)).bind fun J2=>(c J2).bind λ b=>if b=true then (f J2).map some else some none
def xY (pick:List (Option Nat)) (it:Ev->Option (List T)) (g:T->Ev->Option Ev) (c:Ev->Option Bool) (f:Ev->Option T):Ev->Option T:=fun J=>(it J).bind λ ts=>if ts.length<=sizeLine then (pL (u5 pick g c f J) ts).map .lst else none
@[simp] noncomputable def sd:Ev->Option Bool:=λ _=>some true
def Yd:v7 sd Xz:=λ S Z Y J y Q hE e hq=>by cases e;exact hq S (.refl S)
def iq (pick:List (Option Nat)) (g:T->Ev->Option Ev) (t:xZ):Prop:=∀ B S Z Y J J' y d Q,(∀ i:Nat,pick[i]?=some none->B[i]?=some none)->pV B Y->Y.length=J.length->ER S Z Y J->Sn (zW S Z) y d->g y J=some J'->
 (∀ Y',ER S Z Y' J'->pV B Y'->Y'.length=J'.length->Q Y' S)->t d Y S Q
def ip (pick:List (Option Nat)) (g:List T->Ev->Option Ev) (t:vi):Prop:=∀ B S Z Y J J' y d Q,(∀ i:Nat,pick[i]?=some none->B[i]?=some none)->pV B Y->Y.length=J.length->ER S Z Y J->zo (zW S Z) y d->g y J=some J'->
 (∀ Y',ER S Z Y' J'->pV B Y'->Y'.length=J'.length->Q Y' S)->t d Y S Q
def ER.tH {S:SS}{Z:Addr->Prop}{Y:yr}{J:Ev}{y:T}{d:D}(h:ER S Z Y J) (hl:Y.length=J.length) (i:Nat) (r:Sn (zW S Z) y d):ER S Z (Y.set i (some d)) (J.set i (some (.im y))):=by
 refine⟨h.zd,λ j t e=>?_,λ j ts e=>?_⟩
 .rcases xg e with ⟨rfl,hl',e⟩ | ⟨n,e⟩
  .cases e;exact⟨d,ng (by rw[hl];exact hl'),r⟩
  .rw[vt n];exact h.im j t e
 .rcases xg e with ⟨rfl,hl',e⟩ | ⟨n,e⟩
  .cases e
  .rw[vt n];exact h.ow j ts e
variable {pick:List (Option Nat)}
def Yb (i:Nat) (hi:pick[i]?=some none:=by rfl):iq pick (zC i) (hName i):=λ B S Z Y J J' y d Q hB hs hl hE r e hq=>by
 cases e;refine hq _ (hE.tH hl i r) ⟨by rw[DC];exact hs.1,λ j c q=>?_⟩ (by simp[hl]);by_cases hj:i=j
 .subst hj;rw[hB i hi] at q;cases q
 .rw[vt hj];exact hs.2 j c q
def Qu:ip pick vb eY:=λ B S Z Y J J' y d Q hB hs hl hE r e hq=>by
 cases y with
 | nil=>simp only[zo] at r;subst r;cases e;exact⟨rfl,hq _ hE hs hl⟩
 | cons _ _=>cases e
def Qv {g:T->Ev->Option Ev}{h:List T->Ev->Option Ev}{t:xZ}{u:vi}(hg:iq pick g t) (hh:ip pick h u):ip pick (yy g h) (eZ t u):=λ B S Z Y J J' y d Q hB hs hl hE r e hq=>by
 cases y with
 | nil=>cases e
 | cons y ys=>
  simp only[zo] at r;obtain⟨c,cs,rfl,r1,r2⟩:=r;obtain⟨J1,e1,e2⟩:=Ak e;exact hg B S Z Y J J1 y c _ hB hs hl hE r1 e1 fun Y1 E1 s1 l1=>hh B S Z Y1 J1 J' ys cs Q hB s1 l1 E1 r2 e2 hq
def Qw {n:Nat}{g:List T->Ev->Option Ev}{t:vi}(hg:ip pick g t):iq pick (wD n g) (jE n t):=λ B S Z Y J J' y d Q hB hs hl hE r e hq=>by
 cases y with
 | tup ys=>
  simp only[Sn] at r;obtain⟨ds,rfl,r⟩:=r;simp only[wD] at e;split at e
  .rename_i hn;exact⟨by rw[r.len];exact hn,hg B S Z Y J J' ys ds Q hB hs hl hE r e hq⟩
  .cases e
 | zl=>cases e
 | bl _=>cases e
 | int _=>cases e
 | str _=>cases e
 | lst _=>cases e
 | yd=>cases e
def ZE {J:Ev}{i:Nat}{w:W}(h:(mG pick J)[i]?=some (some w)):∃ j:Nat,pick[i]?=some (some j)/\J[j]?=some (some w):=by
 unfold mG at h;rw[Ay] at h;cases q:pick[i]? with
 | none=>rw[q] at h;cases h
 | some o=>
  rw[q] at h;cases o with
  | none=>simp at h
  | some j=>
   simp only[Option.map_some,A_,Option.some.injEq] at h;refine⟨j,rfl,?_⟩;cases q2:J[j]? with
   | none=>rw[q2] at h;cases h
   | some o2=>rw[q2] at h;simp only[Option.join_some] at h;rw[h]
def ZF {Y:yr}{i j:Nat}{d:D}(h:pick[i]?=some (some j)) (h':Y[j]?=some (some d)):(u0 pick Y)[i]?=some (some d):=by
 unfold u0;rw[Ay,h];simp[h']
def ER.Sf {S:SS}{Z:Addr->Prop}{Y:yr}{J:Ev}(h:ER S Z Y J):ER S Z (u0 pick Y) (mG pick J):=by
 refine⟨h.zd,λ i t e=>?_,λ i ts e=>?_⟩
 .obtain⟨j,h1,h2⟩:=ZE e;obtain⟨d,h3,h4⟩:=h.im j t h2;exact⟨d,ZF h1 h3,h4⟩
 .obtain⟨j,h1,h2⟩:=ZE e;obtain⟨p,ds,h3,h4⟩:=h.ow j ts h2;exact⟨p,ds,ZF h1 h3,h4⟩
def ER.hide {S S':SS}{Z:Addr->Prop}{Y:yr}{J:Ev}{p:Addr}(h:ER S Z Y J) (s:Sx S S') (hp:S p=none) (hp':S' p≠none):ER S' (λ a=>Z a\/a=p) Y J:=by
 refine⟨λ a z q=>?_,λ i t e=>?_,λ i ts e=>?_⟩
 .rcases z with z | rfl
  .exact h.zd a z (s.none q)
  .exact hp' q
 .obtain⟨d,h1,h2⟩:=h.im i t e;exact⟨d,h1,Sn.sx (o_ s hp) t h2⟩
 .obtain⟨q,ds,h1,h2,h3,h4⟩:=h.ow i ts e;exact⟨q,ds,h1,s _ _ h2,sj.sx (o_ s hp) h3,.inl h4⟩
def Yf {it:Ev->Option (List T)}{ti:vh}{g:T->Ev->Option Ev}{tg:xZ}{c:Ev->Option Bool}{tc:yU}{f:Ev->Option T}{te:zy}{b:Bool}(hi:qD b it ti) (hg:iq pick g tg) (hc:v7 c tc) (hf:uj f te):
  wa (xY pick it g c f) (rg pick ti tg tc te):=λ S Z Y J y Q hE e hq=>by
 obtain⟨ts,e1,e2⟩:=Ak e;split at e2
 case isFalse=>cases e2
 rename_i hlen;obtain⟨zs,e3,rfl⟩:=AB e2;refine hi S Z Y J ts _ hE e1 λ I S1 s1 r1 hk=>⟨by rw[r1.len];exact hlen,λ S' s'=>hk S' ?_,λ p hp=>?_⟩
 .cases b
  .exact s'
  .exact (mV _ _).trans s'
 have E1:=hE.grow s1;have nz:¬ Z p:=λ z=>E1.zd p z hp;refine⟨λ i S' acc=>∃ us ws,zo (zW S' λ a=>Z a\/a=p) us acc/\pL (u5 pick g c f J) (ts.drop i)=some ws/\zs=us++ws,⟨[],zs,.nil,e3,rfl⟩,λ i S' S'' acc hh ⟨us,ws,h1,h2⟩=>⟨us,ws,zo.sx (λ a o q=>?_) us h1,h2⟩,λ i d S2 acc hd s2 AO ⟨us,ws,h1,h2,h3⟩=>?_,λ S2 acc s2 AO ⟨us,ws,h1,h2,h3⟩=>?_⟩
 .obtain⟨q1,q2⟩:=uX q;rw[u9 q1];exact hh a o (λ z=>q1 (.inr z)) q2
 .obtain⟨x,hx,rx⟩:=r1.du hd;have Am:=(AN.mp hx).1;have Di:ts.drop i=x::ts.drop (i+1):=by rw[List.drop_eq_getElem_cons Am,(AN.mp hx).2]
  rw[Di] at h2;unfold pL at h2;obtain⟨o,o1,h2⟩:=Ak h2;obtain⟨ws',o2,rfl⟩:=AB h2;have E2:=(E1.hide s2 hp (by rw[AO];nofun)).Sf (pick:=pick);unfold u5 at o1;obtain⟨J2,g1,o1⟩:=Ak o1;obtain⟨bb,g2,o1⟩:=Ak o1;refine hg (u0 pick Y) S2 _ _ _ J2 x d _ (λ j hj=>?_) ⟨rfl,λ _ _ q=>q⟩ (by unfold u0 mG;simp) E2 (Sn.sx (o_ s2 hp) x rx) g1 fun Y2 E3 l3 _=>⟨l3,?_⟩
  .unfold u0;rw[Ay,hj];rfl
  refine hc S2 _ Y2 J2 bb _ E3 g2 λ S3 s3=>?_;split at o1
  .rename_i hb;rw[if_pos hb];obtain⟨z,g3,rfl⟩:=AB o1;refine hf S3 _ Y2 J2 z _ (E3.grow s3) g3 λ dz S4 s4 r4=>⟨s3.trans s4,us++[z],ws',?_,o2,by rw[h3];simp⟩;exact (zo.sx (ve (s3.trans s4)) us h1).append (.cons r4 .nil)
  .rename_i hb;rw[if_neg hb];cases o1;exact⟨s3,us,ws',zo.sx (ve s3) us h1,o2,h3⟩
 .rw[show I.items.length=ts.length from r1.len,List.drop_length] at h2;cases h2;rw[CB] at h3;subst h3;refine hq _ S2 (s1.trans s2) ⟨?_,λ vs e=>?_⟩
  .simp only[Sn];exact⟨acc,.inr ⟨p,rfl,by rw[u9 nz];exact AO⟩,zo.sx (tS λ a z=>.inl z) zs h1⟩
  .cases e;exact⟨p,acc,rfl,s1.none hp,AO,h1⟩
class Sr (R:Rk):Prop extends Lo R where
 sn:∀ {S S':SS}{Z:Addr->Prop}{y:T}{d:D},R S S' Z y d->Sn (zW S' Z) y d
instance:Sr x_:=⟨λ h=>h⟩
instance:Sr zL:=⟨λ h=>h.1⟩
def zY (R:Rk) (F:List T->Option T):rp:=λ ds S Q=>∃ Z ys y,(∀ a,Z a->S a≠none)/\zo (zW S Z) ys ds/\F ys=some y/\∀ d S',Sx S S'->R S S' Z y d->Q d S'
def zY.mo {R:Rk}{F:List T->Option T}:c9 (zY R F):=λ _ _ _ _ hq ⟨Z,ys,y,h1,h2,h3,h4⟩=>⟨Z,ys,y,h1,h2,h3,λ d S' s r=>hq _ _ (h4 d S' s r)⟩
def fZ {R:Rk} [Lo R] {F:List T->Option T}{g:Ev->Option (List T)}{u:yz}(h:pY g u):xV R (zt F g) (jT (zY R F) u):=λ S Z Y J y Q hE e hq=>by
 obtain⟨xs,e1,e2⟩:=Ak e;refine h S Z Y J xs _ hE e1 λ ds S1 s1 r1=>?_;exact⟨Z,xs,y,(hE.grow s1).zd,r1,e2,λ d S' s r=>hq d S' (s1.trans s) (Cl.cl s1 r)⟩
@[simp] noncomputable def qQ (N:List Str) (ys:List T):Ev:=ys.map (λ y=>some (.im y))++List.replicate (N.length-ys.length) none
@[simp] noncomputable def ZU:Option Out->Option T
 | some (.rt y)=>some y
 | some (.nx _)=>some .zl
 | _=>none
@[simp] def yb (N:List Str) (n:Nat) (g:Sm):List T->Option T:=λ ys=>if ys.length=n then ZU (g (qQ N ys)) else none
theorem zY.len {R:Rk}{N:List Str}{n:Nat}{g:Sm}{ds:List D}{S:SS}{Q:DK}(hs:zY R (yb N n g) ds S Q):ds.length=n:=by
 obtain⟨Z,ys,y,hz,r,e,hq⟩:=hs;unfold yb at e;split at e
 .rename_i h;rw[r.len];exact h
 .cases e
def Uw {N:List Str}{ds:List D}{i:Nat}{d:D}(h:ds[i]?=some d):(sG N ds)[i]?=some (some d):=by
 have hi:=(AN.mp h).1;unfold sG;rw[Ce (by simpa using hi),Ay,h];rfl
def kI {N:List Str}{ys:List T}{i:Nat}{w:W}(h:(qQ N ys)[i]?=some (some w)):∃ y,ys[i]?=some y/\w=.im y:=by
 unfold qQ at h;have hi:i<ys.length:=by
  rcases A3 i ys.length with q | q
  .exact q
  .rw[Cz (by simpa using q),Cf] at h;split at h <;> cases h
 rw[Ce (by simpa using hi),Ay] at h;cases q:ys[i]? with
 | none=>rw[q] at h;cases h
 | some y=>rw[q] at h;cases h;exact⟨y,rfl,rfl⟩
def Lq {R:Rk} [Lo R] {N:List Str}{n:Nat}{g:Sm}{t:y_}(h:xc R g t) {ds:List D}{S:SS}{Q:DK}(hs:zY R (yb N n g) ds S Q):t { nx:=λ _ S'=>Q .zl S',rt:=Q } (sG N ds) S:=by
 obtain⟨Z,ys,y,hz,r,e,hq⟩:=hs;unfold yb at e;split at e
 case isFalse=>cases e
 obtain⟨o,e1,e2⟩:∃ o,g (qQ N ys)=some o/\ZU (some o)=some y:=by
  cases q:g (qQ N ys) with
  | none=>rw[q] at e;cases e
  | some o=>exact⟨o,rfl,by rw[<- q];exact e⟩
 refine h S Z S Z _ _ o _ ⟨⟨hz,λ i t e=>?_,λ i ts e=>?_⟩,?_,.refl S,hz,λ _ z=>z,λ _ z=>.inl z,λ i ts p e _=>?_,λ i j ts us p _ e _ _ _=>?_⟩ e1 ?_
 .obtain⟨y',h1,h2⟩:=kI e;cases h2;obtain⟨d,h3,h4⟩:=r.dm h1;exact⟨d,Uw h3,h4⟩
 .obtain⟨y',h1,h2⟩:=kI e;cases h2
 .unfold sG qQ;have:=r.len;simp[this]
 .obtain⟨y',h1,h2⟩:=kI e;cases h2
 .obtain⟨y',h1,h2⟩:=kI e;cases h2
 .cases o with
  | rt y'=>cases e2;exact λ d S' s r=>hq d S' s r
  | nx J'=>
   cases e2;exact λ S' Z' Y' F=>hq .zl S' F.sx (Cl.of (λ _=>nofun) aZ)
  | bk _=>cases e2
  | ct _=>cases e2
noncomputable def xF (Aa:List (Key×T)) (k:Key):Option T:=(Aa.find? λ kv=>decide (kv.1=k)).map (·.2)
noncomputable def uw (Aa:List (Key×T)) (k:Key) (v:T):List (Key×T):=
 if (Aa.any λ kv=>decide (kv.1=k))=true then Aa.map (λ kv=>if kv.1=k then (kv.1,v) else kv) else Aa++[(k,v)]
section
variable {S:SS}
theorem yL.len:∀ {a:List (Key×T)}{b:List (Key×D)},yL S a b->b.length=a.length
 | [],_,h=>by cases h;rfl
 | (k,t)::r,_,h=>by
  obtain⟨d,m,rfl,_,h2⟩:=h;simp[yL.len h2]
theorem yL.val:∀ {a:List (Key×T)}{b:List (Key×D)}(k:Key),yL S a b->(xF a k=none/\ur b k=none)\/∃ t d,xF a k=some t/\ur b k=some d/\Sn S t d
 | [],_,k,h=>by cases h;exact .inl ⟨rfl,rfl⟩
 | (j,t)::r,_,k,h=>by
  obtain⟨d,m,rfl,h1,h2⟩:=h;by_cases e:j=k
  .subst e;exact .inr ⟨t,d,by simp[xF],by simp[ur],h1⟩
  .rcases yL.val k h2 with ⟨g1,g2⟩ | ⟨t',d',g1,g2,g3⟩
   .exact .inl ⟨by simpa [xF,e] using g1,by simpa [ur,e] using g2⟩
   .exact .inr ⟨t',d',by simpa [xF,e] using g1,by simpa [ur,e] using g2,g3⟩
theorem yL.any:∀ {a:List (Key×T)}{b:List (Key×D)}(k:Key),yL S a b->(b.any λ kv=>decide (kv.1=k))=a.any λ kv=>decide (kv.1=k)
 | [],_,k,h=>by cases h;rfl
 | (j,t)::r,_,k,h=>by
  obtain⟨d,m,rfl,h1,h2⟩:=h;rw[Bl,Bl,yL.any k h2]
theorem yL.tI {k:Key}{t:T}{d:D}(r:Sn S t d):∀ {a:List (Key×T)}{b:List (Key×D)},yL S a b->yL S (a.map λ kv=>if kv.1=k then (kv.1,t) else kv) (b.map λ kv=>if kv.1=k then (kv.1,d) else kv)
 | [],_,h=>by cases h;rfl
 | (j,u)::a,_,h=>by
  obtain⟨e,m,rfl,h1,h2⟩:=h;rw[Aq,Aq];by_cases q:j=k
  .rw[if_pos q,if_pos q];exact⟨d,_,rfl,r,yL.tI r h2⟩
  .rw[if_neg q,if_neg q];exact⟨e,_,rfl,h1,yL.tI r h2⟩
theorem yL.snoc {k:Key}{t:T}{d:D}(r:Sn S t d):∀ {a:List (Key×T)}{b:List (Key×D)},yL S a b->yL S (a++[(k,t)]) (b++[(k,d)])
 | [],_,h=>by cases h;exact⟨d,[],rfl,r,rfl⟩
 | (j,u)::a,_,h=>by
  obtain⟨e,m,rfl,h1,h2⟩:=h;exact⟨e,_,rfl,h1,yL.snoc r h2⟩
def yL.put {a:List (Key×T)}{b:List (Key×D)}(h:yL S a b) (k:Key) {t:T}{d:D}(r:Sn S t d):yL S (uw a k t) (putD b k d):=by
 unfold uw putD;rw[h.any k];split
 .exact yL.tI r h
 .exact yL.snoc r h
end
@[simp] noncomputable def X3 (i:Nat):Sm:=fun J=>some (.nx (J.set i (some (.own (.yq [])))))
@[simp] def dN (i:Nat) (f:Ev->Option T):Ev->Option T:=fun J=>(f J).bind λ y=>match J[i]?,y with
 | some (some (.own (.yq Aa))),.int k=>xF Aa (.inl k)
 | _,_=>none
@[simp] def X4 (i:Nat) (f g:Ev->Option T):Ev->Option T:=fun J=>(f J).bind λ y=>(g J).bind λ z=>match J[i]?,y with
 | some (some (.own (.yq Aa))),.int k=>some ((xF Aa (.inl k)).getD z)
 | _,_=>none
@[simp] def X2 (i:Nat) (f v:Ev->Option T):Sm:=fun J=>(v J).bind λ z=>(f J).bind λ y=>match J[i]?,y with
 | some (some (.own (.yq Aa))),.int k=>if Aa.length<sizeLine then some (.nx (J.set i (some (.own (.yq (uw Aa (.inl k) z)))))) else none
 | _,_=>none
@[simp] noncomputable def dM (i:Nat):Ev->Option T:=fun J=>match J[i]? with
 | some (some (.own (.yq Aa)))=>some (.int Aa.length)
 | _=>none
def jm {S:SS}{Z:Addr->Prop}{Y:yr}{J:Ev}(hE:ER S Z Y J) {i:Nat}{Aa:List (Key×T)}(h:J[i]?=some (some (.own (.yq Aa)))):∃ p b,Y[i]?=some (some (.ref p))/\S p=some (.yq b)/\yL (zW S Z) Aa b:=by
 obtain⟨p,o,h1,h2,h3,_⟩:=hE.ow i _ h;cases o with
 | yq b=>exact⟨p,b,h1,h2,h3⟩
 | lst _=>exact h3.elim
section
variable {R:Rk}{f g v:Ev->Option T}{ty tx tv:zy}
def Qj (i:Nat):xc R (X3 i) (tZ XM (hName i)):=λ S0 Z0 S Z Y J o E F e P=>by
 cases e;intro p hp;exact P _ _ _ (F.Zd (ts:=.yq []) (ds:=.yq []) (.new hp _) i hp rM rfl)
def Yg (i:Nat) (hf:yP f ty):uj (dN i f) (XQ (yO i) ty):=λ S Z Y J y Q hE e hq=>by
 obtain⟨x,e1,e2⟩:=Ak e;split at e2
 .rename_i Aa k h;obtain⟨p,b,h1,h2,h3⟩:=jm hE h;show yO i Y S _;unfold yO;rw[h1];refine hf S Z Y J _ _ hE e1 λ d S1 s1 r1=>?_;cases Vw.int r1;rcases (yL.sx (ve s1) h3).val (.inl k) with ⟨g1,_⟩ | ⟨t,d,g1,g2,g3⟩
  .rw[g1] at e2;cases e2
  .rw[g1] at e2;cases e2;exact⟨p,b,k,d,rfl,rfl,s1 _ _ h2,g2,hq d S1 s1 g3⟩
 .cases e2
def Yh (i:Nat) (hf:yP f ty) (hg:uj g tx):uj (X4 i f g) (XO (yO i) ty tx):=λ S Z Y J y Q hE e hq=>by
 obtain⟨x,e1,e⟩:=Ak e;obtain⟨z,e2,e3⟩:=Ak e;split at e3
 .rename_i Aa k h;cases e3;obtain⟨p,b,h1,h2,h3⟩:=jm hE h;show yO i Y S _;unfold yO;rw[h1];refine⟨p,rfl,⟨b,h2⟩,hf S Z Y J _ _ hE e1 λ d S1 s1 r1=>?_⟩;cases Vw.int r1;refine hg S1 Z Y J z _ (hE.grow s1) e2 λ dz S2 s2 r2=>⟨k,b,rfl,(s1.trans s2) _ _ h2,?_⟩;rcases (yL.sx (ve (s1.trans s2)) h3).val (.inl k) with ⟨g1,g2⟩ | ⟨t,d,g1,g2,g3⟩
  .rw[g2];rw[g1] at hq;exact hq _ S2 (s1.trans s2) r2
  .rw[g2];rw[g1] at hq;exact hq _ S2 (s1.trans s2) g3
 .cases e3
def Qi (i:Nat) (hf:yP f ty) (hv:uj v tv):xc R (X2 i f v) (XN (yO i) ty tv):=λ S0 Z0 S Z Y J o E F e P=>by
 obtain⟨z,e1,e⟩:=Ak e;obtain⟨x,e2,e3⟩:=Ak e;split at e3
 .rename_i Aa k h;split at e3
  .rename_i hl;cases e3;refine hv S Z Y J z _ F.er e1 λ dz S1 s1 r1=>?_;have F1:=F.grow s1;obtain⟨p,b,h1,h2,h3⟩:=jm F1.er h;show yO i Y S1 _;unfold yO;rw[h1];refine hf S1 Z Y J _ _ F1.er e2 λ d S2 s2 r2=>?_;cases Vw.int r2;have h4:=yL.sx (ve s2) h3;exact⟨p,b,k,rfl,rfl,s2 _ _ h2,by rw[h4.len];exact hl,P _ Z Y ((F1.grow s2).mut (us:=.yq (uw Aa (.inl k) z)) (es:=.yq (putD b (.inl k) dz)) i h h1 (h4.put _ (Sn.sx (ve s2) z r1)))⟩
  .cases e3
 .cases e3
def Pr (i:Nat):wa (dM i) (xR Xr (pK (yO i) jR)):=λ S Z Y J y Q hE e hq=>by
 unfold dM at e;split at e
 .rename_i Aa h;cases e;obtain⟨p,b,h1,h2,h3⟩:=jm hE h;show yO i Y S _;unfold yO;rw[h1];refine⟨p,b,rfl,h2,?_⟩;rw[h3.len];exact hq _ S (.refl S) (Cl.of (λ _=>nofun) wL)
 .cases e
end
@[simp] noncomputable def sR (f:Ev->Option T):Ev->Option T:=fun J=>(f J).bind λ x=>match x with
 | .int i=>some (.int (-i))
 | _=>none
def XF (ta:zy):zy:=fun Y S Q=>ta Y S λ x S1=>match x with
 | .int i=>Q (.int (-i)) S1
 | _=>False
def QH {f:Ev->Option T}{te:zy}(h:yP f te):wa (sR f) (XF te):=λ S Z Y J y Q hE e hq=>by
 obtain⟨x,e1,e2⟩:=Ak e;refine h S Z Y J x _ hE e1 λ d S1 s1 r1=>?_;split at e2
 .cases Vw.int r1;cases e2;exact hq _ S1 s1 (Cl.of (λ _=>nofun) wL)
 .cases e2
def N8:vP zL mQ Xq:=Xb
def N6:vP zL wQ Xp:=Xb
noncomputable def vd:List T->Option (List Int)
 | []=>some []
 | .int i::ts=>(vd ts).map (i::·)
 | _::_=>none
noncomputable def uv:List T->Option (List (List Int))
 | []=>some []
 | .tup r::ts=>(vd r).bind λ x=>(uv ts).map (x::·)
 | _::_=>none
noncomputable def yv (r:List Int):T:=.tup (r.map T.int)
theorem pC:∀ {ts:List T}{is:List Int},vd ts=some is->ts=is.map T.int
 | [],is,h=>by cases h;rfl
 | .int b::ts,is,h=>by
  unfold vd at h;obtain⟨cs,h1,rfl⟩:=AB h;rw[Aq,<- pC h1]
 | .zl::ts,bs,h=>by cases h
 | .bl _::ts,bs,h=>by cases h
 | .str _::ts,bs,h=>by cases h
 | .tup _::ts,bs,h=>by cases h
 | .lst _::ts,bs,h=>by cases h
theorem g_:∀ {ts:List T}{rs:List (List Int)},uv ts=some rs->ts=rs.map yv
 | [],is,h=>by cases h;rfl
 | .tup r::ts,is,h=>by
  unfold uv at h;obtain⟨x,h1,h⟩:=Ak h;obtain⟨cs,h2,rfl⟩:=AB h;rw[Aq,<- g_ h2,pC h1];rfl
 | .zl::ts,bs,h=>by cases h
 | .bl _::ts,bs,h=>by cases h
 | .str _::ts,bs,h=>by cases h
 | .int _::ts,bs,h=>by cases h
 | .lst _::ts,bs,h=>by cases h
def jB (is:List Int):vd (is.map T.int)=some is:=by
 induction is with
 | nil=>rfl
 | cons b bs ih=>rw[Aq];unfold vd;rw[ih];rfl
def fg (rs:List (List Int)):uv (rs.map yv)=some rs:=by
 induction rs with
 | nil=>rfl
 | cons b bs ih=>
  show uv (.tup (b.map T.int)::bs.map yv)=_;unfold uv;rw[jB,ih];rfl
theorem uS {S:SS}:∀ {is:List Int}{ds:List D},zo S (is.map T.int) ds↔ds=is.map D.int
 | [],ds=>by simp only[A8,zo]
 | i::is,ds=>by
  rw[Aq];simp only[zo,Sn];constructor
  .rintro⟨c,cs,rfl,rfl,h⟩;rw[uS.mp h];rfl
  .rintro rfl;exact⟨.int i,_,rfl,rfl,uS.mpr rfl⟩
theorem oz {S:SS}:∀ {rs:List (List Int)}{ds:List D},zo S (rs.map yv) ds↔ds=rs.map wF
 | [],ds=>by simp only[A8,zo]
 | r::rs,ds=>by
  rw[Aq];simp only[zo,yv,Sn];constructor
  .rintro⟨c,cs,rfl,⟨es,rfl,h1⟩,h⟩;rw[oz.mp h,uS.mp h1];rfl
  .rintro rfl;exact⟨wF r,_,rfl,⟨_,rfl,uS.mpr rfl⟩,oz.mpr rfl⟩
@[simp] noncomputable def aI:T->String
 | .zl=>"NoneType"
 | .bl _=>"bool"
 | .int _=>"int"
 | .str _=>"str"
 | .tup _=>"tuple"
 | .lst _=>"list"
 | .yd=>"dict"
@[simp] def instS (ty:String) (f:Ev->Option T):Ev->Option T:=fun J=>(f J).map λ x=>.bl (u6 (aI x) ty)
def Pg {ty:String}{f:Ev->Option T}{te:zy}(hf:yP f te):wa (instS ty f) (l7 ty te):=λ S Z Y J y Q hE e hq=>by
 obtain⟨x,e1,rfl⟩:=AB e;refine hf S Z Y J x _ hE e1 λ d S1 s1 r1=>?_;have key:rO d S1=some (aI x):=by
  cases x with
  | zl=>cases Vw.zl r1;rfl
  | bl _=>cases Vw.bl r1;rfl
  | int _=>cases Vw.int r1;rfl
  | str _=>cases Vw.str r1;rfl
  | tup _=>obtain⟨ds,rfl,_⟩:=Vw.tup r1;rfl
  | lst _=>
   obtain⟨ds,rfl | ⟨a,rfl,h1⟩,h2⟩:=Vw.lst r1
   .rfl
   .unfold rO;dsimp only;rw[h1];rfl
  | yd=>
   obtain⟨a,Aa,rfl,h1⟩:=Vw.yd r1;unfold rO;dsimp only;rw[h1];rfl
 rw[key];exact hq _ S1 s1 (Cl.of (λ _=>nofun) vn)
@[simp] noncomputable def isNone:T->Bool
 | .zl=>true
 | _=>false
noncomputable def oV:D->Bool
 | .zl=>true
 | _=>false
noncomputable def zf (p:Int×Int):T:=.tup [.int p.1,.int p.2]
noncomputable def zI (ns:List Int):T:=.lst (ns.map .int)
@[simp] theorem zaa:sizeLine=16777216:=rfl
def O1 {n:Nat}(h:n<=10000):n<=sizeLine:=A9 h (by decide)
def wq {α:Type}{xs:List α}{k:Nat}{x:α}(h:xs[k]?=some x):L2.zZ xs (k:Int)=some x:=by
 unfold L2.zZ L2.wR;have hk:=(AN.mp h).1;rw[if_pos (by lia),if_pos (by lia)];simpa using h
@[simp] theorem lV {α:Type}{xs:List α}{x:α}:L2.zZ (xs++[x]) (-1)=some x:=by
 unfold L2.zZ L2.wR;rw[if_neg (by lia),if_pos (by simp;lia)];have:(-1+((xs++[x]).length:Int)).toNat=xs.length:=by simp;lia
 rw[A_,this];simp
@[simp] theorem zah {α:Type}{x:α}{xs:List α}:L2.zZ (x::xs) 0=some x:=wq (k:=0) rfl
@[simp] theorem zag {α:Type}{x y:α}{xs:List α}:L2.zZ (x::y::xs) 1=some y:=wq (k:=1) rfl
@[simp] theorem zaf {α:Type}{x y z:α}{xs:List α}:L2.zZ (x::y::z::xs) 2=some z:=wq (k:=2) rfl
@[simp] theorem zae {α:Type}{x y z w:α}{xs:List α}:L2.zZ (x::y::z::w::xs) 3=some w:=wq (k:=3) rfl
theorem dU {α:Type}(enc:α->T) (g:α->Option T) (h:T->Option (Option T)):∀ (xs:List α),(∀ x∈xs,h (enc x)=some (g x))->pL h (xs.map enc)=some (xs.filterMap g)
 | [],_=>rfl
 | x::xs,hh=>by
  rw[Aq];unfold pL;rw[hh x Al,dU enc g h xs λ y hy=>hh y (Av _ hy)];cases q:g x <;> simp[q]
def MA {α:Type}(enc:α->T) (g:α->T) (h:T->Option (Option T)) (xs:List α) (hh:∀ x∈xs,h (enc x)=some (some (g x))):pL h (xs.map enc)=some (xs.map g):=by
 rw[dU enc (λ x=>some (g x)) h xs hh];simp
def sS {α:Type}(enc:α->T) (h:α->T) {pick:List (Option Nat)}{it:Ev->Option (List T)}{g:T->Ev->Option Ev}{c:Ev->Option Bool}{f:Ev->Option T}{J:Ev}(xs:List α) (hi:it J=some (xs.map enc)) (hl:xs.length<=16777216)
  (hh:∀ x∈xs,u5 pick g c f J (enc x)=some (some (h x))):xY pick it g c f J=some (.lst (xs.map h)):=by
 unfold xY;rw[hi,A_,if_pos (by rw[Aw];exact hl),MA enc h _ xs hh];rfl
def pA {α:Type}(enc:α->T) (h:α->Option T) {pick:List (Option Nat)}{it:Ev->Option (List T)}{g:T->Ev->Option Ev}{c:Ev->Option Bool}{f:Ev->Option T}{J:Ev}(xs:List α) (hi:it J=some (xs.map enc)) (hl:xs.length<=16777216)
  (hh:∀ x∈xs,u5 pick g c f J (enc x)=some (h x)):xY pick it g c f J=some (.lst (xs.filterMap h)):=by
 unfold xY;rw[hi,A_,if_pos (by rw[Aw];exact hl),dU enc h _ xs hh];rfl
section
variable {α:Type}{is:List Nat}{g:T->Ev->Option Ev}{b:Sm}
noncomputable def turn (g:T->Ev->Option Ev) (b:Sm) (y:T) (J:Ev):Option Out:=(g y J).bind b
theorem j5 (y:T) (ys:List T) (J:Ev):xX is g b (y::ys) J=(turn g b y (yC is J)).bind λ o=>match o with
  | .nx J2=>xX is g b ys J2
  | .ct J2=>xX is g b ys J2
  | .bk J2=>some (.nx (yC is J2))
  | .rt t=>some (.rt t):=by
 unfold turn;rw[xX];cases g y (yC is J) <;> rfl
theorem Yy (enc:α->T) (test:α->Bool) (v:T) (J0:Ev):∀ (xs:List α) (J:Ev),yC is J=J0->(∀ x∈xs,∃ J',yC is J'=J0/\turn g b (enc x) J0=some (if test x=true then .rt v else .nx J'))->xX is g b (xs.map enc) J=some (if xs.any test=true then .rt v else .nx J0)
 | [],J,h,_=>by rw[A8,xX,h];rfl
 | x::xs,J,h,hs=>by
  obtain⟨J',h1,h2⟩:=hs x Al;rw[Aq,j5,h,h2,Bl];cases q:test x with
  | true=>simp
  | false=>
   have ih:=Yy enc test v J0 xs J' h1 λ y hy=>hs y (Av _ hy);simpa using ih
theorem Yx (enc:α->T) (I:List α->Ev->Prop):∀ (xs:List α) (pre:List α) (J:Ev),I pre (yC is J)->
  (∀ p x q,pre++xs=p++x::q->∀ J,I p J->∃ J',turn g b (enc x) J=some (.nx J')/\I (p++[x]) (yC is J'))->∃ J',xX is g b (xs.map enc) J=some (.nx J')/\I (pre++xs) J'
 | [],pre,J,h,_=>⟨yC is J,by rw[A8,xX],by simpa using h⟩
 | x::xs,pre,J,h,hs=>by
  obtain⟨J',h1,h2⟩:=hs pre x xs rfl _ h;rw[Aq,j5,h1];have ih:=Yx enc I xs (pre++[x]) J' h2 λ p y q e=>hs p y q (by rw[<- e];simp);simpa using ih
def vB (enc:α->T) (I:List α->Ev->Prop) (xs:List α) (J:Ev) (h:I [] (yC is J))
  (hs:∀ p x q,xs=p++x::q->∀ J,I p J->∃ J',turn g b (enc x) J=some (.nx J')/\I (p++[x]) (yC is J')):∃ J',xX is g b (xs.map enc) J=some (.nx J')/\I xs J':=Yx enc I xs [] J h hs
end
def sJ (n:Nat) (h:n<=100000):v9 [.int (n:Int)]=some ((List.range n).map λ(k:Nat)=>T.int (0+(k:Int))):=by
 show (if inR (n:Int)=true then some (rangeT 0 (n:Int).toNat) else none)=_;rw[if_pos (YY.mpr ⟨by lia,by lia⟩)];rfl
def qM (a:Key) (b:T) (Aa:List (Key×T)) (j:Key):xF ((a,b)::Aa) j=if a=j then some b else xF Aa j:=by
 by_cases h:a=j <;> simp[xF,h]
theorem aA (k j:Key) (d:T):∀ Aa:List (Key×T),xF (Aa.map λ kv=>if kv.1=k then (kv.1,d) else kv) j=(xF Aa j).map λ x=>if j=k then d else x
 | []=>rfl
 | (a,b)::Aa=>by
  have ih:=aA k j d Aa;rw[Aq];by_cases hk:a=k
  .rw[if_pos hk,qM,qM,ih];by_cases hj:a=j
   .subst hj;subst hk;simp
   .rw[if_neg hj,if_neg hj]
  .rw[if_neg hk,qM,qM,ih];by_cases hj:a=j
   .subst hj;simp[hk]
   .rw[if_neg hj,if_neg hj]
theorem a9 (k j:Key) (d:T):∀ Aa:List (Key×T),(∀ kv∈Aa,¬ kv.1=k)->xF (Aa++[(k,d)]) j=if j=k then some d else xF Aa j
 | [],_=>by
  show xF [(k,d)] j=_;rw[qM];by_cases h:j=k
  .subst h;simp
  .rw[if_neg h,if_neg (λ z=>h z.symm)]
 | (a,b)::Aa,hn=>by
  have ih:=a9 k j d Aa λ kv Er=>hn kv (Av _ Er);have ha:¬ a=k:=hn (a,b) Al;show xF ((a,b)::(Aa++[(k,d)])) j=_;rw[qM,qM,ih];by_cases hj:a=j
  .subst hj;simp[ha]
  .rw[if_neg hj,if_neg hj]
def W0 (Aa:List (Key×T)) (k:Key):(Aa.any λ kv=>decide (kv.1=k))=(xF Aa k).isSome:=by
 unfold xF;rw[Option.isSome_map,A5,AM,List.find?_isSome]
def k8 (Aa:List (Key×T)) (k j:Key) (d:T):xF (uw Aa k d) j=if j=k then some d else xF Aa j:=by
 unfold uw;split
 .rename_i h;rw[W0] at h;rw[aA];by_cases hj:j=k
  .subst hj;obtain⟨x,hx⟩:=DE.mp h;simp[hx]
  .simp[hj]
 .rename_i h;exact a9 k j d Aa λ kv Er z=>h (AM.mpr ⟨kv,Er,za2 z⟩)
def Y3 (Aa:List (Key×T)) (k:Key) (d:T):(uw Aa k d).length=if (xF Aa k).isSome=true then Aa.length else Aa.length+1:=by
 have e:=W0 Aa k;unfold uw;rw[e];split <;> simp
noncomputable def vT (p:Int×Int):List Int:=[p.1,p.2]
def sH (ps:List (Int×Int)):List (Int×Int):=(L4.wb (ps.map vT)).map λ r=>(r.getD 0 0,r.getD 1 0)
def aV (ps:List (Int×Int)):(sH ps).map vT=L4.wb (ps.map vT):=by
 unfold sH;rw[AQ]
 conv=>rhs;rw[<- List.map_id (L4.wb (ps.map vT))]
 refine Cy λ r hr=>?_;obtain⟨p,_,rfl⟩:=An.mp ((L4.uR _).mem_iff.mp hr);rfl
def hZ (ps:List (Int×Int)):(sH ps).Perm ps:=by
 have h:=L4.uR (ps.map vT);have:(sH ps).Perm ((ps.map vT).map λ r=>(r.getD 0 0,r.getD 1 0)):=h.map _
 rwa [AQ,show ((λ r:List Int=>(r.getD 0 0,r.getD 1 0)) ∘ vT)=id from rfl,List.map_id] at this
def oQ (p q:Int×Int):Prop:=p.1<q.1\/(p.1=q.1/\p.2<=q.2)
def aU (ps:List (Int×Int)):(sH ps).Pairwise oQ:=by
 have h:=L4.hX (ps.map vT);rw[<- aV,B3] at h;refine h.imp λ{p q} Cp=>?_;unfold vT at Cp;rw[HT.qg,HT.qg] at Cp;unfold oQ;by_cases e:q.1=p.1
 .rw[if_pos e] at Cp;by_cases e2:q.2=p.2
  .omega
  .rw[if_neg e2] at Cp;have:=of_decide_eq_false Cp;lia
 .rw[if_neg e] at Cp;have:=of_decide_eq_false Cp;lia
def Ta (ps:List (Int×Int)):uv (ps.map zf)=some (ps.map vT):=by
 have:=fg (ps.map vT)
 rwa [AQ,show yv ∘ vT=zf from rfl] at this
noncomputable def w9 (q p:Int×Int):Bool:=decide (p.1<=q.1)&&decide (p.2<=q.2)
def zG (ps:List (Int×Int)) (q:Int×Int):Bool:=ps.any (w9 q)
def yI {ps:List (Int×Int)}{q:Int×Int}:zG ps q=true↔∃ p∈ps,p.1<=q.1/\p.2<=q.2:=by
 unfold zG w9;simp[AM]
def M5 {ps qs:List (Int×Int)}(h:ps.Perm qs) (q:Int×Int):zG ps q=zG qs q:=by
 rw[A5,yI,yI];exact⟨λ⟨p,h1,h2⟩=>⟨p,h.mem_iff.mp h1,h2⟩,λ⟨p,h1,h2⟩=>⟨p,h.mem_iff.mpr h1,h2⟩⟩
def M7 (ps qs:List (Int×Int)) (q:Int×Int):zG (ps++qs) q=(zG ps q||zG qs q):=by
 unfold zG;rw[List.any_append]
def vO (ps:List (Int×Int)):Prop:=ps.Pairwise λ p q=>p.1<q.1/\q.2<p.2
theorem vO.eq:∀ {ps qs:List (Int×Int)},vO ps->vO qs->(∀ q,zG ps q=zG qs q)->ps=qs
 | [],[],_,_,_=>rfl
 | [],q::qs,_,_,h=>by
  have:=h q;rw[show zG [] q=false from rfl] at this;have h2:zG (q::qs) q=true:=yI.mpr ⟨q,Al,AK _,AK _⟩;rw[h2] at this;cases this
 | p::ps,[],_,_,h=>by
  have:=h p;rw[show zG [] p=false from rfl] at this;have h2:zG (p::ps) p=true:=yI.mpr ⟨p,Al,AK _,AK _⟩;rw[h2] at this;cases this
 | p::ps,q::qs,hp,hq,h=>by
  have hp1:=Bs.mp hp;have hq1:=Bs.mp hq;have a1:∃ r∈q::qs,r.1<=p.1/\r.2<=p.2:=yI.mp (by rw[<- h];exact yI.mpr ⟨p,Al,AK _,AK _⟩);have a2:∃ r∈p::ps,r.1<=q.1/\r.2<=q.2:=yI.mp (by rw[h];exact yI.mpr ⟨q,Al,AK _,AK _⟩);obtain⟨r,hr,r1,r2⟩:=a1;obtain⟨u,hu,u1,u2⟩:=a2;have qr:q.1<=r.1:=by
   rcases Ai.mp hr with e | e
   .subst e;exact AK _
   .exact Int.le_of_lt (hq1.1 r e).1
  have pu:p.1<=u.1:=by
   rcases Ai.mp hu with e | e
   .subst e;exact AK _
   .exact Int.le_of_lt (hp1.1 u e).1
  have e1:p.1=q.1:=by lia
  have er:r=q:=by
   rcases Ai.mp hr with e | e
   .exact e
   .have:=(hq1.1 r e).1;lia
  have eu:u=p:=by
   rcases Ai.mp hu with e | e
   .exact e
   .have:=(hp1.1 u e).1;lia
  subst er eu;have e2:u.2=r.2:=by lia
  have epq:u=r:=Prod.ext e1 e2;subst epq;rw[vO.eq hp1.2 hq1.2 λ x=>?_];have hx:=h x;unfold zG at hx ⊢;rw[Bl,Bl] at hx;cases g:w9 x u with
  | false=>rw[g] at hx;simpa using hx
  | true=>
   have gx:u.1<=x.1/\u.2<=x.2:=by simpa [w9] using g
   have key:∀ {l:List (Int×Int)},(∀ v∈l,u.1<v.1/\v.2<u.2)->l.any (w9 x)=l.any (w9 (x.1,u.2-1)):=by
    intro l hl;rw[A5,AM,AM];constructor
    .rintro⟨v,hv,hg⟩;have:=hl v hv;have hg':v.1<=x.1/\v.2<=x.2:=by simpa [w9] using hg
     exact⟨v,hv,by simp[w9];lia⟩
    .rintro⟨v,hv,hg⟩;have:=hl v hv;have hg':v.1<=x.1/\v.2<=u.2-1:=by simpa [w9] using hg
     exact⟨v,hv,by simp[w9];lia⟩
   rw[key hp1.1,key hq1.1];have hy:=h (x.1,u.2-1);unfold zG at hy;rw[Bl,Bl] at hy;have gn:w9 (x.1,u.2-1) u=false:=by
    unfold w9;rw[show decide (u.2<=(x.1,u.2-1).2)=false from za0 (by show ¬ u.2<=u.2-1;lia),B4]
   rw[gn] at hy;simpa using hy
noncomputable def se (l:Option Int) (x:Int):Bool:=match l with
 | none=>true
 | some m=>decide (x<m)
noncomputable def yY:List (Int×Int)->Option Int->List (Int×Int)
 | [],_=>[]
 | p::ps,l=>if se l p.2=true then p::yY ps (some p.2) else yY ps l
def vp (ps:List (Int×Int)):List (Int×Int):=yY (sH ps) none
theorem mW:∀ (ps:List (Int×Int)) (l:Option Int) (q:Int×Int),q∈yY ps l->q∈ps/\∀ m,l=some m->q.2<m
 | [],l,q,h=>by simp[yY] at h
 | p::ps,l,q,h=>by
  unfold yY at h;split at h
  .rename_i c;have hm:∀ m,l=some m->p.2<m:=λ m e=>by subst e;simpa [se] using c
   rcases Ai.mp h with e | e
   .subst e;exact⟨Al,hm⟩
   .obtain⟨h1,h2⟩:=mW ps _ q e;exact⟨Av _ h1,λ m e=>by have:=h2 _ rfl;have:=hm m e;lia⟩
  .obtain⟨h1,h2⟩:=mW ps _ q h;exact⟨Av _ h1,h2⟩
theorem e_:∀ (ps:List (Int×Int)) (l:Option Int),ps.Pairwise oQ->vO (yY ps l)
 | [],l,_=>by simp[yY,vO]
 | p::ps,l,h=>by
  have h1:=Bs.mp h;unfold yY;split
  .refine Bs.mpr ⟨λ q hq=>?_,e_ ps _ h1.2⟩;obtain⟨g1,g2⟩:=mW ps _ q hq;have:=h1.1 q g1;have:=g2 _ rfl;unfold oQ at *;lia
  .exact e_ ps _ h1.2
theorem da:∀ (ps:List (Int×Int)) (l:Option Int),ps.Pairwise oQ->∀ p∈ps,(∃ q∈yY ps l,q.1<=p.1/\q.2<=p.2)\/∃ m,l=some m/\m<=p.2
 | [],l,_,p,hp=>by cases hp
 | r::ps,l,h,p,hp=>by
  have h1:=Bs.mp h;unfold yY;split
  .rename_i c;rcases Ai.mp hp with e | e
   .subst e;exact .inl ⟨p,Al,AK _,AK _⟩
   .rcases da ps (some r.2) h1.2 p e with ⟨q,q1,q2⟩ | ⟨m,e1,e2⟩
    .exact .inl ⟨q,Av _ q1,q2⟩
    .cases e1;have:=h1.1 p e;unfold oQ at this;exact .inl ⟨r,Al,by lia,e2⟩
  .rename_i c;rcases Ai.mp hp with e | e
   .subst e;cases l with
    | none=>simp[se] at c
    | some m=>exact .inr ⟨m,rfl,by simpa [se] using c⟩
   .exact da ps l h1.2 p e
def eP (ps:List (Int×Int)):vO (vp ps):=e_ _ _ (aU ps)
def O6 {ps:List (Int×Int)}{q:Int×Int}(h:q∈vp ps):q∈ps:=(hZ ps).mem_iff.mp (mW _ _ q h).1
def oP (ps:List (Int×Int)) (q:Int×Int):zG (vp ps) q=zG ps q:=by
 rw[<- M5 (hZ ps) q,A5,yI,yI];constructor
 .rintro⟨p,h1,h2⟩;exact⟨p,(mW _ _ p h1).1,h2⟩
 .rintro⟨p,h1,h2⟩;rcases da (sH ps) none (aU ps) p h1 with ⟨r,r1,r2⟩ | ⟨m,e,_⟩
  .exact⟨r,r1,by lia,by lia⟩
  .cases e
end L5
namespace L2
open PySem PySem.Spec PyProof.Rows
section
variable {X:Cx}
def Z8 (K:Ac):R2:=λ x y H Q=>∃ l b xs zs,x=.ref l/\y=.ref b/\zT K H l xs/\zT K H b zs/\xs.length+zs.length<=sizeLine/\∀ p,H p=none->Q (.ref p) (upd H p (.lst (xs++zs)))
def RX:yj X (binaryOp .Add) (Z8 X.K):=by
 intro pins s O H x y v u Q I rx ry h;obtain⟨l,b,xs,zs,rfl,rfl,hH,hB,hz,q⟩:=h;cases rx;cases ry;obtain⟨its,r,p1,_⟩:=I.list hH;obtain⟨its2,r2,p2,_⟩:=I.list hB;obtain⟨⟨cls,dd,data,sl⟩,ho,hc,n,hd⟩:=p1.isList;obtain⟨⟨cls2,dd2,data2,sl2⟩,ho2,hc2,n2,hd2⟩:=p2.isList;simp only at hc hd hc2 hd2;subst hc hd hc2 hd2;have e:its.toArray++its2.toArray=(its++its2).toArray:=by simp
 refine concat_meets ⟨_,ho,rfl⟩ ⟨_,ho2,rfl⟩ noFill_list_add seq_list_add PySem.F.slot_list_add PySem.F.entry_list_add (PySem.F.args_list_add_2 _ _) (list_addW l b its.toArray its2.toArray n n2 dd dd2 sl sl2 (by rw[Ar,Ar,<- r.length,<- r2.length];exact hz)) ⟨ho,ho2,?_⟩;rw[e];exact⟨.ref _,_,I.Oz (t':=s.toks) (r.append r2) (by rw[Bf];lia),rfl,q _ I.fresh⟩
def Z6 (K:Ac):R2:=λ x y H Q=>∃ a b ys,x=.ref a/\y=.ref b/\ye K H a []/\ye K H b ys/\Q (.ref b) H
def RV:yj X (binaryOp .Add) (Z6 X.K):=by
 intro pins s O H x y v u Q I rx ry h;obtain⟨l,b,ys,rfl,rfl,hH,hB,q⟩:=h;cases rx;cases ry;obtain⟨its,r,p1,_⟩:=I.tuple hH;obtain⟨its2,r2,p2,_⟩:=I.tuple hB;obtain⟨⟨cls,dd,data,sl⟩,ho,hc,n,hd⟩:=id p1;obtain⟨⟨cls2,dd2,data2,sl2⟩,ho2,hc2,n2,hd2⟩:=id p2;simp only at hc hd hc2 hd2;subst hc hd hc2 hd2;exact concat_meets ⟨_,ho,rfl⟩ ⟨_,ho2,rfl⟩ noFill_tuple_add seq_tuple_add PySem.F.slot_tuple_add PySem.F.entry_tuple_add (PySem.F.args_tuple_add_2 _ _)
   (tuple_addW0 l b its.toArray its2.toArray n n2 dd dd2 sl sl2 (by cases r;rfl)) ⟨ho,ho2,⟨.ref b,H,I,rfl,q⟩⟩
end
end L2
namespace L5
open PySem PySem.Spec L2 L3
open PyProof.Rows hiding St
section
variable {X:Cx}{K:Ac}{a b c e:Expr}{es:List Expr}{ta tb tc te:zy}{tA:yz}{pos p:Pos}
def uD.mo:xJ uD:=λ x y S Q Q' hq h=>by
 cases x with
 | zl=>exact h
 | bl _=>exact h
 | int i=>cases y <;> first | exact hq _ _ h | exact h
 | str i=>cases y <;> first | exact⟨h.1,hq _ _ h.2⟩ | exact h
 | tup i=>cases y <;> first | exact⟨h.1,hq _ _ h.2⟩ | exact h
 | yN ds=>
  unfold uD at h ⊢;dsimp only at h ⊢;split at h
  .exact⟨h.1,h.2.1,λ r hr=>hq _ _ (h.2.2 r hr)⟩
  .exact h.elim
 | ref q=>
  unfold uD at h ⊢;dsimp only at h ⊢;split at h
  .exact⟨h.1,h.2.1,λ r hr=>hq _ _ (h.2.2 r hr)⟩
  .exact h.elim
def rS {H:Hp}{S:SS}{d:D}{v:V}{ds:List D}(r:zi K H d v) (p:zR K H S) (e:zV d S=some ds) (n:∀ ts,d≠.tup ts):∃ a xs,v=.ref a/\zT K H a xs/\zq K H ds xs:=by
 unfold zV at e;split at e
 .exact absurd rfl (n _)
 .cases e;simp only[zi] at r;obtain⟨a,xs,h1,h2,h3⟩:=r;exact⟨a,xs,h1,h2.sq,h3⟩
 .split at e
  .rename_i q;cases e;simp only[zi] at r;subst r;obtain⟨xs,h1,h2⟩:=p _ _ q;exact⟨_,xs,rfl,zT.of h1,h2⟩
  .cases e
 .cases e
abbrev ZA (K:Ac):R2:=λ x y H Q=>vo (λ i j=>.int (i+j)) x y H Q\/((∃ i j,x=.str i/\y=.str j/\i.length+j.length<=sizeLine/\Q (.str (i++j)) H)\/(Z8 K x y H Q\/(Z6 K x y H Q\/Z7 K x y H Q)))
def uD.fits:xB K uD (ZA K):=λ x y d e H S Q h1 h2 h3 h=>by
 have lst:(∀ ts,d≠.tup ts)->(match zV d S,zV e S with
  | some ds,some es=>(∀ ts,e≠.tup ts)/\ds.length+es.length<=sizeLine/\∀ r,S r=none->wW K H Q (.ref r) (ups S r (.lst (ds++es)))
  | _,_=>False)->ZA K x y H Q:=λ n h=>by
  split at h
  .rename_i ds es q1 q2;obtain⟨a,xs,rfl,g1,g2⟩:=rS h1 h3 q1 n;obtain⟨b,ys,rfl,g3,g4⟩:=rS h2 h3 q2 h.1;refine .inr (.inr (.inl ⟨a,b,xs,ys,rfl,rfl,g1,g3,by rw[<- g2.length,<- g4.length];exact h.2.1,λ p hp=>?_⟩));exact h.2.2 p (h3.none hp) _ _ (by simp only[zi]) (.new hp _) (h3.ups (.new hp _) ⟨_,yR,zq.ext (.new hp _) _ (g2.append g4)⟩)
  .exact h.elim
 cases d with
 | zl=>exact h.elim
 | bl _=>exact h.elim
 | int i=>
  cases e with
  | int j=>
   simp only[zi] at h1 h2;exact .inl ⟨_,_,h1,h2,h _ H (by simp only[zi]) (.refl H) h3⟩
  | zl=>exact h.elim
  | bl _=>exact h.elim
  | str _=>exact h.elim
  | tup _=>exact h.elim
  | yN _=>exact h.elim
  | ref _=>exact h.elim
 | str i=>
  cases e with
  | str j=>
   simp only[zi] at h1 h2;exact .inr (.inl ⟨_,_,h1,h2,h.1,h.2 _ H (by simp only[zi]) (.refl H) h3⟩)
  | zl=>exact h.elim
  | bl _=>exact h.elim
  | int _=>exact h.elim
  | tup _=>exact h.elim
  | yN _=>exact h.elim
  | ref _=>exact h.elim
 | tup ds=>
  cases e with
  | tup es=>
   have h1':=h1;have h2':=h2;simp only[zi] at h1 h2;obtain⟨a,xs,rfl,g1,g2⟩:=h1;obtain⟨b,ys,rfl,g3,g4⟩:=h2;have hl:=g2.length;have hl':=g4.length;by_cases hx:xs=[]
   .subst hx;have:ds=[]:=by cases ds <;> simp_all
    subst this;exact .inr (.inr (.inr (.inl ⟨a,b,ys,rfl,rfl,g1,g3,h.2 _ H h2' (.refl H) h3⟩)))
   .refine .inr (.inr (.inr (.inr ⟨a,b,xs,ys,rfl,rfl,g1,g3,hx,by rw[<- hl,<- hl'];exact h.1,λ hy=>?_,λ hy p hp=>?_⟩)))
    .subst hy;have:es=[]:=by cases es <;> simp_all
     subst this;refine h.2 _ H ?_ (.refl H) h3;rw[CB];exact h1'
    .refine h.2 _ _ ?_ (.new hp _) (h3.new hp);simp only[zi];exact⟨p,_,rfl,ye.of yR,zq.ext (.new hp _) _ (g2.append g4)⟩
  | zl=>exact h.elim
  | bl _=>exact h.elim
  | int _=>exact h.elim
  | str _=>exact h.elim
  | yN _=>exact h.elim
  | ref _=>exact h.elim
 | yN ds=>exact lst (λ _=>nofun) h
 | ref q=>exact lst (λ _=>nofun) h
def xD (ha:PD X a ta) (hb:PD X b tb):PD X (.BinOp a .Add b pos) (yF uD ta tb):=oK (RZ.or (RY.or (RX.or (RV.or RW)))) uD.fits uD.mo ha hb
def ud.mo {g:List Bool->Bool}:vN (ud g):=λ ds S Q Q' hq h=>by
 unfold ud at h ⊢;split at h
 .exact h.elim
 .obtain⟨bs,h1,h2⟩:=h;exact⟨bs,h1,hq _ _ h2⟩
 .exact h.elim
def ud.fits {g:List Bool->Bool}:uP K (ud g) (λ xs H Q=>∃ p,∃ bs:List Bool,xs=[.ref p]/\zT K H p (bs.map V.bl)/\Q (.bl (g bs)) H):=λ xs ds H S Q h0 h2 h=>by
 unfold ud at h;split at h
 .exact h.elim
 .rename_i d hn;obtain⟨x,hx,h1⟩:=h0.one;subst hx;obtain⟨bs,e,h⟩:=h;obtain⟨a,ys,rfl,g1,g2⟩:=rS h1 h2 e (λ ts z=>hn ts z);rw[g2.bools] at g1;exact⟨a,bs,rfl,g1,h _ H (by simp only[zi]) (.refl H) h2⟩
 .exact h.elim
def R9 (hm:X.mg "all"=none) (ha:xH X (e::es) tA) (hc:X.calm=true:=by rfl) (hg:Gl X "all":=by rfl) (he:starEach (e::es) X.env=(false,eval e X.env)::starEach es X.env:=by rfl) (Au:(backTo pos (starEach es X.env)).any (·.1)=false:=by rfl):PD X (.Call (.Name "all" p) (e::es) [] pos) (xR (ud λ bs=>bs.all id) tA):=
 uU (tJ (Lj hc) hg hm boot_all ha.pa (by decide) (by decide) he Au) ud.mo ud.fits ha.mo
def R8 (hm:X.mg "any"=none) (ha:xH X (e::es) tA) (hc:X.calm=true:=by rfl) (hg:Gl X "any":=by rfl) (he:starEach (e::es) X.env=(false,eval e X.env)::starEach es X.env:=by rfl) (Au:(backTo pos (starEach es X.env)).any (·.1)=false:=by rfl):PD X (.Call (.Name "any" p) (e::es) [] pos) (xR (ud λ bs=>bs.any id) tA):=
 uU (tJ (Li hc) hg hm boot_any ha.pa (by decide) (by decide) he Au) ud.mo ud.fits ha.mo
def YK {H:Hp}{d:D}{v:V}(r:zi K H d v):decide (v=.zl)=oV d:=by
 cases d with
 | zl=>simp only[zi] at r;subst r;rfl
 | bl _=>simp only[zi] at r;subst r;rfl
 | int _=>simp only[zi] at r;subst r;rfl
 | str _=>simp only[zi] at r;subst r;rfl
 | tup _=>simp only[zi] at r;obtain⟨a,xs,rfl,_⟩:=r;rfl
 | yN _=>simp only[zi] at r;obtain⟨a,xs,rfl,_⟩:=r;rfl
 | ref _=>simp only[zi] at r;subst r;rfl
def mI (ha:PD X a ta):PD X (.UnaryOp .USub a pos) (XF ta):=by
 refine⟨fun Y S Q Q' hq h=>ha.mo Y S _ _ (λ x S1 z=>by
  cases x <;> first
   | exact hq _ _ z
   | exact z) h,PE.imp (S8 VD ha.pe) fun O H Q hu=>?_⟩
 obtain⟨Y,S,r1,r2,h⟩:=hu;refine zX.go ha.mo r1 r2 h λ x S1 v H1 h1 q1 e1 p1=>?_;cases x with
 | int i=>simp only[zi] at q1;exact⟨i,q1,h1 _ H1 (by simp only[zi]) e1 p1⟩
 | zl=>exact h1.elim
 | bl _=>exact h1.elim
 | str _=>exact h1.elim
 | tup _=>exact h1.elim
 | yN _=>exact h1.elim
 | ref _=>exact h1.elim
section
variable {N':List Str}{pick:List (Option Nat)}{scope:Scope}{tg elt iter:Expr}{ifs:List Expr}{ti:vh}{g:xZ}{tcc:yU}
def rg.mo (hi:iu ti):yt (rg pick ti g tcc te):=fun Y S Q Q' hq z=>hi Y S _ _ (λ I S1 ⟨h1,h2,h3⟩=>⟨h1,h2,λ p hp=>by
 obtain⟨W,w0,w1,w2,w3⟩:=h3 p hp;exact⟨W,w0,w1,w2,λ S2 acc a b c=>hq _ _ (w3 S2 acc a b c)⟩⟩) z
def aC (hi:iu ti) (hg:iw g) (hc:vk tcc) (he:yt te) {O:St}{H:Hp}{Q:VK}(hu:zX K (rg pick ti g tcc te) O H Q):iX pick (wX K ti) (kA K g) (wK K tcc) (zX K te) O H Q:=by
 obtain⟨Y,S,r1,r2,z⟩:=hu;refine⟨Y,S,r1,r2,hi Y S _ _ (λ I S1 hF J H1 e1 p1 rep D hD=>?_) z⟩;obtain⟨hlen,hk,hF⟩:=hF;have hS1:S1 D=none:=p1.none hD;obtain⟨W,w0,wm,wstep,wfin⟩:=hF D hS1;refine⟨λ i m O H2=>m=I.items.length-i/\i<=I.items.length/\Ext H1 H2/\xb K H2 (u0 pick Y) O/\∃ S2 acc,zR K H2 S2/\Sx S1 S2/\S2 D=some (.lst acc)/\acc.length<=i/\W i S2 acc,⟨_,rfl,AL _,.new hD _,((r1.ext e1).pick pick).ext (.new hD _),ups S1 D (.lst []),[],?_,.new hS1 _,rM,Ah _,?_⟩,?_⟩
 .exact p1.ups (.new hD _) ⟨[],yR,.nil⟩
 .exact wm 0 S1 _ [] (λ b o hb q=>by rw[sC hb];exact q) w0
 rintro i m O2 H2 ⟨rfl,hi',x2,q1,S2,acc,q2,sx,hS2,AO,hW⟩;obtain⟨g1,g2⟩:=rep i H2 S2 x2 q2 (hk S2 sx);by_cases hl:i<I.items.length
 .have hd:I.items[i]?=some I.items[i]:=by simp[hl]
  obtain⟨go,yl⟩:=g1 _ hd;refine .inr ⟨go,λ x H3 hy=>?_⟩;obtain⟨x3,p3,d3⟩:=yl x H3 hy;refine⟨_,_,S2,d3,q1.ext x3,p3,hg _ _ S2 _ _ (fun Y4 S4 z4 O4 H4 a1 a2 a3=>?_) (wstep i _ S2 acc hd sx hS2 hW)⟩;obtain⟨hle,z4⟩:=z4;refine wK.go hc a1 a3 z4 λ b S5 H5 z5 x5 p5=>vq (λ z5=>?_) (λ z5=>?_) z5
  .refine zX.go he (a1.ext x5) p5 z5 λ y S6 v H6 z6 q6 x6 p6=>?_;obtain⟨s6,hW6⟩:=z6;obtain⟨ys,h6,r6⟩:=p6 _ _ (s6 _ _ hS2);have e6:Ext H6 (upd H6 D (.lst (ys++[v]))):=.lst h6 _;have hlen2:ys.length<=i:=by rw[<- r6.length];exact AO
   refine⟨ys,I.items.length-(i+1),h6,by lia,by lia,rfl,hl,((((x2.trans x3).trans a2).trans x5).trans x6).trans e6,hle.rep ((a1.ext (x5.trans x6)).ext e6),ups S6 D (.lst (acc++[y])),acc++[y],?_,λ b o hb=>?_,rM,by simp;lia,?_⟩
   .exact p6.ups e6 ⟨_,yR,zq.ext e6 _ (r6.snoc q6)⟩
   .rw[sC (by intro q;subst q;rw[hS1] at hb;cases hb)];exact s6 _ _ (sx _ _ hb)
   .exact wm _ S6 _ _ (λ b o hb q=>by rw[sC hb];exact q) hW6
  .obtain⟨s5,hW5⟩:=z5;exact⟨I.items.length-(i+1),by lia,rfl,hl,((x2.trans x3).trans a2).trans x5,hle.rep (a1.ext x5),S5,acc,p5,sx.trans s5,s5 _ _ hS2,by lia,hW5⟩
 .have e:i=I.items.length:=by lia
  subst e;exact .inl ⟨g2 (Ah _),wfin S2 acc sx hS2 hW _ H2 (by simp only[zi]) (e1.trans x2) q2⟩
def tM (Sc:oq X N' pick scope) (hc:X.calm=true) (hi:qB X tg iter ti) (hg:∀ cl C s H fp,qC (xj X N' scope cl C s H fp) tg g) (hf:∀ cl C s H fp,ig (xj X N' scope cl C s H fp) ifs tcc) (he:∀ cl C s H fp,PD (xj X N' scope cl C s H fp) elt te)
  (hs:∀ x,foldedSetIterable iter X.env x=pure x:=by intro _;rfl):
  PD X (.ListComp elt [⟨tg,iter,ifs,0⟩] scope pos) (rg pick ti g tcc te):=
 ⟨rg.mo hi.mo,λ pins s O H Q I hu=>SK (g:=kA X.K g) (tc:=wK X.K tcc) (te:=zX X.K te) Sc hc hi.pi (λ cl C s H fp=>(hg cl C s H fp).pg) (λ cl C s H fp=>(hf cl C s H fp).pf) (λ cl C s H fp=>(he cl C s H fp).pe) hs pins s O H Q I (aC hi.mo (hg [] 0 s H []).mo (hf [] 0 s H []).mo (he [] 0 s H []).mo hu)⟩
def oH {i:Nat}{y:Str}{py BG:Pos}(Sc:oq X N' pick scope) (hc:X.calm=true) (hi:qB X tg iter ti) (hg:∀ cl C s H fp,qC (xj X N' scope cl C s H fp) tg g) (hf:∀ cl C s H fp,ig (xj X N' scope cl C s H fp) ifs tcc) (he:∀ cl C s H fp,PD (xj X N' scope cl C s H fp) elt te)
  (hN:X.N.Nodup) (hy:X.N[i]?=some y) (hx:Loc X.env.scope y)
  (Ck:swapsWith (.ListComp elt [⟨tg,iter,ifs,0⟩] scope pos) (some (.Name y py)) BG.line X.env=pure true:=by rfl)
  (Cr:X.fn y=true\/X.env.scope.names.lookup y=some .local:=by first | exact .inl rfl | exact .inr rfl | assumption)
  (hs:∀ x,foldedSetIterable iter X.env x=pure x:=by intro _;rfl):
  ui X (.Assign [.Name y py] (.ListComp elt [⟨tg,iter,ifs,0⟩] scope pos) BG) (tZ (rg pick ti g tcc te) (hName i)):=by
 refine⟨tZ.mo (rg.mo hi.mo) λ _ _ _ _ _ hq z=>hq _ _ z,λ pins s O H D I hu=>TH (g:=kA X.K g) (tc:=wK X.K tcc) (te:=zX X.K te) Sc hc hi.pi (λ cl C s H fp=>(hg cl C s H fp).pg) (λ cl C s H fp=>(hf cl C s H fp).pf) (λ cl C s H fp=>(he cl C s H fp).pe) hN hy hx Ck Cr hs pins s O H D I ?_⟩;obtain⟨Y,S,r1,r2,z⟩:=hu;refine aC hi.mo (hg [] 0 s H []).mo (hf [] 0 s H []).mo (he [] 0 s H []).mo ⟨Y,S,r1,r2,rg.mo hi.mo Y S _ _ (λ x S1 z v H1 q1 e1 p1=>?_) z⟩;exact z _ H1 ((r1.ext e1).set i q1) e1 p1
end
end
section
variable {P:Program}{w:World}{K:Ac}{mg:Str->Option Value}{base:Heap}{f:Addr}{fd:FuncData}
def Xk {R:Rk} [Lo R] {x:Str}{st:Stmt}{N ps:List Str}{k n:Nat}{g:Sm}(F:t9 K x x st f fd) (Sc:yf N ps (zF st)) (hn:n=ps.length)
  (hbody:∀ (Af:Value) (A:Around) (outer:List Env) (s:Shared) (H:Hp) (E:XK),yK k (A.deeper (envOfC x (zF st) s.heap.objs.size f Af))->
   ∃ t,uL (t_ vQ P w K mg base N x (zF st) f Af A outer s H E).qc (vH st) t/\xc R g t):uO P w K mg base vQ (k+1) f fd ps (sD K (zY R (yb N n g))):=
 NL F Sc (λ ds S Q h=>by rw[h.len,hn]) λ Af A outer s H E hr=>by
  obtain⟨t,h1,h2⟩:=hbody Af A outer s H E hr;exact⟨t,h1,λ ds S Q h=>Lq h2 h⟩
def NX {R:Rk} [Lo R] {x:Str}{st:Stmt}{N ps:List Str}{k n:Nat}{g:Sm}(F:t9 K x x st f fd) (hm:mg x=some (.ref f)) (Sc:yf N ps (zF st)) (hn:n=ps.length)
  (hb:∀ (kV doc pm:Value) (an:Option Addr) (Af ct:Value) (us:List Value),us.length=ps.length->bindArgs (PySem.W.fnOf x x (rf st) (vH st) (zF st) .none kV doc pm an Af ct) ⟨us,[]⟩=pure (ps.zip us))
  (hbody:∀ (Af:Value) (A:Around) (outer:List Env) (s:Shared) (H:Hp) (E:XK),yK k (A.deeper (envOfC x (zF st) s.heap.objs.size f Af))->
   ∃ t,uL (t_ vQ P w K mg base N x (zF st) f Af A outer s H E).qc (vH st) t/\xc R g t):FD P w K mg base x (k+1) ps (zY R (yb N n g)):=
 ⟨⟨f,fd,Xk F Sc hn hbody,hm,F.kp,F.binds hb⟩,zY.mo⟩
def OE {R:Rk} [Sr R] {F:List T->Option T}(hF:∀ ns:List Int,ns.length<=63->F [.lst (ns.map T.int)]=some (.bl true)) {H:Hp}{a:Addr}{ns:List Int}{E:XK}(hO:ij H) (hS:zT K H a (ns.map V.int)) (hl:ns.length<=63):sD K (zY R F) [.ref a] H (λ v _=>v=.bl true) E:=by
 have hFz:nF K H a (ns.map V.int):=by
  rcases hS with (h | h) | h
  .rcases hO a with z | ⟨o,xs,z⟩
   .rw[h] at z;cases z
   .rw[h] at z;cases z
  .exact .inl h
  .exact .inr h
 refine⟨[.yN (ns.map D.int)],λ _=>none,.cons ?_ .nil,(λ a o z=>nomatch z),λ _=>False,[.lst (ns.map T.int)],.bl true,nofun,.cons ?_ .nil,hF ns hl,λ d S' s r v H' rv _ _=>?_⟩
 .simp only[zi];exact⟨a,_,rfl,hFz,zq.f_ ns⟩
 .simp only[Sn];exact⟨_,.inl ⟨rfl,R_ ns⟩,uS.mpr rfl⟩
 .have:=Sr.sn r;simp only[Sn] at this;subst this;simpa only [zi] using rv
end
end L5
namespace ST
open PySem PySem.SetTable
def t6 (xs:List Nat):Prop:=xs.Pairwise (· < ·)
def dq {xs:Array Nat}{m d:Nat}(h:m<xs.size):xs.getD m d=xs[m]:=by simp[Array.getD,h]
theorem cp (xs:Array Nat) (j:Nat) (hr:t6 xs.toList):∀ (f lo hi:Nat),hi-lo<=f->lo<=hi->hi<=xs.size->(∀ i (h:i<xs.size),i<lo->xs[i]<j)->(∀ i (h:i<xs.size),hi<=i->j<=xs[i])->
  below.go xs j f lo hi<=xs.size/\(∀ i (h:i<xs.size),i<below.go xs j f lo hi->xs[i]<j)/\∀ i (h:i<xs.size),below.go xs j f lo hi<=i->j<=xs[i]
 | 0,lo,hi,h1,h2,h3,h4,h5=>by
  unfold below.go;have:lo=hi:=by lia
  subst this;exact⟨h3,h4,h5⟩
 | f+1,lo,hi,h1,h2,h3,h4,h5=>by
  unfold below.go;have wZ:∀ i k (hi:i<xs.size) (hk:k<xs.size),i<=k->xs[i]<=xs[k]:=λ i k hi hk DJ=>by
   rcases A3 i k with q | q
   .have r:=Cc.mp hr i k (by simpa using hi) (by simpa using hk) q;rw[Cb,Cb] at r;exact BF r
   .have:i=k:=by lia
    subst this;exact Ah _
  by_cases hl:lo<hi
  .rw[if_pos hl];dsimp only;have hm:(lo+hi)/2<xs.size:=by lia
   rw[dq hm];by_cases c:xs[(lo+hi)/2]<j
   .rw[if_pos c];refine cp xs j hr f _ hi (by lia) (by lia) h3 (λ i hi' Am=>?_) h5;have:=wZ i ((lo+hi)/2) hi' hm (by lia);lia
   .rw[if_neg c];refine cp xs j hr f lo _ (by lia) (by lia) (by lia) h4 (λ i hi' hge=>?_);have:=wZ ((lo+hi)/2) i hm hi' hge;lia
  .rw[if_neg hl];have:lo=hi:=by lia
   subst this;exact⟨h3,h4,h5⟩
def jX {xs:Array Nat}{j:Nat}(hr:t6 xs.toList):below xs j<=xs.size/\(∀ i (h:i<xs.size),i<below xs j->xs[i]<j)/\∀ i (h:i<xs.size),below xs j<=i->j<=xs[i]:=
 cp xs j hr xs.size 0 xs.size (by lia) (by lia) (Ah _) (λ i h q=>by lia) (λ i h q=>by lia)
def below_at {xs:Array Nat}{j i:Nat}(hr:t6 xs.toList) (h:xs[i]?=some j):below xs j=i:=by
 obtain⟨h1,h2,h3⟩:=jX (j:=j) hr;obtain⟨hi,e⟩:=Array.getElem?_eq_some_iff.mp h;have a:¬ i<below xs j:=λ q=>by have:=h2 i hi q;lia
 have b:¬ below xs j<i:=λ q=>by
  have:=h3 (below xs j) (by lia) (Ah _);have r:=Cc.mp hr (below xs j) i (by simp;lia) (by simpa using hi) q;simp at r;lia
 lia
def Lx {xs:Array Nat}{j:Nat}(hr:t6 xs.toList):(xs[below xs j]?=some j)↔j∈xs.toList:=by
 constructor
 .intro h;obtain⟨hi,e⟩:=Array.getElem?_eq_some_iff.mp h;rw[<- e];simp
 .intro h;obtain⟨i,hi,e⟩:=BQ.mp h;have hx:xs[i]?=some j:=by
   simp at hi;simp[hi] at e ⊢;exact e
  rw[below_at hr hx];exact hx
noncomputable def uI (M:Nat) (p:Probe):Probe:=
 if p.more>0 then { p with j:=p.j+1,more:=p.more-1 } else
 let (i,perturb):=leap M p.i p.perturb
 { p with j:=i,more:=runEnd M i-i,i,perturb }
def cy (t:SetTable) (p:Probe):t.advance p=uI t.mask p:=rfl
noncomputable def o7 (M i perturb:Nat):Probe:={ j:=i,more:=runEnd M i-i,i:=i,perturb:=perturb,dummy:=none }
noncomputable def way (M:Nat) (h:Int):Nat->Probe
 | 0=>o7 M (bits h%(M+1)) (bits h)
 | k+1=>uI M (way M h k)
def L9 (M:Nat) (p:Probe) (h:p.dummy=none):(uI M p).dummy=none:=by
 unfold uI;split
 .exact h
 .exact h
theorem iM (M:Nat) (h:Int):∀ k,(way M h k).dummy=none
 | 0=>rfl
 | k+1=>L9 M _ (iM M h k)
noncomputable def yg (M:Nat) (h:Int):Nat->Nat×Nat
 | 0=>(bits h%(M+1),bits h)
 | n+1=>leap M (yg M h n).1 (yg M h n).2
theorem gZ (M i pt:Nat) (h:Int) (k:Nat) (hk:way M h k=o7 M i pt):∀ m,m<=runEnd M i-i->way M h (k+m)={ j:=i+m,more:=runEnd M i-i-m,i:=i,perturb:=pt,dummy:=none }
 | 0,_=>by rw[Nat.add_zero,hk];rfl
 | m+1,hm=>by
  have ih:=gZ M i pt h k hk m (by lia);show uI M (way M h (k+m))=_;rw[ih];unfold uI;rw[if_pos (by show runEnd M i-i-m>0;lia)];simp only[Probe.mk.injEq];exact⟨by lia,by lia,trivial,trivial,trivial⟩
def U_ (M i:Nat):runEnd M i-i<=9:=by unfold runEnd;split <;> lia
def Zm (M:Nat) (h:Int) (n k:Nat) (hk:way M h k=o7 M (yg M h n).1 (yg M h n).2):way M h (k+(runEnd M (yg M h n).1-(yg M h n).1)+1)=o7 M (yg M h (n+1)).1 (yg M h (n+1)).2:=by
 have:=gZ M _ _ h k hk _ (Ah _);show uI M (way M h (k+_))=_;rw[this];unfold uI;rw[if_neg (by show ¬ _-_-(_-_)>0;lia)];rfl
theorem Zn (M:Nat) (h:Int):∀ n,∃ k,k<=10*n/\way M h k=o7 M (yg M h n).1 (yg M h n).2
 | 0=>⟨0,by lia,rfl⟩
 | n+1=>by
  obtain⟨k,h1,h2⟩:=Zn M h n;have:=U_ M (yg M h n).1;exact⟨_,by lia,Zm M h n k h2⟩
def Lu (h:Int):bits h<2 ^ 64:=by
 unfold bits;have h1:=CD h (show (2 ^ 64:Int)≠0 by decide);have h2:=DF h (show (0:Int)<2 ^ 64 by decide);lia
theorem ZG (M:Nat) (h:Int):∀ n,(yg M h n).2*32 ^ n<=bits h
 | 0=>by simp[yg]
 | n+1=>by
  have ih:=ZG M h n;show ((yg M h n).2/32)*32 ^ (n+1)<=_;have:(yg M h n).2/32*32<=(yg M h n).2:=Nat.div_mul_le_self _ _
  calc (yg M h n).2/32*32 ^ (n+1)=((yg M h n).2/32*32)*32 ^ n:=by rw[Nat.pow_succ,Dx (32 ^ n) 32,Nat.mul_assoc]
   _<=(yg M h n).2*32 ^ n:=Nat.mul_le_mul_right _ this
   _<=_:=ih
def Sz (M:Nat) (h:Int) (n:Nat) (hn:13<=n):(yg M h n).2=0:=by
 rcases Nat.eq_zero_or_pos (yg M h n).2 with q | q
 .exact q
 .have h1:=ZG M h n;have h2:=Lu h;have h3:32 ^ 13<=32 ^ n:=Nat.pow_le_pow_right (by decide) hn;have h4:1*32 ^ n<=(yg M h n).2*32 ^ n:=Nat.mul_le_mul_right _ q;have h5:(2:Nat) ^ 64<32 ^ 13:=by decide
  lia
noncomputable def sQ (M:Nat) (i:Nat):Nat->Nat
 | 0=>i
 | n+1=>(sQ M i n*5+1)%(M+1)
theorem Y5 (M:Nat) (h:Int):∀ n,(yg M h (13+n)).1=sQ M (yg M h 13).1 n
 | 0=>rfl
 | n+1=>by
  have ih:=Y5 M h n;have hz:=Sz M h (13+n) (by lia);show ((yg M h (13+n)).1*5+1+(yg M h (13+n)).2/32)%(M+1)=_;rw[hz,ih];rfl
theorem mM (M i:Nat):∀ a b,sQ M i (a+b)=sQ M (sQ M i a) b
 | a,0=>rfl
 | a,b+1=>by
  show (sQ M i (a+b)*5+1)%(M+1)=_;rw[mM M i a b];rfl
noncomputable def mL (M:Nat):Nat->Nat->List Nat
 | 0,_=>[]
 | n+1,i=>i::mL M n ((i*5+1)%(M+1))
theorem fO (M:Nat):∀ n i x,x∈mL M n i->∃ k,k<n/\sQ M i k=x
 | 0,i,x,h=>by cases h
 | n+1,i,x,h=>by
  rcases Ai.mp h with e | e
  .exact⟨0,by lia,e.symm⟩
  .obtain⟨k,h1,h2⟩:=fO M n _ x e;exact⟨k+1,by lia,by rw[Nat.add_comm,mM];exact h2⟩
def vM (M:Nat):Prop:=M=7\/M=31\/M=127
def RC (M:Nat) (hM:vM M):(∀ e,e<=M->e∈mL M (M+1) 0)/\sQ M 0 (M+1)=0:=by
 have key:∀ M,((List.range (M+1)).all λ e=>(mL M (M+1) 0).contains e)=true->∀ e,e<=M->e∈mL M (M+1) 0:=λ M h e he=>by
  have:=BA.mp h e (AA.mpr (by lia));simpa using this
 rcases hM with rfl | rfl | rfl
 .exact⟨key 7 (by decide +kernel),by decide +kernel⟩
 .exact⟨key 31 (by decide +kernel),by decide +kernel⟩
 .exact⟨key 127 (by decide +kernel),by decide +kernel⟩
def RB (M:Nat) (hM:vM M) (i e:Nat) (hi:i<=M) (he:e<=M):∃ n,n<=M/\sQ M i n=e:=by
 obtain⟨h1,h2⟩:=RC M hM;obtain⟨a,a1,a2⟩:=fO M _ _ _ (h1 i hi);obtain⟨b,b1,b2⟩:=fO M _ _ _ (h1 e he);rcases A3 b a with q | q
 .refine⟨M+1+b-a,by lia,?_⟩;rw[<- a2,<- mM,show a+(M+1+b-a)=(M+1)+b by lia,mM,h2,b2]
 .refine⟨b-a,by lia,?_⟩;rw[<- a2,<- mM,show a+(b-a)=b by lia,b2]
theorem O7 (M:Nat) (h:Int):∀ n,(yg M h n).1<=M
 | 0=>by have:=CU (bits h) (show 0<M+1 by lia);show bits h%(M+1)<=M;lia
 | n+1=>by
  have:=CU ((yg M h n).1*5+1+(yg M h n).2/32) (show 0<M+1 by lia);show (_%(M+1):Nat)<=M;lia
def Y6 (M:Nat) (hM:vM M) (h:Int) (e:Nat) (he:e<=M):∃ n,n<M+14/\(yg M h n).1=e:=by
 obtain⟨n,h1,h2⟩:=RB M hM (yg M h 13).1 e (O7 M h 13) he;exact⟨13+n,by lia,by rw[Y5,h2]⟩
def V6 (M:Nat) (hM:vM M) (h:Int) (e:Nat) (he:e<=M):∃ k,k<10*(M+15)/\(way M h k).j=e:=by
 obtain⟨n,h1,h2⟩:=Y6 M hM h e he;obtain⟨k,k1,k2⟩:=Zn M h n;exact⟨k,by lia,by rw[k2];exact h2⟩
theorem au (M:Nat) (h:Int):∀ k,(way M h k).j+(way M h k).more<=M/\(way M h k).i<=M
 | 0=>by
  have h1:bits h%(M+1)<=M:=by have:=CU (bits h) (show 0<M+1 by lia);lia
  refine⟨?_,h1⟩;show bits h%(M+1)+(runEnd M (bits h%(M+1))-bits h%(M+1))<=M;unfold runEnd;split <;> lia
 | k+1=>by
  obtain⟨h1,h2⟩:=au M h k;show (uI M (way M h k)).j+(uI M (way M h k)).more<=M/\(uI M (way M h k)).i<=M;unfold uI;split
  .rename_i c;exact⟨by show (way M h k).j+1+((way M h k).more-1)<=M;lia,h2⟩
  .have h3:((way M h k).i*5+1+(way M h k).perturb/32)%(M+1)<=M:=by have:=CU ((way M h k).i*5+1+(way M h k).perturb/32) (show 0<M+1 by lia);lia
   refine⟨?_,h3⟩;show _%(M+1)+(runEnd M (_%(M+1))-_%(M+1))<=M;unfold runEnd;split <;> lia
def iL (M:Nat) (h:Int) (k:Nat):(way M h k).j<=M:=by have:=(au M h k).1;lia
structure Tab (t:SetTable) (hs:List Int):Prop where
 mask:vM t.mask
 qv:t.dummies=#[]
 len:t.place.size=hs.length
 wZ:t6 t.place.toList
 yi:∀ j∈t.place.toList,j<=t.mask
 mC:∀ (i:Nat) h j,hs[i]?=some h->t.place[i]?=some j->∃ k,(way t.mask h k).j=j/\∀ k'<k,(way t.mask h k').j∈t.place.toList
theorem Tab.live {t:SetTable}{hs:List Int}(T:Tab t hs) {i j:Nat}(h:t.place[i]?=some j):t.slot j=.live i:=by
 unfold SetTable.slot;dsimp only;rw[below_at T.wZ h,if_pos (by rw[h];simp)]
theorem Tab.empty {t:SetTable}{hs:List Int}(T:Tab t hs) {j:Nat}(h:j∉t.place.toList):t.slot j=.empty:=by
 unfold SetTable.slot;dsimp only;have n1:¬ (t.place[below t.place j]? == some j)=true:=λ q=>h ((Lx T.wZ).mp (by simpa using q));rw[if_neg n1,if_neg (by rw[T.qv];simp[has])]
theorem Tab.at {t:SetTable}{hs:List Int}(T:Tab t hs) {j:Nat}(h:j∈t.place.toList):∃ (i:Nat) (g:Int),t.place[i]?=some j/\hs[i]?=some g:=by
 obtain⟨i,hi,e⟩:=BQ.mp h;have hi':i<t.place.size:=by simpa using hi
 refine⟨i,hs[i]'(by rw[<- T.len];exact hi'),?_,by simp⟩;rw[Bh hi'];rw[Cb] at e;rw[e]
theorem Xd {t:SetTable}{hs:List Int}(T:Tab t hs) {hashAt:Nat->Int}(hA:∀ (i:Nat) g,hs[i]?=some g->hashAt i=g) (h:Int):∀ (f k:Nat),(∃ e,k<=e/\e<k+f/\(way t.mask h e).j∉t.place.toList)->
  ∃ k1,k<=k1/\(∀ m,k<=m->m<k1->∃ (i:Nat) (g:Int),t.place[i]?=some (way t.mask h m).j/\hs[i]?=some g/\g≠h)/\
   ((way t.mask h k1).j∉t.place.toList/\probe.go t hashAt h f (way t.mask h k)=some (.empty (way t.mask h k1).j none)\/
    ∃ i,t.place[i]?=some (way t.mask h k1).j/\hs[i]?=some h/\probe.go t hashAt h f (way t.mask h k)=some (.candidate (way t.mask h k1).j i (way t.mask h (k1+1))))
 | 0,k,⟨e,h1,h2,_⟩=>by lia
 | f+1,k,⟨e,h1,h2,h3⟩=>by
  by_cases hm:(way t.mask h k).j∈t.place.toList
  .obtain⟨i,g,p1,p2⟩:=T.at hm;by_cases hg:g=h
   .refine⟨k,Ah _,λ m a b=>by lia,.inr ⟨i,p1,by rw[<- hg];exact p2,?_⟩⟩;unfold probe.go;rw[T.live p1];dsimp only;rw[hA i g p2,if_pos (by simp[hg]),cy];rfl
   .have Aj:e≠k:=λ q=>by subst q;exact h3 hm
    obtain⟨k1,q1,q2,q3⟩:=Xd T hA h f (k+1) ⟨e,by lia,by lia,h3⟩;have eq:probe.go t hashAt h (f+1) (way t.mask h k)=probe.go t hashAt h f (way t.mask h (k+1)):=by
     conv=>lhs;unfold probe.go
     rw[T.live p1];dsimp only;rw[hA i g p2,if_neg (by simp[hg]),cy];rfl
    rw[eq];refine⟨k1,by lia,λ m a b=>?_,q3⟩;rcases Nat.eq_or_lt_of_le a with w | w
    .subst w;exact⟨i,g,p1,p2,hg⟩
    .exact q2 m w b
  .refine⟨k,Ah _,λ m a b=>by lia,.inl ⟨hm,?_⟩⟩;unfold probe.go;rw[T.empty hm,iM]
def Yk {xs ys:List Nat}(hx:xs.Nodup) (h:∀ x∈xs,x∈ys):xs.length<=ys.length:=by
 induction xs generalizing ys with
 | nil=>simp
 | cons x xs ih=>
  have h1:=Be.mp hx;have hxy:=h x Al;have:=ih h1.2 (ys:=ys.erase x) λ z hz=>by
   have Aj:z≠x:=λ e=>h1.1 (e▸hz);exact (D1 Aj).mpr (h z (Av _ hz))
  rw[D0 hxy] at this;have hp:=Dw hxy;simp only[AW];lia
def least {P:Nat->Prop}(k:Nat) (h:P k):∃ m,m<=k/\P m/\∀ m'<m,¬ P m':=by
 induction k using Nat.strongRecOn with
 | ind k ih=>
  rcases Classical.em (∃ m',m'<k/\P m') with ⟨m',h1,h2⟩ | q
  .obtain⟨m,g1,g2⟩:=ih m' h1 h2;exact⟨m,by lia,g2⟩
  .exact⟨k,Ah _,h,λ m' hm hp=>q ⟨m',hm,hp⟩⟩
def NP {xs:List Nat}{M:Nat}(h:xs.length<=M):∃ e,e<=M/\e∉xs:=by
 rcases Classical.em (∃ e,e<=M/\e∉xs) with q | q
 .exact q
 .have:=Yk (xs:=List.range (M+1)) (ys:=xs) Dv λ e he=>by
   have:=AA.mp he;rcases Classical.em (e∈xs) with w | w
   .exact w
   .exact absurd ⟨e,by lia,w⟩ q
  simp at this;lia
def bf (t:SetTable) (h:Int) (j:Nat):Prop:=j∉t.place.toList/\∃ k,(way t.mask h k).j=j/\∀ k'<k,(way t.mask h k').j∈t.place.toList
def Tab.first {t:SetTable}{hs:List Int}(T:Tab t hs) (hl:hs.length<=t.mask) (h:Int):∃ K,K<10*(t.mask+15)/\(way t.mask h K).j∉t.place.toList/\∀ k'<K,(way t.mask h k').j∈t.place.toList:=by
 obtain⟨e,e1,e2⟩:=NP (xs:=t.place.toList) (M:=t.mask) (by rw[Bo,T.len];exact hl);obtain⟨k,k1,k2⟩:=V6 t.mask T.mask h e e1;obtain⟨K,q1,q2,q3⟩:=least (P:=λ n=>(way t.mask h n).j∉t.place.toList) k (by rw[k2];exact e2);exact⟨K,by lia,q2,λ k' hk=>Classical.not_not.mp (q3 k' hk)⟩
def Tc {xs:List Nat}{j p:Nat}(h:t6 xs) (h1:∀ x∈xs.take p,x<j) (h2:∀ x∈xs.drop p,j<x):t6 (xs.take p++j::xs.drop p):=by
 refine Du.mpr ⟨h.sublist (List.take_sublist _ _),Bs.mpr ⟨h2,h.sublist (List.drop_sublist _ _)⟩,λ a ha b hb=>?_⟩;rcases Ai.mp hb with e | e
 .subst e;exact h1 a ha
 .have:=h1 a ha;have:=h2 b e;lia
def YW {α:Type}{xs:List α}{p i:Nat}{x y:α}(hp:p<=xs.length) (h:(xs.take p++x::xs.drop p)[i]?=some y):(i=p/\y=x)\/(i<p/\xs[i]?=some y)\/(p<i/\xs[i-1]?=some y):=by
 have hl:(xs.take p).length=p:=by rw[CA];lia
 rcases Dt i p with q | q | q
 .rw[Ce (by lia),List.getElem?_take,if_pos q] at h;exact .inr (.inl ⟨q,h⟩)
 .subst q;rw[Cz (by lia),hl] at h;simp at h;exact .inl ⟨rfl,h.symm⟩
 .rw[Cz (by lia),hl] at h;obtain⟨d,hd⟩:∃ d,i-p=d+1:=⟨i-p-1,by lia⟩
  rw[hd] at h;simp only[DZ,List.getElem?_drop] at h;refine .inr (.inr ⟨q,?_⟩);rw[show i-1=p+d by lia];exact h
theorem Tab.put {t:SetTable}{hs:List Int}(T:Tab t hs) {h:Int}{j:Nat}(F:bf t h j):
  (t.put j).2<=hs.length/\(t.put j).1={ t with place:=insertAt t.place (t.put j).2 j }/\Tab (t.put j).1 (hs.take (t.put j).2++h::hs.drop (t.put j).2):=by
 obtain⟨b1,b2,b3⟩:=jX (xs:=t.place) (j:=j) T.wZ;obtain⟨fn,K,k1,k2⟩:=F;have e2:(t.put j).2=below t.place j:=rfl;have e1:(t.put j).1={ t with place:=insertAt t.place (t.put j).2 j }:=by
  show ({ t with place:=insertAt t.place (below t.place j) j,dummies:=_ }:SetTable)=_;rw[if_neg (by rw[T.qv];simp[has]),e2]
 have pl:(insertAt t.place (below t.place j) j).toList=t.place.toList.take (below t.place j)++j::t.place.toList.drop (below t.place j):=toList_insertAt _ _ _;have old:∀ x∈t.place.toList,x∈(insertAt t.place (below t.place j) j).toList:=λ x hx=>by
  rw[pl];have:=DY (below t.place j) t.place.toList;rw[<- this] at hx;rcases AX.mp hx with q | q
  .exact B6 _ q
  .exact AY _ (Av _ q)
 rw[e2] at e1 ⊢;refine⟨by rw[<- T.len];exact b1,e1,?_⟩;rw[e1];refine⟨T.mask,T.qv,?_,?_,?_,?_⟩
 .show (insertAt t.place (below t.place j) j).size=_;rw[<- Bo,pl];simp[T.len]
 .show t6 (insertAt t.place (below t.place j) j).toList;rw[pl];refine Tc T.wZ (λ x hx=>?_) (λ x hx=>?_)
  .obtain⟨i,hi,e⟩:=BQ.mp hx;rw[CA] at hi;rw[List.getElem_take,Cb] at e;rw[<- e];exact b2 i (by simp at hi;lia) (by lia)
  .obtain⟨i,hi,e⟩:=BQ.mp hx;rw[DD] at hi;rw[List.getElem_drop,Cb] at e;have h3:=b3 (below t.place j+i) (by simp at hi;lia) (by lia);have hm:x∈t.place.toList:=DX hx;have Aj:x≠j:=λ q=>fn (q▸hm);lia
 .intro x hx;show x<=t.mask;have hx:x∈(insertAt t.place (below t.place j) j).toList:=hx;rw[pl] at hx;rcases AX.mp hx with q | q
  .exact T.yi x (List.mem_of_mem_take q)
  .rcases Ai.mp q with e | e
   .subst e;rw[<- k1];exact iL _ _ _
   .exact T.yi x (DX e)
 .intro i g x hg hx;show ∃ k,(way t.mask g k).j=x/\∀ k'<k,(way t.mask g k').j∈(insertAt t.place (below t.place j) j).toList;have hx:(insertAt t.place (below t.place j) j)[i]?=some x:=hx;rw[<- BB,pl] at hx;have Au:below t.place j<=t.place.toList.length:=by simpa using b1
  have Ee:below t.place j<=hs.length:=by rw[<- T.len];exact b1
  rcases YW Au hx with ⟨c1,c2⟩ | ⟨c1,c2⟩ | ⟨c1,c2⟩ <;> rcases YW Ee hg with ⟨d1,d2⟩ | ⟨d1,d2⟩ | ⟨d1,d2⟩ <;> first
   | lia
   | (subst c2 d2;exact⟨K,k1,λ k' hk=>old _ (k2 k' hk)⟩)
   | (obtain⟨k,g1,g2⟩:=T.mC _ g x d2 (by rw[<- BB];exact c2)
      exact⟨k,g1,λ k' hk=>old _ (g2 k' hk)⟩)
def qE (owner:Array (Option Nat)) (j:Nat):Prop:=∃ k,owner[j]?=some (some k)
def NW {P:Nat->Bool}{n k:Nat}(h:(List.range n).find? P=some k):k<n/\P k=true/\∀ k'<k,P k'=false:=by
 obtain⟨h1,as,bs,h2,h3⟩:=List.find?_eq_some_iff_append.mp h;have hlen:as.length=k:=by
  have e:(List.range n)[as.length]?=some k:=by rw[h2];simp
  have:=(AN.mp e)
  obtain⟨q1,q2⟩:=this;rw[D2] at q2;exact q2
 have hk:k<n:=by
  have:k∈List.range n:=by rw[h2];simp
  exact AA.mp this
 refine⟨hk,h1,λ k' hk'=>?_⟩;have:k'∈as:=by
  have e:(List.range n)[k']?=some k':=DW (by lia);rw[h2,Ce (by lia)] at e;exact A7 e
 have:=h3 k' this;simpa using this
def getD_none {owner:Array (Option Nat)}{j:Nat}(h:((owner.getD j (some 0)).isNone)=true):owner[j]?=some none:=by
 unfold Array.getD at h;split at h
 .rename_i hj;have e:owner[j]=none:=by simpa using h
  rw[Bh hj,e]
 .simp at h
def Xf {owner:Array (Option Nat)}{j:Nat}(hj:j<owner.size) (h:((owner.getD j (some 0)).isNone)=false):qE owner j:=by
 unfold Array.getD at h;rw[dif_pos hj] at h;cases q:owner[j] with
 | none=>simp[q] at h
 | some k=>exact⟨k,by rw[Bh hj,q]⟩
theorem Xj (M:Nat) (owner:Array (Option Nat)) (hsz:owner.size=M+1) (h:Int):∀ (fuel n kn:Nat),way M h kn=o7 M (yg M h n).1 (yg M h n).2->(∀ q<kn,qE owner (way M h q).j)->
  (∃ n',n<=n'/\n'<n+fuel/\owner[(yg M h n').1]?=some none)->
  ∃ j q,layClean.free M owner fuel (yg M h n).1 (yg M h n).2=some j/\(way M h q).j=j/\owner[j]?=some none/\∀ q'<q,qE owner (way M h q').j
 | 0,n,kn,_,_,⟨n',h1,h2,_⟩=>by lia
 | fuel+1,n,kn,hk,ho,⟨n',h1,h2,h3⟩=>by
  have hre:runEnd M (yg M h n).1+1-(yg M h n).1=runEnd M (yg M h n).1-(yg M h n).1+1:=by unfold runEnd;split <;> lia
  have hwalk:∀ m,m<=runEnd M (yg M h n).1-(yg M h n).1->(way M h (kn+m)).j=(yg M h n).1+m:=λ m hm=>by rw[gZ M _ _ h kn hk m hm]
  unfold layClean.free;cases hf:(List.range (runEnd M (yg M h n).1+1-(yg M h n).1)).find? (λ k=>(owner.getD ((yg M h n).1+k) (some 0)).isNone) with
  | some k=>
   obtain⟨f1,f2,f3⟩:=NW hf;refine⟨_,kn+k,rfl,hwalk k (by lia),getD_none f2,λ q' hq=>?_⟩;rcases A3 q' kn with w | w
   .exact ho q' w
   .have e:(way M h q').j=(yg M h n).1+(q'-kn):=by
     have:=hwalk (q'-kn) (by lia)
     rwa [show kn+(q'-kn)=q' by lia] at this
    have hle:=iL M h q';rw[e] at hle ⊢;exact Xf (by lia) (f3 (q'-kn) (by lia))
  | none=>
   have f3:=DV.mp hf;have occ:∀ m,m<=runEnd M (yg M h n).1-(yg M h n).1->qE owner ((yg M h n).1+m):=λ m hm=>by
    have hle:=iL M h (kn+m);rw[hwalk m hm] at hle;exact Xf (by lia) (Bool.eq_false_iff.mpr (f3 m (AA.mpr (by lia))))
   have Aj:n'≠n:=λ e=>by
    subst e;obtain⟨k,hk'⟩:=occ 0 (AL _);rw[Nat.add_zero] at hk';rw[hk'] at h3;cases h3
   dsimp only;obtain⟨j,q,r1,r2⟩:=Xj M owner hsz h fuel (n+1) _ (Zm M h n kn hk) (λ q hq=>by
    rcases A3 q kn with w | w
    .exact ho q w
    .have e:=hwalk (q-kn) (by lia);rw[show kn+(q-kn)=q by lia] at e;rw[e];exact occ _ (by lia)) ⟨n',by lia,by lia,h3⟩
   exact⟨j,q,r1,r2⟩
structure Lay (M:Nat) (hs:List Int) (owner:Array (Option Nat)) (m:Nat):Prop where
 size:owner.size=M+1
 below:∀ (j k:Nat),owner[j]?=some (some k)->k<m
 each:∀ (k:Nat),k<m->∃ (j:Nat),owner[j]?=some (some k)
 once:∀ (i j k:Nat),owner[i]?=some (some k)->owner[j]?=some (some k)->i=j
 mC:∀ (j k:Nat) h,owner[j]?=some (some k)->hs[k]?=some h->∃ q,(way M h q).j=j/\∀ q'<q,qE owner (way M h q').j
theorem Lay.none {M:Nat}(hM:vM M) {hs:List Int}{owner:Array (Option Nat)}{m:Nat}(L:Lay M hs owner m) (hm:m<=M):∃ (e:Nat),e<=M/\owner[e]?=some Option.none:=by
 rcases Classical.em (∃ (e:Nat),e<=M/\owner[e]?=some Option.none) with q | q
 .exact q
 .exfalso;have Az:∀ (e:Nat),e<=M->∃ (k:Nat),owner[e]?=some (some k):=λ e he=>by
   have Am:e<owner.size:=by rw[L.size];lia
   cases w:owner[e] with
   | none=>exact absurd ⟨e,he,by rw[Bh Am,w]⟩ q
   | some k=>exact⟨k,by rw[Bh Am,w]⟩
  have:=Yk (xs:=(List.range (M+1)).map λ e=>((owner[e]?).getD Option.none).getD 0) (ys:=List.range m) (by
   refine B3.mpr (List.Pairwise.imp_of_mem ?_ Dv);intro a b ha hb Aj e;refine Aj ?_;obtain⟨k,hk⟩:=Az a (by have:=AA.mp ha;lia);obtain⟨k',hk'⟩:=Az b (by have:=AA.mp hb;lia);rw[hk,hk'] at e;simp at e;subst e;exact L.once a b k hk hk') (λ x hx=>by
   obtain⟨e,he,rfl⟩:=An.mp hx;obtain⟨k,hk⟩:=Az e (by have:=AA.mp he;lia);rw[hk];exact AA.mpr (L.below e k hk))
  simp at this;lia
def kM {α:Type}{xs:Array α}{j i:Nat}{a b:α}(h:(xs.setIfInBounds j a)[i]?=some b):(i=j/\b=a)\/(i≠j/\xs[i]?=some b):=by
 rw[Ds] at h;by_cases e:j=i
 .subst e;rw[if_pos rfl] at h;split at h
  .cases h;exact .inl ⟨rfl,rfl⟩
  .cases h
 .rw[if_neg e] at h;exact .inr ⟨λ q=>e q.symm,h⟩
def Lay.step {M:Nat}(hM:vM M) {hs:List Int}{owner:Array (Option Nat)}{m:Nat}{h:Int}(L:Lay M hs owner m) (hm:m<=M) (hh:hs[m]?=some h):
  ∃ j,layClean.free M owner (turns M) (bits h%(M+1)) (bits h)=some j/\Lay M hs (owner.setIfInBounds j (some m)) (m+1):=by
 obtain⟨e,e1,e2⟩:=L.none hM hm;obtain⟨n',n1,n2⟩:=Y6 M hM h e e1;obtain⟨j,q,r1,r2,r3,r4⟩:=Xj M owner L.size h (turns M) 0 0 rfl (λ q hq=>by lia) ⟨n',by lia,by unfold turns;lia,by rw[n2];exact e2⟩;have hj:j<owner.size:=(Array.getElem?_eq_some_iff.mp r3).1;have keep:∀ x,qE owner x->qE (owner.setIfInBounds j (some m)) x:=λ x ⟨k,hk⟩=>by
  have Aj:j≠x:=λ w=>by subst w;rw[r3] at hk;cases hk
  exact⟨k,by rw[Ds,if_neg Aj];exact hk⟩
 have self:(owner.setIfInBounds j (some m))[j]?=some (some m):=by rw[Ds,if_pos rfl,if_pos hj]
 refine⟨j,r1,⟨by simp[L.size],λ x k hx=>?_,λ k hk=>?_,λ x y k hx hy=>?_,λ x k g hx hg=>?_⟩⟩
 .rcases kM hx with ⟨_,w⟩ | ⟨_,w⟩
  .cases w;lia
  .have:=L.below x k w;lia
 .rcases A3 k m with w | w
  .obtain⟨x,hx⟩:=L.each k w;have Aj:j≠x:=λ w=>by subst w;rw[r3] at hx;cases hx
   exact⟨x,by rw[Ds,if_neg Aj];exact hx⟩
  .have:k=m:=by lia
   subst this;exact⟨j,self⟩
 .rcases kM hx with ⟨w1,w⟩ | ⟨w1,w⟩ <;> rcases kM hy with ⟨v1,v⟩ | ⟨v1,v⟩
  .omega
  .cases w;have:=L.below y _ v;lia
  .cases v;have:=L.below x _ w;lia
  .exact L.once x y k w v
 .rcases kM hx with ⟨w1,w⟩ | ⟨w1,w⟩
  .cases w;rw[hh] at hg;cases hg;subst w1;exact⟨q,r2,λ q' hq=>keep _ (r4 q' hq)⟩
  .obtain⟨q,g1,g2⟩:=L.mC x k g w hg;exact⟨q,g1,λ q' hq=>keep _ (g2 q' hq)⟩
theorem YB {M:Nat}(hM:vM M) {hs:List Int}(hl:hs.length<=M+1):∀ (rest:List Int) (owner:Array (Option Nat)) (m:Nat),m<=hs.length->hs.drop m=rest->Lay M hs owner m->
  ∃ owner',rest.foldl (λ acc h=>do
   let (owner,k) <- acc
   let j <- layClean.free M owner (turns M) (bits h%(M+1)) (bits h)
   pure (owner.setIfInBounds j (some k),k+1)) (some (owner,m))=some (owner',hs.length)/\Lay M hs owner' hs.length
 | [],owner,m,hl2,hd,L=>by
  have hm:hs.length<=m:=List.drop_eq_nil_iff.mp hd;have e:m=hs.length:=by lia
  subst e;exact⟨owner,rfl,L⟩
 | h::rest,owner,m,hl2,hd,L=>by
  have hm:hs[m]?=some h:=by
   have:=congrArg (λ l=>l[0]?) hd;simpa using this
  have Am:m<hs.length:=(AN.mp hm).1;obtain⟨j,j1,j2⟩:=L.step hM (by lia) hm;have hd':hs.drop (m+1)=rest:=by
   have:=congrArg List.tail hd;simpa using this
  obtain⟨o',h1,h2⟩:=YB hM hl rest _ (m+1) (by lia) hd' j2;refine⟨o',?_,h2⟩;rw[Dr,<- h1];show _=_;congr 1;show ((layClean.free M owner (turns M) (bits h%(M+1)) (bits h)).bind λ j=>some (owner.setIfInBounds j (some m),m+1))=_;rw[j1];rfl
def OA (M:Nat) (hs:List Int):Lay M hs (Array.replicate (M+1) Option.none) 0:=by
 have no:∀ (j k:Nat),(Array.replicate (M+1) (Option.none:Option Nat))[j]?≠some (some k):=λ j k h=>by
  rw[Array.getElem?_replicate] at h;split at h <;> cases h
 exact⟨by simp,λ j k h=>absurd h (no j k),λ k hk=>by lia,λ i j k h=>absurd h (no i k),λ j k h e=>absurd e (no j k)⟩
def OB {M:Nat}(hM:vM M) (hashes:Array Int) (hl:hashes.size<=M+1):∃ owner,layClean M hashes=some owner/\Lay M hashes.toList owner hashes.size:=by
 obtain⟨o,h1,h2⟩:=YB hM (hs:=hashes.toList) (by simpa using hl) hashes.toList _ 0 (AL _) (by simp) (OA M _);refine⟨o,?_,by simpa using h2⟩;unfold layClean;rw[<- Array.foldl_toList,h1];rfl
noncomputable def lives (M:Nat) (owner:Array (Option Nat)):List (Nat×Nat):=(List.range (M+1)).filterMap λ j=>(owner.getD j Option.none).map (j,·)
def getD_some {owner:Array (Option Nat)}{j k:Nat}:owner.getD j Option.none=some k↔owner[j]?=some (some k):=by
 unfold Array.getD;split
 .rename_i h;rw[Bh h];simp
 .rename_i h;rw[Cw (by lia)];simp
def p7 {M:Nat}{owner:Array (Option Nat)}(hs:owner.size=M+1) {j k:Nat}:(j,k)∈lives M owner↔owner[j]?=some (some k):=by
 unfold lives;rw[D4];constructor
 .rintro⟨x,hx,e⟩;obtain⟨y,e1,e2⟩:=AB e;cases e2;exact getD_some.mp e1
 .intro h;have hj:=(Array.getElem?_eq_some_iff.mp h).1;exact⟨j,AA.mpr (by lia),by rw[getD_some.mpr h];rfl⟩
def Y0 (M:Nat) (owner:Array (Option Nat)):(lives M owner).Pairwise λ a b=>a.1<b.1:=by
 unfold lives;rw[List.pairwise_filterMap];refine List.Pairwise.imp ?_ List.pairwise_lt_range;intro a b CM x hx y hy;obtain⟨_,_,e1⟩:=AB hx;obtain⟨_,_,e2⟩:=AB hy;subst e1 e2;exact CM
def YC {M:Nat}(hM:vM M) (finger moves:Nat) (led plain:Bool) (hashes:Array Int) (hl:hashes.size<=M+1):
  ∃ t order,laid M finger moves led plain hashes=some (t,order)/\t.mask=M/\t.finger=finger/\t.led=led/\t.plain=plain/\order.toList.Perm (List.range hashes.size)/\Tab t (order.toList.map λ k=>hashes.toList.getD k 0):=by
 obtain⟨owner,h1,L⟩:=OB hM hashes hl;refine⟨_,_,by unfold laid;rw[h1];rfl,rfl,rfl,rfl,rfl,?_,?_⟩
 .show ((lives M owner).map (·.2)).toArray.toList.Perm _;rw[CT];refine (DU ?_ Dv).mpr λ k=>?_
  .refine B3.mpr (List.Pairwise.imp_of_mem ?_ (Y0 M owner));intro a b ha hb CM e;have h2:=(p7 L.size (j:=a.1) (k:=a.2)).mp ha;have h3:=(p7 L.size (j:=b.1) (k:=b.2)).mp hb;have e:a.2=b.2:=e;rw[e] at h2;have:=L.once _ _ _ h2 h3;lia
  .rw[AA];constructor
   .intro h;obtain⟨⟨j,k'⟩,h2,rfl⟩:=An.mp h;exact L.below j _ ((p7 L.size).mp h2)
   .intro h;obtain⟨j,hj⟩:=L.each k h;exact An.mpr ⟨(j,k),(p7 L.size).mpr hj,rfl⟩
 .have pl:∀ x,x∈(lives M owner).map (·.1)↔qE owner x:=λ x=>by
   constructor
   .intro h;obtain⟨⟨j,k⟩,h2,rfl⟩:=An.mp h;exact⟨k,(p7 L.size).mp h2⟩
   .rintro⟨k,hk⟩;exact An.mpr ⟨(x,k),(p7 L.size).mpr hk,rfl⟩
  refine⟨hM,rfl,?_,?_,?_,?_⟩
  .show ((lives M owner).map (·.1)).toArray.size=(((lives M owner).map (·.2)).toArray.toList.map _).length;simp
  .show t6 ((lives M owner).map (·.1)).toArray.toList;rw[CT];exact B3.mpr (Y0 M owner)
  .intro x hx;show x<=M;have hx:x∈((lives M owner).map (·.1)).toArray.toList:=hx;rw[CT] at hx;obtain⟨k,hk⟩:=(pl x).mp hx;have:=(Array.getElem?_eq_some_iff.mp hk).1;rw[L.size] at this;lia
  .intro i g x hg hx;have hx:((lives M owner).map (·.1)).toArray[i]?=some x:=hx;have hg:(((lives M owner).map (·.2)).toArray.toList.map λ k=>hashes.toList.getD k 0)[i]?=some g:=hg;rw[List.getElem?_toArray,Ay] at hx;rw[CT,Ay,Ay] at hg;obtain⟨p,p1,p2⟩:=AB hx;rw[p1] at hg;simp only[Option.map_some,Option.some.injEq] at hg;obtain⟨j,k⟩:=p;cases p2;have hm:=(p7 L.size).mp (A7 p1);have hk:=L.below _ _ hm;obtain⟨q,q1,q2⟩:=L.mC _ k g hm (by rw[<- hg];simp[hk]);refine⟨q,q1,λ q' hq=>?_⟩;show _∈((lives M owner).map (·.1)).toArray.toList;rw[CT];exact (pl _).mpr (q2 q' hq)
section
variable {prog:Program}{w:World}{A:Around}{E:Value->Shared->Prop}{s:Shared}
abbrev rk (prog:Program) (w:World):HeapKind prog w (List Int):=tupleKind (intKind prog w)
def items_int {ks:List Int}{vs:List Value}(h:ItemsAre (intKind prog w) ks vs):∀ v∈vs,∃ n t,v=.int n t:=by
 induction h with
 | nil=>intro v hv;cases hv
 | cons h1 _ ih=>
  intro v hv;rcases Ai.mp hv with rfl | hv
  .obtain⟨t,e⟩:=Value.isInt_shape h1;exact⟨_,t,e⟩
  .exact ih v hv
def Yn {ks:List Int}{a:Addr}{Q:Bool->Shared->Prop}(hk:IsTupleKey (intKind prog w) s.heap ks a) (h:Q false s):wpAny (model prog w) A (ofAClassStatement 8 (.ref a)) Q E s:=by
 have hT:=hk.typeIs;obtain⟨o,items,n,ho,_,hd,hi⟩:=hk;unfold ofAClassStatement;refine Ab (zaD hT ?_);show wpAny _ _ (pure true >>= _) _ _ s;refine Ab (Ad ?_);simp only[AD,Ba,if_false];refine Ab (za9 ho hd ?_);dsimp only;refine Ab ?_;show wpAny _ _ (forIn items _ _) _ _ s;rw[<- Array.forIn_toList];refine wpAny_forIn_list _ (λ rest r s'=>r.1=none/\s'=s/\∀ v∈rest,∃ n t,v=.int n t) _ ?_ ?_ _ _ ⟨rfl,rfl,items_int hi⟩
 .rintro v rest r s' ⟨hr,rfl,Az⟩;obtain⟨m,t,rfl⟩:=Az v Al;show wpAny _ _ (pure false >>= _) _ _ _;refine Ab (Ad ?_);simp only[Ba,if_false];exact Ad ⟨rfl,rfl,λ u hu=>Az u (Av _ hu)⟩
 .rintro⟨r1,r2⟩ s' ⟨hr,rfl,_⟩;simp only at hr;subst hr;exact Ad h
def Nx {ks:List Int}{a:Addr}{Q:Bool->Shared->Prop}(hk:IsTupleKey (intKind prog w) s.heap ks a) (h:Q true s):wpAny (model prog w) A (hashByValue 8 (.ref a)) Q E s:=by
 have hT:=hk.typeIs;obtain⟨o,items,n,ho,_,hd,hi⟩:=hk;unfold hashByValue;refine Ab (wpAny_specialOf hT F.slot_tuple_hash.lookup ?_);dsimp only;refine Ab (za9 ho hd ?_);refine Ab ?_;show wpAny _ _ (forIn items _ _) _ _ s;rw[<- Array.forIn_toList];refine wpAny_forIn_list _ (λ rest r s'=>r.1=none/\s'=s/\∀ v∈rest,∃ n t,v=.int n t) _ ?_ ?_ _ _ ⟨rfl,rfl,items_int hi⟩
 .rintro v rest r s' ⟨hr,rfl,Az⟩;obtain⟨m,t,rfl⟩:=Az v Al;show wpAny _ _ (pure true >>= _) _ _ _;refine Ab (Ad ?_);simp only[AD,Ba,if_false];exact Ad ⟨rfl,rfl,λ u hu=>Az u (Av _ hu)⟩
 .rintro⟨r1,r2⟩ s' ⟨hr,rfl,_⟩;simp only at hr;subst hr;exact Ad h
def VC {ks:List Int}{b:Addr}{Q:Bool->Shared->Prop}(hk:IsTupleKey (intKind prog w) s.heap ks b) (l:List Value) (hl:∀ v∈l,∃ k c,v=.ref c/\IsTupleKey (intKind prog w) s.heap k c) (h:Q false s):
  wpAny (model prog w) A (searchCouldBeSeen (.ref b) l) Q E s:=by
 unfold searchCouldBeSeen;refine Ab ?_;refine wpAny_forIn_list _ (λ rest r s'=>r.1=none/\s'=s/\∀ v∈rest,∃ k c,v=.ref c/\IsTupleKey (intKind prog w) s.heap k c) _ ?_ ?_ _ _ ⟨rfl,rfl,hl⟩
 .rintro v rest r s' ⟨hr,rfl,Az⟩;obtain⟨k,c,rfl,hc⟩:=Az v Al;have rest':∀ u∈rest,∃ k c,u=Value.ref c/\IsTupleKey (intKind prog w) s'.heap k c:=λ u hu=>Az u (Av _ hu);dsimp only;by_cases e:(b == c||(carriedByValue (.ref b)&&carriedByValue (.ref c)))=true
  .rw[if_pos e];exact Ad ⟨rfl,rfl,rest'⟩
  .rw[if_neg e];refine Ab ((rk prog w).quiet hk ?_);simp only[AD,Ba,if_false];refine Ab ((rk prog w).quiet hc ?_);simp only[AD,Ba,if_false];refine Ab (Yn hk ?_);simp only[Ba,if_false];refine Ab (Yn hc ?_);simp only[Ba,if_false];exact Ad ⟨rfl,rfl,rest'⟩
 .rintro⟨r1,r2⟩ s' ⟨hr,rfl,_⟩;simp only at hr;subst hr;exact Ad h
structure qK (h:Heap) (es:Array (Int×Value)) (t:SetTable) (xs:List (List Int×Addr)):Prop where
 es:es.toList=xs.map λ e=>((rk prog w).hash e.1,Value.ref e.2)
 is:∀ e∈xs,IsTupleKey (intKind prog w) h e.1 e.2
 tab:Tab t (xs.map λ e=>(rk prog w).hash e.1)
 mZ:xs.length<=t.mask
theorem qK.fits {h:Heap}{es:Array (Int×Value)}{t:SetTable}{xs:List (List Int×Addr)}(X:qK (prog:=prog) (w:=w) h es t xs):t.fits es.size=true:=by
 have hl:es.size=xs.length:=by have:=congrArg List.length X.es;simpa using this
 have h1:=X.tab.len;rw[Aw] at h1;have h2:=X.mZ;unfold SetTable.fits SetTable.fill;rw[X.tab.qv,hl,h1];simp;lia
def qK.at {h:Heap}{es:Array (Int×Value)}{t:SetTable}{xs:List (List Int×Addr)}(X:qK (prog:=prog) (w:=w) h es t xs) {i:Nat}{e:List Int×Addr}(he:xs[i]?=some e):es[i]?=some ((rk prog w).hash e.1,Value.ref e.2):=by
 rw[<- BB,X.es,Ay,he];rfl
theorem Zf {a:Addr}{o:Obj}{es:Array (Int×Value)}{ep:Nat}{t:SetTable}{xs:List (List Int×Addr)}{key:List Int}{b:Addr}{Q:SetFound->Shared->Prop}
  (hu:A.units<cLine) (ho:s.heap.get? a=some o) (hd:o.data=.set es ep t) (X:qK (prog:=prog) (w:=w) s.heap es t xs) (hb:IsTupleKey (intKind prog w) s.heap key b)
  (h1:key∈xs.map (·.1)->Q (.there none) s) (h2:key∉xs.map (·.1)->∀ j,bf t ((rk prog w).hash key) j->Q (.free j false) s):
  ∀ (fuel k:Nat) (stand:Option Probe),stand.getD (t.probeStart ((rk prog w).hash key))=way t.mask ((rk prog w).hash key) k->(∀ m<k,∃ (i:Nat) (e:List Int×Addr),t.place[i]?=some (way t.mask ((rk prog w).hash key) m).j/\xs[i]?=some e/\e.1≠key)->(∃ K,k<=K/\K<k+fuel/\K<10*(t.mask+15)/\(way t.mask ((rk prog w).hash key) K).j∉t.place.toList/\∀ m<K,(way t.mask ((rk prog w).hash key) m).j∈t.place.toList)->
   wpAny (model prog w) A (setSearchFrom a (.ref b) ((rk prog w).hash key) true fuel stand) Q E s
 | 0,k,stand,_,_,⟨K,q1,q2,_⟩=>by lia
 | fuel+1,k,stand,AZ,hpast,⟨K,q1,q2,q3,q4,q5⟩=>by
  have T:=X.tab;have Ej:t.gaveWay=false:=by
   unfold SetTable.gaveWay;rcases T.mask with e | e | e <;> rw[e] <;> rfl
  unfold setSearchFrom;refine Ab (za8 ho hd X.fits ?_);dsimp only;rw[Ej];simp only[Ba,if_false];have hA:∀ (i:Nat) g,(xs.map λ e=>(rk prog w).hash e.1)[i]?=some g->((es[i]?).map (·.1)).getD 0=g:=λ i g hg=>by
   rw[Ay] at hg;obtain⟨e,e1,e2⟩:=AB hg;rw[X.at e1];exact e2
  obtain⟨k1,g1,g2,g3⟩:=Xd T (hashAt:=λ i=>((es[i]?).map (·.1)).getD 0) hA ((rk prog w).hash key) (10*turns t.mask) k ⟨K,q1,by unfold turns;lia,q4⟩;rw[AZ];have look:∀ (i:Nat) g,(xs.map λ e=>(rk prog w).hash e.1)[i]?=some g->∃ e,xs[i]?=some e/\(rk prog w).hash e.1=g:=λ i g hg=>by
   rw[Ay] at hg;obtain⟨e,e1,e2⟩:=AB hg;exact⟨e,e1,e2⟩
  have hpast':∀ m<k1,∃ (i:Nat) (e:List Int×Addr),t.place[i]?=some (way t.mask ((rk prog w).hash key) m).j/\xs[i]?=some e/\e.1≠key:=λ m hm=>by
   rcases A3 m k with c | c
   .exact hpast m c
   .obtain⟨i,g,p1,p2,p3⟩:=g2 m c hm;obtain⟨e,e1,e2⟩:=look i g p2;exact⟨i,e,p1,e1,λ q=>p3 (by rw[<- e2,q])⟩
  rcases g3 with ⟨n1,n2⟩ | ⟨i,n1,n2,n3⟩
  .have n2':t.probe _ ((rk prog w).hash key) (way t.mask ((rk prog w).hash key) k)=_:=n2;simp only[SetTable.probe] at n2' ⊢
   erw [n2]
   dsimp only;refine Ad (h2 (λ hm=>?_) _ ⟨n1,k1,rfl,λ m hm=>?_⟩)
   .obtain⟨e,he,ek⟩:=An.mp hm;obtain⟨i,hi⟩:=Dq.mp he;have hh:(xs.map λ e=>(rk prog w).hash e.1)[i]?=some ((rk prog w).hash key):=by rw[Ay,hi,<- ek];rfl
    have CI:i<t.place.size:=by rw[T.len];exact (AN.mp hh).1
    obtain⟨kk,w1,w2⟩:=T.mC i _ _ hh (Bh CI);rcases Dt kk k1 with c | c | c
    .obtain⟨i',e',p1,p2,p3⟩:=hpast' kk c;rw[w1] at p1;have:i=i':=by
      rw[<- below_at T.wZ (Bh CI),<- below_at T.wZ p1]
     subst this;rw[hi] at p2;cases p2;exact p3 ek
    .subst c;rw[w1] at n1;exact n1 (by simp)
    .exact n1 (w2 k1 c)
   .obtain⟨i',e',p1,_⟩:=hpast' m hm;exact A7 (by rw[BB];exact p1)
  .simp only[SetTable.probe]
   erw [n3]
   dsimp only;obtain⟨e,e1,e2⟩:=look i _ n2;have hes:=X.at e1;have hey:=X.is e (A7 e1);have main:wpAny (model prog w) A (holding [Value.ref e.2] (eqBool (.ref e.2) (.ref b)) >>= λ equal=>setState a >>= λ x=>match x with
     | (es',_,t')=>if (true&&equal)=true then pure (SetFound.there none) else
      match t'.sameMemory t.moves t.mask with
      | some same=>
       have jp:=λ still=>match still with
        | none=>do
         rule "set.search.anew"
         setSearchFrom a (.ref b) ((rk prog w).hash key) true fuel none
        | some i'=>if equal=true then pure (SetFound.there (some i')) else setSearchFrom a (.ref b) ((rk prog w).hash key) true fuel (some (way t.mask ((rk prog w).hash key) (k1+1)))
       match if same=true then t'.slot (way t.mask ((rk prog w).hash key) k1).j else Slot.empty with
       | .live i'=>match es'[i']? with
        | some (_,y')=>do
         let r <- isSame y' (.ref e.2)
         let still <- pure (if r=true then some i' else none)
         jp still
        | none=>do
         let still <- pure none
         jp still
       | _=>do
        let still <- pure none
        jp still
      | _=>unsupported "set.changed-during-lookup:is-the-new-block-at-the-old-address") Q E s:=by
    refine Ab (za3 ((rk prog w).eqBool hu hey hb ?_));refine Ab (za8 ho hd X.fits ?_);dsimp only;by_cases hk:e.1=key
    .rw[za2 hk];simp only[Dy,if_true];exact Ad (h1 (An.mpr ⟨e,A7 e1,hk⟩))
    .rw[za0 hk];simp only[B4,Ba,if_false];have sm:t.sameMemory t.moves t.mask=some true:=by unfold SetTable.sameMemory;simp
     rw[sm];dsimp only;rw[if_pos rfl,T.live n1];dsimp only;rw[hes];dsimp only;refine Ab (wpAny_isSame_ref_self ?_);refine Ab (Ad ?_);rw[if_pos rfl];dsimp only;have hKk:k1<K:=by
      rcases Dt K k1 with c | c | c
      .obtain⟨i',e',p1,_⟩:=hpast' K c;exact absurd (A7 (by rw[BB];exact p1)) q4
      .subst c;exact absurd (A7 (by rw[BB];exact n1)) q4
      .exact c
     refine Zf hu ho hd X hb h1 h2 fuel (k1+1) _ rfl (λ m hm=>?_) ⟨K,by lia,by lia,q3,q4,q5⟩;rcases A3 m k1 with c | c
     .exact hpast' m c
     .have:m=k1:=by lia
      subst this;exact⟨i,e,n1,e1,hk⟩
   rw[hes];by_cases hl:t.led=true
   .rw[hl];simp only[AD,Ba,if_false];exact main
   .have hl':t.led=false:=by simpa using hl
    rw[hl'];simp only[AE,if_true];refine Ab (VC hb _ (λ v hv=>?_) ?_)
    .obtain⟨p,hp,rfl⟩:=An.mp hv;rw[Array.toList_filter,AV,X.es] at hp;obtain⟨⟨e',he',rfl⟩,_⟩:=(And.intro (An.mp hp.1) hp.2)
     exact⟨e'.1,e'.2,rfl,X.is e' he'⟩
    .simp only[Ba,if_false];exact main
structure ug (prog:Program) (w:World) (h:Heap) (a:Addr) (xs:List (List Int×Addr)) (led:Bool):Prop where
 ex:∃ es ep t,h.get? a=some { cls:=.type "set",dict:=none,data:=.set es ep t }/\qK (prog:=prog) (w:=w) h es t xs/\t.led=led/\t.plain=true/\xs.length*5<t.mask*3
 nd:(xs.map (·.1)).Nodup
def iT {h h':Heap}{ks:List Int}{b a:Addr}{es:Array (Int×Value)}{ep:Nat}{t:SetTable}{c:Value}{d:Option Addr}{sl:Array (Option Value)}(x:IsTupleKey (intKind prog w) h ks b) (ho:h.get? a=some { cls:=c,dict:=d,data:=.set es ep t,slots:=sl }) (hs:Heap.SameBut a h h'):IsTupleKey (intKind prog w) h' ks b:=by
 obtain⟨o',items,n,ho',hc,hd',hi⟩:=x;have Aj:b≠a:=by
  rintro rfl;obtain rfl:o'=_:=A4 (ho'.symm.trans ho);cases hd'
 exact⟨o',items,n,(hs.2 b Aj).trans ho',hc,hd',hi⟩
def je {h:Heap}{a:Addr}{es es':Array (Int×Value)}{ep:Nat}{t t':SetTable}(ho:h.get? a=some { cls:=.type "set",dict:=none,data:=.set es ep t }):(h.update a (Obj.putSet es' t')).get? a=some { cls:=.type "set",dict:=none,data:=.set es' (ep+1) t' }:=by
 have e:Obj.putSet es' t' { cls:=.type "set",dict:=none,data:=.set es ep t }={ cls:=.type "set",dict:=none,data:=.set es' (ep+1) t' }:=putSet_of es' t' rfl;have:=zaE (Obj.putSet es' t') ho (by rw[e];rfl);rw[e] at this;exact this
theorem fB {α β:Type}(l:List α) (f:α->β) (d:β):∀ (order:List Nat),(∀ k∈order,k<l.length)->order.map (λ k=>(l.map f).getD k d)=(order.filterMap λ k=>l[k]?).map f
 | [],_=>rfl
 | k::order,h=>by
  have hk:=h k Al;have ih:=fB l f d order λ j hj=>h j (Av _ hj);rw[Aq,Cg,AH hk];dsimp only;rw[Aq,ih];congr 1;simp[hk]
def Te {a:Addr}{es:Array (Int×Value)}{ep:Nat}{t:SetTable}{xs:List (List Int×Addr)}{led:Bool}{wanted M:Nat}{Q:Unit->Shared->Prop}
  (ho:s.heap.get? a=some { cls:=.type "set",dict:=none,data:=.set es ep t }) (X:qK (prog:=prog) (w:=w) s.heap es t xs) (Bv:t.led=led) (Au:t.plain=true) (hM:vM M) (hw:sizeAbove wanted=M+1) (AG:xs.length*5<M*3) (BW:(xs.map (·.1)).Nodup)
  (h:∀ h' xs',Heap.SameBut a s.heap h'->ug prog w h' a xs' led->xs'.Perm xs->Q () { s with heap:=h' }):wpAny (model prog w) A (setRelay a wanted) Q E s:=by
 have hlen:es.size=xs.length:=by have:=congrArg List.length X.es;simpa using this
 have Ew:(es.map (·.1)).toList=xs.map λ e=>(rk prog w).hash e.1:=by rw[Array.toList_map,X.es,AQ];rfl
 have hsz:(es.map (·.1)).size=xs.length:=by rw[CY,hlen]
 obtain⟨t',order,h1,h2,h3,h4,h5,h6,h7⟩:=YC hM t.finger (t.movedTo M) t.led t.plain (es.map (·.1)) (by rw[hsz];lia);rw[hsz] at h6;have Am:∀ k∈order.toList,k<xs.length:=λ k hk=>by simpa using h6.mem_iff.mp hk
 unfold setRelay;refine Ab (za8 ho rfl X.fits ?_);dsimp only;rw[if_neg (by rw[hw];rcases hM with e | e | e <;> rw[e] <;> decide)];have hr:t.relaid (es.map (·.1)) wanted=some (t',order):=by
  unfold SetTable.relaid;rw[hw,Nat.add_sub_cancel];exact h1
 rw[hr];have BI:(order.filterMap (es[·]?)).toList=(order.toList.filterMap λ k=>xs[k]?).map λ e=>((rk prog w).hash e.1,Value.ref e.2):=by
  rw[Array.toList_filterMap,List.map_filterMap];congr 1;funext k;rw[<- BB,X.es,Ay]
 have hperm:(order.toList.filterMap λ k=>xs[k]?).Perm xs:=(h6.filterMap _).trans (by rw[List.filterMap_getElem?_range_length]);have BH:(order.filterMap (es[·]?)).size=es.size:=by
  rw[<- Bo,BI,Aw,hperm.length_eq,hlen]
 refine Ab (m:=_) ?_;show wpAny _ _ (do
  let some (t,order):=some (t',order) | unsupported "internal:set-table-without-room"
  let es':=order.filterMap (es[·]?)
  if es'.size != es.size then unsupported "internal:set-table-lost-an-element"
  pure (es',t)) _ _ _
 dsimp only;rw[if_neg (by rw[BH];simp)];refine Ad ?_;have Bp:(order.filterMap (es[·]?)).size<=sizeLine:=by
  rw[BH,hlen];have:sizeLine=16777216:=rfl;rcases hM with e | e | e <;> subst e <;> lia
 refine wpAny_storeSet_of ho rfl ?_ Bp;have sb:=Heap.SameBut.update s.heap a (Obj.putSet (order.filterMap (es[·]?)) t');refine h _ _ sb ⟨⟨_,ep+1,t',je ho,⟨BI,λ e he=>iT (X.is e (hperm.mem_iff.mp he)) ho sb,?_,?_⟩,by rw[h4];exact Bv,by rw[h5];exact Au,?_⟩,(hperm.map _).nodup_iff.mpr BW⟩ hperm
 .rw[<- fB xs (λ e=>(rk prog w).hash e.1) 0 order.toList Am,<- Ew];exact h7
 .rw[hperm.length_eq,h2];lia
 .rw[hperm.length_eq,h2];exact AG
def Zc (n:Nat) (M:Nat) (hM:vM M) (h1:n*5<M*3) (h2:M*3<=(n+1)*5) (hn:n<70):∃ M',vM M'/\sizeAbove (grown (n+1))=M' + 1/\(n+1)*5<M'*3:=by
 rcases hM with e | e | e <;> subst e
 .have:n=4:=by lia
  subst this;exact⟨31,.inr (.inl rfl),by decide +kernel,by lia⟩
 .have:n=18:=by lia
  subst this;exact⟨127,.inr (.inr rfl),by decide +kernel,by lia⟩
 .omega
def LB {a:Addr}{xs:List (List Int×Addr)}{key:List Int}{b:Addr}{led:Bool}{Q:Bool->Shared->Prop}(hu:A.units<cLine) (S:ug prog w s.heap a xs led) (hb:IsTupleKey (intKind prog w) s.heap key b) (hn:xs.length<70)
  (h:∀ h' xs' r,Heap.SameBut a s.heap h'->ug prog w h' a xs' led->(key∈xs.map (·.1)/\xs'=xs\/key∉xs.map (·.1)/\xs'.Perm (xs++[(key,b)]))->Q r { s with heap:=h' }):
  wpAny (model prog w) A (setAddHashed a (.ref b) ((rk prog w).hash key)) Q E s:=by
 obtain⟨⟨es,ep,t,ho,X,Bv,Au,AG⟩,BW⟩:=S;have hlen:es.size=xs.length:=by have:=congrArg List.length X.es;simpa using this
 unfold setAddHashed setAddHashedIn;refine za3 (Ab (za8 ho rfl X.fits ?_));dsimp only;rw[if_neg (by simp[byScan,Value.scannable])];obtain⟨K,k1,k2,k3⟩:=X.tab.first (by rw[Aw];exact X.mZ) ((rk prog w).hash key);have hmk:t.mask<=127:=by rcases X.tab.mask with e | e | e <;> lia
 refine Ab ?_;unfold setSearch;refine Zf (key:=key) (b:=b) hu ho rfl X hb (λ hm=>?_) (λ hm j F=>?_) 100000 0 none rfl (λ m hm=>by lia) ⟨K,by lia,by lia,k1,k2,k3⟩
 .dsimp only;refine Ad ?_;have:=h s.heap xs false ⟨rfl,λ _ _=>rfl⟩ ⟨⟨es,ep,t,ho,X,Bv,Au,AG⟩,BW⟩ (.inl ⟨hm,rfl⟩);exact this
 .dsimp only;refine Ab (za8 ho rfl X.fits ?_);dsimp only;obtain⟨p1,p2,p3⟩:=X.tab.put F;rw[Aw] at p1;have Co:(t.put j).1.plain=true:=by rw[p2];exact Au
  have BX:(t.put j).1.mask=t.mask:=by rw[p2]
  have Am:(t.put j).1.led=led:=by rw[p2];exact Bv
  generalize hT:(t.put j)=P at *;obtain⟨t1,p⟩:=P;dsimp only at *;rw[Co];simp only[if_true];refine Ab (Nx hb ?_);simp only[if_true]
  let xs1:=xs.take p++(key,b)::xs.drop p
  have hperm:xs1.Perm (xs++[(key,b)]):=by
   have e:xs.take p++xs.drop p=xs:=DY p xs;have:xs1.Perm ((key,b)::(xs.take p++xs.drop p)):=List.perm_middle;rw[e] at this;exact this.trans (List.perm_append_singleton _ _).symm
  have hl1:xs1.length=xs.length+1:=by rw[hperm.length_eq];simp
  have hes1:(insertAt es p ((rk prog w).hash key,Value.ref b)).toList=xs1.map λ e=>((rk prog w).hash e.1,Value.ref e.2):=by
   rw[toList_insertAt,X.es];simp[xs1,CS,CQ]
  have hsz1:(insertAt es p ((rk prog w).hash key,Value.ref b)).size=xs.length+1:=by rw[<- Bo,hes1,Aw,hl1]
  have Bp:(insertAt es p ((rk prog w).hash key,Value.ref b)).size<=sizeLine:=by
   rw[hsz1];have:sizeLine=16777216:=rfl;lia
  refine Ab (wpAny_storeSet_of ho rfl ?_ Bp);have sb:=Heap.SameBut.update s.heap a (Obj.putSet (insertAt es p ((rk prog w).hash key,Value.ref b)) t1);have ho1:=je (es':=insertAt es p ((rk prog w).hash key,Value.ref b)) (t':=t1) ho;have hm7:7<=t.mask:=by rcases X.tab.mask with e | e | e <;> lia
  have X1:qK (prog:=prog) (w:=w) (s.heap.update a (Obj.putSet (insertAt es p ((rk prog w).hash key,Value.ref b)) t1)) (insertAt es p ((rk prog w).hash key,Value.ref b)) t1 xs1:=by
   refine⟨hes1,λ e he=>?_,?_,by rw[hl1,BX];lia⟩
   .rcases AX.mp (hperm.mem_iff.mp he) with q | q
    .exact iT (X.is e q) ho sb
    .cases AR.mp q;exact iT hb ho sb
   .have:xs1.map (λ e=>(rk prog w).hash e.1)=(xs.map λ e=>(rk prog w).hash e.1).take p++(rk prog w).hash key::(xs.map λ e=>(rk prog w).hash e.1).drop p:=by simp[xs1,CS,CQ]
    rw[this];exact p3
  have hnd1:(xs1.map (·.1)).Nodup:=by
   refine (hperm.map _).nodup_iff.mpr ?_;rw[Bm,DT];refine⟨BW,by simp,λ x hx y hy=>?_⟩;simp at hy;subst hy;exact λ e=>hm (e▸hx)
  by_cases hf:t1.tooFull=true
  .rw[hf];simp only[AE,Dy,if_true];have hfill:t1.fill=xs.length+1:=by
    unfold SetTable.fill;rw[p3.qv,p3.len];simp;lia
   have hfull:t.mask*3<=(xs.length+1)*5:=by
    have:=hf;unfold SetTable.tooFull at this;rw[hfill,BX] at this;simpa using this
   obtain⟨M',g1,g2,g3⟩:=Zc xs.length t.mask X.tab.mask AG hfull hn;rw[hlen];refine Ab (Te (led:=led) ho1 X1 Am Co g1 g2 (by rw[hl1];exact g3) hnd1 λ h' xs' sb' S' pm=>?_);refine Ad ?_;exact h h' xs' true (sb.trans sb') S' (.inr ⟨hm,pm.trans hperm⟩)
  .have hf':t1.tooFull=false:=by simpa using hf
   rw[hf'];simp only[AE,B4,Ba,if_false];refine Ad ?_;have hfill:t1.fill=xs.length+1:=by
    unfold SetTable.fill;rw[p3.qv,p3.len];simp;lia
   have hfull:(xs.length+1)*5<t.mask*3:=by
    have:=hf';unfold SetTable.tooFull at this;rw[hfill,BX] at this;simpa using this
   exact h _ xs1 true sb ⟨⟨_,ep+1,t1,ho1,X1,Am,Co,by rw[hl1,BX];exact hfull⟩,hnd1⟩ (.inr ⟨hm,hperm⟩)
end
noncomputable def vY (w:World):Bool:=!w.params.followText "set-order"
def xp (w:World):Obj:={ cls:=.type "set",dict:=none,data:=.set #[] 0 (.fresh 0 0 (vY w)) }
section
variable {prog:Program}{w:World}{A:Around}{E:Value->Shared->Prop}{s:Shared}
set_option maxHeartbeats 3200000 in
def XZ (a:Value) {Q:Value->Shared->Prop}(h:Q (.ref s.heap.objs.size) { s with heap:=s.heap.push (xp w) }):
  codeAny (model prog w) A (.call (.builtin "set.__new__") ⟨[.type "set",a],[]⟩) (wants Q E) s:=by
 refine codeAny_of_tree ?_;show wpAny _ A.in1 (checkBuiltinCall "set.__new__" ⟨[.type "set",a],[]⟩ >>= λ _=>again (.builtin "set.__new__" ⟨[.type "set",a],[]⟩)) _ _ s;refine Ab (wpAny_of_eq (F.newCall_set_1 a) (Ad ⟨plainId_quiet F.plain_set_new _,codeAny_builtin F.entry_set_new ?_⟩));rw[Around.under_plainId F.plain_set_new _];unfold Builtin.«set.__new__» Builtin.Frozenset.newClass newSet setsByText;have sub:=sub_set_self;obtain⟨hp,g,d,tk,os⟩:=s;dsimp only
 wp_walk
 refine zaH (Ad ?_);dsimp only;simp only[newObj];exact Ab (wpAny_alloc (Ad (Ad h)))
def UD {h:Heap}{a:Addr}(ho:h.get? a=some (xp w)):ug prog w h a [] (vY w):=
 ⟨⟨#[],0,_,ho,⟨rfl,λ e he=>(by cases he),⟨.inl rfl,rfl,rfl,.nil,λ j hj=>(by cases hj),λ i g j hg=>(by cases hg)⟩,by simp⟩,rfl,rfl,by show 0*5<7*3;lia⟩,.nil⟩
end
end ST
namespace ST
open PySem PySem.SetTable PyProof.Rows
structure Up (its:Array Value) (rows:List (List Int)) (i:Nat) (xs:List (List Int×Addr)):Prop where
 own:∀ e∈xs,∃ j,j<i/\its[j]?=some (.ref e.2)/\rows[j]?=some e.1
 all:∀ (j:Nat) r,j<i->rows[j]?=some r->r∈xs.map (·.1)
def Up.len {its:Array Value}{rows:List (List Int)}{i:Nat}{xs:List (List Int×Addr)}(U:Up its rows i xs) (nd:(xs.map (·.1)).Nodup):xs.length<=i:=by
 have:∀ x∈xs.map (·.1),x∈(List.range i).map λ j=>rows.getD j []:=λ x hx=>by
  obtain⟨e,he,rfl⟩:=An.mp hx;obtain⟨j,h1,_,h3⟩:=U.own e he;refine An.mpr ⟨j,AA.mpr h1,?_⟩;rw[AI,h3];rfl
 have key:∀ (l m:List (List Int)),l.Nodup->(∀ x∈l,x∈m)->l.length<=m.length:=by
  intro l
  induction l with
  | nil=>intro m _ _;exact AL _
  | cons x l ih=>
   intro m hn hs;have h1:=Be.mp hn;have hx:=hs x Al;have:=ih (m.erase x) h1.2 λ z hz=>(D1 (λ e:z=x=>h1.1 (by rw[<- e];exact hz))).mpr (hs z (Av _ hz));rw[D0 hx] at this;have:=Dw hx;simp only[AW];lia
 have:=key _ _ nd this;simpa using this
def Up.step {its:Array Value}{rows:List (List Int)}{i:Nat}{xs xs':List (List Int×Addr)}{key:List Int}{b:Addr}(U:Up its rows i xs) (hi:its[i]?=some (.ref b)) (hr:rows[i]?=some key)
  (h:key∈xs.map (·.1)/\xs'=xs\/key∉xs.map (·.1)/\xs'.Perm (xs++[(key,b)])):Up its rows (i+1) xs':=by
 rcases h with ⟨hm,rfl⟩ | ⟨_,hp⟩
 .refine⟨λ e he=>?_,λ j r hj Bi=>?_⟩
  .obtain⟨j,h1,h2⟩:=U.own e he;exact⟨j,by lia,h2⟩
  .rcases A3 j i with q | q
   .exact U.all j r q Bi
   .have:j=i:=by lia
    subst this;rw[hr] at Bi;cases Bi;exact hm
 .refine⟨λ e he=>?_,λ j r hj Bi=>?_⟩
  .rcases AX.mp (hp.mem_iff.mp he) with q | q
   .obtain⟨j,h1,h2⟩:=U.own e q;exact⟨j,by lia,h2⟩
   .cases AR.mp q;exact⟨i,by lia,hi,hr⟩
  .have hp':=hp.map (·.1);rw[hp'.mem_iff,Bm];rcases A3 j i with q | q
   .exact B6 _ (U.all j r q Bi)
   .have:j=i:=by lia
    subst this;rw[hr] at Bi;cases Bi;exact AY _ Al
section
variable {prog:Program}{w:World}{A:Around}{R:Result->Shared->Prop}{I:Addr}{fp wr:List Addr}{G:Array GenState->Array GenState->Prop}{n:Nat}{P:Nat->Value->Prop}{St:Nat->Shared->Prop}
def pU (prog:Program) (w:World) (h:Heap) (its:Array Value) (rows:List (List Int)):Prop:=∀ (i:Nat) v,its[i]?=some v->∃ b r,v=.ref b/\rows[i]?=some r/\IsTupleKey (intKind prog w) h r b
def pU.at {h h':Heap}{its:Array Value}{rows:List (List Int)}(T:pU prog w h its rows) (k:∀ (i:Nat) b,its[i]?=some (.ref b)->∀ o,h.get? b=some o->h'.get? b=some o):pU prog w h' its rows:=λ i v hv=>by
 obtain⟨b,r,rfl,h1,o,items,m,h2,h3⟩:=T i v hv;exact⟨b,r,rfl,h1,o,items,m,k i b hv o h2,h3⟩
def Ox (W:WalksS prog w A.in1 I fp wr G n (λ i v=>P i v) St) (Sa:Addr) (hSf:Sa∉fp) {its:Array Value}{rows:List (List Int)}(hP:∀ i v,P i v->its[i]?=some v) (hn:n<70) (hu:A.units+1<cLine) (led:Bool)
  (BV:∀ (i:Nat) b,its[i]?=some (.ref b)->b∉Sa::wr):∀ (k i:Nat) (s:Shared) (xs:List (List Int×Addr)),n-i=k->i<=n->St i s->ug prog w s.heap Sa xs led->pU prog w s.heap its rows->Up its rows i xs->
   (∀ s' xs',Moved (Sa::wr) G s s'->ug prog w s'.heap Sa xs' led->Up its rows n xs'->R (.ok (.ret .none)) s')->
   codeAny (model prog w) A (.builtin "set.update.loop" ⟨[.ref Sa,.ref I],[]⟩) R s:=by
 have hSw:Sa∉wr:=λ z=>hSf (W.sub _ z);have more:∀ b∈wr,b∈Sa::wr:=λ b hb=>Av _ hb;have keepS:∀ {s s':Shared}{xs:List (List Int×Addr)}{wr':List Addr},Sa∉wr'->(∀ e∈xs,e.2∉wr')->Moved wr' G s s'->ug prog w s.heap Sa xs led->ug prog w s'.heap Sa xs led:=λ{s s' xs wr'} h1 h2 hm ⟨⟨es,ep,t,ho,X,r1,r2,r3⟩,nd⟩=>
  ⟨⟨es,ep,t,hm.heap Sa _ h1 ho,⟨X.es,λ e he=>by
   obtain⟨o,items,m,g1,g2⟩:=X.is e he;exact⟨o,items,m,hm.heap _ _ (h2 e he) g1,g2⟩,X.tab,X.mZ⟩,r1,r2,r3⟩,nd⟩
 intro k
 induction k with
 | zero=>
  intro i s xs hk hi AZ hS hT hU hR;have e:i=n:=by lia
  subst e;refine codeAny_builtin F.entry_set_update_loop ?_;rw[Around.under_plainId F.plain_set_update_loop _];show wpAny _ A.in1 (pyNext (.ref I) >>= _) _ _ s;refine Ab (W.done s _ _ AZ λ s' hm=>?_);refine Ad (hR s' xs (hm.mono more) (keepS hSw (λ e he=>?_) hm hS) hU);obtain⟨j,_,h2,_⟩:=hU.own e he;exact λ z=>BV j e.2 h2 (more _ z)
 | succ k ih=>
  intro i s xs hk hi AZ hS hT hU hR;have Am:i<n:=by lia
  refine codeAny_builtin F.entry_set_update_loop ?_;rw[Around.under_plainId F.plain_set_update_loop _];show wpAny _ A.in1 (pyNext (.ref I) >>= _) _ _ s;refine Ab (W.item i s _ _ Am AZ λ v s1 hPv hst1 hm=>?_);have hv:=hP i v hPv;have T1:pU prog w s1.heap its rows:=hT.at λ j b hj o e=>hm.heap b o (λ z=>BV j b hj (more _ z)) e;obtain⟨b,r,rfl,hr,hb⟩:=T1 i v hv;have S1:ug prog w s1.heap Sa xs led:=keepS hSw (λ e he=>by
   obtain⟨j,_,h2,_⟩:=hU.own e he;exact λ z=>BV j e.2 h2 (more _ z)) hm hS
  have hl:xs.length<70:=by have:=hU.len hS.nd;lia
  show wpAny _ A.in1 (holding [Value.ref b] (setAdd Sa (.ref b)) >>= _) _ _ s1;refine Ab (za3 ?_);unfold setAdd;refine za3 (Ab ((rk prog w).pyHash (k:=r) (a:=b) (A:=A.in1) hu hb ?_));refine LB (s:={ s1 with toks:=s1.toks+(rk prog w).draws r }) (A:=A.in1) hu S1 hb hl λ h' xs' rr sb S' hx=>?_;have fr:=W.frame (i+1) s1 h' (s1.toks+(rk prog w).draws r) hst1 (B2 _ _) λ c hc o e=>(sb.2 c (λ z:c=Sa=>hSf (z▸hc))).trans e;refine Ad ⟨plainId_quiet F.plain_set_update_loop _,ih (i+1) _ xs' (by lia) Am fr S' (T1.at λ j c hj o e=>?_) (hU.step hv hr hx) λ s2 xs2 hm2 S2 U2=>?_⟩
  .exact (sb.2 c (λ z=>BV j c hj (z▸Al))).trans e
  .refine hR s2 xs2 (Moved.trans W.gtrans ((hm.mono more).then_heap (B2 _ _) λ c o hc e=>?_) hm2) S2 U2;exact (sb.2 c (λ z=>hc (z▸Al))).trans e
end
section
variable {prog:Program}{w:World}{A:Around}{E:Value->Shared->Prop}{s:Shared}
set_option maxHeartbeats 6400000 in
def MV {l:Addr}{its:Array Value}{rows:List (List Int)}{Q:Value->Shared->Prop}(hh:A.handled=none) (hu:A.units+64<cLine) (hl:s.heap.IsList l its) (hT:pU prog w s.heap its rows) (hn:its.size<70)
  (h:∀ (h':Heap) (tk:Nat) xs,ug prog w h' s.heap.objs.size xs (vY w)->Up its rows its.size xs->(∀ b o,b<s.heap.objs.size->s.heap.get? b=some o->h'.get? b=some o)->Q (.ref s.heap.objs.size) { s with heap:=h',toks:=tk }):
  wpAny (model prog w) A (call (.type "set") [.ref l]) Q E s:=by
 obtain⟨c,tl,El⟩:=F.called_set.mro;have made:=F.called_set.made;have subm:=F.called_set.sub;refine wpAny_call (codeAny_of_tree ?_);show wpAny _ _ (callAny (.type "set") _) _ _ _;refine Ad ⟨Code.quiet_builtin _ (by decide +kernel),codeAny_builtin F.entry_type_call ?_⟩;rw[Around.under_plain (weight_type_call_type "set" [.ref l] []) rfl];have nt:=F.called_set.notType;have cc:=F.called_set.canCreate;have tc:=F.typeCall_set_1 (.ref l)
 repeat (any_goals (first | assumption | wp_step))
 refine codeAny_mono (XZ (.ref l) (E:=E) (Q:=λ obj s₁=>obj=.ref s.heap.objs.size/\s₁={ s with heap:=s.heap.push (xp w) }) ⟨rfl,rfl⟩) λ r s₁ hr=>?_;cases r with
 | error e=>exact hr
 | ok fl=>
  cases fl with
  | ret obj=>
   obtain⟨rfl,rfl⟩:=hr;have hS:(s.heap.push (xp w)).get? s.heap.objs.size=some (xp w):=AF _ rfl;have hTy:Shared.TypeIs { s with heap:=s.heap.push (xp w) } (.ref s.heap.objs.size) "set":=⟨_,hS,rfl⟩
   have li:=F.called_set.init.lookup;have bi:=F.called_set.init.bind (.ref s.heap.objs.size)
   repeat (any_goals (first | assumption | wp_step))
   let s1:Shared:={ s with heap:=s.heap.push (xp w) }
   refine codeAny_mono (codeAny_call_builtin (R:=wants (λ r s₂=>r=.none/\∃ h' tk xs,s₂={ s with heap:=h',toks:=tk }/\ug prog w h' s.heap.objs.size xs (vY w)/\Up its rows its.size xs/\
     ∀ b o,b<s.heap.objs.size->s.heap.get? b=some o->h'.get? b=some o) E) F.called_set.init.plain F.entry_set_init (check_set_init_1 hTy ?_)) λ r₂ s₂ hr₂=>?_
   .obtain⟨⟨ocls,odict,odata,oslots⟩,C8,AJ,nl,BZ⟩:=id hl;simp only at AJ BZ;subst AJ BZ;have hol1:(s.heap.push (xp w)).get? l=some { cls:=.type "list",dict:=odict,data:=.seq its nl,slots:=oslots }:=Ao _ C8;have sls:=F.sub_list_set;have slf:=F.sub_list_frozenset;have nd:(Value.type "list" == Value.type "dict")=false:=by decide
    have hl1:(s.heap.push (xp w)).IsList l its:=⟨_,hol1,rfl,nl,rfl⟩
    unfold Builtin.«set.__init__» noKeywords Builtin.Frozenset.updateFrom;generalize hPI:pyIter=PI;unfold xp at *
    wp_walk
    subst hPI;refine zaF hl1 (Ab (wpAny_runValue ?_));have hlS:l<s.heap.objs.size:=Ap C8;have hsz:(s.heap.push (xp w)).objs.size=s.heap.objs.size+1:=Heap.size_push _ _;have hneI:l≠(s.heap.push (xp w)).objs.size:=by rw[hsz];exact Ax (Bx hlS)
    have szne:s.heap.objs.size≠(s.heap.push (xp w)).objs.size:=by rw[hsz];exact Ax (Cj _)
    have low:∀ b:Addr,b<s.heap.objs.size->b≠(s.heap.push (xp w)).objs.size:=λ b hb=>by rw[hsz];exact Ax (Bx hb)
    have tin:∀ (i:Nat) b,its[i]?=some (.ref b)->b<s.heap.objs.size:=λ i b hb=>by
     obtain⟨b',r,e,_,o,_,_,ho,_⟩:=hT i _ hb;cases e;exact Ap ho
    refine Ox (A:=A.in1.in1) (P:=λ i v=>its[i]?=some v) ((Walks.list (A:=A.in1.in1.in1) (by simp[hh]) _ l hneI its).toS) s.heap.objs.size ?_ (its:=its) (rows:=rows) (λ _ _ q=>q) hn (show A.units+1+1+1<cLine by lia) (vY w) ?_ its.size 0 _ [] (by lia) (AL _)
     ⟨⟨_,AF _ rfl,rfl,rfl⟩,hl1.push _⟩ (UD (w:=w) (Ao _ hS)) (hT.at λ i b _ o e=>Ao _ (Ao _ e)) ⟨λ e he=>(by cases he),λ j r hj=>(by lia)⟩ ?_
    .intro hm;rcases Ai.mp hm with q | q
     .exact szne q
     .exact BR hlS (AR.mp q)
    .intro i b hb hm;have Am:=tin i b hb;rcases Ai.mp hm with q | q
     .exact Ax Am q
     .exact low b Am (AR.mp q)
    .intro s' xs' hm S' U';obtain⟨h',g',d',tk',os'⟩:=s';obtain rfl:g'=s.gens:=hm.gens;obtain rfl:d'=s.drawn:=hm.drawn;obtain rfl:os'=s.os:=hm.os;refine Ad (Ad ⟨rfl,h',tk',xs',rfl,S',U',λ b o hb e=>?_⟩);refine hm.heap b o (λ q=>?_) (Ao _ (Ao _ e));rcases Ai.mp q with q | q
     .exact Ax hb q
     .exact low b hb (AR.mp q)
   .cases r₂ with
    | error e=>exact hr₂
    | ok fl₂=>
     cases fl₂ with
     | ret r=>
      obtain⟨rfl,h',tk,xs,rfl,g1,g2,g3⟩:=hr₂
      repeat (any_goals (first | assumption | wp_step))
      exact h h' tk xs g1 g2 g3
     | _=>exact hr₂.elim
  | _=>exact hr.elim
end
end ST
namespace ST
open PySem PySem.SetTable
section facts
def ZT:Manifest.owners.lookup (String.ofList ['r','o','t','a','r','e','t','i','_','t','e','s'].reverse)=some Manifest.sig_set_iterator:=by kernel_rfl
def o5:Slot "set_iterator" "__next__" "set_iterator.__next__":=
 .of (owner:="set_iterator") (n:="__next__") (by rw[typeLookup_type,builtinLookup_eq_fast];kernel_rfl) (by decide +kernel) (by decide +kernel) (by decide +kernel) (by first | exact .inl (by decide +kernel) | exact .inr (by decide +kernel)) (by rw[isSubtype_type];kernel_rfl)
def Xv:entryFor table "set_iterator.__next__"=some Builtin.«set_iterator.__next__»:=entryFor_of_tree (by kernel_rfl)
def Ww (a:Value):argsOk "set_iterator.__next__" ⟨[a],[]⟩:=by
 unfold argsOk;rw[signature?_of (id:="set_iterator.__next__") (n:=['_','_','t','x','e','n','_','_']) (o:=['r','o','t','a','r','e','t','i','_','t','e','s']) (by kernel_rfl) ZT]
 kernel_rfl
def Mi:entryFor table "set.__iter__"=some Builtin.«frozenset.__iter__»:=entryFor_alias (id':="frozenset.__iter__") (by kernel_rfl) rfl (by decide +kernel) (by kernel_rfl)
def Zb:Slot "set_iterator" "__iter__" "set_iterator.__iter__":=
 .of (owner:="set_iterator") (n:="__iter__") (by rw[typeLookup_type,builtinLookup_eq_fast];kernel_rfl) (by decide +kernel) (by decide +kernel) (by decide +kernel) (by first | exact .inl (by decide +kernel) | exact .inr (by decide +kernel)) (by rw[isSubtype_type];kernel_rfl)
def Mh:entryFor table "set_iterator.__iter__"=some Builtin.«dict_keyiterator.__iter__»:=entryFor_alias (id':="dict_keyiterator.__iter__") (by kernel_rfl) rfl (by decide +kernel) (by kernel_rfl)
def Lz (a:Value):argsOk "set_iterator.__iter__" ⟨[a],[]⟩:=by
 unfold argsOk;rw[signature?_of (id:="set_iterator.__iter__") (n:=['_','_','r','e','t','i','_','_']) (o:=['r','o','t','a','r','e','t','i','_','t','e','s']) (by kernel_rfl) ZT]
 kernel_rfl
end facts
theorem Xs {α:Type}:∀ (l:List α) (i:Nat) (x:α),l[i]?=some x->l.Perm (x::l.eraseIdx i)
 | [],i,x,h=>by simp at h
 | y::l,0,x,h=>by simp at h;subst h;simp
 | y::l,i+1,x,h=>by
  have ih:=Xs l i x (by simpa using h);rw[List.eraseIdx_cons_succ];exact (ih.cons y).trans (.swap x y _)
theorem ZC {α:Type}(next:Nat->Nat):∀ (f k:Nat) (left:List α) (out:Array α),left.length=f->(pickOrder.go next f k left out).toList.Perm (out.toList++left)
 | 0,k,left,out,h=>by
  cases left with
  | nil=>unfold pickOrder.go;simp
  | cons _ _=>simp at h
 | f+1,k,left,out,h=>by
  unfold pickOrder.go;have Am:next k%left.length<left.length:=CU _ (by lia);rw[AH Am];dsimp only;refine (ZC next f (k+1) _ _ (by rw[List.length_eraseIdx_of_lt Am];lia)).trans ?_;rw[Array.toList_push,DS];exact (Xs left _ _ (AH Am)).symm.append_left _
def Sd {α:Type}(next:Nat->Nat) (xs:Array α):(pickOrder next xs).toList.Perm xs.toList:=by
 unfold pickOrder;simpa using ZC next xs.size 0 xs.toList #[] (by simp)
noncomputable def comes (w:World) (a:Addr) (es:Array (Int×Value)) (ep:Nat):Array (Int×Value):=if w.params.followText "set-order"=true then pickOrder (w.params.setOrder a ep) es else es
def nq (w:World) (a:Addr) (es:Array (Int×Value)) (ep:Nat):(comes w a es ep).toList.Perm es.toList:=by
 unfold comes;split
 .exact Sd _ _
 .exact .refl _
noncomputable def qk (a:Addr) (slot i n ep:Nat):Obj:={ cls:=.type "set_iterator",data:=.fields #[rawInt slot,rawInt i,.ref a,rawInt n,rawInt ep] }
noncomputable def slotAt (t:SetTable):Nat->Nat
 | 0=>0
 | i+1=>t.place.getD i 0+1
theorem Lv {t:SetTable}(hr:t6 t.place.toList):∀ i,i<=t.place.size->below t.place (slotAt t i)=i
 | 0,_=>by
  obtain⟨h1,h2,h3⟩:=jX (xs:=t.place) (j:=0) hr;rcases Nat.eq_zero_or_pos (below t.place 0) with q | q
  .exact q
  .have:=h2 0 (by lia) q;lia
 | i+1,hi=>by
  have hd:t.place.getD i 0=t.place[i]:=dq (by lia);show below t.place (t.place.getD i 0+1)=i+1;rw[hd];obtain⟨h1,h2,h3⟩:=jX (xs:=t.place) (j:=t.place[i] + 1) hr;have wZ:∀ a b (ha:a<t.place.size) (hb:b<t.place.size),a<b->t.place[a]<t.place[b]:=λ a b ha hb CM=>by
   have r:=Cc.mp hr a b (by simpa using ha) (by simpa using hb) CM;rw[Cb,Cb] at r;exact r
  rcases Dt (below t.place (t.place[i] + 1)) (i+1) with q | q | q
  .have:=h3 i (by lia) (by lia);lia
  .exact q
  .have a:=h2 (i+1) (by lia) q;have b:=wZ i (i+1) (by lia) (by lia) (by lia);lia
structure vj (w:World) (h:Heap) (a:Addr) (es:Array (Int×Value)) (ep:Nat) (t:SetTable):Prop where
 get:h.get? a=some { cls:=.type "set",dict:=none,data:=.set es ep t }
 fits:t.fits es.size=true
 wZ:t6 t.place.toList
 led:t.led=vY w
 plain:t.plain=true
theorem vj.size {w:World}{h:Heap}{a:Addr}{es:Array (Int×Value)}{ep:Nat}{t:SetTable}(S:vj w h a es ep t):t.place.size=es.size:=by
 have:=S.fits;simp only[SetTable.fits,BO,beq_iff_eq] at this;exact this.1
section
variable {prog:Program}{w:World}{A:Around}{E:Value->Shared->Prop}{s:Shared}
def Yo {a:Addr}{es:Array (Int×Value)}{ep:Nat}{t:SetTable}{i:Nat}{Q:Option (Value×Nat)->Shared->Prop}(S:vj w s.heap a es ep t) (hi:i<=es.size) (slot:Nat) (hs:w.params.followText "set-order"=false->slot=slotAt t i)
  (h:∀ slot',(w.params.followText "set-order"=false->slot'=slotAt t (i+1))->Q ((comes w a es ep)[i]?.map λ e=>(e.2,slot')) s):wpAny (model prog w) A (setNext a slot i ep) Q E s:=by
 unfold setNext setsByText;refine Ab (za8 S.get rfl S.fits ?_);dsimp only;refine Ab (Ab (zaH (Ad ?_)));show wpAny _ A (if w.params.followText "set-order"=true then _ else _) Q E s;cases hb:w.params.followText "set-order" with
 | true=>
  rw[if_pos rfl,if_neg (by simp)];unfold setWalk setsByText;refine Ab (Ab (za8 S.get rfl S.fits ?_));dsimp only;refine Ab (Ab (zaH (Ad ?_)));show wpAny _ A (if w.params.followText "set-order"=true then _ else _) _ E s;rw[if_pos hb];refine Ab (zaH (Ad ?_));refine Ad ?_;have:=h slot (λ q=>by rw[hb] at q;cases q);unfold comes at this;rw[if_pos hb] at this;exact this
 | false=>
  rw[if_neg (by simp)];split
  .rename_i hd;have hd':(!t.plain&&decide (es.size>1))=true:=hd;rw[S.plain] at hd';simp at hd'
  .show wpAny _ A ((if (!t.led&&!es.isEmpty)=true then unsupported "set:maker-not-led" else pure ()) >>= _) Q E s;have hl:t.led=true:=by rw[S.led];unfold vY;rw[hb];rfl
   rw[if_neg (by rw[hl];simp)];refine Ab (Ad (Ad ?_));have Bp:=hs hb;have hz:=S.size;rw[Bp,Lv S.wZ i (by rw[hz];exact hi)];have:=h (slotAt t (i+1)) (λ _=>rfl);unfold comes at this;rw[if_neg (by rw[hb];simp)] at this;rcases A3 i es.size with q | q
   .have hp:i<t.place.size:=by rw[hz];exact q
    rw[Bh q] at this;rw[Bh q,Bh hp];have e:slotAt t (i+1)=t.place[i] + 1:=by show t.place.getD i 0+1=_;rw[dq hp]
    rw[e] at this;exact this
   .rw[Cw q] at this;rw[Cw q];exact this
def pB {a I:Addr}{slot i n ep:Nat}(ho:s.heap.get? I=some (qk a slot i n ep)):s.TypeIs (.ref I) "set_iterator":=⟨_,ho,rfl⟩
def aK (k:Nat):((k:Int)).toNat=k:=Cv k
def UB {I a:Addr}{es:Array (Int×Value)}{ep:Nat}{t:SetTable}{i slot:Nat}{e:Int×Value}{Q:Option Value->Shared->Prop}(ho:s.heap.get? I=some (qk a slot i es.size ep)) (S:vj w s.heap a es ep t) (hs:w.params.followText "set-order"=false->slot=slotAt t i) (he:(comes w a es ep)[i]?=some e)
  (hi:i<es.size) (h:∀ h' slot',(w.params.followText "set-order"=false->slot'=slotAt t (i+1))->h'.get? I=some (qk a slot' (i+1) es.size ep)->Heap.SameBut I s.heap h'->Q (some e.2) { s with heap:=h' }):wpAny (model prog w) A (pyNext (.ref I)) Q E s:=by
 unfold pyNext;refine Ab (wpAny_attempt (zaB (name:=Str.ofString "__next__") (pB ho) o5 (za6 o5 (pB ho) Xv ?_ (Ww _))));refine Ab (Ad ?_);dsimp only;refine Ab (wpAny_fieldsOf ho rfl ?_);dsimp only[rawInt];refine Ab (Ab (za8 S.get rfl S.fits (Ad ?_)));rw[if_neg (by simp)];refine Ab (Yo S (by lia) slot hs λ slot' hs'=>?_);rw[aK] at hs' ⊢;rw[he];dsimp only[Option.map_some];refine Ab (zaI ho rfl (by simp) ?_);have o1:=zaE (Obj.mapFields (·.set! 0 (Value.int (slot':Int) 0))) ho rfl;refine Ab (zaI o1 rfl (by simp) ?_);have o2:=zaE (Obj.mapFields (·.set! 1 (Value.int ((i:Int)+1) 0))) o1 rfl;refine Ad ⟨_,rfl,Ad (h _ slot' hs' o2 ((Heap.SameBut.update ..).trans (Heap.SameBut.update ..)))⟩
def UC {I a:Addr}{es:Array (Int×Value)}{ep:Nat}{t:SetTable}{slot:Nat}{Q:Option Value->Shared->Prop}(hh:A.handled=none) (ho:s.heap.get? I=some (qk a slot es.size es.size ep)) (S:vj w s.heap a es ep t) (hs:w.params.followText "set-order"=false->slot=slotAt t es.size)
  (h:∀ h',Heap.ExtBut I s.heap h'->Q none { s with heap:=h' }):wpAny (model prog w) A (pyNext (.ref I)) Q E s:=by
 have hn:(comes w a es ep)[es.size]?=none:=by
  have:=(nq w a es ep).length_eq;simp only[Bo] at this;rw[Cw (by lia)]
 unfold pyNext;refine Ab (wpAny_attempt (zaB (name:=Str.ofString "__next__") (pB ho) o5 (za6 o5 (pB ho) Xv ?_ (Ww _))));refine Ab (Ad ?_);dsimp only;refine Ab (wpAny_fieldsOf ho rfl ?_);dsimp only[rawInt];refine Ab (Ab (za8 S.get rfl S.fits (Ad ?_)));rw[if_neg (by simp)];refine Ab (Yo S (by simp) slot (by simpa using hs) λ slot' hs'=>?_);rw[aK,hn];dsimp only[Option.map_none];refine Ab (zaI ho rfl (by simp) ?_);refine Ab ?_;simp only[newExc,newTuple];refine Ab (za7 ?_ (by size_fits));refine Ab (m:=firstArgMember _ _) (wpAny_of_eq (a:=Value.none) (by first | rfl | (simp only[firstArgMember];rfl)) (za7 ?_ (by size_fits)));unfold raiseNew;refine Ab (wpAny_handled ?_);rw[show A.in1.handled=none from hh];refine Ab ((Ad (wpAny_throw ?_)));refine Ab ((wpAny_isInstance (T:="StopIteration") (b:=true) ⟨_,AF _ rfl,rfl⟩ isSubtype_stop ?_));exact Ad (h _ (((Heap.SameBut.update ..).extBut.push _).push _))
def UA {I a:Addr}{slot i n ep:Nat}{Q:Value->Shared->Prop}(ho:s.heap.get? I=some (qk a slot i n ep)) (h:Q (.ref I) s):wpAny (model prog w) A (pyIter (.ref I)) Q E s:=by
 refine wpAny_pyIter_slot (pB ho) Zb (za6 Zb (pB ho) Mh ?_ (Lz _));exact Ad ⟨_,rfl,"set_iterator",_,pB ho,o5.lookup,h⟩
def vj.keep {h h':Heap}{a:Addr}{es:Array (Int×Value)}{ep:Nat}{t:SetTable}(S:vj w h a es ep t) (k:∀ o,h.get? a=some o->h'.get? a=some o):vj w h' a es ep t:=⟨k _ S.get,S.fits,S.wZ,S.led,S.plain⟩
def V7 (hh:A.handled=none) (I a:Addr) (Aj:a≠I) (es:Array (Int×Value)) (ep:Nat) (t:SetTable):
  Walks prog w A I [I,a] [I] es.size (λ i v=>∃ e,(comes w a es ep)[i]?=some e/\v=e.2) (λ i h=>(∃ slot,(w.params.followText "set-order"=false->slot=slotAt t i)/\h.get? I=some (qk a slot i es.size ep))/\vj w h a es ep t) where
 sub:=λ b hb=>by simp at hb;simp[hb]
 frame:=λ _ _ _ st k=>by
  obtain⟨⟨slot,h1,h2⟩,S⟩:=st;exact⟨⟨slot,h1,k I (by simp) _ h2⟩,S.keep λ o e=>k a (by simp) o e⟩
 item:=λ i s Q E hi st hQ=>by
  obtain⟨⟨slot,h1,h2⟩,S⟩:=st;have hl:i<(comes w a es ep).size:=by
   have:=(nq w a es ep).length_eq;simp only[Bo] at this;lia
  refine UB h2 S h1 (Bh hl) hi λ h' slot' g1 g2 g3=>?_;exact hQ _ h' s.toks ⟨_,Bh hl,rfl⟩ ⟨⟨slot',g1,g2⟩,S.keep λ o e=>(g3.2 a Aj).trans e⟩ λ b o hb e=>(g3.2 b (λ z=>hb (by simp[z]))).trans e
 done:=λ s Q E st hQ=>by
  obtain⟨⟨slot,h1,h2⟩,S⟩:=st;exact UC hh h2 S h1 λ h' g=>hQ h' s.toks λ b o hb e=>g b o (λ z=>hb (by simp[z])) e
 self:=λ _ _ _ _ st hQ=>by
  obtain⟨⟨slot,h1,h2⟩,S⟩:=st;exact UA h2 hQ
def O0:typeLookup (.type "set") "__len__"=pure (some (.builtin "set.__len__")):=F.slot_set_len.lookup
def split_len:splitId "set.__len__"=some ("set","__len__"):=by decide +kernel
def PR {a:Addr}{es:Array (Int×Value)}{ep:Nat}{t:SetTable}{Q:Bool->Shared->Prop}(S:vj w s.heap a es ep t) (h:Q false s):wpAny (model prog w) A (setDrawn a) Q E s:=by
 unfold setDrawn setsByText;refine Ab (za8 S.get rfl S.fits ?_);dsimp only;refine Ab (Ab (zaH (Ad (Ad ?_))));show Q (!w.params.followText "set-order"&&(!t.plain&&decide (es.size>1))) s;rw[S.plain];simpa using h
set_option maxHeartbeats 4000000 in
def PX {a:Addr}{es:Array (Int×Value)}{ep:Nat}{t:SetTable}{Q:Bool->Shared->Prop}(S:vj w s.heap a es ep t) (h:Q false s):wpAny (model prog w) A (Builtin.List.listLengthHint (.ref a)) Q E s:=by
 have Ty:s.TypeIs (.ref a) "set":=⟨_,S.get,rfl⟩
 unfold Builtin.List.listLengthHint;refine Ab (wpAny_specialOf Ty O0 ?_);dsimp only;rw[split_len];dsimp only;refine Ab (wpAny_isInstance (b:=true) Ty sub_set_self ?_);rw[if_neg (by decide)];rw[if_pos (by decide +kernel)];refine Ab (zaD Ty ?_);exact Ad h
set_option maxHeartbeats 4000000 in
def MB {a:Addr}{es:Array (Int×Value)}{ep:Nat}{t:SetTable}{Q:List Value->Shared->Prop}(hh:A.handled=none) (S:vj w s.heap a es ep t) (hn:es.size<=sizeLine)
  (h:∀ (h':Heap) (tk:Nat),(∀ b o,b<s.heap.objs.size->s.heap.get? b=some o->h'.get? b=some o)->s.heap.objs.size<=h'.objs.size->Q ((comes w a es ep).toList.map (·.2)) { s with heap:=h',toks:=tk }):wpAny (model prog w) A (collect (.ref a)) Q E s:=by
 have ha:a<s.heap.objs.size:=Ap S.get;unfold collect;refine Ab (wpAny_runValue (codeAny_builtin F.entry_proto_collect ?_));rw[Around.under_plainId F.plain_proto_collect _];show wpAny _ A.in1 (newList [] >>= λ l=>again (.builtin "list.__iadd__" ⟨[l,.ref a],[]⟩)) _ _ s;refine Ab (za7 (Ad ⟨plainId_quiet F.plain_list_iadd _,codeAny_builtin F.entry_list_iadd ?_⟩));rw[Around.under_plainId F.plain_list_iadd _]
 let L0:Obj:={ cls:=.type "list",data:=.seq ([]:List Value).toArray }
 have S1:vj w (s.heap.push L0) a es ep t:=S.keep λ o e=>Ao _ e;have T1:Shared.TypeIs { s with heap:=s.heap.push L0 } (.ref a) "set":=⟨_,S1.get,rfl⟩
 show wpAny _ A.in1 (Builtin.List.listExtendWith (.ref s.heap.objs.size) (.ref a) (.ref s.heap.objs.size)) _ _ { s with heap:=s.heap.push L0 };unfold Builtin.List.listExtendWith;refine Ab (zaD T1 ?_);have Aj:s.heap.objs.size≠a:=BR ha;have c1:Builtin.List.listSameRef (.ref s.heap.objs.size) (.ref a)=false:=by simp[Builtin.List.listSameRef,Aj]
 rw[if_neg (by rw[c1];decide)];refine Ab (wpAny_pyIter_slot T1 F.slot_set_iter (za6 F.slot_set_iter T1 Mi ?_ (F.args_set_iter_1 _)));refine Ab (Ab (Ad (Ad ?_)));refine Ab (Ab (Ab (za8 S1.get rfl S1.fits (Ad (Ad ?_)))));refine Ab (PR S1 ?_);rw[if_neg (by decide)];refine Ab (Ad ?_);refine Ab (wpAny_setEpoch_of S1.get rfl S1.fits ?_);refine Ab (za7 (Ad ⟨_,rfl,"set_iterator",_,⟨_,AF _ rfl,rfl⟩,o5.lookup,?_⟩))
 let I:=(s.heap.push L0).objs.size
 let h2:=(s.heap.push L0).push (qk a 0 0 es.size ep)
 have S2:vj w h2 a es ep t:=S1.keep λ o e=>Ao _ e;have hI:h2.get? I=some (qk a 0 0 es.size ep):=AF _ rfl;have hL:h2.get? s.heap.objs.size=some L0:=Ao _ (AF _ rfl);have hsz:(s.heap.push L0).objs.size=s.heap.objs.size+1:=Heap.size_push _ _;show wpAny _ A.in1 _ _ _ { s with heap:=h2 };refine Ab (za3 (PX (s:={ s with heap:=h2 }) S2 ?_));rw[if_pos (by decide +kernel)];refine Ab (wpAny_rule ?_);refine Ab ?_;show wpAny _ A.in1 (updateSeq s.heap.objs.size (·.push .none) >>= λ _=>updateSeq s.heap.objs.size (·.pop)) _ _ { s with heap:=h2 };refine Ab (wpAny_updateSeq hL rfl ?_);have hL2:=zaE (Obj.mapSeq (·.push Value.none)) hL rfl;refine wpAny_updateSeq hL2 rfl ?_;have hL3:=zaE (Obj.mapSeq (·.pop)) hL2 rfl
 let h3:=(h2.update s.heap.objs.size (Obj.mapSeq (·.push Value.none))).update s.heap.objs.size (Obj.mapSeq (·.pop))
 have oth:∀ b o,b≠s.heap.objs.size->h2.get? b=some o->h3.get? b=some o:=λ b o hb e=>(zaJ _ _ (Ne.symm hb)).trans ((zaJ _ _ (Ne.symm hb)).trans e);have haI:a≠I:=by show a≠(s.heap.push L0).objs.size;rw[hsz];exact Ax (Bx ha)
 have hIn:I≠s.heap.objs.size:=by show (s.heap.push L0).objs.size≠_;rw[hsz];exact BR (Cj _)
 refine Ad ⟨plainId_quiet F.plain_extend_loop _,codeAny_extend_loopS ((V7 (A:=A.in1) hh I a haI es ep t).toS) hn s.heap.objs.size ?_ _ es.size 0 { s with heap:=h3 } #[] _ rfl (AL _) ⟨⟨0,λ _=>rfl,oth I _ hIn hI⟩,S2.keep λ o e=>oth a o (Ne.symm Aj) e⟩ hL3 (ItemsOf.nil _) λ s' acc c' hm hS' AO=>?_⟩
 .intro hm;rcases Ai.mp hm with q | q
  .exact hIn q.symm
  .exact Aj (AR.mp q)
 .refine Ab (wpAny_load hS' (Ad ?_));obtain⟨h',g',d',tk',os'⟩:=s';obtain rfl:g'=s.gens:=hm.gens;obtain rfl:d'=s.drawn:=hm.drawn;obtain rfl:os'=s.os:=hm.os;have hcm:(comes w a es ep).size=es.size:=by
   have:=(nq w a es ep).length_eq;simpa using this
  have e:acc.toList=(comes w a es ep).toList.map (·.2):=by
   refine List.ext_getElem? λ j=>?_;rw[Ay];rcases A3 j es.size with q | q
   .have Dd:j<acc.size:=by rw[AO.1];exact q
    have hj:acc[j]?=some acc[j]:=Bh Dd;obtain⟨e,e1,e2⟩:=AO.2 j _ hj;rw[BB,BB,hj,e1,e2];rfl
   .rw[BB,BB,Cw (by rw[AO.1];exact q),Cw (by rw[hcm];exact q)];rfl
  rw[e];refine h h' tk' (λ b o hb e=>hm.heap b o (λ q=>?_) (oth b o (Ax hb) (Ao _ (Ao _ e)))) ?_
  .rcases Ai.mp q with q | q
   .exact Ax hb q
   .have q':b=(s.heap.push L0).objs.size:=AR.mp q;rw[hsz] at q';exact Ax (Bx hb) q'
  .exact BF (Ap hS')
end
end ST
namespace ST
open PySem PySem.SetTable PyProof.Rows L4
section
variable {prog:Program}{w:World}{A:Around}{E:Value->Shared->Prop}{s:Shared}
def aQ {a:Addr}{es:Array (Int×Value)}{ep:Nat}{t:SetTable}{Q:Value->Shared->Prop}{Out:Array Value->Prop}(hh:A.handled=none) (S:vj w s.heap a es ep t) (hz:es.size<=sizeLine)
  (core:∀ s6:Shared,2<=es.size->(∀ b o,s.heap.get? b=some o->s6.heap.get? b=some o)->Core prog w A.in1.in1 E ((comes w a es ep).toList.map (·.2)) Out s6) (short:es.size<2->Out ((comes w a es ep).toList.map (·.2)).toArray)
  (fin:∀ (out:Array Value) (h':Heap) (tk l:Nat),Out out->out.size=es.size->s.heap.objs.size<=l->(∀ b o,s.heap.get? b=some o->h'.get? b=some o)->(∃ e,h'.get? l=some (seqObj "list" out e))->Q (.ref l) { s with heap:=h',toks:=tk }):
  wpAny (model prog w) A (call (.builtin "sorted") [.ref a]) Q E s:=by
 have AJ:((comes w a es ep).toList.map (·.2)).length=es.size:=by
  have:=(nq w a es ep).length_eq;rw[Aw,this,Bo]
 refine Calls.call_function_entry kind_sorted plain_sorted entry_sorted (args_sorted1 _) ?_;unfold Builtin.«sorted»;refine Ab (m:=checkCount "sorted" 1 1 _) (Ad (Ab (MB (A:=A.in1) hh S hz λ h1 tk k1 k2=>Ab (wpAny_newList ?_ (by rw[AJ];exact hz)))));generalize hvs:(comes w a es ep).toList.map (·.2)=vs at *;have hoL:(h1.push (seqObj "list" vs.toArray 0)).get? h1.objs.size=some (seqObj "list" vs.toArray 0):=AF _ rfl;have k3:∀ b o,s.heap.get? b=some o->h1.get? b=some o:=λ b o q=>k1 b o (Ap q) q;show wpAny _ _ _ _ _ { s with heap:=h1.push (seqObj "list" vs.toArray 0),toks:=tk };refine Ab (za3 (za6 slot_list_sort ⟨_,hoL,rfl⟩ entry_list_sort (eL hoL (by rw[AJ];exact hz) (λ h2 s6 k=>core s6 (by rw[<- AJ];exact h2) λ b o q=>k b o ?_ (Ao _ (k3 b o q))) (λ h2=>short (by rw[<- AJ];exact h2)) λ out g1 g2=>⟨_,rfl,?_⟩) (args_list_sort _)))
 .exact Ax (Bb (Ap q) k2)
 .refine Ad ⟨_,rfl,fin out _ tk h1.objs.size g1 (by rw[g2,AJ]) k2 (λ b o q=>?_) (sortedHeap_at (n:=0) hoL)⟩;have Am:b<h1.objs.size:=Ap (k3 b o q);rw[sortedHeap_old (Ax Am) (by rw[size_push'];exact Bx Am),Heap.get?_push_ne _ _ _ (Ax Am)];exact k3 b o q
end
end ST
namespace ST
open PySem PySem.SetTable PySem.Spec PyProof.Rows L2
def xa (w:World) (a:Addr) (us:List Value):Heap->Prop:=λ h=>∃ es ep t,vj w h a es ep t/\es.toList.map (·.2)=us
def xa.sF {w:World}{a:Addr}{us:List Value}{h1 h2:Heap}(S:xa w a us h1) (k:∀ o,h1.get? a=some o->h2.get? a=some o):xa w a us h2:=by
 obtain⟨es,ep,t,S,e⟩:=S;exact⟨es,ep,t,S.keep k,e⟩
def ug.at {prog:Program}{w:World}{h:Heap}{a:Addr}{xs:List (List Int×Addr)}(S:ug prog w h a xs (vY w)):xa w a (xs.map λ e=>Value.ref e.2) h:=by
 obtain⟨⟨es,ep,t,ho,X,h1,h2,h3⟩,_⟩:=S;exact⟨es,ep,t,⟨ho,X.fits,X.tab.wZ,h1,h2⟩,by rw[X.es,AQ];rfl⟩
section
variable {X:Cx}
abbrev ib (K:Ac) (H:Hp) (ys:List V) (rows:List (List Int)):Prop:=Paired (λ v r=>r≠[]/\∃ b,v=V.ref b/\ye K H b (r.map V.int)) ys rows
theorem YI:∀ {ns:List Int}{us:List Value},Vals (ns.map V.int) us->∀ {prog:Program}{w:World},ItemsAre (intKind prog w) ns us
 | [],_,.nil,_,_=>.nil
 | n::ns,_,.cons r t,prog,w=>by
  obtain⟨tk,rfl⟩:=r;exact .cons (intKind_is _ _ _ _) (YI t)
structure pX (ys:List V) (rows:List (List Int)) (vs:List V) (rs:List (List Int)):Prop where
 sub:∀ (i:Nat) v r,vs[i]?=some v->rs[i]?=some r->∃ (j:Nat),ys[j]?=some v/\rows[j]?=some r
 len:vs.length=rs.length
 nd:rs.Nodup
 all:∀ r∈rows,r∈rs
def MS (hc:X.calm=true) (hu:X.A.units+64<cLine):yQ X (.type "set") (λ xs H Q=>∃ p ys,∃ rows:List (List Int),xs=[.ref p]/\zT X.K H p ys/\ib X.K H ys rows/\rows.length<64/\
  ∀ (l:Addr) (us:List Value) (vs:List V) (rs:List (List Int)),H l=none->Vals vs us->pX ys rows vs rs->Q (.ref l) (upd H l (.ext (xa X.w l us)))):=by
 intro pins s O H xs us Q I r h;obtain⟨p,ys,rows,rfl,hq,hr,h64,q⟩:=h;obtain⟨u,rfl,ru⟩:=vals1 r;cases ru;obtain⟨its,rv,pl,hz⟩:=I.list hq;have hl:=rv.length;have B9:ys.length=rows.length:=Paired.length hr;have tF:pU X.prog X.w s.heap its.toArray rows:=λ i v hv=>by
  have hv':its[i]?=some v:=by simpa using hv
  have hi:i<its.length:=(AN.mp hv').1;obtain⟨Aj,b,hb,Cm⟩:=L4.Paired.at' hr (i:=i) (by lia) V.zl ([]:List Int);have hy:ys[i]?=some (V.ref b):=by
   rw[AH (by lia)];have:ys.getD i V.zl=ys[i]'(by lia):=by simp[show i<ys.length by lia]
   rw[this] at hb;rw[hb]
  obtain⟨v',e1,e2⟩:=rv.get hy;rw[hv'] at e1;cases e1;cases (show v=Value.ref b from e2);obtain⟨its2,rv2,⟨o,e,AJ,n,hd⟩,_⟩:=I.tuple Cm;refine⟨b,rows.getD i [],rfl,?_,o,its2.toArray,n,e,AJ,hd,by simpa using YI rv2⟩;simp[show i<rows.length by lia]
 have hh:X.A.handled=none:=I.ok.hd hc;refine MV (A:=X.A) hh hu pl.isList tF (by rw[Ar];lia) λ h' tk xs S U k=>?_;have kk:∀ b o,s.heap.get? b=some o->h'.get? b=some o:=λ b o e=>k b o (Ap e) e;have A6:H s.heap.objs.size=none:=I.zE.fresh (Ah _);have hSO:=S.at;have vals:Vals (xs.map λ e=>V.ref e.2) (xs.map λ e=>Value.ref e.2):=by
  clear S U hSO
  induction xs with
  | nil=>exact .nil
  | cons e xs ih=>exact .cons rfl ih
 refine⟨.ref s.heap.objs.size,_,I.laid (t':=tk) (o:=.ext (xa X.w s.heap.objs.size (xs.map λ e=>Value.ref e.2))) kk (Ah _) ?_,rfl,q _ _ (xs.map λ e=>V.ref e.2) (xs.map (·.1)) A6 vals ⟨λ i v r hv hr'=>?_,by simp,S.nd,λ r hr'=>?_⟩⟩
 .obtain⟨es,ep,t,St,e⟩:=id hSO;exact⟨hSO,⟨_,St.get⟩,λ h1 h2 S1 k=>S1.sF k⟩
 .rw[Ay] at hv hr';obtain⟨e,e1,rfl⟩:=AB hv;rw[e1] at hr';cases hr';obtain⟨j,j1,j2,j3⟩:=U.own e (A7 e1);refine⟨j,?_,j3⟩;have hj':its[j]?=some (Value.ref e.2):=by simpa using j2
  have Dd:j<ys.length:=by rw[hl];exact (AN.mp hj').1
  obtain⟨v',e2,e3⟩:=rv.get (AH Dd);rw[hj'] at e2;cases e2;obtain⟨Aj,b,hb,_⟩:=L4.Paired.at' hr (i:=j) (by lia) V.zl ([]:List Int);have:ys.getD j V.zl=ys[j]:=by simp[Dd]
  rw[this] at hb;rw[hb] at e3;cases (show Value.ref e.2=Value.ref b from e3);rw[AH Dd,hb]
 .obtain⟨j,hj⟩:=Dq.mp hr';exact U.all j r (by have:=(AN.mp hj).1;rw[Ar];lia) hj
theorem Paired.mk {α β:Type}{F:α->β->Prop}:∀ {l:List α}{m:List β},l.length=m.length->(∀ (i:Nat) a b,l[i]?=some a->m[i]?=some b->F a b)->Paired F l m
 | [],[],_,_=>.nil
 | a::l,b::m,h,f=>.cons (f 0 a b rfl rfl) (Paired.mk (by simpa using h) λ i x y hx hy=>f (i+1) x y (by simpa using hx) (by simpa using hy))
 | [],_::_,h,_=>by simp at h
 | _::_,[],h,_=>by simp at h
def MQ (hc:X.calm=true):yQ X (.builtin "sorted") (λ xs H Q=>∃ l us vs,∃ rs:List (List Int),xs=[.ref l]/\H l=some (.ext (xa X.w l us))/\Vals vs us/\ib X.K H vs rs/\rs.length<64/\
  ∀ (p:Addr) (idx:List Nat),H p=none->idx.Perm (List.range vs.length)->(idx.map λ i=>rs.getD i []).Pairwise (λ a b=>HT.lexLt b a=false)->Q (.ref p) (upd H p (.lst (idx.map λ i=>vs.getD i .zl)))):=by
 intro pins s O H xs us0 Q I r h;obtain⟨l,us,vs,rs,rfl,hl,hv,hr,h64,q⟩:=h;obtain⟨u,rfl,ru⟩:=vals1 r;cases ru;obtain⟨⟨es,ep,t,S,eu⟩,-,-⟩:=(show xv X.prog X.w H s.heap l (.ext (xa X.w l us)) from I.zE l _ hl)
 have hlen:es.size=us.length:=by rw[<- eu];simp
 have hvl:=hv.length;have hrl:vs.length=rs.length:=Paired.length hr;have hh:X.A.handled=none:=I.ok.hd hc;obtain⟨ix,ix1,ix2⟩:∃ ix:List Nat,ix.Perm (List.range us.length)/\(comes X.w l es ep).toList.map (·.2)=ix.map λ i=>us.getD i Value.none:=by
  have hp:((comes X.w l es ep).toList.map (·.2)).Perm us:=by rw[<- eu];exact (nq X.w l es ep).map _
  generalize (comes X.w l es ep).toList.map (·.2)=cs at hp;clear eu hl hv hvl hlen
  induction hp with
  | nil=>exact⟨[],.refl _,rfl⟩
  | @cons x a b _ ih=>
   obtain⟨ix,i1,i2⟩:=ih;refine⟨0::ix.map (· + 1),?_,?_⟩
   .rw[AW,CV];exact (i1.map _).cons 0
   .rw[Aq,AQ,i2];rfl
  | @swap x y a=>
   refine⟨1::0::(List.range a.length).map (· + 2),?_,?_⟩
   .rw[AW,AW,CV,CV,Aq,AQ];exact .swap _ _ _
   .rw[Aq,Aq,AQ];refine congrArg _ (congrArg _ ?_);refine BD (by simp) λ i h1 h2=>?_;simp[h1]
  | @trans a b c _ _ ih1 ih2=>
   obtain⟨i1,p1,e1⟩:=ih1;obtain⟨i2,p2,e2⟩:=ih2;have B_:b.length=c.length:=by rw[e2,Aw,p2.length_eq];simp
   refine⟨i1.map λ i=>i2.getD i 0,?_,?_⟩
   .refine (p1.map _).trans ?_;have e:(List.range b.length).map (λ i=>i2.getD i 0)=i2:=by
     have hl2:i2.length=b.length:=by rw[p2.length_eq,B_];simp
     rw[<- hl2];refine BD (by simp) λ i h1 h2=>?_;simp[h2]
    rw[e];exact p2
   .rw[e1,AQ];refine Cy λ i hi=>?_;have hi':i<b.length:=by simpa using p1.mem_iff.mp hi
    have hl2:i<i2.length:=by rw[p2.length_eq,<- B_];simpa using hi'
    show b.getD i _=c.getD (i2.getD i 0) _;rw[e2];simp[hl2]
 have DI:∀ i∈ix,i<us.length:=λ i hi=>by simpa using ix1.mem_iff.mp hi
 have rows_at:∀ h6:Heap,(∀ b o,s.heap.get? b=some o->h6.get? b=some o)->L4.rq h6 ((comes X.w l es ep).toList.map (·.2)) (ix.map λ i=>rs.getD i []):=λ h6 k=>by
  rw[ix2];refine Paired.mk (by simp) λ j a b ha hb=>?_;rw[Ay] at ha hb;obtain⟨i,hi,rfl⟩:=AB ha;rw[hi] at hb;cases hb;have CI:=DI i (A7 hi);obtain⟨Aj,b,hbv,Cm⟩:=L4.Paired.at' hr (i:=i) (by lia) V.zl ([]:List Int);obtain⟨u',e1,e2⟩:=hv.get (i:=i) (x:=vs.getD i V.zl) (by simp[show i<vs.length by lia]);rw[hbv] at e2;cases (show u'=Value.ref b from e2);obtain⟨its2,rv2,⟨o,e,AJ,n,hd⟩,_⟩:=I.tuple Cm;have eg:us.getD i Value.none=Value.ref b:=by simp[e1]
  refine⟨Aj,b,o,its2.toArray,n,eg,k _ _ e,AJ,hd,by simpa using intsAre_of rv2⟩
 have AJ:((comes X.w l es ep).toList.map (·.2)).length=us.length:=by rw[ix2,Aw,ix1.length_eq];simp
 refine aQ (Out:=L4.lX ((comes X.w l es ep).toList.map (·.2)) (ix.map λ i=>rs.getD i [])) hh S (by rw[hlen];have:sizeLine=16777216:=rfl;lia) (λ s6 h2 k=>L4.dS (rows_at _ k) (by rw[AJ,<- hlen];exact h2) (by rw[AJ];lia)) (λ h1=>?_) λ out h' tk p ho hs hp k B1=>?_
 .refine⟨List.range ((comes X.w l es ep).toList.map (·.2)).length,.refl _,?_,?_⟩
  .refine BD (by simp) λ i h1 h2=>?_;simp at h2;simp[h2]
  .rw[B3,Cc];intro i j hi hj A1;rw[AJ] at hi hj;simp at hi hj;lia
 .obtain⟨idx,g1,g2,g3⟩:=ho;obtain⟨e,he⟩:=B1;rw[AJ] at g1;have A6:H p=none:=I.zE.fresh hp;have Df:∀ i∈idx,i<us.length:=λ i hi=>by simpa using g1.mem_iff.mp hi
  have hxl:ix.length=us.length:=by rw[ix1.length_eq];simp
  let jx:=idx.map λ i=>ix.getD i 0
  have hjp:jx.Perm (List.range vs.length):=by
   rw[hvl];refine (g1.map _).trans ?_;have e:(List.range us.length).map (λ i=>ix.getD i 0)=ix:=by
    rw[<- hxl];refine BD (by simp) λ i h1 h2=>?_;simp[h2]
   rw[e];exact ix1
  have hjr:(jx.map λ i=>rs.getD i [])=idx.map λ i=>(ix.map λ i=>rs.getD i []).getD i []:=by
   rw[AQ];refine Cy λ i hi=>?_;have:=Df i hi;simp[show i<ix.length by lia]
  refine⟨.ref p,_,I.laid (t':=tk) (o:=.lst (jx.map λ i=>vs.getD i .zl)) k hp ?_,rfl,q p jx A6 hjp (by rw[hjr];exact g3)⟩;refine⟨by rw[Aw,hjp.length_eq,Bg];have:sizeLine=16777216:=rfl;lia,out.toList,e,?_,by simpa using he⟩;rw[g2,ix2];refine Paired.mk (by simp[jx]) λ j a b ha hb=>?_;rw[Ay] at ha hb;obtain⟨i,hi,rfl⟩:=AB hb;simp only[jx,Ay,hi,Option.map_some,Option.some.injEq] at ha;have CI:=Df i (A7 hi);have hx:ix.getD i 0<us.length:=by
   have:ix.getD i 0∈ix:=by simp[show i<ix.length by lia]
   exact DI _ this
  obtain⟨u',e1,e2⟩:=hv.get (i:=ix.getD i 0) (x:=vs.getD (ix.getD i 0) V.zl) (by
   have hx':ix.getD i 0<vs.length:=by lia
   generalize ix.getD i 0=q at hx';rw[AI,AH hx'];rfl)
  subst ha;have e3:(ix.map λ i=>us.getD i Value.none).getD i Value.none=u':=by
   simp[show i<ix.length by lia] at e1 ⊢;simp[e1]
  rw[e3];exact e2
end
end ST
namespace L5
open PySem PySem.Spec L2 L3
open PyProof.Rows hiding St
noncomputable def wO:List (List Int)->List (List Int)
 | []=>[]
 | r::rs=>if r∈wO rs then wO rs else r::wO rs
theorem oM {r:List Int}:∀ {rs:List (List Int)},r∈wO rs↔r∈rs
 | []=>.rfl
 | x::rs=>by
  unfold wO;split
  .rename_i h;rw[oM,Ai];exact⟨.inr,λ h'=>h'.elim (λ e=>e▸oM.mp h) id⟩
  .rw[Ai,Ai,oM]
theorem eh:∀ rs:List (List Int),(wO rs).Nodup
 | []=>.nil
 | x::rs=>by
  unfold wO;split
  .exact eh rs
  .rename_i h;exact Be.mpr ⟨h,eh rs⟩
theorem jt:∀ rs:List (List Int),(wO rs).length<=rs.length
 | []=>Ah _
 | x::rs=>by
  unfold wO;have:=jt rs;split <;> simp only[AW] <;> lia
def tf:xS:=λ ds S Q=>match ds with
 | [.tup _]=>False
 | [d]=>∃ rows:List (List Int),zV d S=some (rows.map wF)/\rows.length<64/\(∀ r∈rows,r≠[])/\∀ l,S l=none->Q (.ref l) (ups S l (.lst ((L4.wb (wO rows)).map wF)))
 | _=>False
noncomputable def kL:List T->Option T
 | [.lst ts]=>(uv ts).bind λ rs=>if rs.length<64/\∀ r∈rs,r≠[] then some (.lst ((L4.wb (wO rs)).map yv)) else none
 | _=>none
def N3:vP zL kL tf:=λ S Z ys z ds Q hz hv e hq=>by
 unfold kL at e;split at e
 .obtain⟨d,rfl,h1⟩:=v8 hv;obtain⟨rs,e1,e2⟩:=Ak e;split at e2
  .rename_i hc;cases e2;cases g_ e1;obtain⟨es,h2,h3⟩:=h1.seq rfl;cases oz.mp h3;have key:∃ rows:List (List Int),zV d S=some (rows.map wF)/\rows.length<64/\(∀ r∈rows,r≠[])/\∀ l,S l=none->Q (.ref l) (ups S l (.lst ((L4.wb (wO rows)).map wF))):=
    ⟨rs,h2,hc.1,hc.2,λ l hl=>hq _ _ (.new hl _) (sL hz hl (oz.mpr rfl))⟩
   obtain⟨_,q | ⟨a,q,_⟩,_⟩:=h1.lst
   .subst q;exact key
   .subst q;exact key
  .cases e2
 .cases e
section
variable {K:Ac}{e:Expr}{p:Pos}
def tf.mo:vN tf:=λ ds S Q Q' hq h=>by
 unfold tf at h ⊢;split at h
 .exact h.elim
 .obtain⟨rows,h1,h2,h3,h4⟩:=h;exact⟨rows,h1,h2,h3,λ l hl=>hq _ _ (h4 l hl)⟩
 .exact h.elim
def zq.pick {H:Hp}{ys vs:List V}{rows rs:List (List Int)}(h:zq K H (rows.map wF) ys) (P:ST.pX ys rows vs rs):zq K H (rs.map wF) vs:=by
 have key:∀ (vs:List V) (rs:List (List Int)),vs.length=rs.length->(∀ (i:Nat) v r,vs[i]?=some v->rs[i]?=some r->∃ (j:Nat),ys[j]?=some v/\rows[j]?=some r)->zq K H (rs.map wF) vs:=by
  intro vs
  induction vs with
  | nil=>intro rs hl _;cases rs with
   | nil=>exact .nil
   | cons _ _=>simp at hl
  | cons v vs ih=>intro rs hl hp;cases rs with
   | nil=>simp at hl
   | cons r rs=>
    refine .cons ?_ (ih rs (by simpa using hl) λ i v r hv hr=>hp (i+1) v r (by simpa using hv) (by simpa using hr));obtain⟨j,j1,j2⟩:=hp 0 v r rfl rfl;obtain⟨x,e1,e2⟩:=h.get (i:=j) (d:=wF r) (by rw[Ay,j2];rfl);rw[j1] at e1;cases e1;exact e2
 exact key vs rs P.len P.sub
def pX.mem {ys vs:List V}{rows rs:List (List Int)}(P:ST.pX ys rows vs rs) {r:List Int}:r∈rs↔r∈rows:=by
 refine⟨λ h=>?_,P.all r⟩;obtain⟨i,hi⟩:=Dq.mp h;have hl:i<vs.length:=by rw[P.len];exact (AN.mp hi).1
 obtain⟨j,_,j2⟩:=P.sub i _ r (AH hl) hi;exact A7 j2
def tf.fits {w:World}:uP K tf (λ xs H Q=>∃ p ys,∃ rows:List (List Int),xs=[.ref p]/\zT K H p ys/\ST.ib K H ys rows/\rows.length<64/\
  ∀ (l:Addr) (us:List Value) (vs:List V) (rs:List (List Int)),H l=none->Vals vs us->ST.pX ys rows vs rs->
   ∃ l' us' vs',∃ rs':List (List Int),[V.ref l]=[.ref l']/\(upd H l (.ext (ST.xa w l us))) l'=some (.ext (ST.xa w l' us'))/\Vals vs' us'/\ST.ib K (upd H l (.ext (ST.xa w l us))) vs' rs'/\rs'.length<64/\
    ∀ (p:Addr) (idx:List Nat),(upd H l (.ext (ST.xa w l us))) p=none->idx.Perm (List.range vs'.length)->(idx.map λ i=>rs'.getD i []).Pairwise (λ a b=>HT.lexLt b a=false)->Q (.ref p) (upd (upd H l (.ext (ST.xa w l us))) p (.lst (idx.map λ i=>vs'.getD i .zl)))):=λ xs ds H S Q h0 h2 h=>by
 unfold tf at h;split at h
 .exact h.elim
 .rename_i d hn;obtain⟨x,hx,h1⟩:=h0.one;subst hx;obtain⟨rows,e,h64,Aj,h⟩:=h;obtain⟨a,ys,rfl,g1,g2⟩:=rS h1 h2 e (λ ts z=>hn ts z);refine⟨a,ys,rows,rfl,g1,mz g2 Aj,h64,λ l us vs rs hf hv P=>?_⟩;have g3:=zq.pick g2 P;have x1:Ext H (upd H l (.ext (ST.xa w l us))):=.new hf _;have C6:rs.Perm (wO rows):=(DU P.nd (eh rows)).mpr λ r=>by rw[pX.mem P,oM]
  refine⟨l,us,vs,rs,rfl,yR,hv,mz (zq.ext x1 _ g3) λ r hr=>Aj r ((pX.mem P).mp hr),by rw[C6.length_eq];have:=jt rows;lia,λ p idx hp hi hs=>?_⟩;rw[P.len] at hi;have heq:=L4.aR ((Yu hi).trans C6) hs;have Au:p≠l:=λ z=>by subst z;rw[yR] at hp;cases hp
  have hpH:H p=none:=by rw[yV Au] at hp;exact hp
  have x2:Ext (upd H l (.ext (ST.xa w l us))) (upd (upd H l (.ext (ST.xa w l us))) p (.lst (idx.map λ i=>vs.getD i .zl))):=.new hp _;have r1:zR K (upd H l (.ext (ST.xa w l us))) S:=h2.new hf;refine h p (h2.none hpH) _ _ (by simp only[zi]) (x1.trans x2) (r1.ups x2 ⟨_,yR,?_⟩);rw[<- heq];exact zq.ext (x1.trans x2) _ (zq.perm g3 λ i h=>by simpa using hi.mem_iff.mp h)
 .exact h.elim
end
end L5
namespace ST
open PySem PySem.SetTable PyProof.Rows
theorem Xe {t:SetTable}{hs:List Int}(T:Tab t hs) (h:Int):∀ (f k K:Nat),k<=K->K<k+f->(way t.mask h K).j∉t.place.toList->(∀ m<K,(way t.mask h m).j∈t.place.toList)->probe.go t (λ _=>h+1) h f (way t.mask h k)=some (.empty (way t.mask h K).j none)
 | 0,k,K,h1,h2,_,_=>by lia
 | f+1,k,K,h1,h2,h3,h4=>by
  by_cases e:k=K
  .subst e;unfold probe.go;rw[T.empty h3,iM]
  .obtain⟨i,g,p1,_⟩:=T.at (h4 k (by lia));have ih:=Xe T h f (k+1) K (by lia) (by lia) h3 h4
   conv=>lhs;unfold probe.go
   rw[T.live p1];dsimp only;rw[if_neg (by intro q;have:=eq_of_beq q;lia),cy];exact ih
def NQ {t:SetTable}{hs:List Int}(T:Tab t hs) (hl:hs.length<=t.mask) (h:Int):∃ j,t.freeSlot h=some (j,false)/\bf t h j:=by
 obtain⟨K,k1,k2,k3⟩:=T.first hl h;refine⟨(way t.mask h K).j,?_,⟨k2,K,rfl,k3⟩⟩;have g:=Xe T h (10*turns t.mask) 0 K (AL _) (by unfold turns;lia) k2 k3;unfold SetTable.freeSlot;have e:t.probe (λ _=>h+1) h (t.probeStart h)=some (.empty (way t.mask h K).j none):=g;rw[e];rfl
structure uh (prog:Program) (w:World) (h:Heap) (a:Addr) (xs:List (Int×Tok)) (led:Bool):Prop where
 ex:∃ es ep t,h.get? a=some { cls:=.type "set",dict:=none,data:=.set es ep t }/\es.toList=xs.map (λ e=>((intKind prog w).hash e.1,Value.int e.1 e.2))/\Tab t (xs.map λ e=>(intKind prog w).hash e.1)/\t.led=led/\t.plain=true/\xs.length*5<t.mask*3
 nd:(xs.map (·.1)).Nodup
section
variable {prog:Program}{w:World}{A:Around}{E:Value->Shared->Prop}{s:Shared}
def fits_of {es:Array (Int×Value)}{t:SetTable}{hs:List Int}{n:Nat}(h1:es.size=n) (T:Tab t hs) (h2:hs.length=n) (h3:n<=t.mask):t.fits es.size=true:=by
 have l:=T.len;unfold SetTable.fits SetTable.fill;rw[T.qv,h1,l,h2];simp;lia
def mT {n m:Int}{t:Tok}:(intKind prog w).is n (.int m t)=true↔n=m:=by
 constructor
 .intro h;obtain⟨t',e⟩:=Value.isInt_shape (show Value.isInt n (.int m t)=true from h);cases e;rfl
 .rintro rfl;exact intKind_is _ _ _ _
def Mj {es:Array (Int×Value)}{xs:List (Int×Tok)}(h:es.toList=xs.map (λ e=>((intKind prog w).hash e.1,Value.int e.1 e.2))):ElemsOf (intKind prog w) es.toList:=λ e he=>by
 rw[h] at he;obtain⟨x,_,rfl⟩:=An.mp he;exact⟨⟨x.1,mT.mpr rfl,rfl⟩,rfl⟩
def Tf {es:Array (Int×Value)}{t:SetTable}{xs:List (Int×Tok)}{M wanted:Nat}(he:es.toList=xs.map (λ e=>((intKind prog w).hash e.1,Value.int e.1 e.2))) (hM:vM M) (hw:sizeAbove wanted=M+1) (AG:xs.length*5<M*3):
  ∃ es' t',∃ xs':List (Int×Tok),relayAll t es wanted=(es',t',false)/\es'.toList=xs'.map (λ e=>((intKind prog w).hash e.1,Value.int e.1 e.2))/\xs'.Perm xs/\Tab t' (xs'.map λ e=>(intKind prog w).hash e.1)/\t'.mask=M/\t'.led=t.led/\t'.plain=t.plain/\es'.size=es.size:=by
 have hlen:es.size=xs.length:=by have:=congrArg List.length he;simpa using this
 have Ew:(es.map (·.1)).toList=xs.map λ e=>(intKind prog w).hash e.1:=by rw[Array.toList_map,he,AQ];rfl
 have hsz:(es.map (·.1)).size=xs.length:=by rw[CY,hlen]
 obtain⟨t',order,h1,h2,h3,h4,h5,h6,h7⟩:=YC hM t.finger (t.movedTo M) t.led t.plain (es.map (·.1)) (by rw[hsz];lia);rw[hsz] at h6;have Am:∀ k∈order.toList,k<xs.length:=λ k hk=>by simpa using h6.mem_iff.mp hk
 have hr:t.relaid (es.map (·.1)) wanted=some (t',order):=by
  unfold SetTable.relaid;rw[hw,Nat.add_sub_cancel];exact h1
 have BI:(order.filterMap (es[·]?)).toList=(order.toList.filterMap λ k=>xs[k]?).map λ e=>((intKind prog w).hash e.1,Value.int e.1 e.2):=by
  rw[Array.toList_filterMap,List.map_filterMap];congr 1;funext k;rw[<- BB,he,Ay]
 have hperm:(order.toList.filterMap λ k=>xs[k]?).Perm xs:=(h6.filterMap _).trans (by rw[List.filterMap_getElem?_range_length]);have BH:(order.filterMap (es[·]?)).size=es.size:=by
  rw[<- Bo,BI,Aw,hperm.length_eq,hlen]
 have hT:Tab t' ((order.toList.filterMap λ k=>xs[k]?).map λ e=>(intKind prog w).hash e.1):=by
  rw[<- fB xs (λ e=>(intKind prog w).hash e.1) 0 order.toList Am,<- Ew];exact h7
 refine⟨_,t',_,?_,BI,hperm,hT,h2,h4,h5,BH⟩;have zG:coversAll order es.size=true:=by
  unfold coversAll;rw[List.isPerm_iff,hlen];exact h6
 have fit:t'.fits (order.filterMap (es[·]?)).size=true:=fits_of (n:=xs.length) (by rw[BH,hlen]) hT (by rw[Aw,hperm.length_eq]) (by rw[h2];lia);unfold relayAll;rw[hr];dsimp only;rw[zG,fit];rfl
def add_int {a:Addr}{xs:List (Int×Tok)}{n:Int}{tk:Tok}{led:Bool}{Q:Bool->Shared->Prop}(S:uh prog w s.heap a xs led) (hn:xs.length<70)
  (h:∀ h' xs' r,Heap.SameBut a s.heap h'->uh prog w h' a xs' led->(n∈xs.map (·.1)/\xs'=xs\/n∉xs.map (·.1)/\xs'.Perm (xs++[(n,tk)]))->Q r { s with heap:=h' }):
  wpAny (model prog w) A (setAddHashed a (.int n tk) ((intKind prog w).hash n)) Q E s:=by
 have S0:=S;obtain⟨⟨es,ep,t,ho,he,T,Bv,Au,AG⟩,BW⟩:=S;have hlen:es.size=xs.length:=by have:=congrArg List.length he;simpa using this
 have hm7:7<=t.mask/\t.mask<=127:=by rcases T.mask with e | e | e <;> lia
 have fit:t.fits es.size=true:=fits_of (n:=xs.length) hlen T (by simp) (by lia);have hel:=Mj (prog:=prog) (w:=w) he;unfold setAddHashed setAddHashedIn;refine za3 (Ab (za8 ho rfl fit ?_));dsimp only;have bs:byScan (.int n tk) es=true:=by
  have h1:decide (es.size<scanBound)=true:=za2 (by unfold scanBound;lia);have h2:es.all (·.2.scannable)=true:=by
   rw[Array.all_eq_true_iff_forall_mem];intro e hm;exact (hel e (by simpa using hm)).2
  unfold byScan;rw[h1,h2];rfl
 rw[if_pos bs];refine Ab ?_;unfold setAddByScan;refine Ab (wpAny_rule (Ab (wpAny_setScan_of (k:=n) (mT.mpr rfl) ho rfl fit hel ?_)));have hfind:(es.toList.findIdx? (λ e=>(intKind prog w).is n e.2)).isSome=true↔n∈xs.map (·.1):=by
  rw[he,List.findIdx?_isSome,AM];constructor
  .rintro⟨e,hm,q⟩;obtain⟨x,hx,rfl⟩:=An.mp hm;exact An.mpr ⟨x,hx,(mT.mp q).symm⟩
  .intro hm;obtain⟨x,hx,rfl⟩:=An.mp hm;exact⟨_,An.mpr ⟨x,hx,rfl⟩,mT.mpr rfl⟩
 cases hc:es.toList.findIdx? (λ e=>(intKind prog w).is n e.2) with
 | some j=>
  dsimp only;have hm:=hfind.mp (by rw[hc];rfl);refine Ad ?_;dsimp only;exact Ad (h s.heap xs false ⟨rfl,λ _ _=>rfl⟩ S0 (.inl ⟨hm,rfl⟩))
 | none=>
  dsimp only;have hm:n∉xs.map (·.1):=λ q=>by have:=hfind.mpr q;rw[hc] at this;cases this
  obtain⟨j,fs,F⟩:=NQ T (by rw[Aw];lia) ((intKind prog w).hash n);obtain⟨p1,p2,p3⟩:=T.put F;rw[Aw] at p1;have Co:(t.put j).1.plain=true:=by rw[p2];exact Au
  have BX:(t.put j).1.mask=t.mask:=by rw[p2]
  have Am:(t.put j).1.led=led:=by rw[p2];exact Bv
  generalize hT:(t.put j)=P at *;obtain⟨t1,p⟩:=P;dsimp only at *
  let xs1:=xs.take p++(n,tk)::xs.drop p
  have hperm:xs1.Perm (xs++[(n,tk)]):=by
   have e:xs.take p++xs.drop p=xs:=DY p xs;have:xs1.Perm ((n,tk)::(xs.take p++xs.drop p)):=List.perm_middle;rw[e] at this;exact this.trans (List.perm_append_singleton _ _).symm
  have hl1:xs1.length=xs.length+1:=by rw[hperm.length_eq];simp
  have hes1:(insertAt es p ((intKind prog w).hash n,Value.int n tk)).toList=xs1.map λ e=>((intKind prog w).hash e.1,Value.int e.1 e.2):=by
   rw[toList_insertAt,he];simp[xs1,CS,CQ]
  have hsz1:(insertAt es p ((intKind prog w).hash n,Value.int n tk)).size=xs.length+1:=by rw[<- Bo,hes1,Aw,hl1]
  have T1:Tab t1 (xs1.map λ e=>(intKind prog w).hash e.1):=by
   have:xs1.map (λ e=>(intKind prog w).hash e.1)=(xs.map λ e=>(intKind prog w).hash e.1).take p++(intKind prog w).hash n::(xs.map λ e=>(intKind prog w).hash e.1).drop p:=by simp[xs1,CS,CQ]
   rw[this];exact p3
  have fit1:t1.fits (insertAt es p ((intKind prog w).hash n,Value.int n tk)).size=true:=fits_of (n:=xs.length+1) hsz1 T1 (by rw[Aw,hl1]) (by rw[BX];lia);have Dc:layNew t es ((intKind prog w).hash n) (.int n tk)=(insertAt es p ((intKind prog w).hash n,Value.int n tk),t1,false,false):=by
   unfold layNew;rw[fs];dsimp only;rw[hT];dsimp only;unfold SetTable.orStandIn;rw[fit1];rfl
  have Bp:(insertAt es p ((intKind prog w).hash n,Value.int n tk)).size<=sizeLine:=by
   rw[hsz1];have:sizeLine=16777216:=rfl;lia
  have hnd1:(xs1.map (·.1)).Nodup:=by
   refine (hperm.map _).nodup_iff.mpr ?_;rw[Bm,DT];refine⟨BW,by simp,λ x hx y hy=>?_⟩;simp at hy;subst hy;exact λ e=>hm (e▸hx)
  have ho1:=je (es':=insertAt es p ((intKind prog w).hash n,Value.int n tk)) (t':=t1) ho;have sb:=Heap.SameBut.update s.heap a (Obj.putSet (insertAt es p ((intKind prog w).hash n,Value.int n tk)) t1);have hfill:t1.fill=xs.length+1:=by
   have l:=T1.len;rw[Aw,hl1] at l;unfold SetTable.fill;rw[T1.qv,l];simp
  rw[Dc];dsimp only;refine Ab (m:=pure ()) (Ad ?_);rw[Co];simp only[if_true];refine Ab (m:=pure true) (Ad ?_);simp only[if_true];refine Ab (wpAny_storeSet_of ho rfl ?_ Bp);by_cases hf:t1.tooFull=true
  .rw[hf];simp only[AE,Dy,if_true];have hfull:t.mask*3<=(xs.length+1)*5:=by
    have:=hf;unfold SetTable.tooFull at this;rw[hfill,BX] at this;simpa using this
   obtain⟨M',g1,g2,g3⟩:=Zc xs.length t.mask T.mask AG hfull hn;obtain⟨es2,t2,xs2,r1,r2,r3,r4,r5,r6,r7,r8⟩:=Tf (prog:=prog) (w:=w) (t:=t1) hes1 g1 (wanted:=grown (insertAt es p ((intKind prog w).hash n,Value.int n tk)).size) (by rw[hsz1];exact g2) (by rw[hl1];exact g3);rw[r1];dsimp only;refine Ab (m:=pure ()) (Ad (Ab (wpAny_storeSet_of ho1 rfl ?_ (by rw[r8];exact Bp))));refine Ad ?_;dsimp only;refine Ad (h _ xs2 true (sb.trans (Heap.SameBut.update _ a _)) ⟨⟨es2,ep+1+1,t2,je ho1,r2,r4,by rw[r6];exact Am,by rw[r7];exact Co,by rw[r3.length_eq,hl1,r5];exact g3⟩,(r3.map _).nodup_iff.mpr hnd1⟩ (.inr ⟨hm,r3.trans hperm⟩))
  .have hf':t1.tooFull=false:=by simpa using hf
   rw[hf'];simp only[AE,B4,Ba,if_false];have hfull:(xs.length+1)*5<t.mask*3:=by
    have:=hf';unfold SetTable.tooFull at this;rw[hfill,BX] at this;simpa using this
   refine Ad ?_;dsimp only;exact Ad (h _ xs1 true sb ⟨⟨_,ep+1,t1,ho1,hes1,T1,Am,Co,by rw[hl1,BX];exact hfull⟩,hnd1⟩ (.inr ⟨hm,hperm⟩))
end
structure rm (its:Array Value) (ns:List Int) (i:Nat) (xs:List (Int×Tok)):Prop where
 own:∀ e∈xs,∃ j,j<i/\ns[j]?=some e.1
 all:∀ (j:Nat) r,j<i->ns[j]?=some r->r∈xs.map (·.1)
theorem ej:∀ (l m:List Int),l.Nodup->(∀ x∈l,x∈m)->l.length<=m.length
 | [],m,_,_=>AL _
 | x::l,m,hn,hs=>by
  have h1:=Be.mp hn;have hx:=hs x Al;have:=ej l (m.erase x) h1.2 λ z hz=>(D1 (λ e:z=x=>h1.1 (by rw[<- e];exact hz))).mpr (hs z (Av _ hz));rw[D0 hx] at this;have:=Dw hx;simp only[AW];lia
def rm.len {its:Array Value}{ns:List Int}{i:Nat}{xs:List (Int×Tok)}(U:rm its ns i xs) (nd:(xs.map (·.1)).Nodup):xs.length<=i:=by
 have:=ej (xs.map (·.1)) ((List.range i).map λ j=>ns.getD j 0) nd λ x hx=>by
  obtain⟨e,he,rfl⟩:=An.mp hx;obtain⟨j,h1,h3⟩:=U.own e he;exact An.mpr ⟨j,AA.mpr h1,by rw[AI,h3];rfl⟩
 simpa using this
def rm.step {its:Array Value}{ns:List Int}{i:Nat}{xs xs':List (Int×Tok)}{n:Int}{t:Tok}(U:rm its ns i xs) (hr:ns[i]?=some n)
  (h:n∈xs.map (·.1)/\xs'=xs\/n∉xs.map (·.1)/\xs'.Perm (xs++[(n,t)])):rm its ns (i+1) xs':=by
 have eqi:∀ j:Nat,j<i+1->¬ j<i->j=i:=λ j a b=>by lia
 rcases h with ⟨hm,rfl⟩ | ⟨_,hp⟩
 .refine⟨λ e he=>?_,λ j r hj Bi=>?_⟩
  .obtain⟨j,h1,h2⟩:=U.own e he;exact⟨j,Bx h1,h2⟩
  .by_cases q:j<i
   .exact U.all j r q Bi
   .rw[eqi j hj q,hr] at Bi;cases Bi;exact hm
 .refine⟨λ e he=>?_,λ j r hj Bi=>?_⟩
  .rcases AX.mp (hp.mem_iff.mp he) with q | q
   .obtain⟨j,h1,h2⟩:=U.own e q;exact⟨j,Bx h1,h2⟩
   .cases AR.mp q;exact⟨i,Cj i,hr⟩
  .rw[(hp.map (·.1)).mem_iff,Bm];by_cases q:j<i
   .exact B6 _ (U.all j r q Bi)
   .rw[eqi j hj q,hr] at Bi;cases Bi;exact AY _ Al
def Nums (its:Array Value) (ns:List Int):Prop:=∀ (i:Nat) v,its[i]?=some v->∃ n t,v=.int n t/\ns[i]?=some n
section
variable {prog:Program}{w:World}{A:Around}{R:Result->Shared->Prop}{I:Addr}{fp wr:List Addr}{G:Array GenState->Array GenState->Prop}{n:Nat}{P:Nat->Value->Prop}{St:Nat->Shared->Prop}
def uh.keep {h h':Heap}{a:Addr}{xs:List (Int×Tok)}{led:Bool}(S:uh prog w h a xs led) (k:∀ o,h.get? a=some o->h'.get? a=some o):uh prog w h' a xs led:=
 let ⟨⟨es,ep,t,ho,r⟩,nd⟩:=S;⟨⟨es,ep,t,k _ ho,r⟩,nd⟩
def Oy (W:WalksS prog w A.in1 I fp wr G n (λ i v=>P i v) St) (Sa:Addr) (hSf:Sa∉fp) {its:Array Value}{ns:List Int}(hP:∀ i v,P i v->its[i]?=some v) (hn:n<70) (led:Bool) (hN:Nums its ns):
  ∀ (k i:Nat) (s:Shared) (xs:List (Int×Tok)),n-i=k->i<=n->St i s->uh prog w s.heap Sa xs led->rm its ns i xs->
   (∀ s' xs',Moved (Sa::wr) G s s'->uh prog w s'.heap Sa xs' led->rm its ns n xs'->R (.ok (.ret .none)) s')->
   codeAny (model prog w) A (.builtin "set.update.loop" ⟨[.ref Sa,.ref I],[]⟩) R s:=by
 have hSw:Sa∉wr:=λ z=>hSf (W.sub _ z);have more:∀ b∈wr,b∈Sa::wr:=λ b hb=>Av _ hb;intro k
 induction k with
 | zero=>
  intro i s xs hk hi AZ hS hU hR;have e:i=n:=by lia
  subst e;refine codeAny_builtin F.entry_set_update_loop ?_;rw[Around.under_plainId F.plain_set_update_loop _];show wpAny _ A.in1 (pyNext (.ref I) >>= _) _ _ s;exact Ab (W.done s _ _ AZ λ s' hm=>Ad (hR s' xs (hm.mono more) (hS.keep λ o e=>hm.heap _ o hSw e) hU))
 | succ k ih=>
  intro i s xs hk hi AZ hS hU hR;have Am:i<n:=by lia
  refine codeAny_builtin F.entry_set_update_loop ?_;rw[Around.under_plainId F.plain_set_update_loop _];show wpAny _ A.in1 (pyNext (.ref I) >>= _) _ _ s;refine Ab (W.item i s _ _ Am AZ λ v s1 hPv hst1 hm=>?_);obtain⟨m,t,rfl,hr⟩:=hN i v (hP i v hPv);have S1:uh prog w s1.heap Sa xs led:=hS.keep λ o e=>hm.heap _ o hSw e;have hl:xs.length<70:=by have:=hU.len hS.nd;lia
  show wpAny _ A.in1 (holding [Value.int m t] (setAdd Sa (.int m t)) >>= _) _ _ s1;refine Ab (za3 ?_);unfold setAdd;refine za3 (Ab ((intKind prog w).pyHash (A:=A.in1) (k:=m) (mT.mpr rfl) ?_));refine add_int (s:={ s1 with toks:=s1.toks+1 }) (A:=A.in1) S1 hl λ h' xs' rr sb S' hx=>?_;have fr:=W.frame (i+1) s1 h' (s1.toks+1) hst1 (B2 _ _) λ c hc o e=>(sb.2 c (λ z:c=Sa=>hSf (z▸hc))).trans e;refine Ad ⟨plainId_quiet F.plain_set_update_loop _,ih (i+1) _ xs' (by lia) Am fr S' (hU.step hr hx) λ s2 xs2 hm2 S2 U2=>?_⟩;refine hR s2 xs2 (Moved.trans W.gtrans ((hm.mono more).then_heap (B2 _ _) λ c o hc e=>?_) hm2) S2 U2;exact (sb.2 c (λ z=>hc (z▸Al))).trans e
end
section
variable {prog:Program}{w:World}{A:Around}{E:Value->Shared->Prop}{s:Shared}
def UE {h:Heap}{a:Addr}(ho:h.get? a=some (xp w)):uh prog w h a [] (vY w):=
 ⟨⟨#[],0,_,ho,rfl,⟨.inl rfl,rfl,rfl,.nil,λ j hj=>(by cases hj),λ i g j hg=>(by cases hg)⟩,rfl,rfl,by show 0*5<7*3;lia⟩,.nil⟩
set_option maxHeartbeats 6400000 in
def MU {l:Addr}{its:Array Value}{ns:List Int}{Q:Value->Shared->Prop}(hh:A.handled=none) (hl:s.heap.IsList l its) (hT:Nums its ns) (hn:its.size<70)
  (h:∀ (h':Heap) (tk:Nat) xs,uh prog w h' s.heap.objs.size xs (vY w)->rm its ns its.size xs->(∀ b o,b<s.heap.objs.size->s.heap.get? b=some o->h'.get? b=some o)->Q (.ref s.heap.objs.size) { s with heap:=h',toks:=tk }):
  wpAny (model prog w) A (call (.type "set") [.ref l]) Q E s:=by
 obtain⟨c,tl,El⟩:=F.called_set.mro;have made:=F.called_set.made;have subm:=F.called_set.sub;refine wpAny_call (codeAny_of_tree ?_);show wpAny _ _ (callAny (.type "set") _) _ _ _;refine Ad ⟨Code.quiet_builtin _ (by decide +kernel),codeAny_builtin F.entry_type_call ?_⟩;rw[Around.under_plain (weight_type_call_type "set" [.ref l] []) rfl];have nt:=F.called_set.notType;have cc:=F.called_set.canCreate;have tc:=F.typeCall_set_1 (.ref l)
 repeat (any_goals (first | assumption | wp_step))
 refine codeAny_mono (XZ (.ref l) (E:=E) (Q:=λ obj s₁=>obj=.ref s.heap.objs.size/\s₁={ s with heap:=s.heap.push (xp w) }) ⟨rfl,rfl⟩) λ r s₁ hr=>?_;cases r with
 | error e=>exact hr
 | ok fl=>
  cases fl with
  | ret obj=>
   obtain⟨rfl,rfl⟩:=hr;have hS:(s.heap.push (xp w)).get? s.heap.objs.size=some (xp w):=AF _ rfl;have hTy:Shared.TypeIs { s with heap:=s.heap.push (xp w) } (.ref s.heap.objs.size) "set":=⟨_,hS,rfl⟩
   have li:=F.called_set.init.lookup;have bi:=F.called_set.init.bind (.ref s.heap.objs.size)
   repeat (any_goals (first | assumption | wp_step))
   let s1:Shared:={ s with heap:=s.heap.push (xp w) }
   refine codeAny_mono (codeAny_call_builtin (R:=wants (λ r s₂=>r=.none/\∃ h' tk xs,s₂={ s with heap:=h',toks:=tk }/\uh prog w h' s.heap.objs.size xs (vY w)/\rm its ns its.size xs/\
     ∀ b o,b<s.heap.objs.size->s.heap.get? b=some o->h'.get? b=some o) E) F.called_set.init.plain F.entry_set_init (check_set_init_1 hTy ?_)) λ r₂ s₂ hr₂=>?_
   .obtain⟨⟨ocls,odict,odata,oslots⟩,C8,AJ,nl,BZ⟩:=id hl;simp only at AJ BZ;subst AJ BZ;have hol1:(s.heap.push (xp w)).get? l=some { cls:=.type "list",dict:=odict,data:=.seq its nl,slots:=oslots }:=Ao _ C8;have sls:=F.sub_list_set;have slf:=F.sub_list_frozenset;have nd:(Value.type "list" == Value.type "dict")=false:=by decide
    have hl1:(s.heap.push (xp w)).IsList l its:=⟨_,hol1,rfl,nl,rfl⟩
    unfold Builtin.«set.__init__» noKeywords Builtin.Frozenset.updateFrom;generalize hPI:pyIter=PI;unfold xp at *
    wp_walk
    subst hPI;refine zaF hl1 (Ab (wpAny_runValue ?_));have hlS:l<s.heap.objs.size:=Ap C8;have hsz:(s.heap.push (xp w)).objs.size=s.heap.objs.size+1:=Heap.size_push _ _;have hneI:l≠(s.heap.push (xp w)).objs.size:=by rw[hsz];exact Ax (Bx hlS)
    have szne:s.heap.objs.size≠(s.heap.push (xp w)).objs.size:=by rw[hsz];exact Ax (Cj _)
    have low:∀ b:Addr,b<s.heap.objs.size->b≠(s.heap.push (xp w)).objs.size:=λ b hb=>by rw[hsz];exact Ax (Bx hb)
    refine Oy (A:=A.in1.in1) (P:=λ i v=>its[i]?=some v) ((Walks.list (A:=A.in1.in1.in1) (by simp[hh]) _ l hneI its).toS) s.heap.objs.size ?_ (its:=its) (ns:=ns) (λ _ _ q=>q) hn (vY w) hT its.size 0 _ [] (by lia) (AL _)
     ⟨⟨_,AF _ rfl,rfl,rfl⟩,hl1.push _⟩ (UE (w:=w) (Ao _ hS)) ⟨λ e he=>(by cases he),λ j r hj=>(by lia)⟩ ?_
    .intro hm;rcases Ai.mp hm with q | q
     .exact szne q
     .exact BR hlS (AR.mp q)
    .intro s' xs' hm S' U';obtain⟨h',g',d',tk',os'⟩:=s';obtain rfl:g'=s.gens:=hm.gens;obtain rfl:d'=s.drawn:=hm.drawn;obtain rfl:os'=s.os:=hm.os;refine Ad (Ad ⟨rfl,h',tk',xs',rfl,S',U',λ b o hb e=>?_⟩);refine hm.heap b o (λ q=>?_) (Ao _ (Ao _ e));rcases Ai.mp q with q | q
     .exact Ax hb q
     .exact low b hb (AR.mp q)
   .cases r₂ with
    | error e=>exact hr₂
    | ok fl₂=>
     cases fl₂ with
     | ret r=>
      obtain⟨rfl,h',tk,xs,rfl,g1,g2,g3⟩:=hr₂
      repeat (any_goals (first | assumption | wp_step))
      exact h h' tk xs g1 g2 g3
     | _=>exact hr₂.elim
  | _=>exact hr.elim
end
end ST
namespace L4
open PySem PyProof.Rows
def M9 {prog:Program}{w:World}{A:Around}{E:Value->Shared->Prop}{s:Shared}{vs:List Value}{ns:List Int}(hI:IntsAre vs ns) (h2:2<=vs.length) (h64:vs.length<64):
  Core prog w A E vs (λ out=>∃ ns',IntsAre out.toList ns'/\ns'.Perm ns/\ns'.Pairwise (·<=·)) s:=by
 obtain⟨v1,v2,rest,rfl⟩:∃ v1 v2 rest,vs=v1::v2::rest:=by
  match vs,h2 with
  | v1::v2::rest,_=>exact⟨v1,v2,rest,rfl⟩
 unfold Core;rw[keyKind_ints hI];refine Ad ⟨rfl,?_⟩;refine za5 (wpS_sortRuns (a₀:=pairsOf (v1::v2::rest)) (st:=SortSt.mk' oneType' ((v1::v2::rest).toArray.zip (v1::v2::rest).toArray) #[] 7 none)
   (Q:=λ _ st'=>(arrOf st').Perm (pairsOf (v1::v2::rest))/\failedOf st'=none/\SortedTo (arrOf st') (pairsOf (v1::v2::rest)).size)
   hI.intKeys ⟨Array.Perm.refl _,rfl,rfl,rfl⟩ (by rw[pairsOf_size];simp) (by rw[pairsOf_size];exact h64) λ st' a1 a2 a3=>⟨a1,a2,a3⟩) ?_ λ _ _ e=>e
 rintro⟨⟨⟩,st'⟩ s' ⟨rfl,hp,hf,hs⟩;exact⟨rfl,hf,sorted_out hI hp hs,by rw[hp.size_eq,pairsOf_size]⟩
end L4
namespace L5
open PySem PySem.Spec L2 L3
open PyProof.Rows hiding St
structure Bq (mg:Str->Option Value):Prop where
 set:mg "set"=none
 zip:mg "zip"=none
 enumerate:mg "enumerate"=none
section
variable {X:Cx}{K:Ac}{a b c e:Expr}{ta tb tc:zy}{pos:Pos}{fa fb fc:Ev->Option T}
def rh (f g:yW) (ta tb tc:zy):zy:=fun Y S Q=>ta Y S λ x S1=>tb Y S1 λ y S2=>f x y S2 λ z S3=>match z with
 | .bl k=>if k=true then tc Y S3 λ w S4=>g y w S4 Q else Q (.bl false) S3
 | _=>False
def rh.mo {f g:yW}(hf:xJ f) (hg:xJ g) (ha:yt ta) (hb:yt tb) (hc:yt tc):yt (rh f g ta tb tc):=fun Y S Q Q' hq h=>
 ha Y S _ _ (λ x S1 h=>hb Y S1 _ _ (λ y S2 h=>hf x y S2 _ _ (λ z S3 h=>by
  cases z <;> first
   | exact vq (hc Y S3 _ _ λ w S4 h=>hg y w S4 _ _ hq h) (hq _ _) h
   | exact h) h) h) h
def aF {f g:yW}{r r':R2}(hr:xB K f r) (hr':xB K g r') (hf:xJ f) (hg:xJ g) (ha:yt ta) (hb:yt tb) (hc:yt tc) {O:St}{H:Hp}{Q:VK}(h:zX K (rh f g ta tb tc) O H Q):iZ r r' (zX K ta) (zX K tb) (zX K tc) O H Q:=by
 obtain⟨Y,S,r1,r2,h⟩:=h;refine zX.go ha r1 r2 h λ x S1 v H1 h1 q1 e1 p1=>?_;refine zX.go hb (r1.ext e1) p1 h1 λ y S2 w H2 h2 q2 e2 p2=>?_;refine hr v w x y H2 S2 _ (zi.ext e2 x q1) q2 p2 (hf x y S2 _ _ (λ d S3 z v3 H3 q3 e3 p3=>?_) h2);cases d with
 | bl k=>
  simp only[zi] at q3;refine⟨k,q3,vq (λ z=>?_) (λ z=>?_) z⟩
  .refine zX.go hc (r1.ext ((e1.trans e2).trans e3)) p3 z λ w4 S4 v4 H4 h4 q4 e4 p4=>?_;exact hr' w v4 y w4 H4 S4 Q (zi.ext (e3.trans e4) y q2) q4 p4 (hg y w4 S4 _ _ (λ d S' z=>z.ext (((e1.trans e2).trans e3).trans e4)) h4)
  .exact z _ H3 (by simp only[zi]) ((e1.trans e2).trans e3) p3
 | zl=>exact z.elim
 | int _=>exact z.elim
 | str _=>exact z.elim
 | tup _=>exact z.elim
 | yN _=>exact z.elim
 | ref _=>exact z.elim
@[simp] noncomputable def jU (f g:T->T->Option T) (fa fb fc:Ev->Option T):Ev->Option T:=fun J=>(fa J).bind λ x=>(fb J).bind λ y=>(f x y).bind λ b=>match b with
 | .bl k=>if k=true then (fc J).bind λ z=>g y z else some (.bl false)
 | _=>none
def Pw {f g:T->T->Option T}{F G:yW}(hf:Good2 zL f F) (hg:Good2 zL g G) (ha:yP fa ta) (hb:yP fb tb) (hc:yP fc tc):wa (jU f g fa fb fc) (rh F G ta tb tc):=λ S Z Y J y Q hE e hq=>by
 obtain⟨x1,e1,e⟩:=Ak e;obtain⟨x2,e2,e⟩:=Ak e;obtain⟨b,e3,e⟩:=Ak e;refine ha S Z Y J x1 _ hE e1 λ d1 S1 s1 r1=>?_;refine hb S1 Z Y J x2 _ (hE.grow s1) e2 λ d2 S2 s2 r2=>?_;refine hf S2 Z x1 x2 b d1 d2 _ (hE.grow (s1.trans s2)).zd (Vw.grow r1 s2) r2 e3 λ c S3 s3 r3=>?_;split at e
 .have:=r3.1;simp only[Sn] at this;subst this;split at e
  .rename_i hk;obtain⟨x4,e4,e5⟩:=Ak e;dsimp only;rw[if_pos hk];refine hc S3 Z Y J x4 _ (hE.grow ((s1.trans s2).trans s3)) e4 λ d4 S4 s4 r4=>?_;exact hg S4 Z x2 x4 y d2 d4 Q (hE.grow (((s1.trans s2).trans s3).trans s4)).zd (Vw.grow r2 (s3.trans s4)) r4 e5 λ c' S5 s5 r5=>hq c' S5 ((((s1.trans s2).trans s3).trans s4).trans s5) (Cl.cl (((s1.trans s2).trans s3).trans s4) r5)
  .rename_i hk;dsimp only;rw[if_neg hk];cases e;exact hq _ S3 ((s1.trans s2).trans s3) (Cl.of (λ _=>nofun) vn)
 .cases e
def R4 {op op':CmpOp}{f g:yW}{r r':R2}(ho:yj X (compareOp op) r) (ho':yj X (compareOp op') r') (hr:xB X.K f r) (hr':xB X.K g r') (hf:xJ f) (hg:xJ g) (ha:PD X a ta) (hb:PD X b tb) (hc:PD X c tc)
  (hm:lastMarks [op,op'] [b,c]=false:=by with_unfolding_all rfl):PD X (.Compare a [op,op'] [b,c] pos) (rh f g ta tb tc):=
 ⟨rh.mo hf hg ha.mo hb.mo hc.mo,PE.imp (SY ho ho' ha.pe hb.pe hc.pe hm) λ _ _ _ h=>aF hr hr' hf hg ha.mo hb.mo hc.mo h⟩
def Rh {op op':CmpOp}{f g:yW}{r r':R2}(ho:yj X (compareOp op) r) (ho':yj X (compareOp op') r') (hr:xB X.K f r) (hr':xB X.K g r') (hf:xJ f) (hg:xJ g) (ha:PD X a ta) (hb:PD X b tb) (hc:PD X c tc)
  (hm:lastMarks [op,op'] [b,c]=false:=by with_unfolding_all rfl):xU X (.Compare a [op,op'] [b,c] pos) (vy (rh f g ta tb tc)):=by
 refine⟨vy.mo (rh.mo hf hg ha.mo hb.mo hc.mo),PT.imp (T7 ho ho' ha.pe hb.pe hc.pe hm) fun O H Q h=>?_⟩;obtain⟨Y,S,r1,r2,h⟩:=h;refine aF hr hr' hf hg ha.mo hb.mo hc.mo ⟨Y,S,r1,r2,rh.mo hf hg ha.mo hb.mo hc.mo Y S _ _ (λ d S' z v H' a b c=>?_) h⟩;cases d with
 | bl k=>simp only[zi] at a;exact⟨k,a,z H' b c⟩
 | zl=>exact z.elim
 | int _=>exact z.elim
 | str _=>exact z.elim
 | tup _=>exact z.elim
 | yN _=>exact z.elim
 | ref _=>exact z.elim
end
end L5
namespace L2
open PySem PySem.Spec PyProof.Rows
section
variable {X:Cx}
def RQ:yj X (compareOp .Is) (λ x y H Q=>∃ c d,x=.bl c/\y=.bl d/\Q (.bl (c == d)) H):=by
 intro pins s O H x y v u Q I rx ry h;obtain⟨c,d,rfl,rfl,q⟩:=h;cases rx;cases ry;exact is_bool ⟨.bl _,H,I,rfl,q⟩
def RG:yj X (compareOp .IsNot) (λ x y H Q=>∃ c d,x=.bl c/\y=.bl d/\Q (.bl (c != d)) H):=by
 intro pins s O H x y v u Q I rx ry h;obtain⟨c,d,rfl,rfl,q⟩:=h;cases rx;cases ry;exact isnot_bool ⟨.bl _,H,I,rfl,q⟩
end
end L2
namespace L5
open PySem PySem.Spec L2 L3
open PyProof.Rows hiding St
section
variable {X:Cx}{K:Ac}{a b c e o i v:Expr}{es:List Expr}{ta tb td ty tv:zy}{pos p pos':Pos}
def vv:yW:=λ x y S Q=>match x,y with
 | .int i,.int j=>Q (.bl (decide (i<j))) S
 | .tup ds,.tup es=>∃ ns ms:List Int,ds=ns.map D.int/\es=ms.map D.int/\Q (.bl (HT.lexLt ns ms)) S
 | _,_=>False
noncomputable def yx:T->T->Option T
 | .int i,.int j=>some (.bl (decide (i<j)))
 | .tup ts,.tup us=>(vd ts).bind λ ns=>(vd us).map λ ms=>.bl (HT.lexLt ns ms)
 | _,_=>none
def vv.mo:xJ vv:=λ x y S Q Q' hq h=>by
 unfold vv at h ⊢;split at h
 .exact hq _ _ h
 .obtain⟨ns,ms,h1,h2,h3⟩:=h;exact⟨ns,ms,h1,h2,hq _ _ h3⟩
 .exact h.elim
def vv.fits:xB K vv (λ x y H Q=>vo (λ i j=>.bl (decide (i<j))) x y H Q\/fw K x y H Q):=λ x y d e H S Q h1 h2 h3 h=>by
 unfold vv at h;split at h
 .simp only[zi] at h1 h2;exact .inl ⟨_,_,h1,h2,h _ H (by simp only[zi]) (.refl H) h3⟩
 .obtain⟨ns,ms,rfl,rfl,h⟩:=h;simp only[zi] at h1 h2;obtain⟨a,xs,rfl,g1,g2⟩:=h1;obtain⟨b,ys,rfl,g3,g4⟩:=h2;rw[g2.ints] at g1;rw[g4.ints] at g3;exact .inr ⟨a,b,ns,ms,rfl,rfl,g1,g3,h _ H (by simp only[zi]) (.refl H) h3⟩
 .exact h.elim
def de:Good2 zL yx vv:=λ S Z x y z d e Q hz hx hy ef hq=>by
 unfold yx at ef;split at ef
 .cases ef;cases hx.int;cases hy.int;exact hq _ S (.refl S) (Cl.of (λ _=>nofun) vn)
 .obtain⟨ns,e1,e2⟩:=Ak ef;obtain⟨ms,e3,rfl⟩:=AB e2;cases pC e1;cases pC e3;obtain⟨ds,rfl,h2⟩:=hx.tup;obtain⟨es,rfl,h4⟩:=hy.tup;exact⟨ns,ms,uS.mp h2,uS.mp h4,hq _ S (.refl S) (Cl.of (λ _=>nofun) vn)⟩
 .cases ef
def fP {k:Nat}(hr:yK k X.A):yj X (compareOp .Lt) (λ x y H Q=>vo (λ i j=>.bl (decide (i<j))) x y H Q\/fw X.K x y H Q):=RO.or (RM (by have:=hr.units;lia))
def Rt {k:Nat}(hr:yK k X.A) (ha:PD X a ta) (hb:PD X b tb):PD X (.Compare a [.Lt] [b] pos) (yF vv ta tb):=jl (fP hr) vv.fits vv.mo ha hb (uW _)
def sN {k:Nat}(hr:yK k X.A) (ha:PD X a ta) (hb:PD X b tb):xU X (.Compare a [.Lt] [b] pos) (vy (yF vv ta tb)):=rZ (fP hr) vv.fits vv.mo ha hb (uW _)
def wV (neg:Bool):yW:=λ x y S Q=>match x,y with
 | .bl c,.bl d=>Q (.bl (cond neg (c != d) (c == d))) S
 | x,.zl=>Q (.bl (cond neg (!oV x) (oV x))) S
 | _,_=>False
noncomputable def w6 (neg:Bool):T->T->Option T
 | .bl c,.bl d=>some (.bl (cond neg (c != d) (c == d)))
 | x,.zl=>some (.bl (cond neg (!isNone x) (isNone x)))
 | _,_=>none
def wV.mo {neg:Bool}:xJ (wV neg):=λ x y S Q Q' hq h=>by
 unfold wV at h ⊢;split at h
 .exact hq _ _ h
 .exact hq _ _ h
 .exact h.elim
def wV.fits:xB K (wV false) (λ x y H Q=>(∃ c d,x=.bl c/\y=.bl d/\Q (.bl (c == d)) H)\/(y=.zl/\Q (.bl (decide (x=.zl))) H)):=λ x y d e H S Q h1 h2 h3 h=>by
 unfold wV at h;split at h
 .simp only[zi] at h1 h2;exact .inl ⟨_,_,h1,h2,h _ H (by simp only[zi,cond]) (.refl H) h3⟩
 .simp only[zi] at h2;refine .inr ⟨h2,?_⟩;rw[YK h1];exact h _ H (by simp only[zi,cond]) (.refl H) h3
 .exact h.elim
def wV.NV:xB K (wV true) (λ x y H Q=>(∃ c d,x=.bl c/\y=.bl d/\Q (.bl (c != d)) H)\/(y=.zl/\Q (.bl (!decide (x=.zl))) H)):=λ x y d e H S Q h1 h2 h3 h=>by
 unfold wV at h;split at h
 .simp only[zi] at h1 h2;exact .inl ⟨_,_,h1,h2,h _ H (by simp only[zi,cond]) (.refl H) h3⟩
 .simp only[zi] at h2;refine .inr ⟨h2,?_⟩;rw[YK h1];exact h _ H (by simp only[zi,cond]) (.refl H) h3
 .exact h.elim
def Nc {S:SS}{Z:Addr->Prop}{x:T}{d:D}(hx:Vw S Z x d):oV d=isNone x:=by
 cases x with
 | zl=>cases hx.zl;rfl
 | bl _=>cases hx.bl;rfl
 | int _=>cases hx.int;rfl
 | str _=>cases hx.str;rfl
 | tup _=>obtain⟨ds,rfl,_⟩:=hx.tup;rfl
 | lst _=>obtain⟨ds,rfl | ⟨a,rfl,h1⟩,h2⟩:=hx.lst <;> rfl
 | yd=>obtain⟨a,Aa,rfl,h1⟩:=hx.yd;rfl
def NC {neg:Bool}:Good2 zL (w6 neg) (wV neg):=λ S Z x y z d e Q hz hx hy ef hq=>by
 unfold w6 at ef;split at ef
 .cases ef;cases hx.bl;cases hy.bl;exact hq _ S (.refl S) (Cl.of (λ _=>nofun) vn)
 .cases ef;cases hy.zl;have key:Q (.bl (cond neg (!oV d) (oV d))) S:=by
   rw[Nc hx];exact hq _ S (.refl S) (Cl.of (λ _=>nofun) vn)
  unfold wV;cases d <;> exact key
 .cases ef
def Rv (ha:PD X a ta) (hb:PD X b tb):PD X (.Compare a [.IsNot] [b] pos) (yF (wV true) ta tb):=jl (RG.or RF) wV.NV wV.mo ha hb (uW _)
def jh (ha:PD X a ta) (hb:PD X b tb):xU X (.Compare a [.Is] [b] pos) (vy (yF (wV false) ta tb)):=rZ (RQ.or RP) wV.fits wV.mo ha hb (uW _)
def XH (td ty tv:zy):y_:=λ E Y S=>tv Y S λ v S1=>td Y S1 λ x S2=>ty Y S2 λ y S3=>∃ p ds k j,x=.ref p/\y=.int k/\S3 p=some (.lst ds)/\wR ds.length k=some j/\E.nx Y (ups S3 p (.lst (ds.set j v)))
theorem zq.set {H:Hp}{d:D}{x:V}(h:zi K H d x):∀ {ds:List D}{xs:List V}(j:Nat),zq K H ds xs->zq K H (ds.set j d) (xs.set j x)
 | [],xs,j,r=>by simp only[zq] at r;subst r;exact .nil
 | c::ds,xs,0,r=>by
  simp only[zq] at r;obtain⟨y,ys,rfl,_,r2⟩:=r;exact .cons h r2
 | c::ds,xs,j+1,r=>by
  simp only[zq] at r;obtain⟨y,ys,rfl,r1,r2⟩:=r;exact .cons r1 (zq.set h j r2)
def fG (ho:PD X o td) (hi:PD X i ty) (hv:PD X v tv) (hs:swapsWithSole [.Subscript o i pos'] v pos.line X.env=pure false:=by rfl) (hw:swappedStores [.Subscript o i pos'] v X.env=pure none:=by rfl)
  (h1:(assignEach [.Subscript o i pos'] X.env).map (·.2)=[assign (.Subscript o i pos') X.env]:=by rfl)
  (ha:∀ v,assign (.Subscript o i pos') X.env v=(do
   let ov <- holding [v] (eval o X.env)
   let iv <- holding [v,ov] (eval i X.env)
   standAt pos'
   holding [v,ov,iv] (setItem ov iv v)
   release [v,ov,iv] []):=by intro _;rfl):ui X (.Assign [.Subscript o i pos'] v pos) (XH td ty tv):=by
 refine⟨λ E E' Y S hE z=>hv.mo Y S _ _ (λ w S1 z=>ho.mo Y S1 _ _ (λ x S2 z=>hi.mo Y S2 _ _ (λ y S3 ⟨p,ds,k,j,a,b,c,d,h⟩=>⟨p,ds,k,j,a,b,c,d,hE.nx _ _ h⟩) z) z) z,PS.imp (TU hv.pe (Ss ho.pe hi.pe set_list ha) hs hw h1) λ D O H hu=>?_⟩;obtain⟨Y,S,r1,r2,z⟩:=hu;refine zX.go hv.mo r1 r2 z λ w S1 w1 H1 h1 q1 e1 p1=>?_;refine zX.go ho.mo (r1.ext e1) p1 h1 λ x S2 w2 H2 h2 q2 e2 p2=>?_;refine zX.go hi.mo ((r1.ext e1).ext e2) p2 h2 λ y S3 w3 H3 h3 q3 e3 p3=>?_;obtain⟨p,ds,k,j,rfl,rfl,c1,c2,h⟩:=h3;simp only[zi] at q2 q3;subst q2 q3;obtain⟨xs,g1,g2⟩:=p3 _ _ c1;have e4:Ext H3 (upd H3 p (.lst (xs.set j w1))):=.lst g1 _;refine⟨p,xs,k,j,rfl,rfl,g1,by rw[<- g2.length];exact c2,?_⟩;exact h O _ ((((r1.ext e1).ext e2).ext e3).ext e4) (((e1.trans e2).trans e3).trans e4) (p3.ups e4 ⟨_,yR,zq.ext e4 _ (zq.set (zi.ext (e2.trans e3) w q1) j g2)⟩)
@[simp] def j0 (n:Nat) (f v:Ev->Option T):Sm:=fun J=>(v J).bind λ z=>(f J).bind λ y=>match J[n]?,y with
 | some (some (.own (.lst ts))),.int k=>(wR ts.length k).map λ j=>.nx (J.set n (some (.own (.lst (ts.set j z)))))
 | _,_=>none
def Qe {R:Rk}(n:Nat) {f v:Ev->Option T}(hf:yP f ty) (hv:uj v tv):xc R (j0 n f v) (XH (yO n) ty tv):=λ S0 Z0 S Z Y J o E F e P=>by
 obtain⟨z,e1,e⟩:=Ak e;obtain⟨x,e2,e3⟩:=Ak e;split at e3
 .rename_i ts k h;obtain⟨j,hj,rfl⟩:=AB e3;refine hv S Z Y J z _ F.er e1 λ dz S1 s1 r1=>?_;have F1:=F.grow s1;obtain⟨p,ob,h1,h2,h3,h4⟩:=F1.er.ow n _ h;cases ob with
  | yq _=>exact h3.elim
  | lst ds=>
   show yO n Y S1 _;unfold yO;rw[h1];refine hf S1 Z Y J _ _ F1.er e2 λ d S2 s2 r2=>?_;cases Vw.int r2;have h5:zo (zW S2 Z) ts ds:=zo.sx (ve s2) ts h3;exact⟨p,ds,k,j,rfl,rfl,s2 _ _ h2,by rw[h5.len];exact hj,P _ Z Y ((F1.grow s2).mut (us:=.lst (ts.set j z)) (es:=.lst (ds.set j dz)) n h h1 (h5.Ze j (Sn.sx (ve s2) z r1)))⟩
 .cases e3
def ZQ {x y:Str}{u:Value}(hm:X.mg x=some u) (r:RelV (.str y) u) (hg:Gl X x:=by rfl) (hd:(x == ("__debug__":Str))=false:=by decide):PD X (.Name x pos) (dC (.str y)):=mJ (SR hg hm r hd) λ _=>by simp only[zi]
end
end L5
namespace ZP
open PySem PyProof.Rows
noncomputable def eV (k:Bool):String:=cond k "tuple_iterator" "list_iterator"
def SI (h:Heap) (k:Bool) (it l:Addr) (i:Nat):Prop:=∃ o,h.get? it=some o/\o.cls=.type (eV k)/\o.data=.fields #[.ref l,.int i 0]
def SQ (h:Heap) (k:Bool) (l:Addr) (xs:Array Value):Prop:=match k with
 | true=>h.IsTuple l xs
 | false=>h.IsList l xs
def SI.on {h h':Heap}{k:Bool}{it l:Addr}{i:Nat}(x:SI h k it l i) (f:∀ o,h.get? it=some o->h'.get? it=some o):SI h' k it l i:=
 let ⟨o,ho,r⟩:=x;⟨o,f o ho,r⟩
def SQ.on {h h':Heap}{k:Bool}{l:Addr}{xs:Array Value}(x:SQ h k l xs) (f:∀ o,h.get? l=some o->h'.get? l=some o):SQ h' k l xs:=by
 cases k with
 | true=>obtain⟨o,ho,r⟩:=(show h.IsTuple l xs from x);exact⟨o,f o ho,r⟩
 | false=>obtain⟨o,ho,r⟩:=(show h.IsList l xs from x);exact⟨o,f o ho,r⟩
def SQ.lt {h:Heap}{k:Bool}{l:Addr}{xs:Array Value}(x:SQ h k l xs):l<h.objs.size:=by
 cases k with
 | true=>obtain⟨o,ho,_⟩:=(show h.IsTuple l xs from x);exact Ap ho
 | false=>obtain⟨o,ho,_⟩:=(show h.IsList l xs from x);exact Ap ho
theorem SQ.cls {h:Heap}{k:Bool}{l:Addr}{xs:Array Value}(x:SQ h k l xs):∃ o,h.get? l=some o/\o.cls=.type (cond k "tuple" "list"):=by
 cases k with
 | true=>obtain⟨o,ho,c,_⟩:=(show h.IsTuple l xs from x);exact⟨o,ho,c⟩
 | false=>obtain⟨o,ho,c,_⟩:=(show h.IsList l xs from x);exact⟨o,ho,c⟩
section
variable {prog:Program}{w:World}{A:Around}{E:Value->Shared->Prop}{s:Shared}
def made {k:Bool}{l:Addr}{xs:Array Value}{Q:Value->Shared->Prop}(hl:SQ s.heap k l xs)
  (hQ:Q (.ref s.heap.objs.size) { s with heap:=s.heap.push { cls:=.type (eV k),data:=.fields #[.ref l,.int 0 0] } }):wpAny (model prog w) A (pyIter (.ref l)) Q E s:=by
 cases k with
 | true=>exact wpAny_pyIter_tuple hl hQ
 | false=>exact zaF hl hQ
def Mq {it l:Addr}{i:Nat}{xs:Array Value}{x:Value}{Q:Value->Shared->Prop}(hit:s.heap.IsTupleIter it l i) (hl:s.heap.IsTuple l xs) (hx:xs[i]?=some x)
  (hQ:∀ h',h'.IsTupleIter it l (i+1)->Heap.SameBut it s.heap h'->Q x { s with heap:=h' }):wpAny (model prog w) A (Builtin.SmallTypes.nextOf (.ref it)) Q E s:=by
 have ht:=hit.typeIs;obtain⟨oi,e1,e2,e3⟩:=id hit;obtain⟨ol,g1,_,n,g2⟩:=hl;refine Ab (zaB (name:=Str.ofString "__next__") ht F.slot_tuple_iterator_next (za6 F.slot_tuple_iterator_next ht F.entry_tuple_iterator_next ?_ (F.args_tuple_iterator_next_1 _)));refine Ab (m:=field (.ref it) 0) (za4 e1 e3 (x:=.ref l) rfl ?_);dsimp only;rw[if_neg (show ¬ ((Value.ref l == Value.none)=true) from BE)];refine Ab (m:=field (.ref it) 1) (za4 e1 e3 (x:=.int i 0) rfl ?_);dsimp only;refine Ab (m:=seqItems? (.ref l)) (za9 g1 g2 ?_);simp only[Cv,hx];have there:=zaE (Obj.mapFields λ y=>y.setIfInBounds 1 (rawInt ((i:Int)+1))) e1 (Obj.isFreed_of_fields (Obj.data_mapFields e3 _));refine Ab (zaI e1 e3 (by simp) (Ad ⟨x,rfl,Ad (hQ _ ⟨_,there,(Obj.cls_mapFields ..).trans e2,?_⟩ (Heap.SameBut.update ..))⟩));rw[Obj.data_mapFields e3];simp[rawInt]
def Mg {it l:Addr}{i:Nat}{xs:Array Value}{Q:Value->Shared->Prop}(hh:A.handled=none) (hit:s.heap.IsTupleIter it l i) (hl:s.heap.IsTuple l xs) (hx:xs[i]?=none)
  (hE:∀ h' e,Heap.ExtBut it s.heap h'->(∃ o,h'.get? e=some o/\o.cls=.type "StopIteration")->E (.ref e) { s with heap:=h' }):wpAny (model prog w) A (Builtin.SmallTypes.nextOf (.ref it)) Q E s:=by
 have ht:=hit.typeIs;obtain⟨oi,e1,e2,e3⟩:=id hit;obtain⟨ol,g1,_,n,g2⟩:=hl;refine Ab (zaB (name:=Str.ofString "__next__") ht F.slot_tuple_iterator_next (za6 F.slot_tuple_iterator_next ht F.entry_tuple_iterator_next ?_ (F.args_tuple_iterator_next_1 _)));refine Ab (m:=field (.ref it) 0) (za4 e1 e3 (x:=.ref l) rfl ?_);dsimp only;rw[if_neg (show ¬ ((Value.ref l == Value.none)=true) from BE)];refine Ab (m:=field (.ref it) 1) (za4 e1 e3 (x:=.int i 0) rfl ?_);dsimp only;refine Ab (m:=seqItems? (.ref l)) (za9 g1 g2 ?_);simp only[Cv,hx];refine Ab (wpAny_rule (Ab (zaI e1 e3 (by simp) ?_)));refine Ab (m:=newExc (.type "StopIteration") []) ?_;simp only[newExc,newTuple];refine Ab (za7 (Ab (m:=firstArgMember _ _) (wpAny_of_eq (a:=Value.none) (by first | rfl | (simp only[firstArgMember];rfl)) (za7 ?_ (by size_fits)))) (by size_fits));simp only[raiseNew];refine Ab (wpAny_handled ?_);rw[show A.in1.handled=none from hh];exact Ab (Ad (wpAny_throw (hE _ _ (((Heap.SameBut.update ..).extBut.push _).push _) ⟨_,AF _ rfl,rfl⟩)))
def draw {k:Bool}{it l:Addr}{i:Nat}{xs:Array Value}{x:Value}{Q:Value->Shared->Prop}(hit:SI s.heap k it l i) (hl:SQ s.heap k l xs) (hx:xs[i]?=some x)
  (hQ:∀ h',SI h' k it l (i+1)->Heap.SameBut it s.heap h'->Q x { s with heap:=h' }):wpAny (model prog w) A (Builtin.SmallTypes.nextOf (.ref it)) Q E s:=by
 cases k with
 | true=>exact Mq hit hl hx hQ
 | false=>exact wpAny_nextOf_list_item hit hl hx hQ
def jO {k:Bool}{it l:Addr}{i:Nat}{xs:Array Value}{Q:Value->Shared->Prop}(hh:A.handled=none) (hit:SI s.heap k it l i) (hl:SQ s.heap k l xs) (hx:xs[i]?=none)
  (hE:∀ h' e,Heap.ExtBut it s.heap h'->(∃ o,h'.get? e=some o/\o.cls=.type "StopIteration")->E (.ref e) { s with heap:=h' }):wpAny (model prog w) A (Builtin.SmallTypes.nextOf (.ref it)) Q E s:=by
 cases k with
 | true=>exact Mg hh hit hl hx hE
 | false=>exact wpAny_nextOf_list_end hh hit hl hx hE
structure i3 (z TI TO i1 i2 l1 l2:Addr):Prop where
 nd:[z,TI,TO,i1,i2].Nodup
 f1:l1∉[z,TI,TO,i1,i2]
 f2:l2∉[z,TI,TO,i1,i2]
structure At (h:Heap) (k1 k2:Bool) (z TI TO i1 i2 l1 l2:Addr) (f0:Value) (n:Nat):Prop where
 z:IsZip h z TI TO f0
 ti:IsPair h TI (.ref i1) (.ref i2)
 to:∃ a b,IsPair h TO a b
 s1:SI h k1 i1 l1 n
 s2:SI h k2 i2 l2 n
def At.keep {h h':Heap}{k1 k2:Bool}{z TI TO i1 i2 l1 l2:Addr}{f0:Value}{n:Nat}(S:At h k1 k2 z TI TO i1 i2 l1 l2 f0 n) (f:∀ b∈[z,TI,TO,i1,i2],∀ o,h.get? b=some o->h'.get? b=some o):At h' k1 k2 z TI TO i1 i2 l1 l2 f0 n:=
 ⟨f z (by simp) _ S.z,f TI (by simp) _ S.ti,let ⟨a,b,e⟩:=S.to;⟨a,b,f TO (by simp) _ e⟩,S.s1.on (f i1 (by simp)),S.s2.on (f i2 (by simp))⟩
def item {k1 k2:Bool}{z TI TO i1 i2 l1 l2:Addr}{n:Nat}{xs ys:Array Value}{x y:Value}{Q:Option Value->Shared->Prop}(D:i3 z TI TO i1 i2 l1 l2) (S:At s.heap k1 k2 z TI TO i1 i2 l1 l2 .none n)
  (h1:SQ s.heap k1 l1 xs) (h2:SQ s.heap k2 l2 ys) (hx:xs[n]?=some x) (hy:ys[n]?=some y)
  (hQ:∀ h',At h' k1 k2 z TI TO i1 i2 l1 l2 (rawInt s.heap.objs.size) (n+1)->IsPair h' s.heap.objs.size x y->(∀ c o,c∉[z,TI,TO,i1,i2]->s.heap.get? c=some o->h'.get? c=some o)->Q (some (.ref s.heap.objs.size)) { s with heap:=h' }):
  wpAny (model prog w) A (pyNext (.ref z)) Q E s:=by
 obtain⟨nd,f1,f2⟩:=D;simp only[Be,Ai,A2,or_false,not_or,List.nodup_nil,and_true,not_false_eq_true] at nd f1 f2;obtain⟨⟨n1,n2,n3,n4⟩,⟨n5,n6,n7⟩,⟨n8,n9⟩,n10⟩:=nd;obtain⟨a1,a2,a3,a4,a5⟩:=f1;obtain⟨b1,b2,b3,b4,b5⟩:=f2;obtain⟨hz,CG,⟨a,b,D_⟩,s1,s2⟩:=S;have hT:s.TypeIs (.ref z) "zip":=⟨_,hz,rfl⟩
 unfold pyNext;refine Ab (wpAny_attempt (zaB (name:=Str.ofString "__next__") hT F.slot_zip_next (za6 F.slot_zip_next hT F.entry_zip_next ?_ (F.args_zip_next_1 _))));refine Ab (m:=field (.ref z) 2) (za4 hz rfl (x:=.bool false) rfl ?_);refine Ab (m:=field (.ref z) 3) (za4 hz rfl (x:=.ref TI) rfl ?_);refine Ab (m:=seqItems? (.ref TI)) (za9 CG rfl ?_);refine Ab (m:=Builtin.SmallTypes.ownedTupleIsFree (.ref z)) (Ab (m:=field (.ref z) 0) (za4 hz rfl (x:=.none) rfl (Ad ?_)));simp only[if_true];refine Ab (wpAny_rule (Ab (za4 hz rfl (x:=.ref TO) rfl (Ab (zaG hz (by simp) λ g1 hz1 e1=>?_)))));replace hz1:IsZip g1 z TI TO .ellipsis:=hz1;refine Ab ?_;simp only[Dp,List.zipIdx_nil,DB,List.forIn_nil];refine Ab (Ab (wpAny_onRaise (Ab (m:=Builtin.SmallTypes.nextOf (.ref i1)) (draw (s1.on λ o q=>e1.extBut _ _ (Ne.symm n3) q) (h1.on λ o q=>e1.extBut _ _ a1 q) hx λ g2 s12 e2=>Ad ?_))));have to2:IsPair g2 TO a b:=e2.extBut _ _ n8 (e1.extBut _ _ (Ne.symm n2) D_);refine Ab (za9 to2 rfl (Ab (wpAny_updateSeq_pair to2 λ g3 to3 e3=>Ab (wpAny_letGo (Ad ?_)))));replace to3:IsPair g3 TO x b:=to3;have up:∀ c o,c≠z->c≠i1->c≠TO->s.heap.get? c=some o->g3.get? c=some o:=λ c o c1 c2 c3 q=>e3.extBut _ _ c3 (e2.extBut _ _ c2 (e1.extBut _ _ c1 q));refine Ab (Ab (wpAny_onRaise (Ab (m:=Builtin.SmallTypes.nextOf (.ref i2)) (draw (s2.on λ o q=>up _ o (Ne.symm n4) (Ne.symm n10) (Ne.symm n9) q) (h2.on λ o q=>up _ o b1 b4 b3 q) hy λ g4 s24 e4=>Ad ?_))));have to4:IsPair g4 TO x b:=e4.extBut _ _ n9 to3;refine Ab (za9 to4 rfl (Ab (wpAny_updateSeq_pair to4 λ g5 to5 e5=>Ab (wpAny_letGo (Ad (Ad ?_))))));replace to5:IsPair g5 TO x y:=to5;refine Ab (za9 to5 rfl (Ab (wpAny_newTuple ?_)));have sz:g5.objs.size=s.heap.objs.size:=by rw[e5.1,e4.1,e3.1,e2.1,e1.1]
 have hz5:IsZip g5 z TI TO .ellipsis:=e5.extBut _ _ n2 (e4.extBut _ _ n4 (e3.extBut _ _ n2 (e2.extBut _ _ n3 hz1)));have up5:∀ c o,c∉[z,TI,TO,i1,i2]->s.heap.get? c=some o->g5.get? c=some o:=λ c o hc q=>by
  simp only[Ai,A2,or_false,not_or] at hc;exact e5.extBut _ _ hc.2.2.1 (e4.extBut _ _ hc.2.2.2.2 (up c o hc.1 hc.2.2.2.1 hc.2.2.1 q))
 have ti5:IsPair g5 TI (.ref i1) (.ref i2):=e5.extBut _ _ n5 (e4.extBut _ _ n7 (up _ _ (Ne.symm n1) n6 n5 CG));have s15:SI g5 k1 i1 l1 (n+1):=s12.on λ o q=>e5.extBut _ _ (Ne.symm n8) (e4.extBut _ _ n10 (e3.extBut _ _ (Ne.symm n8) q));have s25:SI g5 k2 i2 l2 (n+1):=s24.on λ o q=>e5.extBut _ _ (Ne.symm n9) q;have lz:z<g5.objs.size:=Ap hz5;refine Ab (m:=Builtin.SmallTypes.ownedTupleHandOut (.ref z) (.ref g5.objs.size)) ?_;have hz6:IsZip (g5.push { cls:=.type "tuple",data:=.seq #[x,y] }) z TI TO .ellipsis:=Ao _ hz5;refine Ab (zaG hz6 (by simp) λ g7 hz7 e7=>?_);replace hz7:IsZip g7 z TI TO (rawInt g5.objs.size):=hz7;refine zaG hz7 (by simp) λ g8 hz8 e8=>?_;replace hz8:IsZip g8 z TI TO (rawInt g5.objs.size):=hz8;have up8:∀ c o,c≠z->(g5.push { cls:=.type "tuple",data:=.seq #[x,y] }).get? c=some o->g8.get? c=some o:=λ c o c1 q=>e8.extBut _ _ c1 (e7.extBut _ _ c1 q);have T8:IsPair g8 g5.objs.size x y:=up8 _ _ (BR lz) (AF _ rfl);have up9:∀ c o,c≠z->g5.get? c=some o->g8.get? c=some o:=λ c o c1 q=>up8 c o c1 (Ao _ q);rw[sz] at hz8 T8;refine Ad ⟨.ref g5.objs.size,rfl,Ad ?_⟩;show Q (some (.ref g5.objs.size)) _;rw[sz];refine hQ g8 ⟨hz8,up9 _ _ (Ne.symm n1) ti5,⟨x,y,up9 _ _ (Ne.symm n2) to5⟩,s15.on λ o q=>up9 _ o (Ne.symm n3) q,s25.on λ o q=>up9 _ o (Ne.symm n4) q⟩ T8 λ c o hc q=>up9 c o (λ e=>hc (by simp[e])) (up5 c o hc q)
def stop {k1 k2:Bool}{z TI TO i1 i2 l1 l2:Addr}{n:Nat}{xs ys:Array Value}{Q:Option Value->Shared->Prop}(hh:A.handled=none) (D:i3 z TI TO i1 i2 l1 l2) (S:At s.heap k1 k2 z TI TO i1 i2 l1 l2 .none n)
  (h1:SQ s.heap k1 l1 xs) (h2:SQ s.heap k2 l2 ys) (Bk:xs[n]?=none\/ys[n]?=none)
  (hQ:∀ h',(∀ c o,c∉[z,TI,TO,i1,i2]->s.heap.get? c=some o->h'.get? c=some o)->Q none { s with heap:=h' }):
  wpAny (model prog w) A (pyNext (.ref z)) Q E s:=by
 obtain⟨nd,f1,f2⟩:=D;simp only[Be,Ai,A2,or_false,not_or,List.nodup_nil,and_true,not_false_eq_true] at nd f1 f2;obtain⟨⟨n1,n2,n3,n4⟩,⟨n5,n6,n7⟩,⟨n8,n9⟩,n10⟩:=nd;obtain⟨a1,a2,a3,a4,a5⟩:=f1;obtain⟨b1,b2,b3,b4,b5⟩:=f2;obtain⟨hz,CG,⟨a,b,D_⟩,s1,s2⟩:=S;have hT:s.TypeIs (.ref z) "zip":=⟨_,hz,rfl⟩
 have fin:∀ (h':Heap) (e:Addr),(∀ c o,c∉[z,TI,TO,i1,i2]->s.heap.get? c=some o->h'.get? c=some o)->(∃ o,h'.get? e=some o/\o.cls=.type "StopIteration")->
   wpAny (model prog w) A (do if <- isInstance (.ref e) (.type "StopIteration") then pure none else throw (.ref e)) Q E { s with heap:=h' }:=λ h' e k1 k2=>by
  obtain⟨o,ho,hc⟩:=k2;exact Ab (wpAny_isInstance (T:="StopIteration") (b:=true) ⟨o,ho,hc⟩ isSubtype_stop (Ad (hQ _ k1)))
 unfold pyNext;refine Ab (wpAny_attempt (zaB (name:=Str.ofString "__next__") hT F.slot_zip_next (za6 F.slot_zip_next hT F.entry_zip_next ?_ (F.args_zip_next_1 _))));refine Ab (m:=field (.ref z) 2) (za4 hz rfl (x:=.bool false) rfl ?_);refine Ab (m:=field (.ref z) 3) (za4 hz rfl (x:=.ref TI) rfl ?_);refine Ab (m:=seqItems? (.ref TI)) (za9 CG rfl ?_);refine Ab (m:=Builtin.SmallTypes.ownedTupleIsFree (.ref z)) (Ab (m:=field (.ref z) 0) (za4 hz rfl (x:=.none) rfl (Ad ?_)));simp only[if_true];refine Ab (wpAny_rule (Ab (za4 hz rfl (x:=.ref TO) rfl (Ab (zaG hz (by simp) λ g1 hz1 e1=>?_)))));replace hz1:IsZip g1 z TI TO .ellipsis:=hz1;refine Ab ?_;simp only[Dp,List.zipIdx_nil,DB,List.forIn_nil];cases hx:xs[n]? with
 | none=>
  refine Ab (Ab (wpAny_onRaise (Ab (m:=Builtin.SmallTypes.nextOf (.ref i1)) (jO hh (s1.on λ o q=>e1.extBut _ _ (Ne.symm n3) q) (h1.on λ o q=>e1.extBut _ _ a1 q) hx λ g2 ex e2 he=>?_))));have hz2:IsZip g2 z TI TO .ellipsis:=e2 _ _ n3 hz1;obtain⟨oe,q1,q2⟩:=he;have ne:ex≠z:=λ q=>by subst q;rw[hz2] at q1;cases q1;simp at q2
  refine zaG hz2 (by simp) λ g3 _ e3=>fin g3 ex (λ c o hc q=>?_) ⟨oe,e3.extBut _ _ ne q1,q2⟩;simp only[Ai,A2,or_false,not_or] at hc;exact e3.extBut _ _ hc.1 (e2 _ _ hc.2.2.2.1 (e1.extBut _ _ hc.1 q))
 | some x=>
  have hy:ys[n]?=none:=Bk.resolve_left (by rw[hx];simp);refine Ab (Ab (wpAny_onRaise (Ab (m:=Builtin.SmallTypes.nextOf (.ref i1)) (draw (s1.on λ o q=>e1.extBut _ _ (Ne.symm n3) q) (h1.on λ o q=>e1.extBut _ _ a1 q) hx λ g2 s12 e2=>Ad ?_))));have to2:IsPair g2 TO a b:=e2.extBut _ _ n8 (e1.extBut _ _ (Ne.symm n2) D_);refine Ab (za9 to2 rfl (Ab (wpAny_updateSeq_pair to2 λ g3 to3 e3=>Ab (wpAny_letGo (Ad ?_)))));have up:∀ c o,c≠z->c≠i1->c≠TO->s.heap.get? c=some o->g3.get? c=some o:=λ c o c1 c2 c3 q=>e3.extBut _ _ c3 (e2.extBut _ _ c2 (e1.extBut _ _ c1 q));refine Ab (Ab (wpAny_onRaise (Ab (m:=Builtin.SmallTypes.nextOf (.ref i2)) (jO hh (s2.on λ o q=>up _ o (Ne.symm n4) (Ne.symm n10) (Ne.symm n9) q) (h2.on λ o q=>up _ o b1 b4 b3 q) hy λ g4 ex e4 he=>?_))));have hz4:IsZip g4 z TI TO .ellipsis:=e4 _ _ n4 (e3.extBut _ _ n2 (e2.extBut _ _ n3 hz1));obtain⟨oe,q1,q2⟩:=he;have ne:ex≠z:=λ q=>by subst q;rw[hz4] at q1;cases q1;simp at q2
  refine zaG hz4 (by simp) λ g5 _ e5=>fin g5 ex (λ c o hc q=>?_) ⟨oe,e5.extBut _ _ ne q1,q2⟩;simp only[Ai,A2,or_false,not_or] at hc;exact e5.extBut _ _ hc.1 (e4 _ _ hc.2.2.2.2 (up c o hc.1 hc.2.2.2.1 hc.2.2.1 q))
end
abbrev v_ (k:Bool) (l:Addr):Obj:={ cls:=.type (eV k),data:=.fields #[.ref l,.int 0 0] }
abbrev oZ (k1 k2:Bool) (h:Heap) (l1 l2:Addr):Heap:=(h.push (v_ k1 l1)).push (v_ k2 l2)
abbrev jD (k1 k2:Bool) (h:Heap) (l1 l2:Addr):Heap:=(oZ k1 k2 h l1 l2).push { cls:=.type "tuple",data:=.seq #[.ref h.objs.size,.ref (h.push (v_ k1 l1)).objs.size] }
abbrev jC (k1 k2:Bool) (h:Heap) (l1 l2:Addr):Heap:=(jD k1 k2 h l1 l2).push { cls:=.type "tuple",data:=.seq #[.none,.none] }
abbrev oY (k1 k2:Bool) (h:Heap) (l1 l2:Addr):Heap:=(jC k1 k2 h l1 l2).push { cls:=.type "zip",data:=.fields #[.none,.bool false,.bool false,.ref (oZ k1 k2 h l1 l2).objs.size,.ref (jD k1 k2 h l1 l2).objs.size] }
def Om (k1 k2:Bool) (l1 l2:Addr) (xs ys:Array Value):Meets (Builtin.«zip.__new__» ⟨[.type "zip",.ref l1,.ref l2],[]⟩) (λ _ R s=>SQ s.heap k1 l1 xs/\SQ s.heap k2 l2 ys/\
   R (.ok (.ret (.ref (jC k1 k2 s.heap l1 l2).objs.size))) { s with heap:=oY k1 k2 s.heap l1 l2 }):=
 .of_wp λ prog w A R s h=>by
  obtain⟨hp,g,d,tk,os⟩:=s;obtain⟨q1,q2,h⟩:=h;have Ea:=sub_zip;have m1:SQ (Shared.heap ⟨hp,g,d,tk,os⟩) k1 l1 xs:=q1;have m2:SQ (Shared.heap ⟨hp.push (v_ k1 l1),g,d,tk,os⟩) k2 l2 ys:=q2.on λ o e=>Ao _ e
  wp_walk using made m1,made m2
  exact⟨_,rfl,h⟩
section
variable {prog:Program}{w:World}{A:Around}{E:Value->Shared->Prop}{s:Shared}
def new {k1 k2:Bool}{l1 l2:Addr}{xs ys:Array Value}{Q:Value->Shared->Prop}(h1:SQ s.heap k1 l1 xs) (h2:SQ s.heap k2 l2 ys)
  (h:∀ h' z TI TO i1 i2,(∀ b∈[z,TI,TO,i1,i2],s.heap.objs.size<=b)->i3 z TI TO i1 i2 l1 l2->At h' k1 k2 z TI TO i1 i2 l1 l2 .none 0->(∀ c o,s.heap.get? c=some o->h'.get? c=some o)->Q (.ref z) { s with heap:=h' }):
  wpAny (model prog w) A (call (.type "zip") [.ref l1,.ref l2]) Q E s:=by
 refine callType_new F.called_zip (by decide) (F.typeCall_zip_2 _ _) (F.newCall_zip_2 _ _) (λ obj=>F.args_object_init_3 obj _ _) F.entry_zip_new (Om k1 k2 l1 l2 xs ys) ⟨h1,h2,?_⟩;have z1:(s.heap.push (v_ k1 l1)).objs.size=s.heap.objs.size+1:=Heap.size_push ..;have z2:(oZ k1 k2 s.heap l1 l2).objs.size=s.heap.objs.size+2:=by rw[Heap.size_push,z1]
 have z3:(jD k1 k2 s.heap l1 l2).objs.size=s.heap.objs.size+3:=by rw[Heap.size_push,z2]
 have z4:(jC k1 k2 s.heap l1 l2).objs.size=s.heap.objs.size+4:=by rw[Heap.size_push,z3]
 have p1:∀ (h:Heap) (o:Obj),o.isFreed=false->(h.push o).get? h.objs.size=some o:=λ h o e=>AF _ e;have u:∀ {h:Heap}{b:Addr}{o:Obj}(o':Obj),h.get? b=some o->(h.push o').get? b=some o:=λ o' e=>Ao _ e;have g5:(oY k1 k2 s.heap l1 l2).get? (jC k1 k2 s.heap l1 l2).objs.size=some _:=p1 _ _ rfl;have g4:(oY k1 k2 s.heap l1 l2).get? (jD k1 k2 s.heap l1 l2).objs.size=some _:=u _ (p1 _ _ rfl);have g3:(oY k1 k2 s.heap l1 l2).get? (oZ k1 k2 s.heap l1 l2).objs.size=some _:=u _ (u _ (p1 _ _ rfl));have g2:(oY k1 k2 s.heap l1 l2).get? (s.heap.push (v_ k1 l1)).objs.size=some (v_ k2 l2):=u _ (u _ (u _ (p1 _ _ rfl)));have g1:(oY k1 k2 s.heap l1 l2).get? s.heap.objs.size=some (v_ k1 l1):=u _ (u _ (u _ (u _ (p1 _ _ rfl))));have a1:=h1.lt;have a2:=h2.lt;rw[z2,z3,z4] at g5;rw[z1,z2] at g3;rw[z3] at g4;rw[z1] at g2;generalize hN:s.heap.objs.size=N at *;have lt:∀ {m:Nat},m<N->∀ j:Nat,¬ m=N+j:=λ hm j=>by lia
 have ne:∀ {i j:Nat},i≠j->¬ (N+i=N+j):=λ A1 e=>A1 (by lia);show _/\_;rw[z4];refine⟨⟨_,g5,rfl⟩,h _ (N+4) (N+2) (N+3) N (N+1) (λ b hb=>?_) ⟨?_,?_,?_⟩ ⟨g5,g3,⟨_,_,g4⟩,⟨_,g1,rfl,rfl⟩,⟨_,g2,rfl,rfl⟩⟩ λ c o e=>u _ (u _ (u _ (u _ (u _ e))))⟩
 .simp only[Ai,A2,or_false] at hb;have h0:N<=N:=Ah N;rcases hb with e | e | e | e | e <;> subst e
  .exact B2 N 4
  .exact B2 N 2
  .exact B2 N 3
  .exact h0
  .exact B2 N 1
 .have e0:∀ {i:Nat},i≠0->¬ (N+i=N):=λ hi e=>hi (by lia);have e0':∀ {i:Nat},i≠0->¬ (N=N+i):=λ hi e=>hi (by lia);simp only[Be,Ai,A2,or_false,not_or,List.nodup_nil,and_true,not_false_eq_true];exact⟨⟨ne (by decide),ne (by decide),e0 (by decide),ne (by decide)⟩,⟨ne (by decide),e0 (by decide),ne (by decide)⟩,⟨e0 (by decide),ne (by decide)⟩,e0' (by decide)⟩
 .simp only[Ai,A2,or_false,not_or];exact⟨lt a1 4,lt a1 2,lt a1 3,Ax a1,lt a1 1⟩
 .simp only[Ai,A2,or_false,not_or];exact⟨lt a2 4,lt a2 2,lt a2 3,Ax a2,lt a2 1⟩
end
end ZP
namespace L2
open PySem PySem.Spec PyProof.Rows ZP
section
variable {X:Cx}{pins:List (Addr×Obj)}{O:St}{H:Hp}{s:Shared}
def Inv.kD {h':Heap}{t':Nat}{fp:List Addr}(I:Inv X pins O H s) (k:∀ b o,b∉fp->s.heap.get? b=some o->h'.get? b=some o) (hf:∀ b∈fp,um X pins H b):Inv X pins O H { s with heap:=h',toks:=t' }:=by
 have nit:∀ b u,H b=some u->b∉fp:=λ b u e z=>by rw[(hf b z).1] at e;cases e
 refine I.step (g':=s.gens) (d':=s.drawn) (ch:=fp) (λ b hb=>?_) (λ b o _ _ hc e _=>k b o hc e) (λ b o _ _ hc e _=>⟨o.slots,k b o hc e⟩) (λ _ _ _ _ n=>n)
  (λ b o hc e=>⟨o,k b o hc e⟩) (λ _ _ e=>e) (λ _ _ _ e=>e) (λ b ps e=>⟨#[],by rw[e];simp⟩) (λ m hm=>?_) (λ b u e=>?_) I.bare
 .obtain⟨_,q1,_,q2,q3,q4⟩:=hf b hb;exact⟨q2,q1,q3,q4⟩
 .obtain⟨o,es,ep,ho,r⟩:=hm;exact⟨o,es,ep,k _ o (λ z=>(hf _ z).2.1 rfl) ho,r⟩
 .refine (I.zE b u e).sF (λ c v hc q=>k c v ?_ q) (λ _ q=>q) λ _ _ q=>q;rcases hc with z | z
  .rw[z];exact nit b u e
  .exact nit c _ z
def wH (K:Ac) (H:Hp) (k:Bool) (a:Addr) (xs:List V):Prop:=match k with
 | true=>ye K H a xs
 | false=>zT K H a xs
def wH.of (I:Inv X pins O H s) {k:Bool}{a:Addr}{xs:List V}(h:wH X.K H k a xs):∃ its:List Value,Vals xs its/\SQ s.heap k a its.toArray:=by
 cases k with
 | true=>obtain⟨its,rv,p,_⟩:=I.tuple h;exact⟨its,rv,p⟩
 | false=>obtain⟨its,rv,p,_⟩:=I.list h;exact⟨its,rv,p.isList⟩
def wH.inj (I:Inv X pins O H s) {k:Bool}{a:Addr}{xs ys:List V}(h:wH X.K H k a xs) (h':wH X.K H k a ys):xs=ys:=by
 cases k with
 | true=>exact I.iR h h'
 | false=>exact I.eM h h'
def WE (K:Ac) (k1 k2:Bool) (a1 a2:Addr):It:=
 ⟨λ i H=>∃ xs ys x y,wH K H k1 a1 xs/\wH K H k2 a2 ys/\xs[i]?=some x/\ys[i]?=some y,
   λ i H v H'=>∃ p x y,v=.ref p/\H p=none/\H'=upd H p (.tup [x,y])/\(∀ xs,wH K H k1 a1 xs->xs[i]?=some x)/\∀ ys,wH K H k2 a2 ys->ys[i]?=some y,
   λ i H=>∃ xs ys,wH K H k1 a1 xs/\wH K H k2 a2 ys/\(xs.length<=i\/ys.length<=i)⟩
def VH {P:Program}{w:World}{K:Ac}{es:List Expr}{kk} {pos:Pos}{k1 k2:Bool}{z TI TO i1 i2 a1 a2:Addr}(D:i3 z TI TO i1 i2 a1 a2):
  Turn P w K (.Tuple es kk pos) (WE K k1 k2 a1 a2) [z,TI,TO,i1,i2] z (λ i h=>At h k1 k2 z TI TO i1 i2 a1 a2 .none i) where
 mem:=by simp
 obj:=λ i h st b hb=>by
  obtain⟨q1,q2,⟨_,_,q3⟩,⟨o1,q4,_,d1⟩,⟨o2,q5,_,d2⟩⟩:=st;simp only[Ai,A2,or_false] at hb;rcases hb with e | e | e | e | e <;> subst e
  .exact⟨_,q1,λ v z=>by cases z⟩
  .exact⟨_,q2,λ v z=>by cases z⟩
  .exact⟨_,q3,λ v z=>by cases z⟩
  .exact⟨_,q4,λ v z=>by rw[d1] at z;cases z⟩
  .exact⟨_,q5,λ v z=>by rw[d2] at z;cases z⟩
 keep:=λ i h h' st k=>st.keep k
 item:=by
  intro X hP hw hK hc i pins s O H E I hf st hg;subst hP hw hK;obtain⟨xs,ys,x,y,g1,g2,hx,hy⟩:=hg;obtain⟨it1,rv1,q1⟩:=g1.of I;obtain⟨it2,rv2,q2⟩:=g2.of I;obtain⟨u1,e1,r1⟩:=rv1.get hx;obtain⟨u2,e2,r2⟩:=rv2.get hy;refine ZP.item D st q1 q2 (x:=u1) (y:=u2) (by simpa using e1) (by simpa using e2) λ h' S' T' up=>⟨_,rfl,?_⟩;refine wpAny_letOwnedTupleGo_zip S'.z λ h2 z2 sb=>?_;have nT:s.heap.objs.size∉[z,TI,TO,i1,i2]:=λ hb=>by
   obtain⟨o,ho,_⟩:=(show ∃ o,s.heap.get? s.heap.objs.size=some o/\True from by
    obtain⟨w1,w2,⟨_,_,w3⟩,⟨o1,w4,_⟩,⟨o2,w5,_⟩⟩:=st;simp only[Ai,A2,or_false] at hb;rcases hb with e | e | e | e | e <;> rw[e]
    .exact⟨_,w1,trivial⟩
    .exact⟨_,w2,trivial⟩
    .exact⟨_,w3,trivial⟩
    .exact⟨_,w4,trivial⟩
    .exact⟨_,w5,trivial⟩)
   exact absurd (Ap ho) (BS _)
  have nz:s.heap.objs.size≠z:=λ e=>nT (by simp[e]);have fr:H s.heap.objs.size=none:=I.zE.fresh (Ah _);have I1:Inv X pins O (upd H s.heap.objs.size (.tup [x,y])) { s with heap:=s.heap.push { cls:=.type "tuple",data:=.seq [u1,u2].toArray },toks:=s.toks }:=
   I.laid (o:=.tup [x,y]) (λ b u q=>Ao _ q) (Ah _) ⟨by show 2<=sizeLine;decide,[u1,u2],.cons r1 (.cons r2 .nil),IsTup.new _ _⟩
  have hf':∀ b∈[z,TI,TO,i1,i2],upd H s.heap.objs.size (.tup [x,y]) b=none:=λ b hb=>by
   rw[yV (λ e=>nT (by rw[<- e];exact hb))];exact (hf b hb).1
  have kk:∀ b o,b∉[z,TI,TO,i1,i2]->(s.heap.push { cls:=.type "tuple",data:=.seq [u1,u2].toArray }).get? b=some o->h2.get? b=some o:=λ b o hb q=>by
   have hbz:b≠z:=λ e=>hb (by simp[e]);by_cases Dk:b=s.heap.objs.size
   .subst Dk;rw[AF _ rfl] at q;cases q;exact sb.extBut _ _ nz T'
   .have q':s.heap.get? b=some o:=by rw[Heap.get?_push_ne _ _ _ Dk] at q;exact q
    exact sb.extBut _ _ hbz (up b o hb q')
  have I2:=Inv.kD (h':=h2) (t':=s.toks) (fp:=[z,TI,TO,i1,i2]) I1 kk λ b hb=>⟨hf' b hb,(hf b hb).2⟩;refine⟨.ref s.heap.objs.size,_,I2,rfl,⟨_,x,y,rfl,fr,rfl,λ zs hz=>by rw[hz.inj I g1];exact hx,λ zs hz=>by rw[hz.inj I g2];exact hy⟩,⟨z2,?_,?_,?_,?_⟩,hf'⟩
  .have nd:=D.nd;simp only[Be,Ai,A2,or_false,not_or] at nd;exact sb.extBut _ _ (Ne.symm nd.1.1) S'.ti
  .obtain⟨a,b,e⟩:=S'.to;have nd:=D.nd;simp only[Be,Ai,A2,or_false,not_or] at nd;exact⟨a,b,sb.extBut _ _ (Ne.symm nd.1.2.1) e⟩
  .have nd:=D.nd;simp only[Be,Ai,A2,or_false,not_or] at nd;exact S'.s1.on λ o q=>sb.extBut _ _ (Ne.symm nd.1.2.2.1) q
  .have nd:=D.nd;simp only[Be,Ai,A2,or_false,not_or] at nd;exact S'.s2.on λ o q=>sb.extBut _ _ (Ne.symm nd.1.2.2.2) q
 done:=by
  intro X hP hw hK hc i pins s O H E I hf st hg;subst hP hw hK;obtain⟨xs,ys,g1,g2,hx⟩:=hg;obtain⟨it1,rv1,q1⟩:=g1.of I;obtain⟨it2,rv2,q2⟩:=g2.of I;have l1:=rv1.length;have l2:=rv2.length;refine ZP.stop (I.ok.hd hc) D st q1 q2 ?_ λ h' up=>⟨rfl,I.kD (t':=s.toks) up hf⟩;rcases hx with hx | hx
  .exact .inl (by simp;lia)
  .exact .inr (by simp;lia)
 self:=λ _ _ _ _ _ st h=>wpAny_pyIter_zip st.z h
def Nq (K:Ac) (ta:TA):TI:=fun O H R=>ta O H λ vs H1=>∃ a1 a2 k1 k2,vs=[.ref a1,.ref a2]/\(∃ xs,wH K H1 k1 a1 xs)/\(∃ ys,wH K H1 k2 a2 ys)/\R (WE K k1 k2 a1 a2) H1
def Sg {a b:Expr}{ta:TA}{p pos pos':Pos}{es:List Expr}{kk} (hg:Gl X "zip") (hm:X.mg "zip"=none) (ha:PA X [a,b] ta) (hs:starEach [a,b] X.env=[(false,eval a X.env),(false,eval b X.env)]:=by rfl) (hs2:starEach [b] X.env=[(false,eval b X.env)]:=by rfl):
  PI X (.Tuple es kk pos') (.Call (.Name "zip" p) [a,b] [] pos) (Nq X.K ta):=by
 intro pins s O H R I h;refine Call_ (oS I hg hm boot_zip (PyProof.Rows.callWith_type1 (zK (ha pos pins s O H _ I h) λ us s1 ⟨vs,H1,I1,r1,q1⟩=>?_) (by rw[hs,hs2]) (by rw[hs2];rfl)));obtain⟨a1,a2,k1,k2,rfl,⟨xs,g1⟩,⟨ys,g2⟩,q⟩:=q1;cases r1 with
 | cons r rr=>
  cases rr with
  | cons r' rr=>
   cases rr;cases r;cases r';obtain⟨it1,_,q1⟩:=g1.of I1;obtain⟨it2,_,q2⟩:=g2.of I1;refine ZP.new q1 q2 λ h' z TI TO i1 i2 nw D S up=>wpAny_pyIter_zip S.z ?_;exact⟨z,[z,TI,TO,i1,i2],_,_,H1,rfl,I1.kept (t':=s1.toks) up,VH D,S,λ b hb=>I1.jG (nw b hb) (I1.zE.fresh (nw b hb)),q⟩
end
end L2
namespace L5
open PySem PySem.Spec L2 L3
open PyProof.Rows hiding St
section
variable {K:Ac}{a:Expr}{p:Pos}
def YE (t:yz):vh:=fun Y S R=>t Y S λ ds S1=>∃ d e xs ys,ds=[d,e]/\zV d S1=some xs/\zV e S1=some ys/\R ⟨List.zipWith (λ x y=>D.tup [x,y]) xs ys,λ S=>zV d S=some xs/\zV e S=some ys⟩ S1
noncomputable def mS:D->Bool
 | .tup _=>true
 | _=>false
def zV.k {H:Hp}{S:SS}{d:D}{v:V}{ds:List D}(r:zi K H d v) (p:zR K H S) (e:zV d S=some ds):∃ a xs,v=.ref a/\wH K H (mS d) a xs/\zq K H ds xs:=by
 by_cases q:∃ ts,d=.tup ts
 .obtain⟨ts,rfl⟩:=q;cases e;simp only[zi] at r;obtain⟨a,xs,h1,h2,h3⟩:=r;exact⟨a,xs,h1,h2,h3⟩
 .obtain⟨a,xs,h1,h2,h3⟩:=rS r p e λ ts z=>q ⟨ts,z⟩;refine⟨a,xs,h1,?_,h3⟩;have:mS d=false:=by cases d <;> first | rfl | exact absurd ⟨_,rfl⟩ q
  rw[this];exact h2
end
section
variable {X:Cx}{a b:Expr}{tA:yz}{pos p pos':Pos}{es:List Expr}{kk:Nat}
def Rl (hm:X.mg "zip"=none) (ha:xH X [a,b] tA) (hg:Gl X "zip":=by rfl) (hs:starEach [a,b] X.env=[(false,eval a X.env),(false,eval b X.env)]:=by rfl) (hs2:starEach [b] X.env=[(false,eval b X.env)]:=by rfl):
  qB X (.Tuple es kk pos') (.Call (.Name "zip" p) [a,b] [] pos) (YE tA):=by
 refine⟨fun Y S Q Q' hq z=>ha.mo Y S _ _ (λ ds S1 ⟨d,e,xs,ys,h1,h2,h3,h4⟩=>⟨d,e,xs,ys,h1,h2,h3,hq _ _ h4⟩) z,PI.imp (Sg hg hm ha.pa hs hs2) fun O H R hu=>?_⟩;obtain⟨Y,S,r1,r2,z⟩:=hu;refine wY.go ha.mo r1 r2 z λ ds S1 vs H1 h1 q1 e1 p1=>?_;obtain⟨d,e,xs,ys,rfl,s1,s2,h⟩:=h1;obtain⟨v,u,rfl,d1,d2⟩:=q1.two;obtain⟨a1,us,rfl,g1,g2⟩:=zV.k d1 p1 s1;obtain⟨a2,ws,rfl,g3,g4⟩:=zV.k d2 p1 s2;refine⟨a1,a2,mS d,mS e,rfl,⟨us,g1⟩,⟨ws,g3⟩,h _ H1 e1 p1 λ i H2 S2 x1 x2 hk=>?_⟩;obtain⟨b1,us2,q1,m1,m2⟩:=zV.k (zi.ext x1 d d1) x2 hk.1;cases q1;obtain⟨b2,ws2,q2,m3,m4⟩:=zV.k (zi.ext x1 e d2) x2 hk.2;cases q2;have l1:=m2.length;have l2:=m4.length;refine⟨λ dd hd=>?_,λ hl=>⟨us2,ws2,m1,m3,?_⟩⟩
 .rw[List.getElem?_zipWith] at hd;split at hd
  .rename_i dx dy hx hy;cases hd;obtain⟨x,hx',rx⟩:=m2.get hx;obtain⟨y,hy',ry⟩:=m4.get hy;refine⟨⟨us2,ws2,x,y,m1,m3,hx',hy'⟩,λ v H' q=>?_⟩;obtain⟨pp,x',y',rfl,hp,rfl,f1,f2⟩:=q;have ex:x'=x:=by have:=f1 _ m1;rw[hx'] at this;exact (A4 this).symm
   have ey:y'=y:=by have:=f2 _ m3;rw[hy'] at this;exact (A4 this).symm
   subst ex ey;refine⟨.new hp _,x2.new hp,?_⟩;simp only[zi];exact⟨pp,_,rfl,ye.of yR,zq.ext (.new hp _) _ (.cons rx (.cons ry .nil))⟩
  .cases hd
 .have hl':(List.zipWith (λ x y=>D.tup [x,y]) xs ys).length<=i:=hl;rw[List.length_zipWith] at hl';lia
@[simp] noncomputable def iJ:List T->Option (List T)
 | [x,y]=>(wc x).bind λ xs=>(wc y).map λ ys=>List.zipWith (λ a b=>T.tup [a,b]) xs ys
 | _=>none
theorem aW {S:SS}:∀ {ts us:List T}{ds es:List D},zo S ts ds->zo S us es->zo S (List.zipWith (λ a b=>T.tup [a,b]) ts us) (List.zipWith (λ x y=>D.tup [x,y]) ds es)
 | [],us,ds,es,h,h'=>by simp only[zo] at h;subst h;simpa using zo.nil
 | t::ts,[],ds,es,h,h'=>by simp only[zo] at h';subst h';simpa using zo.nil
 | t::ts,u::us,ds,es,h,h'=>by
  simp only[zo] at h h';obtain⟨c,cs,rfl,h1,h2⟩:=h;obtain⟨c',cs',rfl,h3,h4⟩:=h';exact zo.cons (qS (zo.cons h1 (zo.cons h3 zo.nil))) (aW h2 h4)
def zV.sx {S S':SS}{d:D}{ds:List D}(h:zV d S=some ds) (s:Sx S S'):zV d S'=some ds:=by
 unfold zV at h ⊢;split at h
 .exact h
 .exact h
 .split at h
  .rename_i q;cases h;rw[s _ _ q]
  .cases h
 .cases h
def Qm {g:Ev->Option (List T)}(h:pZ g tA):qD false (wg iJ g) (YE tA):=λ S Z Y J ts Q hE e hq=>by
 obtain⟨ys,e1,e2⟩:=Ak e;refine h S Z Y J ys _ hE e1 λ ds S1 s1 r1=>?_;unfold iJ at e2;split at e2
 .obtain⟨xs,e3,e4⟩:=Ak e2;obtain⟨zs,e5,rfl⟩:=AB e4;obtain⟨d,d',rfl,h1,h2⟩:=av r1;obtain⟨es,g1,g2⟩:=h1.seq e3;obtain⟨es',g3,g4⟩:=h2.seq e5;exact⟨d,d',es,es',rfl,g1,g3,hq _ S1 s1 (aW g2 g4) λ S'' s=>⟨zV.sx g1 s,zV.sx g3 s⟩⟩
 .cases e2
theorem zV.zW {S:SS}{Z:Addr->Prop}{y:T}{d:D}{ts:List T}(h:Sn (zW S Z) y d) (e:wc y=some ts):∃ ds,zV d (zW S Z)=some ds/\zo (zW S Z) ts ds:=by
 cases y with
 | tup us=>cases e;simp only[Sn] at h;obtain⟨ds,rfl,h2⟩:=h;exact⟨ds,rfl,h2⟩
 | lst us=>
  cases e;simp only[Sn] at h;obtain⟨ds,⟨rfl,_⟩ | ⟨a,rfl,h1⟩,h2⟩:=h
  .exact⟨ds,rfl,h2⟩
  .exact⟨ds,by unfold zV;dsimp only;rw[h1],h2⟩
 | zl=>cases e
 | bl _=>cases e
 | int _=>cases e
 | str _=>cases e
 | yd=>cases e
end
end L5
namespace HT
open PySem PyProof.Rows
section
variable {prog:Program}{w:World}{A:Around}{E:Value->Shared->Prop}{s:Shared}
def M3 {t sl:Addr}{items:Array Value}{vl vu:Value}{lo hi:Option Int}{Q:Value->Shared->Prop}(ht:IsTup s.heap t items) (hs:s.heap.IsSliceOf sl vl vu .none) (pl:IsPart vl lo) (pu:IsPart vu hi)
  (hw:zN items.size 0 lo=0/\zN items.size items.size hi=items.size) (h:Q (.ref t) s):wpAny (model prog w) A (getItem (.ref t) (.ref sl)) Q E s:=by
 have hT:=ht.typeIs;obtain⟨os,e1,e2,e3⟩:=id hs;have hS:s.TypeIs (.ref sl) "slice":=⟨os,e1,e2⟩
 unfold getItem
 try with_reducible refine za3 ?_
 first | refine Ab (Ad ?_) | skip
 refine Ab (wpAny_sequenceKey hT (by decide) (Ab (zaB (name:=Str.ofString "__getitem__") hT PyProof.Rows.slot_tuple_getitem (za6 PyProof.Rows.slot_tuple_getitem hT entry_tuple_getitem ?_ (args_tuple_getitem _ _)))));refine Ab (m:=Builtin.Tuple.tupleItemsOf (.ref t)) (tupleItemsOf_ ht (Ab (zaD hS ?_)));rw[if_pos (by decide)];refine Ab (Za hs pl pu ?_);have yes:(((zN items.size 0 lo:Nat):Int) == 0&&(1:Int) == 1&&(zN items.size items.size hi-zN items.size 0 lo) == items.size)=true:=by rw[hw.1,hw.2];simp
 show wpAny _ _ (if (((zN items.size 0 lo:Nat):Int) == 0&&(1:Int) == 1&&(zN items.size items.size hi-zN items.size 0 lo) == items.size)=true then _ else _) _ _ s;rw[if_pos yes];refine Ab (m:=Builtin.Tuple.tupleIsExact (.ref t)) (Ab (zaD hT (Ad ?_)));rw[if_pos (by decide)]
 first
  | exact Ab (wpAny_rule (Ad ⟨_,rfl,Ad h⟩))
  | exact Ab (wpAny_rule (Ab (Ad (Ad ⟨_,rfl,Ad h⟩))))
end
end HT
namespace L2
open PySem PySem.Spec PyProof.Rows
section
variable {X:Cx}
def Zu (K:Ac):V->Option Int->Option Int->Hp->VK->Prop:=λ x lo hi H Q=>∃ a xs,x=.ref a/\ye K H a xs/\(HT.zN xs.length 0 lo=0/\HT.zN xs.length xs.length hi=xs.length)/\Q (.ref a) H
def U7:qA X (Zu X.K):=by
 intro pins s O H x v vl vu lo hi sl Q I rx hs pl pu h;obtain⟨a,xs,rfl,hx,hw,q⟩:=h;cases rx;obtain⟨its,r,ht,hz⟩:=I.tuple hx;have hlen:its.toArray.size=xs.length:=by rw[Ar];exact r.length.symm
 exact⟨"tuple",_,PyProof.Rows.slot_tuple_getitem.lookup,ht.typeIs,HT.M3 ht hs pl pu (by rw[hlen];exact hw) ⟨.ref a,H,I,rfl,q⟩⟩
end
end L2
namespace L5
open PySem PySem.Spec L2 L3
open PyProof.Rows hiding St
def xo {α:Type}(xs:List α) (lo hi:Option Int):List α:=(xs.drop (HT.zN xs.length 0 lo)).take (HT.zN xs.length xs.length hi-HT.zN xs.length 0 lo)
section
variable {X:Cx}{K:Ac}{e:Expr}{lo hi:Option Expr}{te:zy}{tl th:Option zy}{pos p2:Pos}
def tq (t:Option zy):yr->SS->(Option Int->SS->Prop)->Prop:=fun Y S Q=>match t with
 | none=>Q none S
 | some t=>t Y S λ d S1=>match d with
  | .int i=>Q (some i) S1
  | _=>False
def WC (t:Option zy):Prop:=∀ u,t=some u->yt u
def tq.mo (h:WC tl):∀ Y S (Q Q':Option Int->SS->Prop),(∀ d S',Q d S'->Q' d S')->tq tl Y S Q->tq tl Y S Q':=fun Y S Q Q' hq z=>by
 cases tl with
 | none=>exact hq _ _ z
 | some t=>exact h t rfl Y S _ _ (λ d S1 z=>by cases d <;> first | exact hq _ _ z | exact z) z
noncomputable def VB (K:Ac) (t:Option zy):TO:=fun O H Q=>∃ Y S,xb K H Y O/\zR K H S/\tq t Y S λ o S1=>∀ H1,Ext H H1->zR K H1 S1->Q o H1
structure ic (X:Cx) (e:Option Expr) (t:Option zy):Prop where
 mo:WC t
 po:PO X e (VB X.K t)
def fJ:ic X none none:=⟨nofun,λ pins s O H Q I h=>by
 obtain⟨Y,S,r1,r2,z⟩:=h;exact T_ pins s O H Q I (z H (.refl H) r2)⟩
def fH (h:PD X e te):ic X (some e) (some te):=⟨λ u q=>by cases q;exact h.mo,λ pins s O H Q I hu=>by
 refine TZ h.pe pins s O H Q I ?_;obtain⟨Y,S,r1,r2,z⟩:=hu;refine zX.go h.mo r1 r2 z λ d S1 v H1 h1 q1 e1 p1=>?_;cases d with
 | int i=>simp only[zi] at q1;exact⟨i,q1,h1 H1 e1 p1⟩
 | zl=>exact h1.elim
 | bl _=>exact h1.elim
 | str _=>exact h1.elim
 | tup _=>exact h1.elim
 | yN _=>exact h1.elim
 | ref _=>exact h1.elim⟩
def tj (d:D) (lo hi:Option Int) (S:SS) (Q:DK):Prop:=match d with
 | .tup ds=>Q (.tup (xo ds lo hi)) S
 | d=>∃ ds,zV d S=some ds/\∀ p,S p=none->Q (.ref p) (ups S p (.lst (xo ds lo hi)))
def tj.mo {d:D}{lo hi:Option Int}{S:SS}{Q Q':DK}(hq:∀ d S',Q d S'->Q' d S') (h:tj d lo hi S Q):tj d lo hi S Q':=by
 unfold tj at h ⊢;split at h
 .exact hq _ _ h
 .obtain⟨ds,h1,h2⟩:=h;exact⟨ds,h1,λ p hp=>hq _ _ (h2 p hp)⟩
def zq.cut {H:Hp}{ds:List D}{xs:List V}(h:zq K H ds xs) (lo hi:Option Int):zq K H (xo ds lo hi) (sa xs lo hi):=by
 have hd:∀ {ds:List D}{xs:List V}(n:Nat),zq K H ds xs->zq K H (ds.drop n) (xs.drop n):=by
  intro ds
  induction ds with
  | nil=>intro xs n h;simp only[zq] at h;subst h;simpa using zq.nil
  | cons d ds ih=>
   intro xs n h;simp only[zq] at h;obtain⟨y,ys,rfl,h1,h2⟩:=h;cases n with
   | zero=>exact .cons h1 h2
   | succ n=>exact ih n h2
 have ht:∀ {ds:List D}{xs:List V}(n:Nat),zq K H ds xs->zq K H (ds.take n) (xs.take n):=by
  intro ds
  induction ds with
  | nil=>intro xs n h;simp only[zq] at h;subst h;simpa using zq.nil
  | cons d ds ih=>
   intro xs n h;simp only[zq] at h;obtain⟨y,ys,rfl,h1,h2⟩:=h;cases n with
   | zero=>exact .nil
   | succ n=>exact .cons h1 (ih n h2)
 unfold xo sa;rw[h.length];exact ht _ (hd _ h)
def M4 {xs:List V}{lo hi:Option Int}(h:HT.zN xs.length 0 lo=0/\HT.zN xs.length xs.length hi=xs.length):sa xs lo hi=xs:=by
 unfold sa;rw[h.1,h.2];simp
abbrev Tq (K:Ac):V->Option Int->Option Int->Hp->VK->Prop:=λ x lo hi H Q=>Zw K x lo hi H Q\/(Zv K x lo hi H Q\/Zu K x lo hi H Q)
def tj.fits {d:D}{v:V}{lo hi:Option Int}{H:Hp}{S:SS}{Q:VK}(h1:zi K H d v) (h2:zR K H S) (h:tj d lo hi S (wW K H Q)):Tq K v lo hi H Q:=by
 unfold tj at h;split at h
 .simp only[zi] at h1;obtain⟨a,xs,rfl,g1,g2⟩:=h1;by_cases hw:HT.zN xs.length 0 lo=0/\HT.zN xs.length xs.length hi=xs.length
  .refine .inr (.inr ⟨a,xs,rfl,g1,hw,h _ H ?_ (.refl H) h2⟩);simp only[zi];refine⟨a,xs,rfl,g1,?_⟩;have:=zq.cut g2 lo hi;rw[M4 hw] at this;exact this
  .refine .inr (.inl ⟨a,xs,rfl,g1,hw,λ p hp=>h _ _ ?_ (.new hp _) (h2.new hp)⟩);simp only[zi];exact⟨p,_,rfl,ye.of yR,zq.ext (.new hp _) _ (zq.cut g2 lo hi)⟩
 .rename_i hn;obtain⟨ds,e,h⟩:=h;obtain⟨a,xs,rfl,g1,g2⟩:=rS h1 h2 e (λ ts z=>hn ts z);exact .inl ⟨a,xs,rfl,g1,λ p hp=>h p (h2.none hp) _ _ (by simp only[zi]) (.new hp _) (h2.ups (.new hp _) ⟨_,yR,zq.ext (.new hp _) _ (zq.cut g2 lo hi)⟩)⟩
def XC (te:zy) (tl th:Option zy):zy:=fun Y S Q=>te Y S λ x S1=>tq tl Y S1 λ l S2=>tq th Y S2 λ u S3=>tj x l u S3 Q
def fL (he:PD X e te) (hl:ic X lo tl) (hh:ic X hi th):PD X (.Subscript e (.Slice lo hi none p2) pos) (XC te tl th):=by
 refine⟨fun Y S Q Q' hq z=>he.mo Y S _ _ (λ x S1 z=>tq.mo hl.mo Y S1 _ _ (λ l S2 z=>tq.mo hh.mo Y S2 _ _ (λ u S3 z=>tj.mo hq z) z) z) z,
  PE.imp (SD (U9.or (U8.or U7)) he.pe hl.po hh.po) fun O H Q hu=>?_⟩
 obtain⟨Y,S,r1,r2,z⟩:=hu;refine zX.go he.mo r1 r2 z λ x S1 v H1 h1 q1 e1 p1=>?_;refine⟨Y,S1,r1.ext e1,p1,tq.mo hl.mo Y S1 _ _ (λ l S2 h2 H2 e2 p2=>?_) h1⟩;refine⟨Y,S2,(r1.ext e1).ext e2,p2,tq.mo hh.mo Y S2 _ _ (λ u S3 h3 H3 e3 p3=>?_) h2⟩;exact tj.fits (zi.ext (e2.trans e3) x q1) p3 (tj.mo (λ d S' z=>z.ext ((e1.trans e2).trans e3)) h3)
@[simp] noncomputable def cm:Option (Ev->Option T)->Ev->Option (Option Int)
 | none,_=>some none
 | some f,J=>(f J).bind λ x=>match x with
  | .int i=>some (some i)
  | _=>none
def ir (f:Option (Ev->Option T)) (t:Option zy):Prop:=∀ S Z Y J y Q,ER S Z Y J->cm f J=some y->(∀ S',Sx S S'->Q y S')->tq t Y S Q
def Qy:ir none none:=λ S Z Y J y Q hE e hq=>by cases e;exact hq S (.refl S)
def Qx {f:Ev->Option T}(h:yP f te):ir (some f) (some te):=λ S Z Y J y Q hE e hq=>by
 obtain⟨x,e1,e2⟩:=Ak e;refine h S Z Y J x _ hE e1 λ d S1 s1 r1=>?_;split at e2
 .cases e2;cases Vw.int r1;exact hq S1 s1
 .cases e2
@[simp] noncomputable def XW (lo hi:Option Int):T->Option T
 | .tup ts=>some (.tup (xo ts lo hi))
 | .lst ts=>some (.lst (xo ts lo hi))
 | _=>none
@[simp] def o4 (f:Ev->Option T) (lo hi:Option (Ev->Option T)):Ev->Option T:=fun J=>(f J).bind λ x=>(cm lo J).bind λ l=>(cm hi J).bind λ u=>XW l u x
def zo.cut {S:SS}{ts:List T}{ds:List D}(h:zo S ts ds) (lo hi:Option Int):zo S (xo ts lo hi) (xo ds lo hi):=by
 unfold xo;rw[h.len];exact zo.take' _ (zo.drop' _ h)
def Q8 {f:Ev->Option T}{l u:Option (Ev->Option T)}(h:yP f te) (hl:ir l tl) (hu:ir u th):wa (o4 f l u) (XC te tl th):=λ S Z Y J y Q hE e hq=>by
 obtain⟨x,e1,e⟩:=Ak e;obtain⟨l',e2,e⟩:=Ak e;obtain⟨u',e3,e⟩:=Ak e;refine h S Z Y J x _ hE e1 λ d S1 s1 r1=>?_;refine hl S1 Z Y J l' _ (hE.grow s1) e2 λ S2 s2=>?_;refine hu S2 Z Y J u' _ (hE.grow (s1.trans s2)) e3 λ S3 s3=>?_;have r3:Vw S3 Z x d:=Vw.grow r1 (s2.trans s3);have hz:=(hE.grow ((s1.trans s2).trans s3)).zd;unfold XW at e;split at e
 .cases e;obtain⟨ds,rfl,h2⟩:=r3.tup;exact hq _ S3 ((s1.trans s2).trans s3) (Cl.of (λ _=>nofun) (qS (zo.cut h2 _ _)))
 .cases e;obtain⟨ds,h1,h2⟩:=r3.seq rfl;have key:∃ ds,zV d S3=some ds/\∀ p,S3 p=none->Q (.ref p) (ups S3 p (.lst (xo ds l' u'))):=⟨ds,h1,λ p hp=>hq _ _ (((s1.trans s2).trans s3).trans (.new hp _)) (Cl.cl ((s1.trans s2).trans s3) (sL hz hp (zo.cut h2 _ _)))⟩
  obtain⟨_,q | ⟨a,q,_⟩,_⟩:=r3.lst
  .subst q;exact key
  .subst q;exact key
 .cases e
end
end L5
namespace TM
open PySem PyProof.Rows
def noFill:fillsNumberSlot (.type "tuple") "mul"=pure false:=
 PySem.fillsNumberSlot_seq (id:="tuple.__mul__") (r:=some (.builtin "tuple.__rmul__")) F.slot_tuple_mul.lookup (by decide +kernel) F.slot_tuple_rmul.lookup (by decide +kernel)
def rep:seqRepeat? (.type "tuple")=pure (some (.builtin "tuple.__mul__")):=by
 have a:=PySem.seqSlot_of (T:="tuple") (name:="__mul__") (id:="tuple.__mul__") F.slot_tuple_mul.lookup (by decide +kernel);have b:=PySem.seqSlot_of (T:="tuple") (name:="__rmul__") (id:="tuple.__rmul__") F.slot_tuple_rmul.lookup (by decide +kernel);unfold seqRepeat?;rw[a,b];rfl
def declines (i:Int) (t:Tok) (l:Addr) (items:Array Value) (n:Nat) (dd:Option Addr) (sl:Array (Option Value)):
  Meets (Builtin.«int.__rmul__» ⟨[.int i t,.ref l],[]⟩) (λ _ R s=>s.heap.get? l=some { cls:=.type "tuple",dict:=dd,data:=.seq items n,slots:=sl }/\R (.ok (.ret Value.notImplemented)) s):=
 .of_wp λ prog w A R s h=>by
  obtain⟨hp,g,d,tk,os⟩:=s;obtain⟨hl,h⟩:=h
  wp_walk
  exact⟨_,rfl,h⟩
theorem d7 {α:Type}(xs:List α):∀ (m:Nat) (acc:Array α),(List.replicate m xs.toArray).foldl (·++·) acc=acc++(List.replicate m xs).flatten.toArray
 | 0,acc=>by simp
 | m+1,acc=>by
  rw[BN,Dr,d7 xs m,BN,B5,Array.append_assoc];simp
def Ob (k:Int) (t:Tok) (l:Addr) (items:Array Value) (n:Nat) (dd:Option Addr) (sl:Array (Option Value)) (h1:¬ (decide (k < -(2 ^ 63))||decide (k≥2 ^ 63))=true) (h2:¬ (items.isEmpty||k == 1)=true) (h3:¬ (decide (k<=0)||items.isEmpty)=true)
  (h4:¬ (items.size*k>(2 ^ 63-1)/8)) (h5:¬ Builtin.Tuple.tupleTooMany (items.size*k)=true) (h6:((List.replicate k.toNat items).foldl (·++·) #[]).size<=sizeLine):
  Meets (Builtin.«tuple.__mul__» ⟨[.ref l,.int k t],[]⟩) (λ _ R s=>s.heap.get? l=some { cls:=.type "tuple",dict:=dd,data:=.seq items n,slots:=sl }/\
   R (.ok (.ret (.ref s.heap.objs.size))) { s with heap:=s.heap.push { cls:=.type "tuple",data:=.seq ((List.replicate k.toNat items).foldl (·++·) #[]) } }):=
 .of_wp λ prog w A R s h=>by
  obtain⟨hp,g,d,tk,os⟩:=s;obtain⟨hl,h⟩:=h;have e0:IsTup (Shared.heap ⟨hp,g,d,tk,os⟩) l items:=⟨_,hl,rfl,n,rfl⟩
  wp_walk
  rw[if_neg h1];refine Ab (m:=Builtin.Tuple.tupleItemsOf (.ref l)) (tupleItemsOf_ e0 ?_);dsimp only;rw[if_neg h2,if_neg h3,if_neg h4,if_neg h5];exact Ab (m:=Builtin.Tuple.tupleExact _) (za7 (Ad ⟨_,rfl,h⟩) h6)
def Oc (t:Tok) (l:Addr) (items:Array Value) (n:Nat) (dd:Option Addr) (sl:Array (Option Value)):
  Meets (Builtin.«tuple.__mul__» ⟨[.ref l,.int 1 t],[]⟩) (λ _ R s=>s.heap.get? l=some { cls:=.type "tuple",dict:=dd,data:=.seq items n,slots:=sl }/\R (.ok (.ret (.ref l))) s):=
 .of_wp λ prog w A R s h=>by
  obtain⟨hp,g,d,tk,os⟩:=s;obtain⟨hl,h⟩:=h;have c:(items.isEmpty||(1:Int) == 1)=true:=by simp
  wp_walk
  exact⟨_,rfl,h⟩
section
variable {prog:Program}{w:World}{A:Around}{E:Value->Shared->Prop}{s:Shared}
def times {l:Addr}{its:List Value}{k:Int}{t:Tok}{Q:Value->Shared->Prop}(ht:IsTup s.heap l its.toArray) (Aj:its≠[]) (h0:1<=k) (hz:its.length*k.toNat<=sizeLine)
  (one:k=1->Q (.ref l) s) (more:k≠1->Q (.ref s.heap.objs.size) { s with heap:=s.heap.push { cls:=.type "tuple",data:=.seq (List.replicate k.toNat its).flatten.toArray } }):
  wpAny (model prog w) A (binaryOp .Mult (.ref l) (.int k t)) Q E s:=by
 have hT:=ht.typeIs;obtain⟨⟨cls,dd,data,sl⟩,ho,hc,n,hd⟩:=id ht;simp only at hc hd;subst hc hd;refine wpAny_binaryOp_repeat_ref (T:="tuple") (U:="int") (by decide) hT (λ s'=>typeIs_int s' k t) noFill F.fills_int_mul F.slot_int_rmul rep F.slot_int_index.lookup
  (call_meets F.slot_int_rmul (typeIs_int s k t) F.entry_int_rmul (F.args_int_rmul_2 _ _) (declines k t l its.toArray n dd sl) ⟨ho,rfl,hT,?_⟩)
 have hlen:0<its.length:=C2.mpr Aj;have DN:its.toArray.isEmpty=false:=by cases its with
  | nil=>exact absurd rfl Aj
  | cons a r=>rfl
 by_cases h1:k=1
 .subst h1;exact call_meets F.slot_tuple_mul hT F.entry_tuple_mul (F.args_tuple_mul_2 _ _) (Oc t l its.toArray n dd sl) ⟨ho,one rfl⟩
 .have hks:k.toNat<=sizeLine:=A9 (Nat.le_mul_of_pos_left _ hlen) hz;have hl:sizeLine=16777216:=rfl;have hk2:k<=16777216:=by lia
  have hcast:((its.toArray.size:Nat):Int)*k=((its.length*k.toNat:Nat):Int):=by
   rw[Ar,Int.natCast_mul,Ci (by lia)]
  have hf:(List.replicate k.toNat its.toArray).foldl (·++·) #[]=(List.replicate k.toNat its).flatten.toArray:=by rw[d7];simp
  have DM:(List.replicate k.toNat its).flatten.length=k.toNat*its.length:=by simp
  refine call_meets F.slot_tuple_mul hT F.entry_tuple_mul (F.args_tuple_mul_2 _ _) (Ob k t l its.toArray n dd sl ?_ ?_ ?_ ?_ ?_ ?_) ⟨ho,?_⟩
  .simp only[DR,decide_eq_true_eq,not_or];exact⟨by lia,by lia⟩
  .rw[DN];simpa using h1
  .rw[DN];simp;lia
  .rw[hcast];lia
  .rw[hcast];intro q;unfold Builtin.Tuple.tupleTooMany at q;have:=of_decide_eq_true q;lia
  .rw[hf,Ar,DM,Dx];exact hz
  .rw[hf];exact more h1
end
end TM
namespace L2
open PySem PySem.Spec PyProof.Rows
def fq (K:Ac):R2:=λ x y H Q=>∃ a k xs,x=.ref a/\y=.int k/\ye K H a xs/\xs≠[]/\1<=k/\xs.length*k.toNat<=sizeLine/\(k=1->Q (.ref a) H)/\(k≠1->∀ p,H p=none->Q (.ref p) (upd H p (.tup (List.replicate k.toNat xs).flatten)))
def RI {X:Cx}:yj X (binaryOp .Mult) (fq X.K):=by
 intro pins s O H x y v u Q I rx ry h;obtain⟨a,k,xs,rfl,rfl,hx,Aj,h1,hz,q1,q2⟩:=h;cases rx;obtain⟨t,rfl⟩:=ry;obtain⟨its,r,ht,_⟩:=I.tuple hx;have hl:=r.length;refine TM.times ht (λ z=>Aj (r.mO.mp z)) h1 (by rw[<- hl];exact hz) (λ e=>⟨.ref a,H,I,rfl,q1 e⟩) λ e=>?_;have hlen:(List.replicate k.toNat xs).flatten.length<=sizeLine:=by
  have:(List.replicate k.toNat xs).flatten.length=k.toNat*xs.length:=by simp
  rw[this,Dx];exact hz
 exact⟨.ref _,_,I.laid (t':=s.toks) (o:=.tup (List.replicate k.toNat xs).flatten) (λ b ob q=>Ao _ q) (Ah _) ⟨hlen,_,r.rep k.toNat,IsTup.new _ _⟩,rfl,q2 e _ (I.zE.fresh (Ah _))⟩
end L2
namespace L5
open PySem PySem.Spec L2 L3
open PyProof.Rows hiding St
section
variable {K:Ac}{a:Expr}
def tU:yW:=λ x y S Q=>match x,y with
 | .int i,.int j=>wI i j/\Q (.int (i*j)) S
 | .tup ds,.int k=>(ds≠[]/\1<=k/\ds.length*k.toNat<=sizeLine)/\Q (.tup (List.replicate k.toNat ds).flatten) S
 | _,_=>False
noncomputable def eD:T->T->Option T
 | .int i,.int j=>if wI i j then some (.int (i*j)) else none
 | .tup ts,.int k=>if ts≠[]/\1<=k/\ts.length*k.toNat<=sizeLine then some (.tup (List.replicate k.toNat ts).flatten) else none
 | _,_=>none
def tU.mo:xJ tU:=λ x y S Q Q' hq h=>by
 unfold tU at h ⊢;split at h
 .exact⟨h.1,hq _ _ h.2⟩
 .exact⟨h.1,hq _ _ h.2⟩
 .exact h.elim
theorem zq.rep {H:Hp}{ds:List D}{xs:List V}(h:zq K H ds xs):∀ n:Nat,zq K H (List.replicate n ds).flatten (List.replicate n xs).flatten
 | 0=>.nil
 | n+1=>by
  rw[BN,BN,B5,B5];exact h.append (zq.rep h n)
def tU.fits:xB K tU (λ x y H Q=>rI wI (λ i j=>.int (i*j)) x y H Q\/fq K x y H Q):=λ x y d e H S Q h1 h2 h3 h=>by
 unfold tU at h;split at h
 .simp only[zi] at h1 h2;exact .inl ⟨_,_,h1,h2,h.1,h.2 _ H (by simp only[zi]) (.refl H) h3⟩
 .rename_i ds k;obtain⟨⟨c1,c2,c3⟩,h⟩:=h;have h1':=h1;simp only[zi] at h1 h2;obtain⟨a,xs,rfl,g1,g2⟩:=h1;have hl:=g2.length;refine .inr ⟨a,k,xs,rfl,h2,g1,λ z=>c1 (by subst z;cases ds with | nil=>rfl | cons _ _=>simp at hl),c2,by rw[<- hl];exact c3,λ e=>?_,λ e p hp=>?_⟩
  .subst e;refine h _ H ?_ (.refl H) h3;have:(List.replicate (1:Int).toNat ds).flatten=ds:=by simp
   rw[this];exact h1'
  .refine h _ _ ?_ (.new hp _) (h3.new hp);simp only[zi];exact⟨p,_,rfl,ye.of yR,zq.ext (.new hp _) _ (zq.rep g2 _)⟩
 .exact h.elim
theorem zo.rep {S:SS}{ts:List T}{ds:List D}(h:zo S ts ds):∀ n:Nat,zo S (List.replicate n ts).flatten (List.replicate n ds).flatten
 | 0=>.nil
 | n+1=>by
  rw[BN,BN,B5,B5];exact h.append (zo.rep h n)
def Xa:Good2 zL eD tU:=λ S Z x y z d e Q hz hx hy ef hq=>by
 unfold eD at ef;split at ef
 .split at ef
  .rename_i hc;cases ef;cases hx.int;cases hy.int;exact⟨hc,hq _ S (.refl S) (Cl.of (λ _=>nofun) wL)⟩
  .cases ef
 .split at ef
  .rename_i hc;cases ef;obtain⟨ds,rfl,h2⟩:=hx.tup;cases hy.int;have hl:=h2.len;exact⟨⟨λ q=>hc.1 (by subst q;simpa using hl.symm),hc.2.1,by rw[hl];exact hc.2.2⟩,hq _ S (.refl S) (Cl.of (λ _=>nofun) (qS (zo.rep h2 _)))⟩
  .cases ef
 .cases ef
end
end L5
namespace L4
open PySem PyProof.Rows
section
variable {prog:Program}{w:World}{A:Around}{E:Value->Shared->Prop}{s:Shared}
def MC {l:Addr}{vs:List Value}{Q:List Value->Shared->Prop}(hl:IsTup s.heap l vs.toArray) (hz:vs.length<=sizeLine)
  (h:Q vs { s with heap:=(s.heap.push (seqObj "list" #[] 0)).update s.heap.objs.size (Obj.mapSeq (·++vs.toArray)) }):wpAny (model prog w) A (collect (.ref l)) Q E s:=by
 obtain⟨o,ho,hc,n,hd⟩:=id hl;have new:(s.heap.push (seqObj "list" #[] 0)).get? s.heap.objs.size=some (seqObj "list" #[] 0):=AF _ rfl;have ho':(s.heap.push (seqObj "list" #[] 0)).get? l=some o:=Ao _ ho;unfold collect;refine Ab (wpAny_runValue (codeAny_builtin entry_proto_collect' (Ab (m:=newList []) (wpAny_newList (Ad ⟨Code.quiet_builtin _ (by decide +kernel),codeAny_builtin entry_list_iadd' ?_⟩)))));show wpAny _ _ (Builtin.List.listExtendWith (.ref s.heap.objs.size) (.ref l) (.ref s.heap.objs.size)) _ _ { s with heap:=s.heap.push (seqObj "list" #[] 0) };unfold Builtin.List.listExtendWith;refine Ab (zaD (T:="tuple") ⟨o,ho',hc⟩ ?_);rw[if_pos (by rw[show (Value.type "tuple" == Value.type "tuple")=true from rfl];simp)];refine Ab (listItems_at ho' hd (Ab (listItems_at (xs:=#[]) (n:=0) new rfl ?_)));rw[if_neg (by simp)];refine Ab (listUpdate_at (xs:=#[]) (n:=0) new rfl (Ad ?_) (AL _) (by show (#[]++vs.toArray).size<=sizeLine+1;simp only[Array.size_append,Ar,C1];lia));refine Ab (m:=load s.heap.objs.size) (wpAny_load (get?_update_seq new _) ?_);show wpAny _ _ (pure ((#[]:Array Value)++vs.toArray).toList) Q E _;have e:((#[]:Array Value)++vs.toArray).toList=vs:=by simp
 rw[e];exact Ad h
def U0 {l:Addr}{vs:List Value}{Q:Value->Shared->Prop}{Out:Array Value->Prop}(hl:IsTup s.heap l vs.toArray) (hz:vs.length<=sizeLine)
  (core:2<=vs.length->∀ s6:Shared,(∀ b o,s.heap.get? b=some o->s6.heap.get? b=some o)->Core prog w A.in1.in1 E vs Out s6) (short:vs.length<2->Out vs.toArray)
  (fin:∀ out:Array Value,Out out->out.size=vs.length->Q (.ref (s.heap.objs.size+1)) { s with heap:=sortedAll s.heap vs out }):
  wpAny (model prog w) A (call (.builtin "sorted") [.ref l]) Q E s:=by
 let h1:=(s.heap.push (seqObj "list" #[] 0)).update s.heap.objs.size (Obj.mapSeq (·++vs.toArray))
 have sz:h1.objs.size=s.heap.objs.size+1:=by show (Heap.update _ _ _).objs.size=_;rw[Heap.size_update,size_push']
 have there:(h1.push (seqObj "list" vs.toArray 0)).get? (s.heap.objs.size+1)=some (seqObj "list" vs.toArray 0):=sz▸AF _ rfl;have keep:∀ b o,s.heap.get? b=some o->(h1.push (seqObj "list" vs.toArray 0)).get? b=some o:=λ b o q=>by
  refine Ao _ ?_;show (Heap.update _ _ _).get? b=_;rw[Heap.get?_update_ne _ _ _ _ (Ax (Ap q))];exact Ao _ q
 refine Calls.call_function_entry kind_sorted plain_sorted entry_sorted (args_sorted1 _) ?_;unfold Builtin.«sorted»;refine Ab (m:=checkCount "sorted" 1 1 _) (Ad (Ab (MC hl hz (Ab (wpAny_newList ?_ hz)))));show wpAny _ _ _ _ _ { s with heap:=h1.push (seqObj "list" vs.toArray 0) };rw[show (Heap.update (s.heap.push (seqObj "list" #[] 0)) s.heap.objs.size (Obj.mapSeq (·++vs.toArray))).objs.size=s.heap.objs.size+1 from sz];refine Ab (za3 (za6 slot_list_sort ⟨_,there,rfl⟩ entry_list_sort (eL there hz (λ h2 s6 k=>core h2 s6 λ b o q=>k b o (Ax (Bx (Ap q))) (keep b o q)) short λ out g1 g2=>⟨_,rfl,?_⟩) (args_list_sort _)));exact Ad ⟨_,rfl,fin out g1 g2⟩
end
section
open L2 PySem.Spec
variable {X:Cx}
def MO:yQ X (.builtin "sorted") (λ xs H Q=>∃ p ys,∃ rows:List (List Int),xs=[.ref p]/\ye X.K H p ys/\Paired (λ v r=>r≠[]/\∃ b,v=V.ref b/\ye X.K H b (r.map V.int)) ys rows/\rows.length<64/\
  ∀ (l:Addr) (idx:List Nat),H l=none->idx.Perm (List.range ys.length)->(idx.map λ i=>rows.getD i []).Pairwise (λ a b=>HT.lexLt b a=false)->Q (.ref l) (upd H l (.lst (idx.map λ i=>ys.getD i .zl)))):=by
 intro pins s O H xs us Q I r h;obtain⟨p,ys,rows,rfl,hq,hr,h64,q⟩:=h;obtain⟨u,rfl,ru⟩:=vals1 r;cases ru;obtain⟨its,rv,pl,hz⟩:=I.tuple hq;have hl:=rv.length;have B9:ys.length=rows.length:=Paired.length hr;have rows_at:∀ h6:Heap,(∀ b o,s.heap.get? b=some o->h6.get? b=some o)->rq h6 its rows:=λ h6 k=>by
  refine ST.Paired.mk (by lia) λ i a b ha hb=>?_;have hi:i<ys.length:=by have:=(AN.mp hb).1;lia
  obtain⟨Aj,c,hc,Cm⟩:=L4.Paired.at' hr (i:=i) hi V.zl ([]:List Int);obtain⟨u,e1,e2⟩:=rv.get (i:=i) (x:=ys.getD i V.zl) (by simp[hi]);rw[ha] at e1;cases e1;rw[hc] at e2;cases (show a=Value.ref c from e2);obtain⟨its2,rv2,⟨o,e,AJ,n,hd⟩,_⟩:=I.tuple Cm;have eb:rows.getD i []=b:=by simp[hb]
  rw[eb] at Aj rv2;exact⟨Aj,c,o,_,n,rfl,k _ _ e,AJ,hd,by simpa using intsAre_of rv2⟩
 refine U0 (Out:=lX its rows) pl (by rw[<- hl];exact hz) (λ h2 s6 k=>dS (rows_at _ k) h2 (by lia)) (λ h1=>?_) λ out ho hs=>?_
 .refine⟨List.range its.length,.refl _,?_,?_⟩
  .refine BD (by simp) λ i h1 h2=>?_;simp at h1;simp[h1]
  .rw[B3,Cc];intro i j hi hj A1;simp at hi hj;lia
 .obtain⟨idx,g1,g2,g3⟩:=ho;obtain⟨e,ho⟩:=sortedAll_at s.heap its out;have g1':idx.Perm (List.range ys.length):=by rw[hl];exact g1
  refine⟨.ref (s.heap.objs.size+1),_,I.laid (t':=s.toks) (o:=.lst (idx.map λ i=>ys.getD i .zl)) (λ b o q=>sortedAll_old q) (CW _) ?_,rfl,q _ idx (I.zE.fresh (CW _)) g1' g3⟩;refine⟨by rw[Aw,g1'.length_eq,Bg];exact hz,out.toList,e,?_,by simpa using ho⟩;rw[g2];refine ST.Paired.mk (by simp) λ j a b ha hb=>?_;rw[Ay] at ha hb;obtain⟨i,hi,rfl⟩:=AB ha;rw[hi] at hb;cases hb;have CI:i<ys.length:=by simpa using g1'.mem_iff.mp (A7 hi)
  obtain⟨u,e1,e2⟩:=rv.get (i:=i) (x:=ys.getD i V.zl) (by simp[CI]);have e3:its.getD i Value.none=u:=by simp[e1]
  show L2.RelV (ys.getD i V.zl) (its.getD i Value.none);rw[e3];exact e2
end
end L4
namespace L5
open PySem PySem.Spec L2 L3
open PyProof.Rows hiding St
section
variable {X:Cx}{K:Ac}{e:Expr}{es:List Expr}{tA:yz}{pos p:Pos}
def qp:xS:=λ ds S Q=>∃ d,∃ rows:List (List Int),ds=[d]/\zV d S=some (rows.map wF)/\rows.length<64/\(∀ r∈rows,r≠[])/\∀ l,S l=none->Q (.ref l) (ups S l (.lst ((L4.wb rows).map wF)))
noncomputable def oy:List T->Option T
 | [y]=>(wc y).bind λ ts=>(uv ts).bind λ rs=>if rs.length<64/\∀ r∈rs,r≠[] then some (.lst ((L4.wb rs).map yv)) else none
 | _=>none
def N4:vP zL oy qp:=λ S Z ys z ds Q hz hv e hq=>by
 unfold oy at e;split at e
 .obtain⟨d,rfl,h1⟩:=v8 hv;obtain⟨ts,e0,e⟩:=Ak e;obtain⟨rs,e1,e2⟩:=Ak e;split at e2
  .rename_i hc;cases e2;cases g_ e1;obtain⟨es,h2,h3⟩:=h1.seq e0;cases oz.mp h3;exact⟨d,rs,rfl,h2,hc.1,hc.2,λ l hl=>hq _ _ (.new hl _) (sL hz hl (oz.mpr rfl))⟩
  .cases e2
 .cases e
def qp.mo:vN qp:=λ ds S Q Q' hq ⟨d,rows,h0,h1,h2,h3,h4⟩=>⟨d,rows,h0,h1,h2,h3,λ l hl=>hq _ _ (h4 l hl)⟩
abbrev Zt (K:Ac) (sq:Hp->Addr->List V->Prop):List V->Hp->VK->Prop:=λ xs H Q=>∃ p ys,∃ rows:List (List Int),xs=[.ref p]/\sq H p ys/\Paired (λ v r=>r≠[]/\∃ b,v=V.ref b/\ye K H b (r.map V.int)) ys rows/\rows.length<64/\
  ∀ (l:Addr) (idx:List Nat),H l=none->idx.Perm (List.range ys.length)->(idx.map λ i=>rows.getD i []).Pairwise (λ a b=>HT.lexLt b a=false)->Q (.ref l) (upd H l (.lst (idx.map λ i=>ys.getD i .zl)))
def yQ.or {f:Value}{r r':List V->Hp->VK->Prop}(h:yQ X f r) (h':yQ X f r'):yQ X f (λ xs H Q=>r xs H Q\/r' xs H Q):=λ pins s O H xs us Q I rv q=>
 q.elim (λ q=>h pins s O H xs us Q I rv q) λ q=>h' pins s O H xs us Q I rv q
def qp.fits:uP K qp (λ xs H Q=>Zt K (zT K) xs H Q\/Zt K (ye K) xs H Q):=λ xs ds H S Q h0 h2 h=>by
 obtain⟨d,rows,rfl,e,h64,Aj,h⟩:=h;obtain⟨x,hx,h1⟩:=h0.one;subst hx;obtain⟨a,ys,rfl,g1,g2⟩:=zV.sq h1 h2 e;have hl:=g2.length;rw[Aw] at hl;have key:∀ (l:Addr) (idx:List Nat),H l=none->idx.Perm (List.range ys.length)->(idx.map λ i=>rows.getD i []).Pairwise (λ a b=>HT.lexLt b a=false)->Q (.ref l) (upd H l (.lst (idx.map λ i=>ys.getD i .zl))):=λ l idx hf hp hs=>by
  rw[<- hl] at hp;have heq:=L4.aR (Yu hp) hs;have hx:Ext H (upd H l (.lst (idx.map λ i=>ys.getD i .zl))):=.new hf _;refine h l (h2.none hf) _ _ (by simp only[zi]) hx (h2.ups hx ⟨_,yR,?_⟩);rw[<- heq];exact zq.ext hx _ (g2.perm λ i hi=>by simpa using hp.mem_iff.mp hi)
 rcases g1 with g1 | g1
 .exact .inl ⟨_,ys,rows,rfl,g1,mz g2 Aj,h64,key⟩
 .exact .inr ⟨_,ys,rows,rfl,g1,mz g2 Aj,h64,key⟩
def ZJ (hm:X.mg "sorted"=none) (ha:xH X (e::es) tA) (hg:Gl X "sorted":=by rfl) (he:starEach (e::es) X.env=(false,eval e X.env)::starEach es X.env:=by rfl) (Au:(backTo pos (starEach es X.env)).any (·.1)=false:=by rfl):PD X (.Call (.Name "sorted" p) (e::es) [] pos) (xR qp tA):=
 uU (tJ (yQ.or L4.MR L4.MO) hg hm boot_sorted ha.pa (by decide) (by decide) he Au) qp.mo qp.fits ha.mo
end
end L5
namespace L2
open PySem PySem.Spec PyProof.Rows
section
variable {X:Cx}
def uK (r:Addr) (j:Int):Heap->Prop:=λ h=>∃ t u v,IsRange h r 0 j 1 t u v
def MW:yQ X (.type "range") (λ xs H Q=>∃ j,xs=[.int j]/\∀ r,H r=none->Q (.ref r) (upd H r (.ext (uK r j)))):=by
 intro pins s O H xs us Q I r h;obtain⟨j,rfl,q⟩:=h;obtain⟨u,rfl,ru⟩:=vals1 r;obtain⟨t,rfl⟩:=ru;refine call_range_1 ⟨.ref s.heap.objs.size,_,I.laid (o:=.ext (uK s.heap.objs.size j)) (λ b o e=>Ao _ e) (Ah _) ?_,rfl,q _ (I.zE.fresh (Ah _))⟩;have here:uK s.heap.objs.size j (s.heap.push { cls:=.type "range",data:=.fields #[.int 0 s.toks,.int j t,.int 1 (s.toks+1)] }):=⟨_,_,_,IsRange.new ..⟩
 refine⟨here,⟨_,AF _ rfl⟩,λ h1 h2 S k=>?_⟩;obtain⟨a,b,c,e⟩:=S;exact⟨a,b,c,k _ e⟩
def Lb (hc:X.calm=true):yQ X (.type "list") (λ xs H Q=>∃ r j,xs=[.ref r]/\H r=some (.ext (uK r j))/\0<=j/\j<=16777216/\∀ l,H l=none->Q (.ref l) (upd H l (.lst ((List.range j.toNat).map λ(k:Nat)=>V.int (k:Int))))):=by
 intro pins s O H xs us Q I r h;obtain⟨a,j,rfl,hr,h0,h1,q⟩:=h;obtain⟨u,rfl,ru⟩:=vals1 r;cases ru;obtain⟨⟨t,u,v,hR⟩,-,-⟩:=(show xv X.prog X.w H s.heap a (.ext (uK a j)) from I.zE a _ hr)
 have hsz:Builtin.Range.rangeSize 0 j 1=((j.toNat:Nat):Int):=by rw[rangeSize_one];split <;> lia
 refine call_list_range (n:=j.toNat) (I.ok.hd hc) hR (small_one (by decide) (by decide) (by lia) (by lia)) hsz (by lia) λ h' tk acc c k e hi=>?_;refine⟨.ref s.heap.objs.size,_,I.laid (o:=.lst ((List.range j.toNat).map λ(k:Nat)=>V.int (k:Int))) k (Ah _) ⟨?_,acc.toList,c,?_,by simpa using e⟩,rfl,q _ (I.zE.fresh (Ah _))⟩
 .have:sizeLine=16777216:=rfl;simp;lia
 .obtain⟨hn,hi⟩:=hi;refine ST.Paired.mk (by simp[hn]) λ i a b ha hb=>?_;rw[Ay] at ha;obtain⟨k',hk,rfl⟩:=AB ha;obtain⟨hk1,hk2⟩:=AN.mp hk;simp at hk2;subst hk2;obtain⟨w,hw⟩:=hi i b (by simpa using hb);subst hw;exact⟨w,by simp⟩
end
end L2
namespace L5
open PySem PySem.Spec L2 L3
open PyProof.Rows hiding St
section
variable {X:Cx}{K:Ac}{e:Expr}{tA:yz}{pos p pos2 p2:Pos}
def sY:xS:=λ ds S Q=>∃ j:Int,ds=[.int j]/\0<=j/\j<=16777216/\∀ l,S l=none->Q (.ref l) (ups S l (.lst (vU 0 j.toNat)))
noncomputable def mR:List T->Option T
 | [.int j]=>if 0<=j/\j<=16777216 then some (.lst (rangeT 0 j.toNat)) else none
 | _=>none
def N9:vP zL mR sY:=λ S Z ys z ds Q hz hv e hq=>by
 unfold mR at e;split at e
 .obtain⟨d,rfl,h1⟩:=v8 hv;split at e
  .rename_i hc;cases e;cases h1.int;exact⟨_,rfl,hc.1,hc.2,λ l hl=>hq _ _ (.new hl _) (sL hz hl (aX _ _))⟩
  .cases e
 .cases e
def sY.mo:vN sY:=λ ds S Q Q' hq ⟨j,h0,h1,h2,h3⟩=>⟨j,h0,h1,h2,λ l hl=>hq _ _ (h3 l hl)⟩
def Td {H:Hp}(n:Nat):zq K H (vU 0 n) ((List.range n).map λ(k:Nat)=>V.int (k:Int)):=by
 unfold vU
 induction List.range n with
 | nil=>exact .nil
 | cons k l ih=>exact .cons (by simp only[zi];rw[Dn]) ih
def sY.fits:uP K sY (λ xs H Q=>∃ j,xs=[.int j]/\∀ r,H r=none->∃ r' j',[V.ref r]=[.ref r']/\(upd H r (.ext (uK r j))) r'=some (.ext (uK r' j'))/\0<=j'/\j'<=16777216/\
  ∀ l,(upd H r (.ext (uK r j))) l=none->Q (.ref l) (upd (upd H r (.ext (uK r j))) l (.lst ((List.range j'.toNat).map λ(k:Nat)=>V.int (k:Int))))):=λ xs ds H S Q h0 h2 h=>by
 obtain⟨j,rfl,c1,c2,h⟩:=h;obtain⟨x,hx,h1⟩:=h0.one;subst hx;simp only[zi] at h1;subst h1;refine⟨j,rfl,λ r hr=>⟨r,j,rfl,yR,c1,c2,λ l hl=>?_⟩⟩;have x1:Ext H (upd H r (.ext (uK r j))):=.new hr _;have B9:l≠r:=λ z=>by subst z;rw[yR] at hl;cases hl
 have hlH:H l=none:=by rw[yV B9] at hl;exact hl
 have x2:Ext (upd H r (.ext (uK r j))) (upd (upd H r (.ext (uK r j))) l (.lst ((List.range j.toNat).map λ(k:Nat)=>V.int (k:Int)))):=.new hl _;exact h l (h2.none hlH) _ _ (by simp only[zi]) (x1.trans x2) ((h2.new hr).ups x2 ⟨_,yR,Td _⟩)
def Ru (hm:X.mg "list"=none) (hm2:X.mg "range"=none) (ha:xH X [e] tA) (hc:X.calm=true:=by rfl) (hg:Gl X "list":=by rfl) (hg2:Gl X "range":=by rfl)
  (he2:starEach [e] X.env=(false,eval e X.env)::starEach [] X.env:=by rfl)
  (he:starEach [.Call (.Name "range" p2) [e] [] pos2] X.env=(false,eval (.Call (.Name "range" p2) [e] [] pos2) X.env)::starEach [] X.env:=by rfl) (Au:(backTo pos (starEach [] X.env)).any (·.1)=false:=by rfl) (hpl2:(backTo pos2 (starEach [] X.env)).any (·.1)=false:=by rfl):
  PD X (.Call (.Name "list" p) [.Call (.Name "range" p2) [e] [] pos2] [] pos) (xR sY tA):=by
 have h:=oD (p:=p) (Lb hc) hg hm PyProof.Rows.boot_list (qa (oD MW hg2 hm2 boot_range ha.pa (by decide) (by decide) he2 hpl2) pj he) (by decide) (by decide) he Au;exact⟨xR.mo sY.mo ha.mo,PE.imp h λ _ _ _ hu=>aG sY.mo sY.fits ha.mo hu⟩
end
end L5
namespace ST
open PySem PySem.SetTable PySem.Spec PyProof.Rows L2
def Nl {us us':List Value}(p:us'.Perm us):∀ {ms:List Int},IntsAre us ms->∃ ms',IntsAre us' ms'/\ms'.Perm ms:=by
 induction p with
 | nil=>intro ms h;exact⟨ms,h,.refl _⟩
 | cons x _ ih=>
  intro ms h;cases h with
  | cons n t h=>
   obtain⟨ms',h1,h2⟩:=ih h;exact⟨n::ms',.cons n t h1,h2.cons n⟩
 | swap x y l=>
  intro ms h;cases h with
  | cons n t h=>
   cases h with
   | cons m u h=>exact⟨m::n::_,.cons m u (.cons n t h),.swap _ _ _⟩
 | trans _ _ ih1 ih2=>
  intro ms h;obtain⟨m1,h1,h2⟩:=ih2 h;obtain⟨m2,h3,h4⟩:=ih1 h1;exact⟨m2,h3,h4.trans h2⟩
def uh.at {prog:Program}{w:World}{h:Heap}{a:Addr}{xs:List (Int×Tok)}(S:uh prog w h a xs (vY w)):xa w a (xs.map λ e=>Value.int e.1 e.2) h:=by
 obtain⟨⟨es,ep,t,ho,he,T,h1,h2,h3⟩,_⟩:=S;have hm:7<=t.mask/\t.mask<=127:=by rcases T.mask with e | e | e <;> lia
 have hlen:es.size=xs.length:=by have:=congrArg List.length he;simpa using this
 exact⟨es,ep,t,⟨ho,fits_of (n:=xs.length) hlen T (by simp) (by lia),T.wZ,h1,h2⟩,by rw[he,AQ];rfl⟩
theorem YV:∀ xs:List (Int×Tok),IntsAre (xs.map λ e=>Value.int e.1 e.2) (xs.map (·.1))
 | []=>.nil
 | e::xs=>.cons e.1 e.2 (YV xs)
theorem aw:∀ {us:List Value}{ns:List Int},IntsAre us ns->Vals (ns.map V.int) us
 | _,_,.nil=>.nil
 | _,_,.cons n t h=>.cons ⟨t,rfl⟩ (aw h)
section
variable {X:Cx}
def MT (hc:X.calm=true):yQ X (.type "set") (λ xs H Q=>∃ p,∃ ns:List Int,xs=[.ref p]/\zT X.K H p (ns.map V.int)/\ns.length<64/\
  ∀ (l:Addr) (us:List Value) (ms:List Int),H l=none->IntsAre us ms->ms.Nodup->(∀ n,n∈ms↔n∈ns)->Q (.ref l) (upd H l (.ext (xa X.w l us)))):=by
 intro pins s O H xs us Q I r h;obtain⟨p,ns,rfl,hq,h64,q⟩:=h;obtain⟨u,rfl,ru⟩:=vals1 r;cases ru;obtain⟨its,rv,pl,hz⟩:=I.list hq;have hl:=rv.length;rw[Aw] at hl;have iA:IntsAre its ns:=intsAre_of rv;have nums:Nums its.toArray ns:=λ i v hv=>by
  have hv':its[i]?=some v:=by simpa using hv
  have hi:i<ns.length:=by rw[hl];exact (AN.mp hv').1
  obtain⟨u,e1,t,e2⟩:=rv.get (i:=i) (x:=V.int ns[i]) (by simp[hi]);rw[hv'] at e1;cases e1;exact⟨ns[i],t,e2,by simp[hi]⟩
 have hh:X.A.handled=none:=I.ok.hd hc;refine MU (A:=X.A) hh pl.isList nums (by rw[Ar];lia) λ h' tk xs S U k=>?_;have kk:∀ b o,s.heap.get? b=some o->h'.get? b=some o:=λ b o e=>k b o (Ap e) e;have hSO:=S.at;refine⟨.ref s.heap.objs.size,_,I.laid (t':=tk) (o:=.ext (xa X.w s.heap.objs.size (xs.map λ e=>Value.int e.1 e.2))) kk (Ah _) ?_,rfl,q _ _ (xs.map (·.1)) (I.zE.fresh (Ah _)) (YV xs) S.nd λ n=>⟨λ hn=>?_,λ hn=>?_⟩⟩
 .obtain⟨es,ep,t,St,e⟩:=id hSO;exact⟨hSO,⟨_,St.get⟩,λ h1 h2 S1 k=>S1.sF k⟩
 .obtain⟨e,he,rfl⟩:=An.mp hn;obtain⟨j,_,hj⟩:=U.own e he;exact A7 hj
 .obtain⟨j,hj⟩:=Dq.mp hn;exact U.all j n (by have:=(AN.mp hj).1;rw[Ar];lia) hj
def MP (hc:X.calm=true):yQ X (.builtin "sorted") (λ xs H Q=>∃ l us,∃ ms:List Int,xs=[.ref l]/\H l=some (.ext (xa X.w l us))/\IntsAre us ms/\ms.length<64/\
  ∀ (p:Addr) (ns:List Int),H p=none->ns.Perm ms->ns.Pairwise (·<=·)->Q (.ref p) (upd H p (.lst (ns.map V.int)))):=by
 intro pins s O H xs us0 Q I r h;obtain⟨l,us,ms,rfl,hl,hm,h64,q⟩:=h;obtain⟨u,rfl,ru⟩:=vals1 r;cases ru;obtain⟨⟨es,ep,t,S,eu⟩,-,-⟩:=(show xv X.prog X.w H s.heap l (.ext (xa X.w l us)) from I.zE l _ hl)
 have hlen:es.size=us.length:=by rw[<- eu];simp
 have hml:=hm.length;have hh:X.A.handled=none:=I.ok.hd hc;have hp:((comes X.w l es ep).toList.map (·.2)).Perm us:=by rw[<- eu];exact (nq X.w l es ep).map _
 obtain⟨ms',i1,i2⟩:=Nl hp hm;have AJ:=hp.length_eq;have hl24:sizeLine=16777216:=rfl;refine aQ (Out:=λ out=>∃ ns',IntsAre out.toList ns'/\ns'.Perm ms'/\ns'.Pairwise (·<=·)) hh S (by rw[hlen,hml];lia) (λ s6 h2 k=>L4.M9 i1 (by rw[AJ,<- hlen];exact h2) (by rw[AJ,hml];exact h64)) (λ h1=>⟨ms',by simpa using i1,.refl _,?_⟩) λ out h' tk p ho hs hp' k B1=>?_
 .have:ms'.length<2:=by rw[<- i1.length,AJ,<- hlen];exact h1
  match ms',this with
  | [],_=>exact .nil
  | [_],_=>exact DQ _ _
 .obtain⟨ns,g1,g2,g3⟩:=ho;obtain⟨e,he⟩:=B1;refine⟨.ref p,_,I.laid (t':=tk) (o:=.lst (ns.map V.int)) k hp' ?_,rfl,q p ns (I.zE.fresh hp') (g2.trans i2) g3⟩;exact⟨by rw[Aw,g2.length_eq,i2.length_eq];lia,out.toList,e,aw g1,by simpa using he⟩
end
end ST
namespace L5
open PySem PySem.Spec L2 L3
open PyProof.Rows hiding St
noncomputable def insI (n:Int):List Int->List Int
 | []=>[n]
 | m::l=>if n<m then n::m::l else if n=m then m::l else m::insI n l
noncomputable def wX:List Int->List Int
 | []=>[]
 | n::ns=>insI n (wX ns)
theorem eF {n k:Int}:∀ {l:List Int},k∈insI n l↔k=n\/k∈l
 | []=>by simp[insI]
 | m::l=>by
  unfold insI;split
  .simp
  .split
   .rename_i h;subst h;simp
   .rw[Ai,eF,Ai];constructor
    .rintro (h | h | h)
     .exact .inr (.inl h)
     .exact .inl h
     .exact .inr (.inr h)
    .rintro (h | h | h)
     .exact .inr (.inl h)
     .exact .inl h
     .exact .inr (.inr h)
theorem jv {k:Int}:∀ {l:List Int},k∈wX l↔k∈l
 | []=>.rfl
 | n::l=>by unfold wX;rw[eF,jv,Ai]
theorem YX {n:Int}:∀ {l:List Int},l.Pairwise (· < ·)->(insI n l).Pairwise (· < ·)
 | [],_=>DQ _ _
 | m::l,h=>by
  have h':=Bs.mp h;unfold insI;split
  .rename_i c;refine Bs.mpr ⟨λ x hx=>?_,h⟩;rcases Ai.mp hx with e | e
   .rw[e];exact c
   .exact Int.lt_trans c (h'.1 x e)
  .split
   .exact h
   .rename_i c1 c2;refine Bs.mpr ⟨λ x hx=>?_,YX h'.2⟩;rcases eF.mp hx with e | e
    .rw[e];lia
    .exact h'.1 x e
theorem aD:∀ l:List Int,(wX l).Pairwise (· < ·)
 | []=>.nil
 | n::l=>YX (aD l)
def VA {l m:List Int}(h1:l.Nodup) (h2:l.Pairwise (·<=·)) (h3:m.Pairwise (· < ·)) (h:∀ k,k∈l↔k∈m):l=m:=by
 have nm:m.Nodup:=h3.imp λ h e=>by lia
 refine L4.fC (r:=λ a b:Int=>a<=b) (λ a b p q=>by lia) ((DU h1 nm).mpr h) h2 (h3.imp λ h=>by lia)
section
variable {X:Cx}{K:Ac}{e:Expr}{tA:yz}{pos pos2 p p2:Pos}
def m_:xS:=λ ds S Q=>tf ds S Q\/∃ d,∃ ns:List Int,ds=[d]/\(∀ ts,d≠.tup ts)/\zV d S=some (ns.map D.int)/\ns.length<64/\∀ l,S l=none->Q (.ref l) (ups S l (.lst ((wX ns).map D.int)))
noncomputable def qR:List T->Option T
 | [.lst ts]=>match vd ts with
  | some ns=>if ns.length<64 then some (.lst ((wX ns).map T.int)) else none
  | none=>kL [.lst ts]
 | _=>none
def N2:vP zL qR m_:=λ S Z ys z ds Q hz hv e hq=>by
 unfold qR at e;split at e
 .split at e
  .rename_i ns CH;split at e
   .rename_i hc;cases e;cases pC CH;obtain⟨d,rfl,h1⟩:=v8 hv;obtain⟨es,h2,h3⟩:=h1.seq rfl;cases uS.mp h3;refine .inr ⟨d,ns,rfl,?_,h2,hc,λ l hl=>hq _ _ (.new hl _) (sL hz hl (uS.mpr rfl))⟩;obtain⟨_,q | ⟨a,q,_⟩,_⟩:=h1.lst <;> subst q <;> exact λ _=>nofun
   .cases e
  .exact .inl (N3 S Z _ z ds Q hz hv e hq)
 .cases e
theorem m_.mo:vN m_:=λ ds S Q Q' hq h=>by
 rcases h with h | ⟨d,ns,h1,h2,h3,h4,h5⟩
 .exact .inl (tf.mo ds S Q Q' hq h)
 .exact .inr ⟨d,ns,h1,h2,h3,h4,λ l hl=>hq _ _ (h5 l hl)⟩
def NU {w:World}{xs:List V}{H:Hp}{S:SS}{Q:VK}{d:D}{ns:List Int}(h0:zq K H [d] xs) (h2:zR K H S) (hn:∀ ts,d≠.tup ts) (e:zV d S=some (ns.map D.int)) (h64:ns.length<64) (h:∀ l,S l=none->wW K H Q (.ref l) (ups S l (.lst ((wX ns).map D.int)))):
  ∃ p,∃ ns':List Int,xs=[.ref p]/\zT K H p (ns'.map V.int)/\ns'.length<64/\
   ∀ (l:Addr) (us:List Value) (ms:List Int),H l=none->IntsAre us ms->ms.Nodup->(∀ n,n∈ms↔n∈ns')->
    ∃ l' us',∃ ms':List Int,[V.ref l]=[.ref l']/\(upd H l (.ext (ST.xa w l us))) l'=some (.ext (ST.xa w l' us'))/\IntsAre us' ms'/\ms'.length<64/\
     ∀ (p:Addr) (ns:List Int),(upd H l (.ext (ST.xa w l us))) p=none->ns.Perm ms'->ns.Pairwise (·<=·)->Q (.ref p) (upd (upd H l (.ext (ST.xa w l us))) p (.lst (ns.map V.int))):=by
 obtain⟨x,hx,h1⟩:=h0.one;subst hx;obtain⟨a,ys,rfl,g1,g2⟩:=rS h1 h2 e hn;rw[g2.ints] at g1;refine⟨a,ns,rfl,g1,h64,λ l us ms hf hi nd AU=>⟨l,us,ms,rfl,yR,hi,?_,λ p ns2 hp pm srt=>?_⟩⟩
 .have:=ST.ej ms ns nd λ x hx=>(AU x).mp hx;lia
 .have x1:Ext H (upd H l (.ext (ST.xa w l us))):=.new hf _;have Au:p≠l:=λ z=>by subst z;rw[yR] at hp;cases hp
  have hpH:H p=none:=by rw[yV Au] at hp;exact hp
  have x2:Ext (upd H l (.ext (ST.xa w l us))) (upd (upd H l (.ext (ST.xa w l us))) p (.lst (ns2.map V.int))):=.new hp _;have heq:ns2=wX ns:=VA (pm.nodup_iff.mpr nd) srt (aD ns) λ k=>by rw[pm.mem_iff,AU,jv]
  refine h p (h2.none hpH) _ _ (by simp only[zi]) (x1.trans x2) ((h2.new hf).ups x2 ⟨_,yR,?_⟩);rw[<- heq];exact zq.f_ ns2
def ZI {k:Nat}(hr:yK k X.A) (hm:X.mg "sorted"=none) (hm2:X.mg "set"=none) (ha:xH X [e] tA) (hc:X.calm=true:=by rfl) (hg:Gl X "sorted":=by rfl) (hg2:Gl X "set":=by rfl)
  (he2:starEach [e] X.env=(false,eval e X.env)::starEach [] X.env:=by rfl)
  (he:starEach [.Call (.Name "set" p2) [e] [] pos2] X.env=(false,eval (.Call (.Name "set" p2) [e] [] pos2) X.env)::starEach [] X.env:=by rfl) (Au:(backTo pos (starEach [] X.env)).any (·.1)=false:=by rfl) (hpl2:(backTo pos2 (starEach [] X.env)).any (·.1)=false:=by rfl):
  PD X (.Call (.Name "sorted" p) [.Call (.Name "set" p2) [e] [] pos2] [] pos) (xR m_ tA):=by
 have h:=tJ (p:=p) (yQ.or (ST.MQ hc) (ST.MP hc)) hg hm boot_sorted (qa (oD (yQ.or (ST.MS hc hr.units) (ST.MT hc)) hg2 hm2 PyProof.Rows.boot_set ha.pa (by decide) (by decide) he2 hpl2) pj he) (by decide) (by decide) he Au;refine⟨xR.mo m_.mo ha.mo,PE.imp h fun O H Q hu=>?_⟩;obtain⟨Y,S,r1,r2,z⟩:=hu;refine wY.go ha.mo r1 r2 z λ ds S1 xs H1 h1 q1 e1 p1=>?_;rcases h1 with h1 | ⟨d,ns,rfl,c1,c2,c3,h1⟩
 .obtain⟨p,ys,rows,a1,a2,a3,a4,a5⟩:=tf.fits (w:=X.w) xs ds H1 S1 Q q1 p1 (tf.mo ds S1 _ _ (λ d S' z=>z.ext e1) h1);exact .inl ⟨p,ys,rows,a1,a2,a3,a4,λ l us vs rs b1 b2 b3=>.inl (a5 l us vs rs b1 b2 b3)⟩
 .obtain⟨p,ns',a1,a2,a3,a4⟩:=NU (w:=X.w) q1 p1 c1 c2 c3 (λ l hl=>(h1 l hl).ext e1);exact .inr ⟨p,ns',a1,a2,a3,λ l us ms b1 b2 b3 b4=>.inr (a4 l us ms b1 b2 b3 b4)⟩
end
end L5
namespace L5
open PySem PySem.Spec L2 L3
open PyProof.Rows hiding St
section
variable {X:Cx}{e st:Expr}
noncomputable def ea:Sm:=λ _=>none
def XE:y_:=λ _ _ _=>False
def ZH {st:Stmt}:ui X st XE:=⟨λ _ _ _ _ _ h=>h.elim,λ _ _ _ _ _ _ ⟨_,_,_,_,h⟩=>h.elim⟩
def Qd {R:Rk}:xc R ea XE:=λ S0 Z0 S Z Y J o E F e P=>by cases e
end
end L5
namespace L5
open PySem L2 L3
def df:Good2 zL tR dA:=jF (λ _ _ _=>vn) λ _ _ _=>nofun
def dh:Good2 zL vC jM:=jF (λ _ _ _=>vn) λ _ _ _=>nofun
def di:Good2 zL vD jN:=jF (λ _ _ _=>vn) λ _ _ _=>nofun
end L5
namespace L3
open PySem PyProof.Rows L2
section
variable {X:Cx}{pos:Pos}
noncomputable def wE (E:qJ) (W:Nat->yr->SS->Prop) (m:Nat):qJ:={ E with nx:=fun Y' S'=>∃ m',m'<m/\W m' Y' S',ct:=fun Y' S'=>∃ m',m'<m/\W m' Y' S',bk:=E.nx }
def l4 (c:yU) (tb:y_):y_:=λ E Y S=>∃ W:Nat->yr->SS->Prop,(∃ m,W m Y S)/\∀ m Y S,W m Y S->
 c Y S λ b S1=>if b=true then tb (wE E W m) Y S1 else E.nx Y S1
def l4.mo {c:yU}{tb:y_}(hc:vk c) (hb:sr tb):sr (l4 c tb):=λ E E' Y S hE ⟨W,w0,ws⟩=>
 ⟨W,w0,λ m Y S hw=>hc Y S _ _ (λ b S1 z=>vq (λ z=>hb (wE E W m) (wE E' W m) Y S1 ⟨λ _ _ q=>q,hE.rt,hE.nx,λ _ _ q=>q⟩ z) (λ z=>hE.nx _ _ z) z) (ws m Y S hw)⟩
def fF {c:Expr}{body:List Stmt}{tc:yU}{tb:y_}(hp:PassesOwn (model X.prog X.w) X.A X.env X.xe) (hc:xU X c tc) (hb:uL X body tb):ui X (.While c body [] pos) (l4 tc tb):=by
 refine⟨l4.mo hc.mo hb.mo,PS.imp (TF hp hc.pt hb.ps) λ D O H hu=>?_⟩;obtain⟨Y,S,r1,r2,W,⟨m0,w0⟩,ws⟩:=hu;refine⟨λ m O' H'=>Ext H H'/\∃ Y S,xb X.K H' Y O'/\zR X.K H' S/\W m Y S,⟨m0,.refl _,Y,S,r1,r2,w0⟩,?_⟩;rintro m O2 H2 ⟨x2,Y2,S2,q1,q2,w2⟩;refine wK.go hc.mo q1 q2 (ws m Y2 S2 w2) λ k S3 H3 h3 e3 p3=>vq (λ z=>?_) (λ z=>?_) h3
 .refine⟨fun O' H'=>Ext H H'/\∃ Y S m',m'<m/\xb X.K H' Y O'/\zR X.K H' S/\W m' Y S,fun O' H' ⟨a,Y',S',m',b,c,d,e⟩=>⟨m',b,a,Y',S',c,d,e⟩,Y2,S3,q1.ext e3,p3,?_⟩;exact hb.mo (wE (tY X.K H D) W m) _ Y2 S3 ⟨fun Y5 S5 ⟨m',b,w5⟩ O5 H5 b1 b2 b3=>⟨(x2.trans e3).trans b2,Y5,S5,m',b,b1,b3,w5⟩,λ _ _ q=>wW.ext (x2.trans e3) q,λ _ _ q=>vG.ext (x2.trans e3) q,fun Y5 S5 ⟨m',b,w5⟩ O5 H5 b1 b2 b3=>⟨(x2.trans e3).trans b2,Y5,S5,m',b,b1,b3,w5⟩⟩ z
 .exact z O2 H3 (q1.ext e3) (x2.trans e3) p3
end
end L3
namespace L5
open PySem PyProof.Rows L2 L3
noncomputable def xN (is:List Nat) (c:Ev->Option Bool) (b:Sm):Nat->Ev->Option Out
 | 0,_=>none
 | n+1,J=>(c (yC is J)).bind λ k=>if k=true then (b (yC is J)).bind λ o=>match o with
   | .nx J2=>xN is c b n J2
   | .ct J2=>xN is c b n J2
   | .bk J2=>some (.nx (yC is J2))
   | .rt t=>some (.rt t)
  else some (.nx (yC is J))
def qL (n:Nat) (is:List Nat) (c:Ev->Option Bool) (b:Sm):Sm:=xN is c b n
def Qa {R:Rk} [Lo R] {n:Nat}{is:List Nat}{c:Ev->Option Bool}{tc:yU}{b:Sm}{tb:y_}(hc:v7 c tc) (hb:xc R b tb):xc R (qL n is c b) (l4 tc tb):=λ S0 Z0 S Z Y J o E F e P=>by
 obtain⟨SB,b1,FB,b2⟩:=F.rebase;have lo:∀ S' d y,R SB S' Z0 y d->R S0 S' Z0 y d:=λ S' d y r=>Lo.lo b1 (λ _ z=>z) r;refine⟨λ m Y' S'=>∃ Z' J',FR SB Z0 S' Z' Y' J'/\xN is c b m J'=some o,⟨n,Z,J,FB,e⟩,λ m Y' S' ⟨Z',J',F',e'⟩=>?_⟩;cases m with
 | zero=>cases e'
 | succ m=>
  unfold xN at e';obtain⟨k,c1,e'⟩:=Ak e';have G:=F'.yC is;refine hc S' Z' Y' _ k _ G.er c1 λ S3 s3=>?_;cases k with
  | true=>
   rw[if_pos rfl] at e' ⊢;obtain⟨o1,g2,e'⟩:=Ak e';refine hb SB Z0 S3 Z' Y' _ o1 _ (G.grow s3) g2 ?_;cases o1 with
   | nx J2=>exact λ S3 Z3 Y3 F3=>⟨m,Cj m,Z3,J2,F3,e'⟩
   | ct J2=>exact λ S3 Z3 Y3 F3=>⟨m,Cj m,Z3,J2,F3,e'⟩
   | bk J2=>cases e';exact λ S3 Z3 Y3 F3=>P S3 Z3 Y3 ((F3.yC is).back b1 F.z0)
   | rt y=>cases e';exact λ d S3 s3 r3=>P d S3 (b1.trans s3) (lo _ _ _ r3)
  | false=>
   rw[if_neg (by decide)] at e' ⊢;cases e';exact P S3 Z' Y' ((G.grow s3).back b1 F.z0)
end L5
namespace ZP
open PySem PyProof.Rows
def Oo (k:Bool) (l:Addr) (xs:Array Value):Meets (Builtin.«enumerate.__new__» ⟨[.type "enumerate",.ref l],[]⟩) (λ _ R s=>SQ s.heap k l xs/\
   R (.ok (.ret (.ref (s.heap.push (v_ k l)).objs.size))) { s with heap:=(s.heap.push (v_ k l)).push { cls:=.type "enumerate",data:=.fields #[.none,.bool false,.ref s.heap.objs.size,rawInt 0,.none,.none] } }):=
 .of_wp λ prog w A R s h=>by
  obtain⟨hp,g,d,tk,os⟩:=s;obtain⟨q,h⟩:=h;have Ea:=sub_enumerate;have hL:SQ (Shared.heap ⟨hp,g,d,tk,os⟩) k l xs:=q;obtain⟨⟨c,yq,dt,sl⟩,hl,hc⟩:=q.cls;replace hc:c=.type (cond k "tuple" "list"):=hc;subst hc
  wp_walk using AutoSeq1.wpAny_loadPart' hl
  refine wpAny_stack_any λ st=>Ad ?_;split
  .rename_i c _ _ _ _ _;cases (c == Value.type "enumerate")
   .wp_walk using AutoSeq1.wpAny_loadPart' hl,made hL
    exact⟨_,rfl,h⟩
   .wp_walk using AutoSeq1.wpAny_loadPart' hl,made hL
    exact⟨_,rfl,h⟩
  .wp_walk using AutoSeq1.wpAny_loadPart' hl,made hL
   exact⟨_,rfl,h⟩
section
variable {prog:Program}{w:World}{A:Around}{E:Value->Shared->Prop}{s:Shared}
def Mf {k:Bool}{l:Addr}{xs:Array Value}{Q:Value->Shared->Prop}(hL:SQ s.heap k l xs)
  (h:∀ h',IsEnum h' (s.heap.objs.size+1) s.heap.objs.size 0 .none->SI h' k s.heap.objs.size l 0->(∀ b o,s.heap.get? b=some o->h'.get? b=some o)->Q (.ref (s.heap.objs.size+1)) { s with heap:=h' }):
  wpAny (model prog w) A (call (.type "enumerate") [.ref l]) Q E s:=by
 refine callType_new F.called_enumerate (by decide) (F.typeCall_enumerate_1 _) (F.newCall_enumerate_1 _) (λ obj=>F.args_object_init_2 obj _) F.entry_enumerate_new (Oo k l xs) ⟨hL,?_⟩;have hz:(s.heap.push (v_ k l)).objs.size=s.heap.objs.size+1:=Heap.size_push ..;show _/\_;rw[hz];have he:IsEnum ((s.heap.push (v_ k l)).push { cls:=.type "enumerate",data:=.fields #[.none,.bool false,.ref s.heap.objs.size,rawInt 0,.none,.none] }) (s.heap.objs.size+1) s.heap.objs.size 0 .none:=by
  have:=AF (s.heap.push (v_ k l)) (o:={ cls:=.type "enumerate",data:=.fields #[.none,.bool false,.ref s.heap.objs.size,rawInt 0,.none,.none] }) rfl;rw[hz] at this;exact this
 exact⟨⟨_,he,rfl⟩,h _ he ⟨_,Ao _ (AF _ rfl),rfl,rfl⟩ λ b o x=>Ao _ (Ao _ x)⟩
def Mp (hh:A.handled=none) (k:Bool) (it l:Addr) (Aj:l≠it) (xs:Array Value):Draws prog w A it [it,l] xs.size (λ i v=>xs[i]?=some v) (λ i h=>SI h k it l i/\SQ h k l xs) where
 live:=λ _ _ st=>let ⟨o,ho,_⟩:=st.1;⟨o,ho⟩
 frame:=λ _ _ _ st hk=>⟨st.1.on λ o e=>hk it (by simp) o e,st.2.on λ o e=>hk l (by simp) o e⟩
 item:=λ i s Q E hi st hQ=>draw st.1 st.2 (x:=xs[i]) (by simp[hi]) λ h' Eu hs'=>hQ _ h' s.toks (by simp[hi]) ⟨Eu,st.2.on λ o e=>(hs'.2 l Aj).trans e⟩ hs'
 done:=λ s Q E st hE=>jO hh st.1 st.2 (by simp) hE
end
end ZP
namespace L2
open PySem PySem.Spec PyProof.Rows ZP
section
variable {X:Cx}{pins:List (Addr×Obj)}{O:St}{H:Hp}{s:Shared}
def WI (K:Ac) (k:Bool) (a:Addr):It:=
 ⟨λ i H=>∃ xs x,wH K H k a xs/\xs[i]?=some x,
   λ i H v H'=>∃ p x,v=.ref p/\H p=none/\H'=upd H p (.tup [.int i,x])/\∀ xs,wH K H k a xs->xs[i]?=some x,
   λ i H=>∃ xs,wH K H k a xs/\xs.length<=i⟩
def VM {P:Program}{w:World}{K:Ac}{es:List Expr}{kk} {pos:Pos}{k:Bool}{e it a:Addr}(Ez:e≠it) (hea:e≠a) (hai:a≠it):
  Turn P w K (.Tuple es kk pos) (WI K k a) [e,it] e (λ i h=>(∃ old,IsEnum h e it i old)/\SI h k it a i) where
 mem:=by simp
 obj:=λ i h st b hb=>by
  obtain⟨⟨old,q1⟩,o1,q2,_,d1⟩:=st;simp only[Ai,A2,or_false] at hb;rcases hb with e | e <;> subst e
  .exact⟨_,q1,λ v z=>by cases z⟩
  .exact⟨_,q2,λ v z=>by rw[d1] at z;cases z⟩
 keep:=λ i h h' st k=>⟨let ⟨old,q⟩:=st.1;⟨old,k e (by simp) _ q⟩,st.2.on λ o q=>k it (by simp) o q⟩
 item:=by
  intro X hP hw hK hc i pins s O H E I hf st hg;subst hP hw hK;obtain⟨xs,x,g1,hx⟩:=hg;obtain⟨its,rv,q1⟩:=g1.of I;obtain⟨u1,e1,r1⟩:=rv.get hx;obtain⟨⟨old,he⟩,si⟩:=st;have Am:i<its.toArray.size:=by have:=(AN.mp e1).1;simpa using this
  have D:=Mp (prog:=X.prog) (w:=X.w) (A:=X.A.in1) (show X.A.in1.handled=none from I.ok.hd hc) k it a hai its.toArray;refine wpAny_pyNext_enum_itemD D he ⟨si,q1⟩ Am Ez (by simp[Ez,hea]) λ u h' tk hP ho hs' hT hsz hk=>⟨_,rfl,?_⟩;have hu:u=u1:=by simp only[List.getElem?_toArray,e1] at hP;exact (A4 hP).symm
  subst hu;have nT:s.heap.objs.size∉[e,it]:=λ hb=>by
   simp only[Ai,A2,or_false] at hb;obtain⟨oi,qi,_⟩:=si;rcases hb with z | z
   .exact absurd (Ap he) (by rw[<- z];exact BS _)
   .exact absurd (Ap qi) (by rw[<- z];exact BS _)
  have ne:s.heap.objs.size≠e:=λ z=>nT (by simp[z]);refine wpAny_letOwnedTupleGo_enum ho λ h2 he2 sb=>?_;have fr:H s.heap.objs.size=none:=I.zE.fresh (Ah _);have I1:Inv X pins O (upd H s.heap.objs.size (.tup [.int i,x])) { s with heap:=s.heap.push { cls:=.type "tuple",data:=.seq [.int i tk,u].toArray },toks:=s.toks }:=
   I.laid (o:=.tup [.int i,x]) (λ b u q=>Ao _ q) (Ah _) ⟨by show 2<=sizeLine;decide,[.int i tk,u],.cons ⟨tk,rfl⟩ (.cons r1 .nil),IsTup.new _ _⟩
  have hf':∀ b∈[e,it],upd H s.heap.objs.size (.tup [.int i,x]) b=none:=λ b hb=>by
   rw[yV (λ z=>nT (by rw[<- z];exact hb))];exact (hf b hb).1
  have kk:∀ b o,b∉[e,it]->(s.heap.push { cls:=.type "tuple",data:=.seq [.int i tk,u].toArray }).get? b=some o->h2.get? b=some o:=λ b o hb q=>by
   have BK:b≠e:=λ z=>hb (by simp[z]);have hbi:b≠it:=λ z=>hb (by simp[z]);by_cases Dk:b=s.heap.objs.size
   .subst Dk;rw[AF _ rfl] at q;cases q;exact sb.extBut _ _ BK hT
   .have q':s.heap.get? b=some o:=by rw[Heap.get?_push_ne _ _ _ Dk] at q;exact q
    exact sb.extBut _ _ BK (hk b o BK hbi q')
  have I2:=Inv.kD (h':=h2) (t':=tk+1) (fp:=[e,it]) I1 kk λ b hb=>⟨hf' b hb,(hf b hb).2⟩;refine⟨.ref s.heap.objs.size,_,I2,rfl,⟨_,x,rfl,fr,rfl,λ zs hz=>by rw[hz.inj I g1];exact hx⟩,⟨⟨_,by simpa using he2⟩,hs'.1.on λ o q=>(sb.2 it (Ne.symm Ez)).trans q⟩,hf'⟩
 done:=by
  intro X hP hw hK hc i pins s O H E I hf st hg;subst hP hw hK;obtain⟨xs,g1,hx⟩:=hg;obtain⟨its,rv,q1⟩:=g1.of I;have l1:=rv.length;obtain⟨⟨old,he⟩,si⟩:=st;have hT:s.TypeIs (.ref e) "enumerate":=⟨_,he,rfl⟩
  unfold pyNext;refine Ab (wpAny_attempt (zaB (name:=Str.ofString "__next__") hT F.slot_enumerate_next
   (za6 F.slot_enumerate_next hT F.entry_enumerate_next ?_ (F.args_enumerate_next_1 _))))
  show wpAny _ _ (field (.ref e) 2 >>= _) _ _ _;refine Ab (za4 he rfl (x:=.ref it) rfl ?_);refine Ab (jO (show X.A.in1.handled=none from I.ok.hd hc) si q1 (by simp;lia) λ h' x he' hx'=>?_);obtain⟨o,ho,hc⟩:=hx';refine Ab (wpAny_isInstance (T:="StopIteration") (b:=true) ⟨o,ho,hc⟩ isSubtype_stop ?_);exact Ad ⟨rfl,I.kD (t':=s.toks) (fp:=[e,it]) (λ b o hb q=>he' b o (λ z=>hb (by simp[z])) q) hf⟩
 self:=λ _ _ _ _ _ st h=>let ⟨_,q⟩:=st.1;wpAny_pyIter_enum q h
def Nt (K:Ac) (ta:TA):TI:=fun O H R=>ta O H λ vs H1=>∃ a k,vs=[.ref a]/\(∃ xs,wH K H1 k a xs)/\R (WI K k a) H1
def Sj {a:Expr}{ta:TA}{p pos pos':Pos}{es:List Expr}{kk} (hg:Gl X "enumerate") (hm:X.mg "enumerate"=none) (ha:PA X [a] ta) (hs:starEach [a] X.env=[(false,eval a X.env)]:=by rfl):
  PI X (.Tuple es kk pos') (.Call (.Name "enumerate" p) [a] [] pos) (Nt X.K ta):=by
 intro pins s O H R I h;refine Call_ (oS I hg hm boot_enumerate (PyProof.Rows.callWith_type1 (zK (ha pos pins s O H _ I h) λ us s1 ⟨vs,H1,I1,r1,q1⟩=>?_) (by rw[hs];rfl) rfl));obtain⟨a1,k,rfl,⟨xs,g1⟩,q⟩:=q1;cases r1 with
 | cons r rr=>
  cases rr;cases r;obtain⟨it1,_,q1⟩:=g1.of I1;have la:=q1.lt;refine ZP.Mf q1 λ h' E S up=>wpAny_pyIter_enum E ?_;have nw:∀ b∈[s1.heap.objs.size+1,s1.heap.objs.size],s1.heap.objs.size<=b:=λ b hb=>by
   simp only[Ai,A2,or_false] at hb;rcases hb with z | z <;> rw[z]
   .exact CW _
   .exact Ah _
  exact⟨_,[s1.heap.objs.size+1,s1.heap.objs.size],_,_,H1,rfl,I1.kept (t':=s1.toks) up,VM (Nat.succ_ne_self _) (BR (Bx la)) (Ax la),⟨⟨_,E⟩,S⟩,λ b hb=>I1.jG (nw b hb) (I1.zE.fresh (nw b hb)),q⟩
end
end L2
namespace L5
open PySem PySem.Spec L2 L3
open PyProof.Rows hiding St
noncomputable def tX (k:Nat):List D->List D
 | []=>[]
 | d::ds=>.tup [.int k,d]::tX (k+1) ds
noncomputable def sZ (k:Nat):List T->List T
 | []=>[]
 | d::ds=>.tup [.int k,d]::sZ (k+1) ds
theorem Xy:∀ (ds:List D) (k i:Nat),(tX k ds)[i]?=(ds[i]?).map λ d=>D.tup [.int ((k+i:Nat):Int),d]
 | [],k,i=>by simp[tX]
 | d::ds,k,0=>by simp[tX]
 | d::ds,k,i+1=>by
  unfold tX;rw[DZ,DZ,Xy ds (k+1) i,show k+1+i=k+(i+1) from by lia]
theorem Xx:∀ (ds:List D) (k:Nat),(tX k ds).length=ds.length
 | [],k=>rfl
 | d::ds,k=>by unfold tX;rw[AW,Xx ds];rfl
theorem h_ {S:SS}:∀ {ts:List T}{ds:List D}(k:Nat),zo S ts ds->zo S (sZ k ts) (tX k ds)
 | [],ds,k,h=>by simp only[zo] at h;subst h;exact zo.nil
 | t::ts,ds,k,h=>by
  simp only[zo] at h;obtain⟨c,cs,rfl,h1,h2⟩:=h;exact zo.cons (qS (zo.cons (by simp only[Sn]) (zo.cons h1 zo.nil))) (h_ (k+1) h2)
section
variable {X:Cx}{a:Expr}{tA:yz}{pos p pos':Pos}{es:List Expr}{kk:Nat}
def eU (t:yz):vh:=fun Y S R=>t Y S λ ds S1=>∃ d xs,ds=[d]/\zV d S1=some xs/\R ⟨tX 0 xs,λ S=>zV d S=some xs⟩ S1
def fK (hm:X.mg "enumerate"=none) (ha:xH X [a] tA) (hg:Gl X "enumerate":=by rfl) (hs:starEach [a] X.env=[(false,eval a X.env)]:=by rfl):
  qB X (.Tuple es kk pos') (.Call (.Name "enumerate" p) [a] [] pos) (eU tA):=by
 refine⟨fun Y S Q Q' hq z=>ha.mo Y S _ _ (λ ds S1 ⟨d,xs,h1,h2,h4⟩=>⟨d,xs,h1,h2,hq _ _ h4⟩) z,PI.imp (Sj hg hm ha.pa hs) fun O H R hu=>?_⟩;obtain⟨Y,S,r1,r2,z⟩:=hu;refine wY.go ha.mo r1 r2 z λ ds S1 vs H1 h1 q1 e1 p1=>?_;obtain⟨d,xs,rfl,s1,h⟩:=h1;obtain⟨v,rfl,d1⟩:=q1.one;obtain⟨a1,us,rfl,g1,g2⟩:=zV.k d1 p1 s1;refine⟨a1,mS d,rfl,⟨us,g1⟩,h _ H1 e1 p1 λ i H2 S2 x1 x2 hk=>?_⟩;obtain⟨b1,us2,q1,m1,m2⟩:=zV.k (zi.ext x1 d d1) x2 hk;cases q1;have l1:=m2.length;refine⟨λ dd hd=>?_,λ hl=>⟨us2,m1,?_⟩⟩
 .rw[Xy,CP] at hd;obtain⟨dx,hx,rfl⟩:=AB hd;obtain⟨x,hx',rx⟩:=m2.get hx;refine⟨⟨us2,x,m1,hx'⟩,λ v H' q=>?_⟩;obtain⟨pp,x',rfl,hp,rfl,f1⟩:=q;have ex:x'=x:=by have:=f1 _ m1;rw[hx'] at this;exact (A4 this).symm
  subst ex;refine⟨.new hp _,x2.new hp,?_⟩;simp only[zi];exact⟨pp,_,rfl,ye.of yR,zq.ext (.new hp _) _ (.cons (by simp only[zi]) (.cons rx .nil))⟩
 .have hl':(tX 0 xs).length<=i:=hl;rw[Xx] at hl';lia
@[simp] noncomputable def ue:List T->Option (List T)
 | [x]=>(wc x).map λ xs=>sZ 0 xs
 | _=>none
def Qp {g:Ev->Option (List T)}(h:pZ g tA):qD false (wg ue g) (eU tA):=λ S Z Y J ts Q hE e hq=>by
 obtain⟨ys,e1,e2⟩:=Ak e;refine h S Z Y J ys _ hE e1 λ ds S1 s1 r1=>?_;unfold ue at e2;split at e2
 .obtain⟨xs,e3,rfl⟩:=AB e2;obtain⟨d,rfl,h1⟩:=v8 r1;obtain⟨es,g1,g2⟩:=h1.seq e3;exact⟨d,es,rfl,g1,hq _ S1 s1 (h_ 0 g2) λ S'' s=>zV.sx g1 s⟩
 .cases e2
def Qq {g:Ev->Option (List T)}(h:pY g tA):qD true (wg ue g) (eU tA):=λ S Z Y J ts Q hE e hq=>by
 obtain⟨ys,e1,e2⟩:=Ak e;refine h S Z Y J ys _ hE e1 λ ds S1 s1 r1=>?_;unfold ue at e2;split at e2
 .obtain⟨xs,e3,rfl⟩:=AB e2;simp only[zo] at r1;obtain⟨d,_,rfl,h1,rfl⟩:=r1;obtain⟨es,g1,g2⟩:=zV.zW h1 e3;exact⟨d,es,rfl,zV.sx g1 (mV S1 Z),hq _ S1 s1 (h_ 0 g2) λ S'' s=>zV.sx g1 s⟩
 .cases e2
end
end L5
namespace TM
open PySem PyProof.Rows
def Mx (i:Int) (t:Tok) (l:Addr) (items:Array Value) (n:Nat) (dd:Option Addr) (sl:Array (Option Value)):
  Meets (Builtin.«int.__rmul__» ⟨[.int i t,.ref l],[]⟩) (λ _ R s=>s.heap.get? l=some { cls:=.type "list",dict:=dd,data:=.seq items n,slots:=sl }/\R (.ok (.ret Value.notImplemented)) s):=
 .of_wp λ prog w A R s h=>by
  obtain⟨hp,g,d,tk,os⟩:=s;obtain⟨hl,h⟩:=h
  wp_walk
  exact⟨_,rfl,h⟩
def mulL (l:Addr) (items:Array Value) (n:Nat) (x:Int) (u:Tok) (dd:Option Addr) (sl:Array (Option Value)) (hc0:¬(!Builtin.List.listFitsIndex x)=true) (hc1:¬items.size*x.toNat>(2 ^ 63-1)/8) (hc2:¬Builtin.List.listTooLong (items.size*x.toNat)=true):
  Meets (Builtin.«list.__mul__» ⟨[.ref l,.int x u],[]⟩) (λ _ R s=>s.heap.get? l=some { cls:=.type "list",dict:=dd,data:=.seq items n,slots:=sl }/\R (.ok (.ret (Value.ref s.heap.objs.size))) { s with heap:=s.heap.push { cls:=.type "list",data:=.seq (List.foldl (λ x1 x2=>x1++x2) #[] (List.replicate (if items.isEmpty=true then 0 else x.toNat) items)) } }):=
 .of_wp λ prog w A R s h=>by
  obtain⟨hp,g,d,tk,os⟩:=s;obtain⟨hl,h⟩:=h;have hsz:=AutoListH.joined_fits hc2
  wp_walk;refine wpAny_ite_false (za0 (Nat.not_lt.mpr hsz)) ?_;wp_walk;exact⟨_,rfl,h⟩
section
variable {prog:Program}{w:World}{A:Around}{E:Value->Shared->Prop}{s:Shared}
def VU {l:Addr}{its:List Value}{k:Int}{t:Tok}{Q:Value->Shared->Prop}(ht:PlainL s.heap l its.toArray) (Aj:its≠[]) (h0:0<=k) (hz:its.length*k.toNat<=sizeLine)  (hk:k<=1000000)
  (more:Q (.ref s.heap.objs.size) { s with heap:=s.heap.push { cls:=.type "list",data:=.seq (List.replicate k.toNat its).flatten.toArray } }):
  wpAny (model prog w) A (binaryOp .Mult (.ref l) (.int k t)) Q E s:=by
 obtain⟨⟨cls,dd,data,sl⟩,n,ho,hc,he,hd⟩:=id ht;simp only at hc hd he;subst hc hd he;have hl:sizeLine=16777216:=rfl;have DN:its.toArray.isEmpty=false:=by cases its with
  | nil=>exact absurd rfl Aj
  | cons a r=>rfl
 have hf:List.foldl (λ x1 x2=>x1++x2) #[] (List.replicate (if its.toArray.isEmpty=true then 0 else k.toNat) its.toArray)=(List.replicate k.toNat its).flatten.toArray:=by
  rw[DN,if_neg (by decide)];have:=d7 its k.toNat #[];simpa using this
 refine wpAny_binaryOp_repeat_ref (T:="list") (U:="int") (by decide) ⟨_,ho,rfl⟩ (λ s'=>typeIs_int s' k t) noFill_list_mul F.fills_int_mul F.slot_int_rmul repeat_list F.slot_int_index.lookup
  (call_meets F.slot_int_rmul (typeIs_int s k t) F.entry_int_rmul (F.args_int_rmul_2 _ _) (Mx k t l its.toArray n none sl)
   ⟨ho,rfl,⟨_,ho,rfl⟩,call_meets F.slot_list_mul ⟨_,ho,rfl⟩ F.entry_list_mul (F.args_list_mul_2 _ _)
    (mulL l its.toArray n k t none sl (by simp[Builtin.List.listFitsIndex];lia) (by simp;lia) (by simp[Builtin.List.listTooLong];lia)) ⟨ho,?_⟩⟩)
 rw[hf];exact more
end
end TM
namespace L2
open PySem PySem.Spec PyProof.Rows
def fu (K:Ac):R2:=λ x y H Q=>∃ a k xs,x=.ref a/\y=.int k/\zT K H a xs/\xs≠[]/\0<=k/\k<=1000000/\xs.length*k.toNat<=sizeLine/\∀ p,H p=none->Q (.ref p) (upd H p (.lst (List.replicate k.toNat xs).flatten))
def RJ {X:Cx}:yj X (binaryOp .Mult) (fu X.K):=by
 intro pins s O H x y v u Q I rx ry h;obtain⟨a,k,xs,rfl,rfl,hx,Aj,h1,h2,hz,q⟩:=h;cases rx;obtain⟨t,rfl⟩:=ry;obtain⟨its,r,ht,_⟩:=I.list hx;have hl:=r.length;refine TM.VU ht (λ z=>Aj (r.mO.mp z)) h1 (by rw[<- hl];exact hz) h2 ?_;have hlen:(List.replicate k.toNat xs).flatten.length<=sizeLine:=by
  have:(List.replicate k.toNat xs).flatten.length=k.toNat*xs.length:=by simp
  rw[this,Dx];exact hz
 exact⟨.ref _,_,I.laid (t':=s.toks) (o:=.lst (List.replicate k.toNat xs).flatten) (λ b ob q=>Ao _ q) (Ah _) ⟨hlen,_,0,r.rep k.toNat,AF _ rfl⟩,rfl,q _ (I.zE.fresh (Ah _))⟩
end L2
namespace L5
open PySem PySem.Spec L2 L3
open PyProof.Rows hiding St
section
variable {X:Cx}{K:Ac}{a b:Expr}{ta tb:zy}{pos:Pos}
noncomputable def Na:D->Bool
 | .tup _=>true
 | _=>false
def jL:yW:=λ x y S Q=>∃ k ds,y=.int k/\Na x=false/\zV x S=some ds/\(ds≠[]/\0<=k/\k<=1000000/\ds.length*k.toNat<=sizeLine)/\∀ p,S p=none->Q (.ref p) (ups S p (.lst (List.replicate k.toNat ds).flatten))
def qq:yW:=λ x y S Q=>tU x y S Q\/jL x y S Q
noncomputable def we:T->T->Option T
 | .lst ts,.int k=>if ts≠[]/\0<=k/\k<=1000000/\ts.length*k.toNat<=sizeLine then some (.lst (List.replicate k.toNat ts).flatten) else none
 | x,y=>eD x y
theorem qq.mo:xJ qq:=λ x y S Q Q' hq h=>by
 rcases h with h | ⟨k,ds,h1,h2,h3,h4,h5⟩
 .exact .inl (tU.mo x y S Q Q' hq h)
 .exact .inr ⟨k,ds,h1,h2,h3,h4,λ p hp=>hq _ _ (h5 p hp)⟩
def jL.fits:xB K jL (fu K):=λ x y d e H S Q h1 h2 h3 h=>by
 obtain⟨k,ds,rfl,ht,hs,⟨c1,c2,c3,c4⟩,h⟩:=h;simp only[zi] at h2;obtain⟨a,xs,rfl,g1,g2⟩:=rS h1 h3 hs λ ts z=>by subst z;cases ht
 have hl:=g2.length;refine⟨a,k,xs,rfl,h2,g1,λ z=>c1 (by subst z;cases ds with | nil=>rfl | cons _ _=>simp at hl),c2,c3,by rw[<- hl];exact c4,λ p hp=>?_⟩;exact h p (h3.none hp) _ _ (by simp only[zi]) (.new hp _) (h3.ups (.new hp _) ⟨_,yR,zq.ext (.new hp _) _ (zq.rep g2 _)⟩)
theorem qq.fits:xB K qq (λ x y H Q=>(rI wI (λ i j=>.int (i*j)) x y H Q\/fq K x y H Q)\/fu K x y H Q):=λ x y d e H S Q h1 h2 h3 h=>by
 rcases h with h | h
 .exact .inl (tU.fits x y d e H S Q h1 h2 h3 h)
 .exact .inr (jL.fits x y d e H S Q h1 h2 h3 h)
def N5:Good2 zL we qq:=λ S Z x y z d e Q hz hx hy ef hq=>by
 unfold we at ef;split at ef
 .rename_i ts k;split at ef
  .rename_i hc;cases ef;obtain⟨ds,g1,g2⟩:=hx.seq (ts:=ts) rfl;cases hy.int;have hl:=g2.len;refine .inr ⟨_,ds,rfl,?_,g1,⟨λ q=>hc.1 (by subst q;simpa using hl.symm),hc.2.1,hc.2.2.1,by rw[hl];exact hc.2.2.2⟩,λ p hp=>hq _ _ (.new hp _) (sL hz hp (zo.rep g2 _))⟩;cases d with
   | tup es=>exact absurd hx (by
     intro q;rcases q with q | ⟨us,p,es',_,q,_⟩
     .simp only[Sn] at q;obtain⟨_,⟨q,_⟩ | ⟨_,q,_⟩,_⟩:=q <;> cases q
     .cases q)
   | _=>rfl
  .cases ef
 .exact .inl (Xa S Z x y z d e Q hz hx hy ef hq)
def ph (ha:PD X a ta) (hb:PD X b tb):PD X (.BinOp a .Mult b pos) (yF qq ta tb):=oK ((RK.or RI).or RJ) qq.fits qq.mo ha hb
end
end L5
namespace L3
open PySem PySem.Spec PyProof.Rows L2
section
variable {X:Cx}{K:Ac}{e o:Expr}{te to:zy}{apos Ag:Pos}
def qw (to te:zy):zy:=fun Y S Q=>to Y S λ x S1=>match x with
 | .ref p=>(∃ ds,S1 p=some (.lst ds))/\te Y S1 λ y S2=>∃ q ds es,y=.ref q/\S2 p=some (.lst ds)/\S2 q=some (.lst es)/\ds.length+es.length<=sizeLine/\Q .zl (ups S2 p (.lst (ds++es)))
 | _=>False
def qw.mo (h:yt to) (h':yt te):yt (qw to te):=fun Y S Q Q' hq z=>h Y S _ _ (λ x S1 z=>by
 cases x with
 | ref p=>exact⟨z.1,h' Y S1 _ _ (λ y S2 ⟨q,ds,es,a,b,c,d,w⟩=>⟨q,ds,es,a,b,c,d,hq _ _ w⟩) z.2⟩
 | _=>exact z) z
def Rz {e0:Expr}(Ef:PE X e0 (i_ X.K "list" Z5 (zX X.K to) (iY (zX X.K te) iW))) (h:yt to) (h':yt te):PD X e0 (qw to te):=by
 refine⟨qw.mo h h',PE.imp Ef fun O H Q hu=>?_⟩;obtain⟨Y,S,r1,r2,z⟩:=hu;refine zX.go h r1 r2 z λ x S1 v H1 h1 q1 e1 p1=>?_;cases x with
 | ref p=>
  obtain⟨⟨ds,hd⟩,h1⟩:=h1;simp only[zi] at q1;subst q1;obtain⟨xs,g1,g2⟩:=p1 _ _ hd;refine⟨.inl ⟨rfl,xs,zT.of g1⟩,?_⟩;refine zX.go h' (r1.ext e1) p1 h1 λ y S2 w H2 h2 q2 e2 p2=>?_;obtain⟨q,ds',es,rfl,b1,b2,b3,b4⟩:=h2;simp only[zi] at q2;subst q2;obtain⟨xs',g3,g4⟩:=p2 _ _ b1;obtain⟨ys',g5,g6⟩:=p2 _ _ b2;refine⟨p,q,xs',ys',rfl,rfl,g3,g5,by rw[<- g4.length,<- g6.length];exact b3,?_⟩;have e4:Ext H2 (upd H2 p (.lst (xs'++ys'))):=.lst g3 _;exact b4 _ _ (by simp only[zi]) ((e1.trans e2).trans e4) (p2.ups e4 ⟨_,yR,zq.ext e4 _ (g4.append g6)⟩)
 | zl=>exact h1.elim
 | bl _=>exact h1.elim
 | int _=>exact h1.elim
 | str _=>exact h1.elim
 | tup _=>exact h1.elim
 | yN _=>exact h1.elim
def fM (ho:PD X o to) (he:PD X e te)
  (hbase:attributeBase o "extend" X.env (eval o X.env)=eval o X.env:=by rfl)
  (AG:((backTo Ag (starEach [e] X.env)).all (λ x=>!x.1)&&(backToKw Ag (keywordEach [] X.env)).all (λ x=>x.1.isSome)
   && decide ([e].length+([]:List Keyword).length+(if ([]:List Keyword).isEmpty then 0 else 1)<30))=true:=by rfl)
  (hline:(apos.endLine == Ag.line)=true:=by rfl) (hs:starEach [e] X.env=(false,eval e X.env)::starEach [] X.env:=by rfl) (hplain:(backTo Ag (starEach [] X.env)).any (·.1)=false:=by rfl):
  PD X (.Call (.Attribute o "extend" apos) [e] [] Ag) (qw to te):=
 Rz (fD PySem.F.plainAttrs_list PySem.F.slot_list_extend PySem.F.type_list_extend Oh ho.pe (qa he.pe pj hs) hbase AG hline hs hplain) ho.mo he.mo
end
end L3
namespace L5
open PySem L2 L3
@[simp] noncomputable def lb (i:Nat) (f:Ev->Option T):Sm:=fun J=>match J[i]? with
 | some (some (.own (.lst ts)))=>(f J).bind λ y=>match y with
  | .lst us=>if ts.length+us.length<=sizeLine then some (.nx (J.set i (some (.own (.lst (ts++us)))))) else none
  | _=>none
 | _=>none
section
variable {R:Rk}{f:Ev->Option T}{te:zy}
def ZZ (i:Nat) (hf:wa f te):xc R (lb i f) (jS (qw (yO i) te)):=λ S0 Z0 S Z Y J o E F e P=>by
 unfold lb at e;split at e
 .rename_i ts h;obtain⟨y,e1,e2⟩:=Ak e;split at e2
  .rename_i us;split at e2
   .rename_i hl;cases e2;obtain⟨p,ob,h1,h2,h3,h4⟩:=F.er.ow i _ h;obtain⟨ds,rfl⟩:∃ ds,ob=.lst ds:=by
     cases ob with
     | lst ds=>exact⟨ds,rfl⟩
     | yq _=>exact h3.elim
    replace h3:zo (zW S Z) ts ds:=h3;show qw (yO i) te Y S _;unfold qw yO;rw[h1];refine⟨⟨ds,h2⟩,hf S Z Y J _ _ F.er e1 λ d S1 s1 r1=>?_⟩;obtain⟨q,es,rfl,g1,g2,g3⟩:=r1.2 us rfl;have F1:=F.grow s1;have g4:zo (zW S1 Z) us es:=zo.sx (tS λ a z=>.inl z) us g3;refine⟨q,ds,es,rfl,s1 _ _ h2,g2,by rw[h3.len,g4.len];exact hl,P _ Z Y (F1.mut (us:=.lst (ts++us)) (es:=.lst (ds++es)) i h h1 ((zo.sx (ve s1) ts h3).append g4))⟩
   .cases e2
  .cases e2
 .cases e
end
end L5
namespace L5
open PySem PySem.Spec L2 L3
open PyProof.Rows hiding St
section
variable {X:Cx}{K:Ac}{e:Expr}{es:List Expr}{tA:yz}{pos p:Pos}
def tV:xS:=λ ds S Q=>match ds with
 | [.int i]=>Q (.int i) S
 | [.bl k]=>Q (.int (if k then 1 else 0)) S
 | _=>False
def tV.mo:vN tV:=λ ds S Q Q' hq h=>by
 unfold tV at h ⊢;split at h
 .exact hq _ _ h
 .exact hq _ _ h
 .exact h.elim
def tV.fits:uP K tV (λ xs H Q=>(∃ i,xs=[.int i]/\Q (.int i) H)\/∃ k,xs=[.bl k]/\Q (.int (if k then 1 else 0)) H):=λ xs ds H S Q h0 h2 h=>by
 unfold tV at h;split at h
 .obtain⟨x,rfl,h1⟩:=h0.one;simp only[zi] at h1;subst h1;exact .inl ⟨_,rfl,h _ H (by simp only[zi]) (.refl H) h2⟩
 .obtain⟨x,rfl,h1⟩:=h0.one;simp only[zi] at h1;subst h1;exact .inr ⟨_,rfl,h _ H (by simp only[zi]) (.refl H) h2⟩
 .exact h.elim
def ZN (hm:X.mg "int"=none) (ha:xH X (e::es) tA) (hg:Gl X "int":=by rfl) (he:starEach (e::es) X.env=(false,eval e X.env)::starEach es X.env:=by rfl) (Au:(backTo pos (starEach es X.env)).any (·.1)=false:=by rfl):PD X (.Call (.Name "int" p) (e::es) [] pos) (xR tV tA):=
 uU (oD Lg hg hm PyProof.Rows.boot_int ha.pa (by decide) (by decide) he Au) tV.mo tV.fits ha.mo
@[simp] noncomputable def ql:List T->Option T
 | [.int i]=>some (.int i)
 | [.bl k]=>some (.int (if k then 1 else 0))
 | _=>none
def good_int:vP zL ql tV:=λ S Z ys z ds Q hz hv e hq=>by
 unfold ql at e;split at e
 .cases e;obtain⟨d,rfl,h1⟩:=v8 hv;cases h1.int;exact hq _ S (.refl S) (Cl.of (λ _=>nofun) wL)
 .cases e;obtain⟨d,rfl,h1⟩:=v8 hv;cases h1.bl;exact hq _ S (.refl S) (Cl.of (λ _=>nofun) wL)
 .cases e
end
section
variable {α:Type}{P:List α->Prop}
def rj (h:∀ a,P [a]) (us:List α) (hl:us.length=1):P us:=match us,hl with | [a],_=>h a
def v5 (h:∀ a b,P [a,b]) (us:List α) (hl:us.length=2):P us:=match us,hl with | [a,b],_=>h a b
def vz (h:∀ a b c,P [a,b,c]) (us:List α) (hl:us.length=3):P us:=match us,hl with | [a,b,c],_=>h a b c
def Wz (h:∀ a b c d,P [a,b,c,d]) (us:List α) (hl:us.length=4):P us:=match us,hl with | [a,b,c,d],_=>h a b c d
def Wx (h:∀ a b c d e,P [a,b,c,d,e]) (us:List α) (hl:us.length=5):P us:=match us,hl with | [a,b,c,d,e],_=>h a b c d e
def ar6 (h:∀ a b c d e f,P [a,b,c,d,e,f]) (us:List α) (hl:us.length=6):P us:=match us,hl with | [a,b,c,d,e,f],_=>h a b c d e f
def ar7 (h:∀ a b c d e f g,P [a,b,c,d,e,f,g]) (us:List α) (hl:us.length=7):P us:=match us,hl with | [a,b,c,d,e,f,g],_=>h a b c d e f g
def ar8 (h:∀ a b c d e f g i,P [a,b,c,d,e,f,g,i]) (us:List α) (hl:us.length=8):P us:=match us,hl with | [a,b,c,d,e,f,g,i],_=>h a b c d e f g i
end
end L5
namespace L5
open PySem PySem.Spec L2 L3
open PyProof.Rows hiding St
section
variable {P:Program}{w:World}{K:Ac}{mg:Str->Option Value}{base h:Heap}{x:Str}{st:Stmt}
def Fx (K:Ac) (x:Str) (st:Stmt):Prop:=∃ (f:Addr) (oc:Value) (od:Option Addr) (kV dc pm:Value) (an:Option Addr) (cd ct:Value) (sl:Array (Option Value)),
 PySem.W.nsIn K mainGlobals x=some (some (.ref f))/\K.lookup f=some ⟨oc,od,.func (PySem.W.fnOf x x (rf st) (vH st) (zF st) .none kV dc pm an cd ct),sl⟩/\PySem.W.codeIn K cd x=true/\PySem.W.keepIn K (.ref f)=true
def Fx.i {f:Addr}{oc:Value}{od:Option Addr}{kV dc pm:Value}{an:Option Addr}{cd ct:Value}{sl:Array (Option Value)}(a:PySem.W.nsIn K mainGlobals x=some (some (.ref f))) (l:K.lookup f=some ⟨oc,od,.func (PySem.W.fnOf x x (rf st) (vH st) (zF st) .none kV dc pm an cd ct),sl⟩) (c:PySem.W.codeIn K cd x=true) (k:PySem.W.keepIn K (.ref f)=true):Fx K x st:=⟨f,oc,od,kV,dc,pm,an,cd,ct,sl,a,l,c,k⟩
def Fy (K:Ac) (mg:Str->Option Value) (x:Str) (st:Stmt):Prop:=∃ (f:Addr) (fd:FuncData),t9 K x x st f fd/\mg x=some (.ref f)
def Fx.mk (H:Fx K x st) (X:K.In h) (G:h.Ns mainGlobals mg):Fy K mg x st:=by
 obtain⟨f,oc,od,kV,dc,pm,an,cd,ct,sl,a,l,c,k⟩:=H;exact⟨f,_,Xi l c k,PySem.W.mg_of X G a⟩
theorem Fx.law {fa:Addr}{p:Str}(H:Fx K "law" st) (X:K.In h) (G:h.Ns mainGlobals mg) (Ey:mg "law"=some (.ref fa)) (hb:∀ (kV dc pm:Value) (an:Option Addr) (cd ct:Value) (s:Shared) (v:Value),BindsTo s (PySem.W.fnOf "law" "law" (rf st) (vH st) (zF st) .none kV dc pm an cd ct) ⟨[v],[]⟩ [(p,v)]):∃ fd:FuncData,t9 K "law" "law" st fa fd/\∀ (s:Shared) (v:Value),BindsTo s fd ⟨[v],[]⟩ [(p,v)]:=by
 obtain⟨f,oc,od,kV,dc,pm,an,cd,ct,sl,a,l,c,k⟩:=H;have e:=Ey.symm.trans (PySem.W.mg_of X G a);cases e;exact⟨_,Xi l c k,hb kV dc pm an cd ct⟩
def Cn (K:Ac) (x:Str) (t:V):Prop:=∃ u,PySem.W.nsIn K mainGlobals x=some (some u)/\L2.RelV t u
def Cn.i {t:V}{u:Value}(a:PySem.W.nsIn K mainGlobals x=some (some u)) (r:L2.RelV t u):Cn K x t:=⟨u,a,r⟩
def Cn.mk {t:V}(H:Cn K x t) (X:K.In h) (G:h.Ns mainGlobals mg):∃ u,mg x=some u/\L2.RelV t u:=by
 obtain⟨u,a,r⟩:=H;exact⟨u,PySem.W.mg_of X G a,r⟩
def yp {R:Rk} [Lo R] {N ps:List Str}{k n:Nat}{g:Sm}(F:Fy K mg x st) (Sc:yf N ps (zF st)) (hn:n=ps.length)
  (hb:∀ (kV doc pm:Value) (an:Option Addr) (Af ct:Value) (us:List Value),us.length=ps.length->bindArgs (PySem.W.fnOf x x (rf st) (vH st) (zF st) .none kV doc pm an Af ct) ⟨us,[]⟩=pure (ps.zip us))
  (hbody:∀ (f:Addr) (Af:Value) (A:Around) (outer:List Env) (s:Shared) (H:Hp) (E:XK),yK k (A.deeper (envOfC x (zF st) s.heap.objs.size f Af))->
   ∃ t,uL (t_ vQ P w K mg base N x (zF st) f Af A outer s H E).qc (vH st) t/\xc R g t):FD P w K mg base x (k+1) ps (zY R (yb N n g)):=by
 obtain⟨f,fd,F,hm⟩:=F;exact NX F hm Sc hn hb (hbody f)
end
end L5
namespace L3
open PySem PySem.Spec L2
open PyProof.Rows hiding St
section
variable {X:Cx}{e:Expr}{es:List Expr}{tA:yz}{pos p:Pos}
def pd_vn (i:Nat) {x:Str}(hN:X.N[i]?=some x:=by rfl) (hv:ia X.env.scope x:=by first | exact Or.inl rfl | exact Or.inr (Or.inl rfl) | exact Or.inr (Or.inr rfl)) (hd:(x == ("__debug__":Str))=false:=by decide) (Bw:(x == ("__classdict__":Str))=false:=by decide):PD X (.Name x pos) (yO i):=Rp i (pv i hN hv hd Bw)
def pd_callH {x:Str}{k k':Nat}{ps:List Str}{sp:rp}(F:FD X.prog X.w X.K X.mg X.base x k ps sp) (hr:yK k' X.A) (ha:xH X (e::es) tA) (hk:k<=k':=by decide) (hg:Gl X x:=by rfl) (B0:(x == ("__debug__":Str))=false:=by decide)
  (he:starEach (e::es) X.env=(false,eval e X.env)::starEach es X.env:=by rfl) (Au:(backTo pos (starEach es X.env)).any (·.1)=false:=by rfl):PD X (.Call (.Name x p) (e::es) [] pos) (jT sp tA):=R5 F (hr.mono hk) ha hg B0 he Au
end
end L3
namespace L2
open PySem PySem.Spec PyProof.Rows
theorem ay:∀ {ns:List Int}{us:List Value},Vals (ns.map V.int) us->∃ xs:List (Int×Tok),us=xs.map (λ p=>.int p.1 p.2)/\xs.map (·.1)=ns
 | [],_,h=>by cases h;exact⟨[],rfl,rfl⟩
 | n::ns,us,h=>by
  cases h with
  | cons r rr=>
   obtain⟨t,rfl⟩:=r;obtain⟨xs,rfl,rfl⟩:=ay rr;exact⟨(n,t)::xs,rfl,rfl⟩
section
variable {X:Cx}
def O_ {xs:List (Int×Tok)}{i:Nat}{v:Value}(h:(intItems xs.toArray)[i]?=some v):i<xs.length/\∃ t,v=.int (numAt xs.toArray i) t:=by
 obtain⟨t,rfl⟩:=intItems_at h;refine⟨?_,t,rfl⟩;obtain⟨h1,_⟩:=Array.getElem?_eq_some_iff.mp h;simpa [intItems] using h1
def PN {xs:List (Int×Tok)}{i:Nat}(h:i<xs.length):numAt xs.toArray i∈xs.map (·.1):=by
 rw[numAt_eq];exact getD_mem (by simpa using h)
def Ol {xs:List (Int×Tok)}{a:Int}(h:a∈xs.map (·.1)):∃ j,j<xs.length/\a=numAt xs.toArray j:=by
 obtain⟨j,hj,rfl⟩:=mem_getD h;exact⟨j,by simpa using hj,by rw[numAt_eq]⟩
def MZ (hc:X.calm=true):yQ X (.builtin "max") (λ xs H Q=>∃ (p:Addr) (ns:List Int),xs=[.ref p]/\zT X.K H p (ns.map V.int)/\0<ns.length/\∀ M,M∈ns->(∀ a∈ns,a<=M)->Q (.int M) H):=by
 intro pins s O H xs us Q I r h;obtain⟨p,ns,rfl,hq,hn,q⟩:=h;obtain⟨u,rfl,rx⟩:=vals1 r;cases rx;obtain⟨its,r',pl,hz⟩:=I.list hq;obtain⟨zs,rfl,rfl⟩:=ay r';have hl:s.heap.IsList p (intItems zs.toArray):=by
  have:=pl.isList;simpa [intItems] using this
 refine max_intList (I.ok.hd hc) hl (by simpa using hn) λ v h' tk hv hk=>?_;obtain⟨hi,t,rfl⟩:=O_ hv;obtain⟨h1,h2⟩:=argBest_gt (numAt zs.toArray) (zs.toArray.size-1);refine⟨.int _,H,I.kept hk,⟨t,rfl⟩,q _ (PN hi) λ a ha=>?_⟩;obtain⟨j,hj,rfl⟩:=Ol ha;exact h2 j (by simp;lia)
end
section
variable {p:Pos}
def Ts (K:Ac):List V->Hp->VK->Prop:=λ xs H Q=>∃ (p:Addr) (ns:List Int),xs=[.ref p]/\zT K H p (ns.map V.int)/\0<ns.length/\∀ M,M∈ns->(∀ a∈ns,a<=M)->Q (.int M) H
end
end L2
namespace L3
open PySem PySem.Spec L2
open PyProof.Rows hiding St
section
variable {X:Cx}{K:Ac}{e:Expr}{tA:yz}{p pos:Pos}
def tQ (d:D) (S:SS) (ns:List Int):Prop:=match d with
 | .yN es=>es=ns.map D.int
 | .ref a=>S a=some (.lst (ns.map D.int))
 | _=>False
theorem tQ.sq {H:Hp}{S:SS}{d:D}{v:V}{ns:List Int}(r:zi K H d v) (p:zR K H S) (h:tQ d S ns):∃ a,v=.ref a/\zT K H a (ns.map V.int):=by
 unfold tQ at h;split at h
 .subst h;simp only[zi] at r;obtain⟨a,xs,r1,r2,r3⟩:=r;rw[r3.ints] at r2;exact⟨a,r1,r2.sq⟩
 .rename_i a;simp only[zi] at r;obtain⟨xs,x1,x2⟩:=p a _ h;rw[x2.ints] at x1;exact⟨a,r,.inl (.inl x1)⟩
 .exact h.elim
def qt:xS:=λ ds S Q=>∃ d ns,ds=[d]/\tQ d S ns/\0<ns.length/\∀ M,M∈ns->(∀ a∈ns,a<=M)->Q (.int M) S
def qt.mo:vN qt:=λ ds S Q Q' hq ⟨d,ns,h1,h2,h3,h4⟩=>⟨d,ns,h1,h2,h3,λ M a b=>hq _ _ (h4 M a b)⟩
def qt.fits:uP K qt (Ts K):=λ xs ds H S Q h0 h2 h=>by
 obtain⟨d,ns,rfl,h1,h3,h4⟩:=h;obtain⟨x,rfl,r⟩:=h0.one;obtain⟨a,rfl,sq⟩:=tQ.sq r h2 h1;exact⟨a,ns,rfl,sq,h3,λ M x y=>h4 M x y _ H (by simp only[zi]) (.refl H) h2⟩
def Rr (hm:X.mg "max"=none) (ha:xH X [e] tA) (hc:X.calm=true:=by rfl) (hg:Gl X "max":=by rfl) (he:starEach [e] X.env=(false,eval e X.env)::starEach [] X.env:=by rfl) (Au:(backTo pos (starEach [] X.env)).any (·.1)=false:=by rfl):PD X (.Call (.Name "max" p) [e] [] pos) (xR qt tA):=
 uU (tJ (MZ hc) hg hm boot_max ha.pa (by decide) (by decide) he Au) qt.mo qt.fits ha.mo
end
end L3
namespace L5
open PySem PySem.Spec L2 L3
open PyProof.Rows hiding St
noncomputable def qf:List Int->Option Int
 | []=>none
 | n::ns=>match qf ns with
  | none=>some n
  | some m=>some (if m<n then n else m)
theorem Yt:∀ {ns:List Int},qf ns=none->ns=[]
 | [],_=>rfl
 | n::ns,h=>by unfold qf at h;split at h <;> cases h
theorem eG:∀ {ns:List Int}{M:Int},qf ns=some M->M∈ns/\∀ a∈ns,a<=M
 | [],_,h=>by cases h
 | n::ns,M,h=>by
  unfold qf at h;split at h
  .rename_i e;cases h;rw[Yt e];exact⟨Al,λ a ha=>by cases AR.mp ha;exact AK _⟩
  .rename_i m e;obtain⟨h1,h2⟩:=eG e;cases h;split
   .exact⟨Al,λ a ha=>by
     rcases Ai.mp ha with rfl | x
     .exact AK _
     .have:=h2 a x;lia⟩
   .exact⟨Av _ h1,λ a ha=>by
     rcases Ai.mp ha with rfl | x
     .omega
     .exact h2 a x⟩
noncomputable def oO:List T->Option T
 | [.lst ts]=>(vd ts).bind λ ns=>(qf ns).map .int
 | _=>none
def Vw.ints {S:SS}{Z:Addr->Prop}{ns:List Int}{d:D}(h:Vw S Z (.lst (ns.map T.int)) d):tQ d S ns:=by
 rcases h with h | ⟨ts,p,ds,e,rfl,h1,h2,_⟩
 .simp only[Sn] at h;obtain⟨ds,h1,h2⟩:=h;have e:=uS.mp h2;subst e;rcases h1 with ⟨rfl,_⟩ | ⟨a,rfl,h3⟩
  .rfl
  .exact (uX h3).2
 .cases e;rw[uS.mp h2] at h1;exact h1
def N7:vP zL oO qt:=λ S Z ys z ds Q hz hv e hq=>by
 unfold oO at e;split at e
 .obtain⟨d,rfl,h1⟩:=v8 hv;obtain⟨ns,e1,e2⟩:=Ak e;rw[pC e1] at h1;obtain⟨M,e3,rfl⟩:=AB e2;obtain⟨m1,m2⟩:=eG e3;refine⟨d,ns,rfl,h1.ints,Dw m1,λ M' a b=>?_⟩;have:M'=M:=Int.le_antisymm (m2 M' a) (b M m1);subst this;exact hq _ S (.refl S) (Cl.of (λ _=>nofun) wL)
 .cases e
end L5
namespace L2
open PySem PySem.Spec PyProof.Rows
section
variable {X:Cx}
def Tu (K:Ac):V->List V->Hp->VK->Prop:=λ x vs H Q=>∃ (l:Addr) (ns:List Int) (k:Int),x=.ref l/\vs=[.int k]/\zT K H l (ns.map V.int)/\k∈ns/\Q (.int (ns.idxOf k:Nat)) H
theorem YU:∀ {ns:List Int}{us:List Value},Vals (ns.map V.int) us->IntsAre us ns
 | [],_,h=>by cases h;exact .nil
 | n::ns,us,h=>by
  cases h with
  | cons r rr=>
   obtain⟨t,rfl⟩:=r;exact .cons n t (YU rr)
def Og:WA X "list.index" (Tu X.K):=by
 intro pins s O H x vs v us Q I rx rv h;obtain⟨l,ns,k,rfl,rfl,hq,hk,q⟩:=h;cases rx;obtain⟨u,rfl,ru⟩:=rv.one;obtain⟨t,rfl⟩:=ru;obtain⟨its,r,pl,hz⟩:=I.list hq;have hi:IntsAre its ns:=YU r;obtain⟨⟨cls,dd,data,sl⟩,ho,hc,n,hd⟩:=pl.isList;simp only at hc hd;subst hc hd;have hlen:=hi.length;have hj:ns.idxOf k<ns.length:=List.idxOf_lt_length_iff.mpr hk;have hb:ns.length<=sizeLine:=by simpa using hz
 have h63:sizeLine<2 ^ 62:=by decide
 refine call_meets PySem.F.slot_list_index ⟨_,ho,rfl⟩ PySem.F.entry_list_index (PySem.F.args_list_index_2 _ _)
  (PySem.SeqAt.list_indexAt l its.toArray n dd sl (.int k t) (isInt k) (ns.idxOf k) (by simpa [hlen] using hj) (by lia) ?_ ?_) ⟨ho,λ y hy=>(eq_isInt k t hi y (by simpa using hy)).at _ _,⟨.int _,H,I.tok _,⟨_,rfl⟩,q⟩⟩
 .show isInt k its[ns.idxOf k]=true;rw[isInt_at k hi _ (by lia) hj];simpa using List.getElem_idxOf hj
 .intro j hjs Am;show isInt k its[j]=false;have hjn:j<ns.length:=by lia
  rw[isInt_at k hi _ (by simpa using hjs) hjn];exact ne_of_lt_idxOf Am _
end
end L2
namespace L3
open PySem PySem.Spec L2
open PyProof.Rows hiding St
section
variable {X:Cx}{o e:Expr}{to te:zy}{apos Ag:Pos}
def XI (to te:zy):zy:=fun Y S Q=>to Y S λ x S1=>(∃ ns,tQ x S1 ns)/\te Y S1 λ y S2=>∃ (ns:List Int) (k:Int),tQ x S2 ns/\y=.int k/\k∈ns/\Q (.int (ns.idxOf k:Nat)) S2
def Rx (ho:PD X o to) (he:PD X e te)
  (hbase:attributeBase o "index" X.env (eval o X.env)=eval o X.env:=by rfl)
  (AG:((backTo Ag (starEach [e] X.env)).all (λ x=>!x.1)&&(backToKw Ag (keywordEach [] X.env)).all (λ x=>x.1.isSome)
   && decide ([e].length+([]:List Keyword).length+(if ([]:List Keyword).isEmpty then 0 else 1)<30))=true:=by rfl)
  (hline:(apos.endLine == Ag.line)=true:=by rfl) (hs:starEach [e] X.env=(false,eval e X.env)::starEach [] X.env:=by rfl) (hplain:(backTo Ag (starEach [] X.env)).any (·.1)=false:=by rfl):
  PD X (.Call (.Attribute o "index" apos) [e] [] Ag) (XI to te):=by
 refine⟨fun Y S Q Q' hq z=>ho.mo Y S _ _ (λ x S1 z=>⟨z.1,he.mo Y S1 _ _ (λ y S2 ⟨ns,k,h1,h2,h3,h4⟩=>⟨ns,k,h1,h2,h3,hq _ _ h4⟩) z.2⟩) z,PE.imp (fD PySem.F.plainAttrs_list PySem.F.slot_list_index PySem.F.type_list_index Og ho.pe (qa he.pe pj hs) hbase AG hline hs hplain) fun O H Q hu=>?_⟩;obtain⟨Y,S,r1,r2,z⟩:=hu;refine zX.go ho.mo r1 r2 z λ x S1 v H1 h1 q1 e1 p1=>?_;obtain⟨⟨ns,hn⟩,h1⟩:=h1;obtain⟨a,rfl,sq⟩:=tQ.sq q1 p1 hn;refine⟨.inl ⟨rfl,_,sq⟩,?_⟩;refine zX.go he.mo (r1.ext e1) p1 h1 λ y S2 w H2 h2 q2 e2 p2=>?_;obtain⟨ms,k,g1,rfl,g3,g4⟩:=h2;obtain⟨b,eb,sq2⟩:=tQ.sq (zi.ext e2 x q1) p2 g1;cases eb;simp only[zi] at q2;subst q2;exact⟨a,ms,k,rfl,rfl,sq2,g3,g4 _ H2 (by simp only[zi]) (e1.trans e2) p2⟩
end
end L3
namespace L5
open PySem PySem.Spec L2 L3
open PyProof.Rows hiding St
noncomputable def oX:T->T->Option T
 | .lst ts,.int k=>(vd ts).bind λ ns=>if k∈ns then some (.int (ns.idxOf k:Nat)) else none
 | _,_=>none
def Ph {fa fb:Ev->Option T}{ta tb:zy}(ha:yP fa ta) (hb:yP fb tb):wa (zb oX fa fb) (XI ta tb):=λ S Z Y J y Q hE e hq=>by
 unfold zb at e;obtain⟨x,e1,e⟩:=Ak e;obtain⟨z,e2,e⟩:=Ak e;unfold oX at e;split at e
 .obtain⟨ns,i1,i2⟩:=Ak e;split at i2
  .rename_i hk;cases i2;have ei:=pC i1;subst ei;refine ha S Z Y J _ _ hE e1 λ d S1 s1 r1=>⟨⟨ns,Vw.ints r1⟩,?_⟩;refine hb S1 Z Y J _ _ (hE.grow s1) e2 λ d2 S2 s2 r2=>?_;cases r2.int;exact⟨ns,_,Vw.ints (Vw.grow r1 s2),rfl,hk,hq _ S2 (s1.trans s2) (Cl.of (λ _=>nofun) wL)⟩
  .cases i2
 .cases e
end L5
namespace L5
open L2 L3
def okA {R:Rk}{g:Sm}{t:y_}(h:xc R g t:=by
 repeat' first
  | (with_reducible first | exact fY _ | apply PK | apply QD | apply Pj)
  | (with_reducible first | exact js _ | refine vW (R:=x_) nc ?_ ?_ | refine fZ (R:=x_) ?_ | apply Yg | apply Yh)
  | ((try first | refine xV.fr ?_ | refine xV.fe ?_);with_reducible first | exact px _ | refine vW (R:=zL) (by with_reducible first | exact good_add | exact de | exact NF | exact ND | exact NC | exact df | exact dh | exact di | exact N5 | exact Xa) ?_ ?_ | refine fZ (R:=zL) ?_ | refine Px (R:=zL) (by with_reducible first | exact NB | exact N1 | exact NA | exact N8 | exact N6 | exact NG | exact N4 | exact N2 | exact N9 | exact good_int | exact N7) ?_ | apply Yc | apply Q4 | apply QI | apply Pm | apply Ye | exact PH _ | exact Q5 _ | exact QE | apply Yf | apply Pg | apply QH | apply Ph | refine Pw (by with_reducible first | exact de | exact df | exact dh | exact di) (by with_reducible first | exact de | exact df | exact dh | exact di) ?_ ?_ ?_ | apply QA | apply Q8 | exact Pr _)
  | (refine xV.er ?_;with_reducible first | exact js _ | refine vW (R:=x_) nc ?_ ?_ | refine fZ (R:=x_) ?_ | apply Yg | apply Yh)
  | (with_reducible first | apply fR | apply Qk | apply Qf | exact Qb | apply Qc | apply Ql | apply Z_ | apply ZY | apply Qa | exact fS _ | apply Qh | exact Qd | apply Qg | apply ZZ | exact Qj _ | apply Qi | apply Qe)
  | (with_reducible first | exact fW | apply fX | exact fU | apply fV | apply Q1 | apply Q2 | apply Po | apply Pn | apply Pq | exact Yd | exact Ya _ | exact Qr | apply Qs | exact Qu | apply Qv | apply fT | apply Qn | apply Qo | apply Qp | apply Qq | apply Qm | exact Qy | apply Qx)
  | (first | exact Yb _ | apply Qt | apply Qw)
  | exact (fS _).fv):xc R g t:=h
end L5
namespace RN
open L5
abbrev Bd:=List (Int×Int)
def yG (b c:Bd):Prop:=∀ q,zG b q=true->zG c q=true
def yG.refl (b:Bd):yG b b:=λ _ h=>h
def yG.trans {a b c:Bd}(h:yG a b) (h':yG b c):yG a c:=λ q x=>h' q (h q x)
def yG.of {b c:Bd}(h:∀ p∈b,∃ r∈c,r.1<=p.1/\r.2<=p.2):yG b c:=λ q x=>by
 obtain⟨p,hp,h1,h2⟩:=yI.mp x;obtain⟨r,hr,h3,h4⟩:=h p hp;exact yI.mpr ⟨r,hr,by lia,by lia⟩
def yG.at {b c:Bd}(h:yG b c) {p:Int×Int}(hp:p∈b):∃ r∈c,r.1<=p.1/\r.2<=p.2:=yI.mp (h p (yI.mpr ⟨p,hp,AK _,AK _⟩))
structure Gd (A B:Int) (b:Bd):Prop where
 jA:vO b
 wj:∀ p∈b,(0<=p.1/\p.1<=A)/\0<=p.2/\p.2<=B
noncomputable def yZ:Bd:=[(0,0)]
def XX {q:Int×Int}:zG yZ q=true↔0<=q.1/\0<=q.2:=by
 rw[yI];unfold yZ;simp
theorem Gd.yZ {A B:Int}(hA:0<=A) (hB:0<=B):Gd A B yZ:=⟨by unfold RN.yZ vO;simp,λ p hp=>by
 unfold RN.yZ at hp;cases AR.mp hp;exact⟨⟨AK _,hA⟩,AK _,hB⟩⟩
def Gd.j7 {A B:Int}{b:Bd}(h:Gd A B b):yG b RN.yZ:=yG.of λ p hp=>⟨(0,0),by unfold RN.yZ;simp,(h.wj p hp).1.1,(h.wj p hp).2.1⟩
theorem Gd.eq {A B:Int}{b c:Bd}(h:Gd A B b) (h':Gd A B c) (x:yG b c) (y:yG c b):b=c:=vO.eq h.jA h'.jA λ q=>by
 rw[A5];exact⟨x q,y q⟩
def Gd.least {A B:Int}{ps:Bd}(h:∀ p∈ps,(0<=p.1/\p.1<=A)/\0<=p.2/\p.2<=B):Gd A B (vp ps):=⟨eP ps,λ p hp=>h p (O6 hp)⟩
def Y4 {ps qs:Bd}(h:∀ p∈ps,∃ r∈qs,r.1<=p.1/\r.2<=p.2):yG (vp ps) (vp qs):=λ q x=>by
 rw[oP] at x ⊢;exact yG.of h q x
theorem YN:∀ {b:Bd}{lo hi:Int},vO b->(∀ p∈b,lo<=p.1/\p.1<=hi)->(b.length:Int)<=hi+1-lo\/b=[]
 | [],_,_,_,_=>.inr rfl
 | p::b,lo,hi,h,hb=>by
  have h1:=Bs.mp h;have hp:=hb p Al;refine .inl ?_;rcases YN (lo:=p.1+1) (hi:=hi) h1.2 (λ q hq=>⟨by have:=(h1.1 q hq).1;lia,(hb q (Av _ hq)).2⟩) with x | x
  .rw[AW];lia
  .subst x;simp;lia
theorem YM:∀ {b:Bd}{lo hi:Int},vO b->(∀ p∈b,lo<=p.2/\p.2<=hi)->(b.length:Int)<=hi+1-lo\/b=[]
 | [],_,_,_,_=>.inr rfl
 | p::b,lo,hi,h,hb=>by
  have h1:=Bs.mp h;have hp:=hb p Al;refine .inl ?_;rcases YM (lo:=lo) (hi:=p.2-1) h1.2 (λ q hq=>⟨(hb q (Av _ hq)).1,by have:=(h1.1 q hq).2;lia⟩) with x | x
  .rw[AW];lia
  .subst x;simp;lia
def Gd.qh {A B:Int}{b:Bd}(h:Gd A B b) (hA:0<=A):(b.length:Int)<=A+1:=by
 rcases YN (lo:=0) (hi:=A) h.jA (λ p hp=>(h.wj p hp).1) with x | x
 .omega
 .subst x;simp;lia
def Gd.O5 {A B:Int}{b:Bd}(h:Gd A B b) (hB:0<=B):(b.length:Int)<=B+1:=by
 rcases YM (lo:=0) (hi:=B) h.jA (λ p hp=>(h.wj p hp).2) with x | x
 .omega
 .subst x;simp;lia
noncomputable def yS (x:Int):Int:=if x>0 then x else 0
def ju (x:Int):0<=yS x:=by unfold yS;split <;> lia
def eA {x y:Int}(h:x<=y):yS x<=yS y:=by unfold yS;split <;> split <;> lia
def Oa {x g:Int}(h:0<=x) (hg:0<=g):yS (x-g)<=x:=by unfold yS;split <;> lia
def xu (a b:Int) (p:Int×Int):Int×Int:=(yS (p.1-a),yS (p.2-b))
noncomputable def vE (A B:Int) (p:Int×Int):Bool:=decide (p.1<=A)&&decide (p.2<=B)
def q8 (A B a b:Int) (bd:Bd):Bd:=vp ((bd.map (xu a b)).filter (vE A B))
def L7 (A B a b:Int) (bd:Bd):Gd A B (q8 A B a b bd):=Gd.least λ p hp=>by
 obtain⟨h1,h2⟩:=AV.mp hp;obtain⟨q,_,rfl⟩:=An.mp h1;have h3:(xu a b q).1<=A/\(xu a b q).2<=B:=by simpa [vE] using h2
 exact⟨⟨ju _,h3.1⟩,ju _,h3.2⟩
def W4 (A B a b:Int) {bd bd':Bd}(h:yG bd bd'):yG (q8 A B a b bd) (q8 A B a b bd'):=Y4 λ p hp=>by
 obtain⟨h1,h2⟩:=AV.mp hp;obtain⟨q,hq,rfl⟩:=An.mp h1;obtain⟨r,hr,r1,r2⟩:=h.at hq;have h3:(xu a b q).1<=A/\(xu a b q).2<=B:=by simpa [vE] using h2
 have m1:(xu a b r).1<=(xu a b q).1:=eA (by lia);have m2:(xu a b r).2<=(xu a b q).2:=eA (by lia);exact⟨xu a b r,AV.mpr ⟨An.mpr ⟨r,hr,rfl⟩,by simp[vE];lia⟩,m1,m2⟩
def uE (b c:Bd):Bd:=vp (b++c)
def Ml (b c:Bd) (q:Int×Int):zG (uE b c) q=(zG b q||zG c q):=by unfold uE;rw[oP,M7]
def Mk {A B:Int}{b c:Bd}(h:Gd A B b) (h':Gd A B c):Gd A B (uE b c):=Gd.least λ p hp=>by
 rcases AX.mp hp with x | x
 .exact h.wj p x
 .exact h'.wj p x
noncomputable def jy (p q:Int×Int):Int×Int:=(if q.1>p.1 then q.1 else p.1,if q.2>p.2 then q.2 else p.2)
def uf (b c:Bd):Bd:=vp (b.flatMap λ p=>c.map (jy p))
def Wl (b c:Bd) (q:Int×Int):zG (uf b c) q=(zG b q&&zG c q):=by
 unfold uf;rw[oP,A5,BO,yI,yI,yI];constructor
 .rintro⟨p,hp,h1,h2⟩;obtain⟨x,hx,hp⟩:=BM.mp hp;obtain⟨y,hy,rfl⟩:=An.mp hp;unfold jy at h1 h2;dsimp only at h1 h2;refine⟨⟨x,hx,?_,?_⟩,⟨y,hy,?_,?_⟩⟩ <;> (first | (split at h1 <;> lia) | (split at h2 <;> lia))
 .rintro⟨⟨x,hx,h1,h2⟩,⟨y,hy,h3,h4⟩⟩;refine⟨jy x y,BM.mpr ⟨x,hx,An.mpr ⟨y,hy,rfl⟩⟩,?_,?_⟩
  .show (if y.1>x.1 then y.1 else x.1)<=q.1;split <;> lia
  .show (if y.2>x.2 then y.2 else x.2)<=q.2;split <;> lia
def Lp {A B:Int}{b c:Bd}(h:Gd A B b) (h':Gd A B c):Gd A B (uf b c):=Gd.least λ p hp=>by
 obtain⟨x,hx,hp⟩:=BM.mp hp;obtain⟨y,hy,rfl⟩:=An.mp hp;have a1:=h.wj x hx;have a2:=h'.wj y hy;unfold jy;dsimp only;refine⟨⟨?_,?_⟩,?_,?_⟩ <;> split <;> lia
def uF (bs:List Bd):Bd:=bs.foldl uE []
def nA (bs:List Bd):Bd:=bs.foldl uf yZ
theorem dI:∀ (bs:List Bd) (b:Bd) (q:Int×Int),zG (bs.foldl uE b) q=true↔zG b q=true\/∃ c∈bs,zG c q=true
 | [],b,q=>by simp
 | c::bs,b,q=>by
  rw[Dr,dI bs,Ml,DR];constructor
  .rintro ((h | h) | ⟨d,hd,h⟩)
   .exact .inl h
   .exact .inr ⟨c,Al,h⟩
   .exact .inr ⟨d,Av _ hd,h⟩
  .rintro (h | ⟨d,hd,h⟩)
   .exact .inl (.inl h)
   .rcases Ai.mp hd with e | e
    .subst e;exact .inl (.inr h)
    .exact .inr ⟨d,e,h⟩
theorem lh {A B:Int}:∀ (bs:List Bd) (b:Bd),Gd A B b->(∀ c∈bs,Gd A B c)->Gd A B (bs.foldl uE b)
 | [],b,h,_=>h
 | c::bs,b,h,hb=>lh bs _ (Mk h (hb c Al)) λ d hd=>hb d (Av _ hd)
def Gd.nil {A B:Int}:Gd A B []:=⟨by unfold vO;simp,λ p hp=>by cases hp⟩
theorem ck:∀ (bs:List Bd) (b:Bd) (q:Int×Int),zG (bs.foldl uf b) q=true↔zG b q=true/\∀ c∈bs,zG c q=true
 | [],b,q=>by simp
 | c::bs,b,q=>by
  rw[Dr,ck bs,Wl,BO];constructor
  .rintro⟨⟨h1,h2⟩,h3⟩;exact⟨h1,λ d hd=>by
    rcases Ai.mp hd with e | e
    .subst e;exact h2
    .exact h3 d e⟩
  .rintro⟨h1,h2⟩;exact⟨⟨h1,h2 c Al⟩,λ d hd=>h2 d (Av _ hd)⟩
theorem cj {A B:Int}:∀ (bs:List Bd) (b:Bd),Gd A B b->(∀ c∈bs,Gd A B c)->Gd A B (bs.foldl uf b)
 | [],b,h,_=>h
 | c::bs,b,h,hb=>cj bs _ (Lp h (hb c Al)) λ d hd=>hb d (Av _ hd)
noncomputable def xl (pu:Bool) (g t:Int):Int×Int:=if pu=true then (t,g) else (g,t)
noncomputable def yc (pu:Bool) (p:Int×Int):Int:=if pu=true then p.2 else p.1
noncomputable def y8 (pu:Bool) (p:Int×Int):Int:=if pu=true then p.1 else p.2
noncomputable def wo (pu:Bool) (ya give get:Int):Nat->Int->Int->Bd
 | 0,_,_=>[]
 | n+1,g,t=>if g<=ya then xl pu g t::wo pu ya give get n (g+give) (yS (t-get)) else []
def TV {pu:Bool}{g t g' t':Int}(h:g'<=g) (h':t'<=t):(xl pu g' t').1<=(xl pu g t).1/\(xl pu g' t').2<=(xl pu g t).2:=by
 cases pu
 .exact⟨h,h'⟩
 .exact⟨h',h⟩
theorem Wg (pu:Bool) (ya give get:Int):∀ (n:Nat) (g t g' t':Int),g'<=g->t'<=t->∀ e∈wo pu ya give get n g t,∃ r∈wo pu ya give get n g' t',r.1<=e.1/\r.2<=e.2
 | 0,_,_,_,_,_,_,e,he=>by cases he
 | n+1,g,t,g',t',h1,h2,e,he=>by
  unfold wo at he ⊢;split at he
  .rw[if_pos (by lia)];rcases Ai.mp he with x | x
   .subst x;exact⟨_,Al,TV h1 h2⟩
   .obtain⟨r,hr,r1⟩:=Wg pu ya give get n _ _ (g' + give) (yS (t'-get)) (by lia) (eA (by lia)) e x;exact⟨r,Av _ hr,r1⟩
  .cases he
theorem dY (pu:Bool) (ya give get most:Int) (hg:1<=give) (Dg:0<=get):∀ (n:Nat) (g t:Int),0<=g->0<=t->t<=most->∀ e∈wo pu ya give get n g t,(0<=yc pu e/\yc pu e<=ya)/\0<=y8 pu e/\y8 pu e<=most
 | 0,_,_,_,_,_,e,he=>by cases he
 | n+1,g,t,h1,h2,h3,e,he=>by
  unfold wo at he;split at he
  .rcases Ai.mp he with x | x
   .subst x;cases pu <;> exact⟨⟨h1,by assumption⟩,h2,h3⟩
   .exact dY pu ya give get most hg Dg n _ _ (by lia) (ju _) (Int.le_trans (Oa h2 Dg) h3) e x
  .cases he
theorem Wh (pu:Bool) (ya give get:Int) (hg:1<=give):∀ (n:Nat) (g t:Int),g<=ya+1->((wo pu ya give get n g t).length:Int)<=ya+1-g
 | 0,g,t,h=>by simp[wo];lia
 | n+1,g,t,h=>by
  unfold wo;split
  .rw[AW];by_cases hh:g+give<=ya+1
   .have:=Wh pu ya give get hg n (g+give) (yS (t-get)) hh;lia
   .have e:wo pu ya give get n (g+give) (yS (t-get))=[]:=by
     cases n with
     | zero=>rfl
     | succ n=>unfold wo;rw[if_neg (by lia)]
    rw[e];simp;lia
  .simp;lia
structure Wy where
 f:Nat
 t:Nat
 a:Int
 b:Int
structure Sl where
 p:Nat
 pu:Bool
 gv:Int
 gt:Int
structure zw where
 A:Int
 B:Int
 os:List Bool
 ws:List Wy
 ss:List Sl
structure zw.Ok (F:zw):Prop where
 a0:0<=F.A
 a1:F.A<=12
 b0:0<=F.B
 b1:F.B<=12
 n1:1<=F.os.length
 n8:F.os.length<=8
 ws:∀ w∈F.ws,w.f<F.os.length/\w.t<F.os.length
 uQ:F.ws.length<=60
 ss:∀ s∈F.ss,1<=s.gv/\0<=s.gt
 sl:F.ss=[]\/(F.A+1)*(F.B+1)<64
 s8:F.ss.length<=60
noncomputable def zw.ya (F:zw) (pu:Bool):Int:=if pu=true then F.B else F.A
def xq (F:zw) (s:Sl) (p:Int×Int):Bd:=wo s.pu (F.ya s.pu) s.gv s.gt 100 (yc s.pu p) (y8 s.pu p)
def pN (F:zw) (s:Sl) (bd:Bd):Bd:=vp (bd.flatMap (xq F s))
def MH (F:zw) (s:Sl) {b c:Bd}(h:yG b c):yG (pN F s b) (pN F s c):=Y4 λ p hp=>by
 obtain⟨x,hx,hp⟩:=BM.mp hp;obtain⟨r,hr,r1,r2⟩:=h.at hx;obtain⟨e,he,e1⟩:=Wg s.pu (F.ya s.pu) s.gv s.gt 100 (yc s.pu x) (y8 s.pu x) (yc s.pu r) (y8 s.pu r) (by unfold yc;split <;> assumption) (by unfold y8;split <;> assumption) p hp;exact⟨e,BM.mpr ⟨r,hr,he⟩,e1⟩
def MG {F:zw}{s:Sl}(hs:1<=s.gv/\0<=s.gt) {p:Int×Int}(hp:(0<=p.1/\p.1<=F.A)/\0<=p.2/\p.2<=F.B):∀ e∈xq F s p,(0<=e.1/\e.1<=F.A)/\0<=e.2/\e.2<=F.B:=λ e he=>by
 obtain⟨p,pu,gv,gt⟩:=s;unfold xq zw.ya at he;cases pu with
 | true=>exact (dY true F.B gv gt F.A hs.1 hs.2 100 _ _ hp.2.1 hp.1.1 hp.1.2 e he).symm
 | false=>exact dY false F.A gv gt F.B hs.1 hs.2 100 _ _ hp.1.1 hp.2.1 hp.2.2 e he
def MI {F:zw}{s:Sl}(hs:1<=s.gv/\0<=s.gt) {b:Bd}(h:Gd F.A F.B b):Gd F.A F.B (pN F s b):=Gd.least λ p hp=>by
 obtain⟨x,hx,hp⟩:=BM.mp hp;exact MG hs (h.wj x hx) p hp
def wu (F:zw) (last:List Bd) (p:Nat):List Bd:=(F.ws.filter λ w=>decide (w.f=p)).map λ w=>q8 F.A F.B w.a w.b (last.getD w.t [])
noncomputable def zw.stall (F:zw) (p:Nat):Option Sl:=F.ss.find? λ s=>decide (s.p=p)
def y6 (F:zw) (last:List Bd) (p:Nat):Bd:=
 if F.os.getD p false=true then match F.stall p with
  | none=>uF (wu F last p)
  | some s=>pN F s (uF (wu F last p))
 else nA (wu F last p)
def j_ (F:zw) (last:List Bd) (p:Nat):∀ c∈wu F last p,Gd F.A F.B c:=λ c hc=>by
 obtain⟨w,_,rfl⟩:=An.mp hc;exact L7 ..
def e9 {F:zw}(ok:F.Ok) (last:List Bd) (p:Nat):Gd F.A F.B (y6 F last p):=by
 unfold y6;have h1:Gd F.A F.B (uF (wu F last p)):=lh _ _ Gd.nil (j_ F last p);split
 .split
  .exact h1
  .rename_i s e;exact MI (ok.ss s (Dm e)) h1
 .exact cj _ _ (Gd.yZ ok.a0 ok.b0) (j_ F last p)
def Yp (F:zw) {l m:List Bd}(p:Nat) (h:∀ w∈F.ws,w.f=p->yG (l.getD w.t []) (m.getD w.t [])):yG (y6 F l p) (y6 F m p):=by
 have h1:yG (uF (wu F l p)) (uF (wu F m p)):=λ q hq=>by
  unfold uF at hq ⊢;rw[dI] at hq ⊢;rcases hq with x | ⟨c,hc,x⟩
  .exact .inl x
  .obtain⟨w,hw,rfl⟩:=An.mp hc;obtain⟨w1,w2⟩:=AV.mp hw;exact .inr ⟨_,An.mpr ⟨w,hw,rfl⟩,W4 _ _ _ _ (h w w1 (by simpa using w2)) q x⟩
 unfold y6;split
 .split
  .exact h1
  .exact MH F _ h1
 .intro q hq;unfold nA at hq ⊢;rw[ck] at hq ⊢;refine⟨hq.1,λ c hc=>?_⟩;obtain⟨w,hw,rfl⟩:=An.mp hc;obtain⟨w1,w2⟩:=AV.mp hw;exact W4 _ _ _ _ (h w w1 (by simpa using w2)) q (hq.2 _ (An.mpr ⟨w,hw,rfl⟩))
def PZ (F:zw) {l m:List Bd}(p:Nat) (h:∀ w∈F.ws,w.f=p->l.getD w.t []=m.getD w.t []):y6 F l p=y6 F m p:=by
 have:wu F l p=wu F m p:=by
  unfold wu;refine Cy λ w hw=>?_;obtain⟨w1,w2⟩:=AV.mp hw;rw[h w w1 (by simpa using w2)]
 unfold y6;rw[this]
noncomputable def box:List (Int×Int):=(List.range 13).flatMap λ(i:Nat)=>(List.range 13).map λ(j:Nat)=>((i:Int),(j:Int))
def mu (b:Bd):Nat:=box.countP (zG b)
def Lm {p:Int×Int}(h:(0<=p.1/\p.1<=12)/\0<=p.2/\p.2<=12):p∈box:=by
 obtain⟨x,y⟩:=p;dsimp only at h;refine BM.mpr ⟨x.toNat,AA.mpr (by lia),An.mpr ⟨y.toNat,AA.mpr (by lia),?_⟩⟩;rw[Ci h.1.1,Ci h.2.1]
theorem XY {α:Type}{p q:α->Bool}:∀ {l:List α},(∀ x,q x=true->p x=true)->(∃ x∈l,p x=true/\q x=false)->l.countP q<l.countP p
 | [],_,⟨x,hx,_⟩=>by cases hx
 | a::l,h,⟨x,hx,h1,h2⟩=>by
  have hle:l.countP q<=l.countP p:=List.countP_mono_left λ y _=>h y;rw[List.countP_cons,List.countP_cons];rcases Ai.mp hx with e | e
  .subst e;rw[if_neg (by rw[h2];decide),if_pos h1];lia
  .have:=XY h ⟨x,e,h1,h2⟩;by_cases c:q a=true
   .rw[if_pos c,if_pos (h a c)];lia
   .rw[if_neg c];split <;> lia
def Od {A B:Int}(hA:A<=12) (hB:B<=12) {b c:Bd}(hb:Gd A B b) (hc:Gd A B c) (h:yG b c) (Aj:b≠c):mu b<mu c:=by
 refine XY h ?_;by_cases x:∃ p∈c,zG b p=false
 .obtain⟨p,hp,e⟩:=x;have q:=hc.wj p hp;exact⟨p,Lm ⟨⟨q.1.1,by lia⟩,q.2.1,by lia⟩,yI.mpr ⟨p,hp,AK _,AK _⟩,e⟩
 .exact absurd (hb.eq hc h (yG.of λ p hp=>by
   cases e:zG b p with
   | true=>exact yI.mp e
   | false=>exact absurd ⟨p,hp,e⟩ x)) Aj
def Oe (b:Bd):mu b<=169:=by
 have:box.length=169:=by decide
 rw[<- this];exact List.countP_le_length
def vX (l:List Bd):Nat:=(l.map mu).sum
theorem Yq:∀ (l:List Bd),vX l<=169*l.length
 | []=>by simp[vX]
 | b::l=>by
  have h1:=Yq l;have h2:=Oe b;unfold vX at h1 ⊢;rw[Aq,List.sum_cons,AW];lia
theorem eE {A B:Int}(hA:A<=12) (hB:B<=12):∀ {l m:List Bd},l.length=m.length->(∀ b∈l,Gd A B b)->(∀ b∈m,Gd A B b)->(∀ i,yG (l.getD i []) (m.getD i []))->l≠m->vX l<vX m
 | [],[],_,_,_,_,h=>absurd rfl h
 | [],_::_,h,_,_,_,_=>by simp at h
 | _::_,[],h,_,_,_,_=>by simp at h
 | b::l,c::m,hl,gb,gc,h,Aj=>by
  have hl':l.length=m.length:=by simpa using hl
  have h0:yG b c:=h 0;have hs:∀ i,yG (l.getD i []) (m.getD i []):=λ i=>by simpa using h (i+1)
  have key:vX l<=vX m:=by
   by_cases e:l=m
   .rw[e];exact Ah _
   .exact BF (eE hA hB hl' (λ x hx=>gb x (Av _ hx)) (λ x hx=>gc x (Av _ hx)) hs e)
  show (List.map mu (b::l)).sum<(List.map mu (c::m)).sum;rw[Aq,List.sum_cons,Aq,List.sum_cons];by_cases e:b=c
  .subst e;have:l≠m:=λ q=>Aj (by rw[q]);have:=eE hA hB hl' (λ x hx=>gb x (Av _ hx)) (λ x hx=>gc x (Av _ hx)) hs this;unfold vX at this;lia
  .have:=Od hA hB (gb b Al) (gc c Al) h0 e;unfold vX at key;lia
noncomputable def uY (F:zw) (fresh:List Nat) (p:Nat):Bool:=F.ws.any λ w=>decide (w.f=p)&&fresh.contains w.t
def ym (F:zw) (last:List Bd) (fresh:List Nat):List Bd:=(List.range last.length).map λ p=>if uY F fresh p=true then y6 F last p else last.getD p []
noncomputable def xO (last following:List Bd):List Nat:=(List.range following.length).filter λ p=>decide (following.getD p []≠last.getD p [])
def rW (F:zw):Nat->List (List Bd)->List Bd->List Nat->Option (List (List Bd))
 | 0,_,_,_=>none
 | n+1,told,last,fresh=>if fresh=[] then some (told++[last]) else
   let fo:=ym F last fresh
   let fr:=xO last fo
   if fr=[] then some (told++[last]) else rW F n (told++[last]) fo fr
structure St (F:zw) (last:List Bd) (fresh:List Nat):Prop where
 len:last.length=F.os.length
 gd:∀ b∈last,Gd F.A F.B b
 fr:∀ p<F.os.length,uY F fresh p=false->(∃ w∈F.ws,w.f=p)->y6 F last p=last.getD p []
 le:∀ p<F.os.length,(∃ w∈F.ws,w.f=p)->yG (y6 F last p) (last.getD p [])
def sW {α:Type}(f:Nat->α) (n p:Nat) (d:α) (h:p<n):((List.range n).map f).getD p d=f p:=by
 rw[AI,Ay,DW h];rfl
def qd (F:zw) (last:List Bd) (fresh:List Nat):(ym F last fresh).length=last.length:=by unfold ym;simp
def St.at {F:zw}{last:List Bd}{fresh:List Nat}(s:St F last fresh) {p:Nat}(hp:p<F.os.length) (hw:∃ w∈F.ws,w.f=p):(ym F last fresh).getD p []=y6 F last p:=by
 unfold ym;rw[sW _ _ _ _ (by rw[s.len];exact hp)];split
 .rfl
 .rename_i h;exact (s.fr p hp (by simpa using h) hw).symm
def Ny {F:zw}{fresh:List Nat}{p:Nat}(h:uY F fresh p=true):∃ w∈F.ws,w.f=p:=by
 unfold uY at h;obtain⟨w,h1,h2⟩:=AM.mp h;exact⟨w,h1,by simp at h2;exact h2.1⟩
def St.no {F:zw}{last:List Bd}{fresh:List Nat}(s:St F last fresh) {p:Nat}(hp:p<F.os.length) (hw:¬ ∃ w∈F.ws,w.f=p):(ym F last fresh).getD p []=last.getD p []:=by
 unfold ym;rw[sW _ _ _ _ (by rw[s.len];exact hp),if_neg (λ h=>hw (Ny h))]
def St.Wb {F:zw}{last:List Bd}{fresh:List Nat}(s:St F last fresh) (p:Nat):yG ((ym F last fresh).getD p []) (last.getD p []):=by
 by_cases hp:p<F.os.length
 .by_cases hw:∃ w∈F.ws,w.f=p
  .rw[s.at hp hw];exact s.le p hp hw
  .rw[s.no hp hw];exact yG.refl _
 .have h1:(ym F last fresh).getD p []=[]:=by
   rw[AI,Cd (by rw[qd,s.len];lia)];rfl
  rw[h1];intro q x;cases x
def St.next {F:zw}(ok:F.Ok) {last:List Bd}{fresh:List Nat}(s:St F last fresh):St F (ym F last fresh) (xO last (ym F last fresh)) where
 len:=by rw[qd,s.len]
 gd:=λ b hb=>by
  unfold ym at hb;obtain⟨p,hp,rfl⟩:=An.mp hb;split
  .exact e9 ok last p
  .have Am:=AA.mp hp;rw[AI,AH Am];exact s.gd _ (Bn Am)
 fr:=λ p hp hn hw=>by
  rw[s.at hp hw];refine PZ F p λ w w1 w2=>?_;have hwt:=(ok.ws w w1).2;by_cases e:(ym F last fresh).getD w.t []=last.getD w.t []
  .exact e
  .have:uY F (xO last (ym F last fresh)) p=true:=by
    unfold uY;refine AM.mpr ⟨w,w1,?_⟩;have:w.t∈xO last (ym F last fresh):=by
     unfold xO;exact AV.mpr ⟨AA.mpr (by rw[qd,s.len];exact hwt),by simpa using e⟩
    simp[w2,this]
   rw[this] at hn;cases hn
 le:=λ p hp hw=>by
  rw[s.at hp hw];exact Yp F p λ w w1 w2=>s.Wb w.t
def NM {last fo:List Bd}(hl:fo.length=last.length) (h:xO last fo≠[]):fo≠last:=λ e=>h (by
 subst e;unfold xO;simp)
def start (F:zw):List Bd:=List.replicate F.os.length yZ
theorem St.start {F:zw}(ok:F.Ok):St F (start F) (List.range F.os.length) where
 len:=by unfold RN.start;simp
 gd:=λ b hb=>by rw[List.eq_of_mem_replicate hb];exact Gd.yZ ok.a0 ok.b0
 fr:=λ p hp hn ⟨w,w1,w2⟩=>by
  have:uY F (List.range F.os.length) p=true:=by
   unfold uY;refine AM.mpr ⟨w,w1,?_⟩;have:=(ok.ws w w1).2;simp[w2,this]
  rw[this] at hn;cases hn
 le:=λ p hp hw=>by
  have e:(RN.start F).getD p []=yZ:=by
   unfold RN.start;rw[AI,Cf,if_pos hp];rfl
  rw[e];exact (e9 ok _ p).j7
theorem Zp {F:zw}(ok:F.Ok):∀ (n:Nat) (told:List (List Bd)) (last:List Bd) (fresh:List Nat),St F last fresh->vX last<n->
  ∃ more last',rW F n told last fresh=some (told++last::more)/\(∀ r∈last::more,r.length=F.os.length/\∀ b∈r,Gd F.A F.B b)/\(last::more).getLast?=some last'/\more.length<=vX last
 | 0,_,_,_,_,h=>by lia
 | n+1,told,last,fresh,s,h=>by
  unfold rW;split
  .exact⟨[],last,rfl,λ r hr=>by cases AR.mp hr;exact⟨s.len,s.gd⟩,rfl,AL _⟩
  .dsimp only;split
   .exact⟨[],last,rfl,λ r hr=>by cases AR.mp hr;exact⟨s.len,s.gd⟩,rfl,AL _⟩
   .rename_i hf;have s':=s.next ok;have Am:vX (ym F last fresh)<vX last:=eE ok.a1 ok.b1 (qd ..) s'.gd s.gd s.Wb (NM (qd ..) hf);obtain⟨more,last',e1,e2,e3,e4⟩:=Zp ok n (told++[last]) _ _ s' (by lia);refine⟨ym F last fresh::more,last',by rw[e1];simp,λ r hr=>?_,by rw[List.getLast?_cons_cons];exact e3,by rw[AW];lia⟩;rcases Ai.mp hr with e | e
    .subst e;exact⟨s.len,s.gd⟩
    .exact e2 r e
def L8 {A B a b:Int}{bd:Bd}(h0:∀ p∈bd,0<=p.1/\0<=p.2) {q:Int×Int}(hq:(0<=q.1/\q.1<=A)/\0<=q.2/\q.2<=B):zG (q8 A B a b bd) q=true↔zG bd (q.1+a,q.2+b)=true:=by
 unfold q8;rw[oP,yI,yI];constructor
 .rintro⟨p,hp,h1,h2⟩;obtain⟨hp,_⟩:=AV.mp hp;obtain⟨r,hr,rfl⟩:=An.mp hp;refine⟨r,hr,?_,?_⟩
  .unfold xu yS at h1;dsimp only at h1 ⊢;split at h1 <;> lia
  .unfold xu yS at h2;dsimp only at h2 ⊢;split at h2 <;> lia
 .rintro⟨r,hr,h1,h2⟩;dsimp only at h1 h2;have e1:(xu a b r).1<=q.1:=by unfold xu yS;dsimp only;split <;> lia
  have e2:(xu a b r).2<=q.2:=by unfold xu yS;dsimp only;split <;> lia
  refine⟨xu a b r,AV.mpr ⟨An.mpr ⟨r,hr,rfl⟩,?_⟩,e1,e2⟩;unfold vE;rw[za2 (by lia),za2 (by lia)];rfl
theorem dZ (pu:Bool) (ya give get:Int) (hg:1<=give) (Dg:0<=get):∀ (n:Nat) (g t:Int),0<=t->ya-g<n->∀ (G T:Int),G<=ya->
  ((∃ e∈wo pu ya give get n g t,yc pu e<=G/\y8 pu e<=T)↔∃ k:Nat,g+k*give<=G/\yS (t-k*get)<=T)
 | 0,g,t,ht,hn,G,T,hG=>by
  constructor
  .rintro⟨e,he,_⟩;cases he
  .rintro⟨k,h1,_⟩;exfalso;have:0<=(k:Int)*give:=CO (by lia) (by lia);lia
 | n+1,g,t,ht,hn,G,T,hG=>by
  have gv:∀ x y,yc pu (xl pu x y)=x:=λ x y=>by cases pu <;> rfl
  have gt:∀ x y,y8 pu (xl pu x y)=y:=λ x y=>by cases pu <;> rfl
  have ih:=dZ pu ya give get hg Dg n (g+give) (yS (t-get)) (ju _) (by lia) G T hG;have mm:∀ k:Nat,yS (yS (t-get)-k*get)=yS (t-(k+1:Nat)*get):=λ k=>by
   have:0<=(k:Int)*get:=CO (by lia) Dg;have e:((k+1:Nat):Int)*get=k*get+get:=by rw[Cu,Ct];lia
   rw[e];unfold yS;split <;> split <;> (try split) <;> lia
  have gg:∀ k:Nat,g+give+k*give=g+(k+1:Nat)*give:=λ k=>by
   rw[Cu,Ct];lia
  unfold wo;split
  .rename_i hgb;constructor
   .rintro⟨e,he,h1,h2⟩;rcases Ai.mp he with rfl | he
    .rw[gv] at h1;rw[gt] at h2;refine⟨0,by simpa using h1,?_⟩;unfold yS;split <;> simp at * <;> lia
    .obtain⟨k,k1,k2⟩:=ih.mp ⟨e,he,h1,h2⟩;exact⟨k+1,by rw[<- gg];exact k1,by rw[<- mm];exact k2⟩
   .rintro⟨k,k1,k2⟩;cases k with
    | zero=>
     refine⟨_,Al,by rw[gv];simpa using k1,?_⟩;rw[gt];unfold yS at k2;split at k2 <;> simp at * <;> lia
    | succ k=>
     obtain⟨e,he,h1⟩:=ih.mpr ⟨k,by rw[gg];exact k1,by rw[mm];exact k2⟩;exact⟨e,Av _ he,h1⟩
  .rename_i hgb;constructor
   .rintro⟨e,he,_⟩;cases he
   .rintro⟨k,h1,_⟩;exfalso;have:0<=(k:Int)*give:=CO (by lia) (by lia);lia
def sV {pu:Bool}{p q:Int×Int}:(p.1<=q.1/\p.2<=q.2)↔yc pu p<=yc pu q/\y8 pu p<=y8 pu q:=by
 cases pu
 .exact Iff.rfl
 .exact And.comm
def MJ {F:zw}{s:Sl}(hs:1<=s.gv/\0<=s.gt) (hA:F.A<=12) (hB:F.B<=12) {b:Bd}(hb:∀ p∈b,0<=p.1/\0<=p.2) {q:Int×Int}(hq:(0<=q.1/\q.1<=F.A)/\0<=q.2/\q.2<=F.B):
  zG (pN F s b) q=true↔∃ k:Nat,zG b (xl s.pu (yc s.pu q-k*s.gv) (y8 s.pu q+k*s.gt))=true:=by
 have EC:F.ya s.pu<=12:=by unfold zw.ya;split <;> assumption
 have hqb:yc s.pu q<=F.ya s.pu:=by unfold yc zw.ya;split <;> lia
 have hq0:0<=yc s.pu q/\0<=y8 s.pu q:=by unfold yc y8;split <;> lia
 have gv:∀ x y,yc s.pu (xl s.pu x y)=x:=λ x y=>by cases s.pu <;> rfl
 have gt:∀ x y,y8 s.pu (xl s.pu x y)=y:=λ x y=>by cases s.pu <;> rfl
 unfold pN;rw[oP,yI];constructor
 .rintro⟨e,he,h12⟩;obtain⟨p,hp,he⟩:=BM.mp he;obtain⟨h1,h2⟩:=sV (pu:=s.pu).mp h12;have p0:=hb p hp;have g0:0<=yc s.pu p/\0<=y8 s.pu p:=by unfold yc y8;split <;> lia
  obtain⟨k,k1,k2⟩:=(dZ s.pu (F.ya s.pu) s.gv s.gt hs.1 hs.2 100 _ _ g0.2 (by lia) _ _ hqb).mp ⟨e,he,h1,h2⟩;refine⟨k,yI.mpr ⟨p,hp,sV (pu:=s.pu).mpr ⟨by rw[gv];lia,?_⟩⟩⟩;rw[gt];unfold yS at k2;split at k2 <;> lia
 .rintro⟨k,hk⟩;obtain⟨p,hp,h12⟩:=yI.mp hk;obtain⟨h1,h2⟩:=sV (pu:=s.pu).mp h12;rw[gv] at h1;rw[gt] at h2;have p0:=hb p hp;have g0:0<=yc s.pu p/\0<=y8 s.pu p:=by unfold yc y8;split <;> lia
  obtain⟨e,he,h3⟩:=(dZ s.pu (F.ya s.pu) s.gv s.gt hs.1 hs.2 100 (yc s.pu p) (y8 s.pu p) g0.2 (by lia) (yc s.pu q) (y8 s.pu q) hqb).mpr ⟨k,by lia,by unfold yS;split <;> lia⟩;exact⟨e,BM.mpr ⟨p,hp,he⟩,sV (pu:=s.pu).mpr h3⟩
noncomputable def zx (F:zw):Nat->List Bd
 | 0=>start F
 | k+1=>(List.range F.os.length).map λ p=>y6 F (zx F k) p
theorem qj (F:zw):∀ k,(zx F k).length=F.os.length
 | 0=>by unfold zx start;simp
 | k+1=>by unfold zx;simp
def PY {F:zw}{last:List Bd}{fresh:List Nat}(s:St F last fresh) (hw:∀ p<F.os.length,∃ w∈F.ws,w.f=p):ym F last fresh=(List.range F.os.length).map λ p=>y6 F last p:=by
 refine BD (by rw[qd,s.len];simp) λ i h1 h2=>?_;have hi:i<F.os.length:=by simpa using h2
 have e:=s.at hi (hw i hi);rw[AI,AH h1] at e;simpa using e
def NN {last fo:List Bd}(hl:fo.length=last.length) (h:xO last fo=[]):fo=last:=by
 refine BD hl λ i h1 h2=>?_;have:i∉xO last fo:=by rw[h];simp
 unfold xO at this;rw[AV] at this;have e:fo.getD i []=last.getD i []:=Classical.byContradiction λ Aj=>this ⟨AA.mpr h1,by simpa using Aj⟩;rw[AI,AH h1,AI,AH h2] at e;simpa using e
theorem Zq {F:zw}(ok:F.Ok) (hw:∀ p<F.os.length,∃ w∈F.ws,w.f=p):∀ (n:Nat) (told:List (List Bd)) (k:Nat) (fresh:List Nat) (res:List (List Bd)),St F (zx F k) fresh->fresh≠[]->told=(List.range k).map (zx F)->
  rW F n told (zx F k) fresh=some res->∃ m,res=(List.range (m+1)).map (zx F)/\zx F (m+1)=zx F m
 | 0,_,_,_,_,_,_,_,h=>by cases h
 | n+1,told,k,fresh,res,s,hf,ht,h=>by
  unfold rW at h;rw[if_neg hf] at h;dsimp only at h;have e:ym F (zx F k) fresh=zx F (k+1):=PY s hw;have et:told++[zx F k]=(List.range (k+1)).map (zx F):=by rw[ht,List.range_succ,Bm];rfl
  rw[e,et] at h;split at h
  .rename_i A6;cases h;exact⟨k,rfl,NN (by rw[qj,qj]) A6⟩
  .rename_i A6;have s':=s.next ok;rw[e] at s';exact Zq ok hw n _ (k+1) _ res s' A6 rfl h
def yM (F:zw) (q:Int×Int):Prop:=(0<=q.1/\q.1<=F.A)/\0<=q.2/\q.2<=F.B
noncomputable def vS (F:zw) (q:Int×Int) (w:Wy):Option (Int×Int):=if q.1+w.a<0\/q.2+w.b<0 then none else some (min (q.1+w.a) F.A,min (q.2+w.b) F.B)
def yT (F:zw) (last:List Bd) (q:Int×Int) (w:Wy):Bool:=match vS F q w with
 | none=>false
 | some r=>zG (last.getD w.t []) r
noncomputable def yX (F:zw) (p:Nat):List Wy:=F.ws.filter λ w=>decide (w.f=p)
noncomputable def vg (F:zw) (s:Sl):Nat->Int×Int->List (Int×Int)
 | 0,q=>[q]
 | n+1,q=>q::if s.gv<=yc s.pu q then vg F s n (xl s.pu (yc s.pu q-s.gv) (min (y8 s.pu q+s.gt) (F.ya (!s.pu)))) else []
def uG (F:zw) (p:Nat) (q:Int×Int):List (Int×Int):=match F.stall p with
 | none=>[q]
 | some s=>vg F s 20 q
def pE (F:zw) (last:List Bd) (p:Nat) (q:Int×Int):Bool:=
 if F.os.getD p false=true then (uG F p q).any λ r=>(yX F p).any (yT F last r) else (yX F p).all (yT F last q)
def M6 {A B:Int}{b:Bd}(hb:Gd A B b) (x y:Int):zG b (min x A,min y B)=zG b (x,y):=by
 rw[A5,yI,yI];constructor
 .rintro⟨p,hp,h1,h2⟩;dsimp only at h1 h2;exact⟨p,hp,by dsimp only;lia,by dsimp only;lia⟩
 .rintro⟨p,hp,h1,h2⟩;have:=hb.wj p hp;dsimp only at h1 h2;exact⟨p,hp,by dsimp only;lia,by dsimp only;lia⟩
def O8 {F:zw}{last:List Bd}{w:Wy}(hb:Gd F.A F.B (last.getD w.t [])) (q:Int×Int):yT F last q w=zG (last.getD w.t []) (q.1+w.a,q.2+w.b):=by
 unfold yT vS;by_cases h:q.1+w.a<0\/q.2+w.b<0
 .rw[if_pos h]
  symm
  rw[<- Dl,yI];rintro⟨p,hp,h1,h2⟩;have:=hb.wj p hp;dsimp only at h1 h2;lia
 .rw[if_neg h];exact M6 hb _ _
def j6 {F:zw}{last:List Bd}{w:Wy}(hb:Gd F.A F.B (last.getD w.t [])) {q:Int×Int}(hq:yM F q):zG (q8 F.A F.B w.a w.b (last.getD w.t [])) q=yT F last q w:=by
 rw[O8 hb,A5];exact L8 (λ p hp=>⟨(hb.wj p hp).1.1,(hb.wj p hp).2.1⟩) hq
def dH {F:zw}{last:List Bd}(hg:∀ p,Gd F.A F.B (last.getD p [])) {p:Nat}{q:Int×Int}(hq:yM F q):zG (uF (wu F last p)) q=(yX F p).any (yT F last q):=by
 rw[A5,uF,dI,AM];constructor
 .rintro (h | ⟨c,hc,h⟩)
  .cases h
  .unfold wu at hc;obtain⟨w,hw,rfl⟩:=An.mp hc;exact⟨w,hw,by rw[<- j6 (hg w.t) hq];exact h⟩
 .rintro⟨w,hw,h⟩;exact .inr ⟨_,An.mpr ⟨w,hw,rfl⟩,by rw[j6 (hg w.t) hq];exact h⟩
def Ln {F:zw}{last:List Bd}(hg:∀ p,Gd F.A F.B (last.getD p [])) {p:Nat}{q:Int×Int}(hq:yM F q):zG (nA (wu F last p)) q=(yX F p).all (yT F last q):=by
 rw[A5,nA,ck,BA];constructor
 .rintro⟨_,h⟩ w hw;rw[<- j6 (hg w.t) hq];exact h _ (An.mpr ⟨w,hw,rfl⟩)
 .intro h;refine⟨XX.mpr ⟨hq.1.1,hq.2.1⟩,λ c hc=>?_⟩;unfold wu at hc;obtain⟨w,hw,rfl⟩:=An.mp hc;rw[j6 (hg w.t) hq];exact h w hw
def uZ (pu:Bool) (x y:Int):yc pu (xl pu x y)=x:=by cases pu <;> rfl
def qm (pu:Bool) (x y:Int):y8 pu (xl pu x y)=y:=by cases pu <;> rfl
def jf (pu:Bool) (q:Int×Int):xl pu (yc pu q) (y8 pu q)=q:=by cases pu <;> rfl
def u7 {F:zw}{pu:Bool}{q:Int×Int}:yM F q↔(0<=yc pu q/\yc pu q<=F.ya pu)/\0<=y8 pu q/\y8 pu q<=F.ya (!pu):=by
 unfold yM zw.ya;cases pu
 .exact Iff.rfl
 .exact And.comm
theorem dX {F:zw}{s:Sl}(hs:1<=s.gv/\0<=s.gt):∀ (n:Nat) {q:Int×Int},yM F q->∀ r∈vg F s n q,yM F r
 | 0,q,h,r,hr=>by cases AR.mp hr;exact h
 | n+1,q,h,r,hr=>by
  unfold vg at hr;rcases Ai.mp hr with rfl | hr
  .exact h
  .split at hr
   .rename_i hg;refine dX hs n ?_ r hr;have h':=u7 (pu:=s.pu).mp h;rw[u7 (pu:=s.pu),uZ,qm];lia
   .cases hr
theorem Wf {F:zw}{s:Sl}(hs:1<=s.gv/\0<=s.gt) {b:Bd}(hb:Gd F.A F.B b):∀ (n:Nat) {q:Int×Int},yM F q->yc s.pu q<n->
  ((∃ k:Nat,zG b (xl s.pu (yc s.pu q-k*s.gv) (y8 s.pu q+k*s.gt))=true)↔(vg F s n q).any (zG b)=true)
 | 0,q,h,hn=>by
  have:=(u7 (pu:=s.pu).mp h).1.1;lia
 | n+1,q,h,hn=>by
  have h':=u7 (pu:=s.pu).mp h;have cut:∀ x y,zG b (xl s.pu x y)=zG b (xl s.pu x (min y (F.ya (!s.pu)))):=λ x y=>by
   rw[A5,yI,yI];constructor
   .rintro⟨p,hp,h1⟩;have h2:=sV (pu:=s.pu).mp h1;have h3:=u7 (pu:=s.pu).mp (show yM F p from hb.wj p hp);rw[uZ,qm] at h2;exact⟨p,hp,sV (pu:=s.pu).mpr (by rw[uZ,qm];lia)⟩
   .rintro⟨p,hp,h1⟩;have h2:=sV (pu:=s.pu).mp h1;rw[uZ,qm] at h2;exact⟨p,hp,sV (pu:=s.pu).mpr (by rw[uZ,qm];lia)⟩
  unfold vg;rw[Bl,DR];by_cases hg:s.gv<=yc s.pu q
  .rw[if_pos hg];have hi:yM F (xl s.pu (yc s.pu q-s.gv) (min (y8 s.pu q+s.gt) (F.ya (!s.pu)))):=by
    rw[u7 (pu:=s.pu),uZ,qm];lia
   have ih:=Wf hs hb n hi (by rw[uZ];lia);rw[uZ,qm] at ih;have sh:∀ k:Nat,zG b (xl s.pu (yc s.pu q-s.gv-k*s.gv) (min (y8 s.pu q+s.gt) (F.ya (!s.pu))+k*s.gt))=zG b (xl s.pu (yc s.pu q-(k+1:Nat)*s.gv) (y8 s.pu q+(k+1:Nat)*s.gt)):=λ k=>by
    have e1:((k+1:Nat):Int)*s.gv=k*s.gv+s.gv:=by rw[Cu,Ct];lia
    have e2:((k+1:Nat):Int)*s.gt=k*s.gt+s.gt:=by rw[Cu,Ct];lia
    have k0:0<=(k:Int)*s.gt:=CO (by lia) hs.2;rw[e1,e2,cut,cut (yc s.pu q-(k*s.gv+s.gv))];congr 2
    .omega
    .omega
   rw[<- ih];constructor
   .rintro⟨k,hk⟩;cases k with
    | zero=>exact .inl (by simpa [jf] using hk)
    | succ k=>exact .inr ⟨k,by rw[sh];exact hk⟩
   .rintro (hk | ⟨k,hk⟩)
    .exact⟨0,by simpa [jf] using hk⟩
    .exact⟨k+1,by rw[<- sh];exact hk⟩
  .rw[if_neg hg];constructor
   .rintro⟨k,hk⟩;cases k with
    | zero=>exact .inl (by simpa [jf] using hk)
    | succ k=>
     exfalso;obtain⟨p,hp,h1⟩:=yI.mp hk;have h2:=sV (pu:=s.pu).mp h1;have h3:=u7 (pu:=s.pu).mp (show yM F p from hb.wj p hp);rw[uZ] at h2;have e1:((k+1:Nat):Int)*s.gv=k*s.gv+s.gv:=by rw[Cu,Ct];lia
     have k0:0<=(k:Int)*s.gv:=CO (by lia) (by lia);rw[e1] at h2;lia
   .rintro (hk | hk)
    .exact⟨0,by simpa [jf] using hk⟩
    .cases hk
def ez {F:zw}(ok:F.Ok) {last:List Bd}(hg:∀ p,Gd F.A F.B (last.getD p [])) (p:Nat) {q:Int×Int}(hq:yM F q):zG (y6 F last p) q=pE F last p q:=by
 have ge:Gd F.A F.B (uF (wu F last p)):=lh _ _ Gd.nil (j_ F last p);unfold y6 pE uG;by_cases ho:F.os.getD p false=true
 .rw[if_pos ho,if_pos ho];cases hs:F.stall p with
  | none=>simp only[Bl,List.any_nil,Bool.or_false];exact dH hg hq
  | some s=>
   have hs':=ok.ss s (Dm hs);have hgv:yc s.pu q<20:=by
    have:=u7 (pu:=s.pu).mp hq;have:F.ya s.pu<=12:=by have:=ok.a1;have:=ok.b1;unfold zw.ya;split <;> assumption
    lia
   rw[A5];dsimp only;rw[MJ hs' ok.a1 ok.b1 (λ p hp=>⟨(ge.wj p hp).1.1,(ge.wj p hp).2.1⟩) hq,Wf hs' ge 20 hq (by lia),AM,AM];constructor
   .rintro⟨r,hr,h⟩;exact⟨r,hr,by rw[<- dH hg (dX hs' 20 hq r hr)];exact h⟩
   .rintro⟨r,hr,h⟩;exact⟨r,hr,by rw[dH hg (dX hs' 20 hq r hr)];exact h⟩
 .rw[if_neg ho,if_neg ho];exact Ln hg hq
end RN
namespace z_
open PySem L2 L3 L5
def bW:Sm:=
 (retS (nE (instS "int" (zc 0)) (Yi (instS "bool" (zc 0)))))
def i5:List T->Option T:=yb ["thing"] 1 bW
def bB:Sm:=
 (retS (zt y7 (za (zb zh (zc 0) (cI 1)) zj)))
def oh:List T->Option T:=yb ["floor"] 1 bB
def ak:Sm:=
 (retS (nE (zb vD (zb zh (zc 0) (cI 0)) (zb zh (zc 1) (cI 0))) (zb vD (zb zh (zc 0) (cI 1)) (zb zh (zc 1) (cI 1)))))
def ma:List T->Option T:=yb ["pair","other"] 2 ak
def nC:Sm:=
 (yo (vF (vw (xx (zc 1))) (zM (zb yx (zb zh (zc 2) (cI 1)) (zb zh (zb zh (zc 1) (sR (cI 1))) (cI 1))))) (uH 1 (zk 2)) yn)
def bF:Sm:=
 (zp (vJ 1 (xy zj))
 (zp (xP [2] (xn (zt oy (za (zc 0) zj))) (zC 2) nC)
 (retS (zt rP (za (zc 1) zj)))))
def rF:List T->Option T:=yb ["pairs","least","pair"] 1 bF
def qz:Sm:=
 (zp (uH 4 (YZ (zM (zb (zJ false) (zc 3) (cI 0))) (tupS (za (zk 5) (za (zk 6) zj))) (tupS (za (zk 6) (za (zk 5) zj)))))
 (zp (zD 5 (zb yw (zc 5) (zb zh (zc 1) (cI 2))))
 (zD 6 (zt mQ (za (cI 0) (za (zb xC (zc 6) (zb zh (zc 1) (cI 3))) zj))))))
def bC:Sm:=
 (zp (zD 3 (zb zh (zc 1) (cI 1)))
 (zp (vJ 4 (xy zj))
 (zp (zD 5 (zb zh (zc 2) (zc 3)))
 (zp (zD 6 (zb zh (zc 2) (zb xC (cI 1) (zc 3))))
 (zp (qL 1000000 [] (zM (zb tR (zc 5) (zb zh (zc 0) (zc 3)))) qz)
 (rX 4))))))
def l_:List T->Option T:=yb ["brims","stall","pair","purse","pairs","given","got"] 3 bC
def b8:Sm:=
 (zp (zD 3 (o4 (zb zh (zb zh (zc 0) (cI 2)) (zc 2)) (some (cI 2)) none))
 (zp (zD 4 (zb yw (zb zh (zc 1) (cI 0)) (zb zh (zc 3) (cI 0))))
 (zp (zD 5 (zb yw (zb zh (zc 1) (cI 1)) (zb zh (zc 3) (cI 1))))
 (zp (yo (vF (zM (zb yx (zc 4) (cI 0))) (zM (zb yx (zc 5) (cI 0)))) (retS (cS .zl)) yn)
 (retS (tupS (za (zt wQ (za (zc 4) (za (zb zh (zb zh (zc 0) (cI 0)) (cI 0)) zj))) (za (zt wQ (za (zc 5) (za (zb zh (zb zh (zc 0) (cI 0)) (cI 1)) zj))) zj))))))))
def nQ:List T->Option T:=yb ["floor","pair","way","coins","first","second"] 3 b8
def bQ:Sm:=
 (zp (yo (zM (zb yx (zc 1) (zt y7 (za (zc 0) zj)))) (retS (zb zS (zb zh (zc 0) (zc 1)) (zb mD (cI 10) (cI 40)))) yn)
 (retS (cI 0)))
def yu:List T->Option T:=yb ["_law_script","_law_k"] 2 bQ
def iG:Sm:=
 (zp (yo (zM (zb (zJ false) (zb zS (zc 0) (cI 5)) (cI 1))) (retS (zb xC (zb zS (zb xi (zc 0) (cI 5)) (cI 25)) (cI 12))) yn)
 (retS (zb xC (zb zS (zb zS (zb xi (zc 0) (cI 5)) (cI 25)) (cI 7)) (cI 3))))
def rH:List T->Option T:=yb ["_law_number"] 1 iG
def bS:Sm:=
 (zp (zD 3 (zb yw (zb zh (zc 1) (cI 0)) (zb zh (zc 2) (cI 2))))
 (zp (zD 4 (zb yw (zb zh (zc 1) (cI 1)) (zb zh (zc 2) (cI 3))))
 (zp (yo (vF (zM (zb yx (zc 3) (cI 0))) (zM (zb yx (zc 4) (cI 0)))) (retS (cS .zl)) yn)
 (retS (tupS (za (zt wQ (za (zc 3) (za (zb zh (zb zh (zc 0) (cI 0)) (cI 0)) zj))) (za (zt wQ (za (zc 4) (za (zb zh (zb zh (zc 0) (cI 0)) (cI 1)) zj))) zj)))))))
def uo:List T->Option T:=yb ["_law_floor_here","_law_pair","_law_way","_law_first_here","_law_second"] 3 bS
def pT:Sm:=
 (zp (vJ 8 (zt listS (za (zb zh (zc 3) (sR (cI 1))) zj)))
 (zp (j0 8 (zc 5) (zb xC (zb zh (zc 8) (zc 5)) (zc 6)))
 (zp (j0 8 (zb xC (cI 1) (zc 5)) (zt wQ (za (zb yw (zb zh (zc 8) (zb xC (cI 1) (zc 5))) (zc 7)) (za (zb zh (zb zh (zc 0) (cI 0)) (zb xC (cI 1) (zc 5))) zj))))
 (uH 3 (zt rP (za (zc 8) zj))))))
def pQ:Sm:=
 (qL 1000000 [8] (tp (zM (zb (zJ false) (zc 4) (zc 1))) (zM (zb vD (zb zh (zb zh (zc 3) (sR (cI 1))) (zc 5)) (zc 6)))) pT)
def bP:Sm:=
 (zp (vJ 3 (xy (za (zk 2) zj)))
 (zp (xP [4,5,6,7,8] (xn (zb zh (zc 0) (cI 3))) (wD 4 (yy (zC 4) (yy (zC 5) (yy (zC 6) (yy (zC 7) vb))))) pQ)
 (rX 3)))
def kd:List T->Option T:=yb ["_law_floor_here","_law_place","_law_pair","_law_found","_law_home","_law_purse","_law_give","_law_get","_law_coins_here"] 3 bP
def jZ:Sm:=
 (yo (tp (zM (zb vD (zb zh (zc 1) (cI 0)) (zc 2))) (zM (zb vD (zb zh (zc 1) (cI 1)) (zc 3)))) (retS (cS (.bl true))) yn)
def bM:Sm:=
 (zp (xP [2,3] (xn (zk 0)) (wD 2 (yy (zC 2) (yy (zC 3) vb))) jZ)
 (retS (cS (.bl false))))
def qF:List T->Option T:=yb ["_law_border","_law_pair","_law_x","_law_y"] 2 bM
def jV:Ev->Option T:=
 xY [none,some 2] (wg v9 (za (zb yw (zb zh (zb zh (zc 0) (cI 0)) (cI 1)) (cI 1)) zj)) (zC 0) sd (tupS (za (zk 1) (za (zk 0) zj)))
def jY:Sm:=
 (lb 1 jV)
def V1:Sm:=
 (zp (vJ 1 (xy zj))
 (zp (xP [2] (wg v9 (za (zb yw (zb zh (zb zh (zc 0) (cI 0)) (cI 0)) (cI 1)) zj)) (zC 2) jY)
 (rX 1)))
def nV:List T->Option T:=yb ["_law_floor_here","_law_found","_law_x"] 1 V1
def bV:Sm:=
 (retS (nE (zt i5 (za (zk 0) zj)) (jU tR tR (zc 1) (zc 0) (zc 2))))
def ke:List T->Option T:=yb ["thing","least","most"] 3 bV
def lJ:Ev->Option T:=
 xY [none,some 1] (xn (zc 0)) (zC 0) sd (zt ma (za (zk 1) (za (zk 0) zj)))
def bZ:Sm:=
 (retS (zt (jW λ bs=>bs.any id) (za lJ zj)))
def qG:List T->Option T:=yb ["border","pair"] 2 bZ
def cg:Ev->Option T:=
 xY [none] (xn (zc 0)) (zC 0) sd (tupS (za (zb zh (zc 0) (cI 0)) (za (cI 0) (za (zb zh (zc 0) (cI 1)) zj))))
def cf:Ev->Option T:=
 xY [none] (xn (zc 1)) (zC 0) sd (tupS (za (zb zh (zc 0) (cI 0)) (za (cI 1) (za (zb zh (zc 0) (cI 1)) zj))))
def lR:Sm:=
 (zp (X2 3 (zc 6) (zt wQ (za (zc 7) (za (X4 3 (zc 6) (zk 7)) zj))))
 (yo (zM (zb (zJ false) (dM 3) (cI 2))) (uH 4 (tupS (za (zk 5) (za (zt mQ (za (dN 3 (cI 0)) (za (dN 3 (cI 1)) zj))) zj)))) yn))
def ag:Sm:=
 (zp (zD 2 (zb yw cg cf))
 (zp (X3 3)
 (zp (vJ 4 (xy zj))
 (zp (xP [5,6,7] (xn (zt oy (za (zc 2) zj))) (wD 3 (yy (zC 5) (yy (zC 6) (yy (zC 7) vb)))) lR)
 (dv 4 (retS (zt rF (za (zk 4) zj))))))))
def ki:List T->Option T:=yb ["border","other","steps","lows","shared","first","side","second"] 2 ag
def aa:Sm:=
 (retS (zt rF (za (zb yw (zt listS (za (zc 0) zj)) (zt listS (za (zc 1) zj))) zj)))
def kg:List T->Option T:=yb ["border","other"] 2 aa
def lK:Ev->Option T:=
 xY [none,some 1] (xn (zc 2)) (zC 0) sd (tupS (za (zt mQ (za (cI 0) (za (zb xC (zb zh (zc 0) (cI 0)) (zb zh (zc 1) (cI 2))) zj))) (za (zt mQ (za (cI 0) (za (zb xC (zb zh (zc 0) (cI 1)) (zb zh (zc 1) (cI 3))) zj))) zj)))
def lD:Ev->Option T:=
 xY [none,some 0] (xn (zc 3)) (zC 0) (xx (zt ma (za (zk 1) (za (zk 0) zj)))) (zk 0)
def aj:Sm:=
 (zp (zD 3 lK)
 (retS (zt rF (za lD zj))))
def kq:List T->Option T:=yb ["brims","way","border","pairs"] 3 aj
def bR:Sm:=
 (zp (zD 2 (zt yu (za (zk 0) (za (cI 1) zj))))
 (zp (zD 3 (xy (za (zb zh (xy (za (cI 3) (za (cI 2) (za (cI 4) (za (cI 1) (za (cI 5) (za (cI 2) (za (cI 3) (za (cI 0) zj))))))))) (zb zS (zc 2) (cI 8))) (za (zb zh (xy (za (cI 2) (za (cI 3) (za (cI 1) (za (cI 4) (za (cI 2) (za (cI 5) (za (cI 3) (za (cI 0) zj))))))))) (zb zS (zb xi (zc 2) (cI 8)) (cI 8))) zj))))
 (zp (yo (zM (zb vC (zc 1) (cI 4))) (retS (tupS (za (zt wQ (za (zb zh (zc 3) (cI 0)) (za (cI 2) zj))) (za (zt wQ (za (zb zh (zc 3) (cI 1)) (za (cI 2) zj))) zj)))) yn)
 (zp (yo (zM (zb (zJ false) (zb zS (zb xi (zc 2) (cI 64)) (cI 10)) (cI 1))) (retS (tupS (za (cI 12) (za (zb zS (zb zh (zc 3) (cI 1)) (cI 3)) zj)))) yn)
 (zp (yo (zM (zb (zJ false) (zb zS (zb xi (zc 2) (cI 64)) (cI 10)) (cI 2))) (retS (tupS (za (zb zS (zb zh (zc 3) (cI 0)) (cI 3)) (za (cI 12) zj)))) yn)
 (zp (yo (tp (zM (zb (zJ false) (zb zS (zb xi (zc 2) (cI 64)) (cI 10)) (cI 3))) (zM (zb yx (zc 1) (cI 3)))) (retS (tupS (za (cI 12) (za (cI 12) zj)))) yn)
 (retS (zt rP (za (zc 3) zj)))))))))
def nY:List T->Option T:=yb ["_law_script","_law_many","_law_number","_law_found"] 2 bR
def lN:Sm:=
 (zp (uH 3 (zb zh (xy (za (cS (.str "keeper")) (za (cS (.str "taker")) zj))) (zb zS (zc 2) (cI 2))))
 (zD 2 (zb xi (zc 2) (cI 2))))
def bI:Sm:=
 (zp (zD 2 (zt yu (za (zk 0) (za (cI 2) zj))))
 (zp (vJ 3 (xy zj))
 (zp (xP [4] (wg v9 (za (zc 1) zj)) (zC 4) lN)
 (retS (zt rP (za (zc 3) zj))))))
def nW:List T->Option T:=yb ["_law_script","_law_many","_law_number","_law_found","_law_place"] 2 bI
def pR:Sm:=
 (zp (zD 8 (zb yw (zb we (zc 3) (zc 5)) (zc 7)))
 (zp (zD 9 (zb zS (zb yw (zb yw (zb we (zt yu (za (zk 0) (za (zb yw (cI 4) (zc 8)) zj))) (cI 2957)) (zb we (cI 61) (zc 8))) (cI 17)) (cI 999983)))
 (zp (zD 10 (zb xi (zc 9) (cI 8)))
 (uH 4 (tupS (za (zk 5) (za (zb zS (zb zS (zc 9) (cI 8)) (zc 1)) (za (zt rH (za (zk 10) zj)) (za (zt rH (za (zb xi (zc 10) (cI 125)) zj)) zj)))))))))
def lL:Sm:=
 (zp (zD 6 (zb yw (cI 1) (zb zS (zc 2) (cI 3))))
 (zp (yo (tp (zM (zb yx (zc 1) (cI 3))) (zM (zb (zJ false) (zb zS (zb xi (zc 2) (cI 3)) (cI 8)) (cI 1)))) (zD 6 (zb yw (cI 9) (zc 6))) yn)
 (zp (xP [7,8,9,10] (wg v9 (za (zc 6) zj)) (zC 7) pR)
 (zD 2 (zb xi (zc 2) (cI 24))))))
def bG:Sm:=
 (zp (zD 2 (zt yu (za (zk 0) (za (cI 3) zj))))
 (zp (zD 3 (zb zh (xy (za (cI 3) (za (cI 12) zj))) (zt ql (za (zb yx (zc 1) (cI 3)) zj))))
 (zp (vJ 4 (xy zj))
 (zp (xP [5,6,7,8,9,10] (wg v9 (za (zc 1) zj)) (zC 5) lL)
 (retS (zt rP (za (zt qR (za (zc 4) zj)) zj)))))))
def nS:List T->Option T:=yb ["_law_script","_law_many","_law_number","_law_wide","_law_found","_law_place","_law_size","_law_k","_law_at","_law_drawn","_law_rest"] 2 bG
def nD:Sm:=
 (zp (zD 4 (zb zS (zb yw (zb yw (zb we (zt yu (za (zk 0) (za (zb yw (cI 28) (zc 3)) zj))) (cI 3571)) (zb we (cI 29) (zc 3))) (cI 5)) (cI 999979)))
 (yo (tp (zM (zb (zJ false) (zb zh (zc 1) (zc 3)) (cS (.str "keeper")))) (zM (zb (zJ false) (zb zS (zc 4) (cI 3)) (cI 1)))) (zp (zD 5 (zb xi (zc 4) (cI 6)))
 (zp (zD 6 (zb yw (cI 1) (zb zh (xy (za (zb zS (zc 5) (cI 3)) (za (zb zS (zc 5) (cI 3)) (za (zb zS (zc 5) (cI 12)) zj)))) (zb zS (zb xi (zc 5) (cI 12)) (cI 3)))))
 (zp (zD 7 (zb zh (xy (za (zb zS (zb xi (zc 5) (cI 36)) (cI 4)) (za (zb zS (zb xi (zc 5) (cI 36)) (cI 4)) (za (zb zS (zb xi (zc 5) (cI 36)) (cI 13)) zj)))) (zb zS (zb xi (zc 5) (cI 468)) (cI 3))))
 (uH 2 (tupS (za (zk 3) (za (zb zS (zb xi (zc 4) (cI 3)) (cI 2)) (za (zk 6) (za (zk 7) zj))))))))) yn))
def bH:Sm:=
 (zp (vJ 2 (xy zj))
 (zp (xP [3,4,5,6,7] (wg v9 (za (zt y7 (za (zc 1) zj)) zj)) (zC 3) nD)
 (retS (zt rP (za (zc 2) zj)))))
def nU:List T->Option T:=yb ["_law_script","_law_owners_here","_law_found","_law_place","_law_drawn","_law_rest","_law_give","_law_get"] 2 bH
def lO:Sm:=
 (yo (vw (xx (zt qF (za (zb zh (zb zh (zc 0) (zc 3)) (zc 1)) (za (zk 2) zj))))) (retS (zk 3)) yn)
def bN:Sm:=
 (zp (xP [3] (wg v9 (za (zt y7 (za (zc 0) zj)) zj)) (zC 3) lO)
 (retS (zb mD (cI 10) (cI 9))))
def wC:List T->Option T:=yb ["_law_told","_law_place","_law_pair","_law_k"] 3 bN
def lH:Ev->Option T:=
 xY [none,some 5,some 1] (xn (zb zh (zc 0) (cI 2))) (zC 0) (zM (zb (zJ false) (zb zh (zc 0) (cI 0)) (zc 2))) (tupS (za (zk 1) (za (zk 0) zj)))
def lP:Sm:=
 (lb 4 lH)
def bO:Sm:=
 (zp (zD 3 (xy (za (zk 2) zj)))
 (zp (yo (zM (zb (zJ false) (zb zh (zb zh (zc 0) (cI 1)) (zc 1)) (cS (.str "keeper")))) (zD 3 (zt kd (za (zk 0) (za (zk 1) (za (zk 2) zj))))) yn)
 (zp (vJ 4 (xy zj))
 (zp (xP [5] (xn (zk 3)) (zC 5) lP)
 (rX 4)))))
def tB:List T->Option T:=yb ["_law_floor_here","_law_place","_law_pair","_law_held_here","_law_found","_law_one"] 3 bO
def lI:Ev->Option T:=
 xY [none,none] (wg iJ (za (zc 0) (za (zc 1) zj))) (wD 2 (yy (zC 0) (yy (zC 1) vb))) sd (zt ke (za (zk 0) (za (zb zh (zc 1) (cI 0)) (za (zb zh (zc 1) (cI 1)) zj))))
def bX:Sm:=
 (zp (yo (vF (vw (xx (instS "tuple" (zc 0)))) (zM (zb (zJ true) (zt y7 (za (zc 0) zj)) (zt y7 (za (zc 1) zj))))) (retS (cS (.bl false))) yn)
 (retS (zt (jW λ bs=>bs.all id) (za lI zj))))
def kf:List T->Option T:=yb ["thing","bounds"] 2 bX
def ae:Sm:=
 (yo (vw (xx (zt ke (za (zk 1) (za (cI 0) (za (zb xC (zt oh (za (zk 0) zj)) (cI 1)) zj)))))) ea yn)
def su:List T->Option T:=yb ["floor","place"] 2 ae
def lS:Sm:=
 (zD 1 (zt kg (za (zk 1) (za (zk 2) zj))))
def ah:Sm:=
 (zp (zD 1 (tupS zj))
 (zp (xP [2] (xn (zk 0)) (zC 2) lS)
 (retS (zk 1))))
def kj:List T->Option T:=yb ["borders","joined","border"] 1 ah
def lT:Sm:=
 (zD 1 (zt ki (za (zk 1) (za (zk 2) zj))))
def ai:Sm:=
 (zp (zD 1 (tupS (za (tupS (za (cI 0) (za (cI 0) zj))) zj)))
 (zp (xP [2] (xn (zk 0)) (zC 2) lT)
 (retS (zk 1))))
def kl:List T->Option T:=yb ["borders","joined","border"] 1 ai
def lQ:Sm:=
 (yo (vw (xx (zt qG (za (zb zh (zc 4) (zc 1)) (za (zk 2) zj))))) (retS (zk 3)) yn)
def b_:Sm:=
 (zp (xP [3,4] (wg ue (za (zk 0) zj)) (wD 2 (yy (zC 3) (yy (zC 4) vb))) lQ)
 (retS (cS .zl)))
def qH:List T->Option T:=yb ["told","place","pair","number","held"] 3 b_
def iD:Sm:=
 (zp (zD 4 (zt nQ (za (zk 0) (za (zk 1) (za (zk 2) zj)))))
 (retS (nE (zb (w6 true) (zc 4) (cS .zl)) (zt qG (za (zb zh (zc 3) (zb zh (zb zh (zb zh (zc 0) (cI 2)) (zc 2)) (cI 1))) (za (zk 4) zj))))))
def oj:List T->Option T:=yb ["floor","pair","way","held","behind"] 4 iD
def iE:Sm:=
 (zp (zD 1 (zt yu (za (zk 0) (za (cI 0) zj))))
 (zp (zD 2 (zb zh (xy (za (cI 2) (za (cI 3) (za (cI 1) (za (cI 4) (za (cI 3) (za (cI 2) (za (cI 4) (za (zb yw (cI 5) (zb zS (zb xi (zc 1) (cI 8)) (cI 4))) zj))))))))) (zb zS (zc 1) (cI 8))))
 (zp (zD 3 (zt nW (za (zk 0) (za (zk 2) zj))))
 (zp (zD 4 (zt nY (za (zk 0) (za (zk 2) zj))))
 (zp (zD 5 (zt nS (za (zk 0) (za (zk 2) zj))))
 (zp (zD 6 (zt nU (za (zk 0) (za (zk 3) zj))))
 (zp (yo (tp (zM (zb (zJ false) (zc 4) (tupS (za (cI 12) (za (cI 12) zj))))) (vF (zM (zb vC (zt y7 (za (zc 5) zj)) (cI 6))) (zM (zb vC (zt y7 (za (zc 6) zj)) (cI 0))))) (zD 4 (tupS (za (cI 12) (za (cI 3) zj)))) yn)
 (retS (tupS (za (zk 4) (za (zk 3) (za (zk 5) (za (zk 6) zj)))))))))))))
def om:List T->Option T:=yb ["_law_script","_law_number","_law_many","_law_owners_here","_law_brims_here","_law_ways_here","_law_stalls_here"] 1 iE
def bK:Sm:=
 (zp (zD 3 (zt uo (za (zk 0) (za (zb zh (zc 2) (cI 0)) (za (zb zh (zc 2) (cI 1)) zj)))))
 (zp (yo (zM (zb (w6 false) (zc 3) (cS .zl))) (retS (cI 0)) yn)
 (retS (zt wC (za (zk 1) (za (zb zh (zb zh (zc 2) (cI 1)) (cI 1)) (za (zk 3) zj)))))))
def rG:List T->Option T:=yb ["_law_floor_here","_law_told","_law_deed","_law_behind_here"] 3 bK
def af:Sm:=
 (yo (vw (xx (zt kf (za (zk 1) (za (tupS (za (tupS (za (cI 0) (za (zb zh (zb zh (zc 0) (cI 0)) (cI 0)) zj))) (za (tupS (za (cI 0) (za (zb zh (zb zh (zc 0) (cI 0)) (cI 1)) zj))) zj))) zj))))) ea yn)
def qI:List T->Option T:=yb ["floor","pair"] 2 af
def lE:Ev->Option T:=
 xY [none,none,some 1] (wg ue (za (zb zh (zc 0) (cI 2)) zj)) (wD 2 (yy (zC 0) (yy (zC 1) vb))) (zM (zb (zJ false) (zb zh (zc 1) (cI 0)) (zc 2))) (zk 0)
def b7:Sm:=
 (zp (pH (zt su (za (zk 0) (za (zk 1) zj))))
 (retS lE))
def rD:List T->Option T:=yb ["floor","place"] 2 b7
def nB:Sm:=
 (yo (zM (zb (zJ false) (zb zh (zc 2) (cI 0)) (zc 1))) (retS (zk 2)) yn)
def b9:Sm:=
 (zp (pH (zt su (za (zk 0) (za (zk 1) zj))))
 (zp (xP [2] (xn (zb zh (zc 0) (cI 3))) (zC 2) nB)
 (retS (cS .zl))))
def og:List T->Option T:=yb ["floor","place","stall"] 2 b9
def pO:Ev->Option T:=
 xY [none,some 1,some 2] (xn (zc 7)) (zC 0) sd (zt rG (za (zk 1) (za (zk 2) (za (zk 0) zj))))
def pS:Sm:=
 (zp (zD 7 (zt tB (za (zk 1) (za (zk 3) (za (zk 4) zj)))))
 (zp (zD 8 (zb zh (zc 7) (zb zS (zt yu (za (zk 0) (za (zb yw (cI 39) (zc 6)) zj))) (zt y7 (za (zc 7) zj)))))
 (zp (yo (zM (zb (zJ false) (zb zh (zb zh (zc 1) (cI 1)) (zc 3)) (cS (.str "keeper")))) (zp (zD 9 pO)
 (zD 8 (zb zh (zc 7) (zb oX (zc 9) (zt oO (za (zc 9) zj)))))) yn)
 (zp (zD 4 (zt uo (za (zk 1) (za (zb zh (zc 8) (cI 0)) (za (zb zh (zc 8) (cI 1)) zj)))))
 (zp (zD 3 (zb zh (zb zh (zc 8) (cI 1)) (cI 1)))
 (yo (vF (zM (zb (w6 false) (zc 4) (cS .zl))) (zM (zb yx (zt wC (za (zk 2) (za (zk 3) (za (zk 4) zj)))) (zb xC (zb xC (zc 5) (cI 1)) (zc 6))))) (retS (cS (.bl false))) yn))))))
def bL:Sm:=
 (zp (zD 5 (zt wC (za (zk 2) (za (zk 3) (za (zk 4) zj)))))
 (zp (xP [6,7,8,9] (wg v9 (za (zt wQ (za (zb xC (zc 5) (cI 1)) (za (cI 20) zj))) zj)) (zC 6) pS)
 (retS (cS (.bl true)))))
def kc:List T->Option T:=yb ["_law_script","_law_floor_here","_law_told","_law_place","_law_pair","_law_steps","_law_k","_law_deeds_here","_law_deed","_law_left_here"] 5 bL
def lU:Sm:=
 (lb 4 (zt l_ (za (zb zh (zc 0) (cI 0)) (za (zk 3) (za (zk 5) zj)))))
def iI:Sm:=
 (zp (zD 3 (zt og (za (zk 0) (za (zk 1) zj))))
 (zp (yo (zM (zb (w6 false) (zc 3) (cS .zl))) (retS (zk 2)) yn)
 (zp (vJ 4 (xy zj))
 (zp (xP [5] (xn (zk 2)) (zC 5) lU)
 (dv 4 (retS (zt rF (za (zk 4) zj))))))))
def n_:List T->Option T:=yb ["floor","place","border","stall","pairs","pair"] 3 iI
def nr:Ev->Option T:=
 xY [none,some 0,some 2,some 3,some 4] (xn (zt rD (za (zk 0) (za (zk 1) zj)))) (zC 0) (vw (xx (zt oj (za (zk 1) (za (zk 2) (za (zk 0) (za (zb zh (zc 3) (zb xC (zc 4) (cI 1))) zj))))))) (zk 0)
def iB:Sm:=
 (zp (zD 4 (zt qH (za (zk 3) (za (zk 1) (za (zk 2) zj)))))
 (zp (yo (zM (zb (w6 false) (zc 4) (cS .zl))) (retS (cS .zl)) yn)
 (retS (zb zh nr (cI 0)))))
def oa:List T->Option T:=yb ["floor","place","pair","told","steps"] 4 iB
def lG:Ev->Option T:=
 xY [none,some 0] (xn (zt rD (za (zk 0) (za (zk 1) zj)))) (zC 0) sd (zb zh (zb zh (zc 1) (cI 2)) (zc 0))
def lC:Ev->Option T:=
 xY [none,some 0,some 2] (xn (zc 3)) (zC 0) sd (zt kq (za (zb zh (zc 1) (cI 0)) (za (zk 0) (za (zb zh (zc 2) (zb zh (zc 0) (cI 1))) zj))))
def bE:Sm:=
 (zp (zD 3 lG)
 (zp (zD 4 lC)
 (zp (yo (zM (zb (zJ false) (zb zh (zb zh (zc 0) (cI 1)) (zc 1)) (cS (.str "keeper")))) (retS (zt n_ (za (zk 0) (za (zk 1) (za (zt kj (za (zk 4) zj)) zj))))) yn)
 (retS (zt kl (za (zk 4) zj))))))
def ka:List T->Option T:=yb ["floor","place","last","ways","ahead"] 3 bE
def lF:Ev->Option T:=
 xY [none,some 2] (xn (zb zh (zc 0) (cI 2))) (zC 0) (zM (zb (oW false) (zb zh (zc 0) (cI 1)) (zc 1))) (zb zh (zc 0) (cI 0))
def lM:Sm:=
 (j0 3 (zc 4) (zt ka (za (zk 0) (za (zk 4) (za (zk 1) zj)))))
def bD:Sm:=
 (zp (vJ 3 (zt listS (za (zc 1) zj)))
 (zp (xP [4] (xn (zt qR (za lF zj))) (zC 4) lM)
 (rX 3)))
def nR:List T->Option T:=yb ["floor","last","fresh","following","place"] 3 bD
def nu:Ev->Option T:=
 xY [none,none,some 3] (wg ue (za (zc 4) zj)) (wD 2 (yy (zC 0) (yy (zC 1) vb))) (zM (zb (zJ true) (zc 1) (zb zh (zc 2) (zc 0)))) (zk 0)
def tw:Sm:=
 (zp (zD 3 (zb zh (zc 1) (sR (cI 1))))
 (zp (zD 4 (zt nR (za (zk 0) (za (zk 3) (za (zk 2) zj)))))
 (zp (zD 2 nu)
 (yo (xx (zc 2)) (uH 1 (zk 4)) yn))))
def bA:Sm:=
 (zp (vJ 1 (xy (za (zb we (xy (za (tupS (za (tupS (za (cI 0) (za (cI 0) zj))) zj)) zj)) (zt oh (za (zk 0) zj))) zj)))
 (zp (zD 2 (zt mR (za (zt oh (za (zk 0) zj)) zj)))
 (zp (qL 1000000 [3,4] (xx (zc 2)) tw)
 (rX 1))))
def vm:List T->Option T:=yb ["floor","told","fresh","last","following"] 1 bA
def bU:Sm:=
 (zp (pH (zt su (za (zk 0) (za (zk 1) zj))))
 (zp (pH (zt qI (za (zk 0) (za (zk 2) zj))))
 (retS (zt qH (za (zt vm (za (zk 0) zj)) (za (zk 1) (za (zk 2) zj)))))))
def nZ:List T->Option T:=yb ["floor","place","pair"] 3 bU
def iC:Sm:=
 (zp (pH (zt su (za (zk 0) (za (zk 1) zj))))
 (zp (pH (zt qI (za (zk 0) (za (zk 2) zj))))
 (zp (yo (zM (zb (zJ false) (zb zh (zb zh (zc 0) (cI 1)) (zc 1)) (cS (.str "keeper")))) (retS (cS .zl)) yn)
 (retS (zt oa (za (zk 0) (za (zk 1) (za (zk 2) (za (zt vm (za (zk 0) zj)) zj)))))))))
def rE:List T->Option T:=yb ["floor","place","pair"] 3 iC
def t5:Sm:=
 (zp (zD 7 (zt tB (za (zk 1) (za (zk 3) (za (zk 4) zj)))))
 (zp (zD 8 (zb zh (zc 7) (zb zS (zt yu (za (zk 0) (za (zb yw (cI 39) (zc 6)) zj))) (zt y7 (za (zc 7) zj)))))
 (zp (yo (zM (zb (zJ false) (zb zh (zb zh (zc 1) (cI 1)) (zc 3)) (cS (.str "taker")))) (zp (zD 9 (zt rE (za (zk 1) (za (zk 3) (za (zk 4) zj)))))
 (zp (yo (vF (vw (xx (instS "int" (zc 9)))) (vF (xx (instS "bool" (zc 9))) (vw (zM (jU tR yx (cI 0) (zc 9) (zt y7 (za (zb zh (zc 1) (cI 2)) zj))))))) (retS (cS (.bl false))) yn)
 (zD 8 (tupS (za (zk 4) (za (zb zh (zb zh (zc 1) (cI 2)) (zc 9)) zj)))))) yn)
 (zp (zD 10 (zt rG (za (zk 1) (za (zk 2) (za (zk 8) zj)))))
 (zp (yo (vF (zM (zb vD (zc 10) (zc 5))) (zM (zb (zJ true) (zb zh (zb zh (zc 8) (cI 1)) (cI 0)) (zc 3)))) (retS (cS (.bl false))) yn)
 (zp (yo (zM (zb (zJ false) (zc 10) (cI 0))) (retS (cS (.bl true))) yn)
 (zp (zD 4 (zt uo (za (zk 1) (za (zb zh (zc 8) (cI 0)) (za (zb zh (zc 8) (cI 1)) zj)))))
 (zp (zD 3 (zb zh (zb zh (zc 8) (cI 1)) (cI 1)))
 (zD 5 (zk 10))))))))))
def bJ:Sm:=
 (zp (zD 5 (zt wC (za (zk 2) (za (zk 3) (za (zk 4) zj)))))
 (zp (xP [6,7,8,9,10] (wg v9 (za (zt wQ (za (zc 5) (za (zb xC (cI 20) (zb we (cI 17) (zt ql (za (zb vC (zt y7 (za (zc 2) zj)) (cI 40)) zj)))) zj))) zj)) (zC 6) t5)
 (retS (zb vC (zc 5) (cI 0)))))
def nX:List T->Option T:=yb ["_law_script","_law_floor_here","_law_told","_law_place","_law_pair","_law_steps","_law_k","_law_deeds_here","_law_deed","_law_number","_law_left_here"] 5 bJ
def nv:Ev->Option T:=
 xY [none,some 2,some 3] (xn (zb yw (o4 (zc 4) (some (zc 5)) none) (o4 (zc 4) none (some (zc 5))))) (zC 0) (vw (xx (zt qF (za (zb zh (zb zh (zc 1) (sR (cI 1))) (zc 2)) (za (zk 0) zj))))) (zk 0)
def iH:Sm:=
 (zp (zD 1 (zt om (za (zk 0) zj)))
 (zp (zD 2 (zt vm (za (zk 1) zj)))
 (zp (zD 3 (zb zS (zt yu (za (zk 0) (za (cI 36) zj))) (zt y7 (za (zb zh (zc 1) (cI 1)) zj))))
 (zp (zD 4 (zt nV (za (zk 1) zj)))
 (zp (zD 5 (zb zS (zt yu (za (zk 0) (za (cI 37) zj))) (zt y7 (za (zc 4) zj))))
 (zp (zD 6 nv)
 (zp (yo (zM (zb (zJ false) (zc 6) (xy zj))) (retS (cS (.bl true))) yn)
 (zp (yo (zM (zb (zJ true) (zt nZ (za (zk 1) (za (zk 3) (za (zb zh (zc 6) (cI 0)) zj)))) (zt wC (za (zk 2) (za (zk 3) (za (zb zh (zc 6) (cI 0)) zj)))))) (retS (cS (.bl false))) yn)
 (retS (nE (zt nX (za (zk 0) (za (zk 1) (za (zk 2) (za (zk 3) (za (zb zh (zc 6) (cI 0)) zj)))))) (zt kc (za (zk 0) (za (zk 1) (za (zk 2) (za (zk 3) (za (zb zh (zc 6) (cI 0)) zj))))))))))))))))
def oo:List T->Option T:=yb ["_law_script","_law_floor_here","_law_told","_law_place","_law_pairs_here","_law_at","_law_some"] 1 iH
def U4 (ps:List (Int×Int)) (h:ps.length<64):oy [.lst (ps.map zf)]=some (.lst ((sH ps).map zf)):=by
 show (uv (ps.map zf)).bind _=_;rw[Ta,A_,if_pos ⟨by simpa using h,λ r hr=>by obtain⟨p,_,rfl⟩:=An.mp hr;simp[vT]⟩,<- aV,AQ];rfl
noncomputable def cell (ns:List Int) (k:Nat):Int:=if k<ns.length then ns.getD k 0%10 ^ 40 else 0
def sy (ns:List Int) (k:Nat):yu [zI ns,.int (k:Int)]=some (.int (cell ns k)):=by
 unfold yu bQ cell zI;by_cases h:k<ns.length
 .have e:L2.zZ (ns.map T.int) (k:Int)=some (.int (ns.getD k 0)):=wq (by simp[h]);simp[h,e,rL,yx]
 .simp[h,yx]
def WR (b:T) (ps:List (Int×Int)) (q:Int×Int) (hb:wc b=some (ps.map zf)):qF [b,zf q]=some (.bl (zG ps q)):=by
 have h:=Yy (is:=[2,3]) (g:=wD 2 (yy (zC 2) (yy (zC 3) vb))) (b:=jZ) zf (w9 q) (.bl true) [some (.im b),some (.im (zf q)),none,none] ps [some (.im b),some (.im (zf q)),none,none] (by simp) λ p hp=>⟨[some (.im b),some (.im (zf q)),some (.im (.int p.1)),some (.im (.int p.2))],by simp,by
  by_cases h1:p.1<=q.1 <;> by_cases h2:p.2<=q.2 <;> simp[turn,jZ,zf,w9,h1,h2]⟩
 unfold qF bM;simp only[xP,xn,zk,yb,zp,qQ] at h ⊢;simp[hb,h];unfold zG;cases ps.any (w9 q) <;> simp
def Nz {qs p:List (Int×Int)}{x:Int×Int}(hr:∀ r,qs++yY r (qs.getLast?.map (·.2))=yY (p++r) none) (hb:se (qs.getLast?.map (·.2)) x.2=true) (r:List (Int×Int)):
  (qs++[x])++yY r ((qs++[x]).getLast?.map (·.2))=yY (p++[x]++r) none:=by
 have:=hr (x::r);rw[show yY (x::r) (qs.getLast?.map (·.2))=x::yY r (some x.2) by rw[yY,if_pos hb]] at this;simpa using this
def N0 {qs p:List (Int×Int)}{x:Int×Int}(hr:∀ r,qs++yY r (qs.getLast?.map (·.2))=yY (p++r) none) (hb:se (qs.getLast?.map (·.2)) x.2=false) (r:List (Int×Int)):
  qs++yY r (qs.getLast?.map (·.2))=yY (p++[x]++r) none:=by
 have:=hr (x::r);rw[show yY (x::r) (qs.getLast?.map (·.2))=yY r (qs.getLast?.map (·.2)) by rw[yY,if_neg (by rw[hb];nofun)]] at this;simpa using this
def i4 (ps:List (Int×Int)) (hl:ps.length<64):rF [.lst (ps.map zf)]=some (.tup ((vp ps).map zf)):=by
 obtain⟨J',h1,qs,h2,h3,h4⟩:=vB (is:=[2]) (g:=zC 2) (b:=nC) zf (λ p J=>∃ qs:List (Int×Int),J=[some (.im (.lst (ps.map zf))),some (.own (.lst (qs.map zf))),none]/\qs.length<=p.length/\
   ∀ r,qs++yY r (qs.getLast?.map (·.2))=yY (p++r) none) (sH ps) [some (.im (.lst (ps.map zf))),some (.own (.lst [])),none] ⟨[],by simp,by simp,λ r=>by simp⟩ (by
  rintro p x q e J ⟨qs,rfl,hq,hr⟩;have hlen:p.length<64:=by
   have:=congrArg List.length e;rw[(hZ ps).length_eq] at this;simp at this;lia
  have app:se (qs.getLast?.map (·.2)) x.2=true->∃ qs':List (Int×Int),yC [2] [some (.im (.lst (ps.map zf))),some (.own (.lst (qs.map zf++[zf x]))),some (.im (zf x))]=[some (.im (.lst (ps.map zf))),some (.own (.lst (qs'.map zf))),none]/\qs'.length<=(p++[x]).length/\∀ r,qs'++yY r (qs'.getLast?.map (·.2))=yY (p++[x]++r) none:=λ hb=>
   ⟨qs++[x],by simp,by simp;lia,Nz hr hb⟩
  rcases List.eq_nil_or_concat qs with rfl | ⟨init,l,rfl⟩
  .refine⟨_,?_,app (by simp[se])⟩;simp[turn,nC]
  .simp only[List.concat_eq_append] at *;by_cases hb:x.2<l.2
   .refine⟨_,?_,app (by simp[se,hb])⟩;simp at hq;simp[turn,nC,zf,hb,yx];lia
   .refine⟨[some (.im (.lst (ps.map zf))),some (.own (.lst ((init++[l]).map zf))),some (.im (zf x))],?_,init++[l],by simp,by simp at hq ⊢;lia,N0 hr (by simp[se];lia)⟩;simp[turn,nC,zf,hb,yx])
 have h5:=h4 [];simp[yY] at h5;unfold rF bF;simp[U4 ps hl,h1,h2,h5,vp]
def Kb (b o:List (Int×Int)) (hl:b.length+o.length<64):kg [.tup (b.map zf),.tup (o.map zf)]=some (.tup ((vp (b++o)).map zf)):=by
 have h:=i4 (b++o) (by simpa using hl);rw[Bm] at h;have:b.length+o.length<=16777216:=by lia
 unfold kg aa;simp[h,this]
noncomputable def r0 (p:Int×Int):List Int:=[p.1,0,p.2]
noncomputable def r1 (p:Int×Int):List Int:=[p.1,1,p.2]
noncomputable def xt (l:Option Int) (v:Int):Int:=match l with
 | none=>v
 | some m=>if m<v then m else v
noncomputable def ux (l:Option Int) (sh:List (Int×Int)) (f:Int->Int×Int):List (Int×Int):=match l with
 | some m=>sh++[f m]
 | none=>sh
structure Sw (b o:List (Int×Int)) (p:List (List Int)) (l0 l1:Option Int) (sh:List (Int×Int)):Prop where
 eK:∀ x,r0 x∈p->∃ m,l0=some m/\m<=x.2
 eJ:∀ x,r1 x∈p->∃ m,l1=some m/\m<=x.2
 cv:∀ m,l0=some m->∃ x,r0 x∈p/\x.2=m
 cu:∀ m,l1=some m->∃ x,r1 x∈p/\x.2=m
 len:sh.length<=p.length
 snd:∀ s∈sh,(∃ x,r0 x∈p/\x.1<=s.1/\x.2<=s.2)/\∃ x,r1 x∈p/\x.1<=s.1/\x.2<=s.2
 all:∀ x y,r0 x∈p->r1 y∈p->∃ s∈sh,(s.1<=x.1\/s.1<=y.1)/\(s.2<=x.2\/s.2<=y.2)
def jd {x y:Int×Int}(h:r0 x=r0 y):x=y:=by
 unfold r0 at h;injection h with h1 h2;injection h2 with _ h2;injection h2 with h2 _;exact Prod.ext h1 h2
def jc {x y:Int×Int}(h:r1 x=r1 y):x=y:=by
 unfold r1 at h;injection h with h1 h2;injection h2 with _ h2;injection h2 with h2 _;exact Prod.ext h1 h2
def oA {x y:Int×Int}(h:r0 x=r1 y):False:=by
 unfold r0 r1 at h;injection h with h1 h2;injection h2 with h2 _;lia
def tP {p:List (List Int)}{a x:List Int}(h:a∈p++[x]):a∈p\/a=x:=by simpa using h
def Sw.Uv {b o:List (Int×Int)}{p:List (List Int)}{l0 l1:Option Int}{sh:List (Int×Int)}(h:Sw b o p l0 l1 sh) (x:Int×Int) (hx:∀ y,r0 y∈p->y.1<=x.1) (hy:∀ y,r1 y∈p->y.1<=x.1):
  Sw b o (p++[r0 x]) (some (xt l0 x.2)) l1 (ux l1 sh λ m=>(x.1,if m>xt l0 x.2 then m else xt l0 x.2)):=by
 have lo:xt l0 x.2<=x.2/\∀ m,l0=some m->xt l0 x.2<=m:=by
  unfold xt;cases l0 with
  | none=>exact⟨AK _,nofun⟩
  | some m=>dsimp only;split <;> refine⟨by lia,λ m' e=>?_⟩ <;> cases e <;> lia
 have la:∃ y,r0 y∈p++[r0 x]/\y.2=xt l0 x.2:=by
  unfold xt;cases l0 with
  | none=>exact⟨x,by simp,rfl⟩
  | some m=>
   dsimp only;split
   .obtain⟨y,h1,h2⟩:=h.cv m rfl;exact⟨y,by simp[h1],h2⟩
   .exact⟨x,by simp,rfl⟩
 have snd':∀ s∈sh,(∃ x',r0 x'∈p++[r0 x]/\x'.1<=s.1/\x'.2<=s.2)/\∃ x',r1 x'∈p++[r0 x]/\x'.1<=s.1/\x'.2<=s.2:=λ s hs=>by
  obtain⟨⟨a,a1,a2⟩,c,c1,c2⟩:=h.snd s hs;exact⟨⟨a,by simp[a1],a2⟩,c,by simp[c1],c2⟩
 refine⟨λ y hm=>?_,λ y hm=>?_,λ m e=>?_,λ m e=>?_,?_,λ s hs=>?_,λ y z hm hz=>?_⟩
 .rcases tP hm with q | q
  .obtain⟨m,e,q2⟩:=h.eK y q;exact⟨_,rfl,by have:=lo.2 m e;lia⟩
  .cases jd q;exact⟨_,rfl,lo.1⟩
 .rcases tP hm with q | q
  .exact h.eJ y q
  .exact (oA q.symm).elim
 .cases e;exact la
 .obtain⟨y,q1,q2⟩:=h.cu m e;exact⟨y,by simp[q1],q2⟩
 .have:=h.len;cases l1 <;> simp[ux] <;> lia
 .cases l1 with
  | none=>exact snd' s hs
  | some m=>
   rcases AX.mp hs with q | q
   .exact snd' s q
   .obtain rfl:s=_:=by simpa using q
    obtain⟨y,y1,y2⟩:=la;obtain⟨z,z1,z2⟩:=h.cu m rfl;have D5:=hy z z1;refine⟨⟨y,y1,?_,by dsimp only;split <;> lia⟩,z,by simp[z1],D5,by dsimp only;split <;> lia⟩;rcases tP y1 with w | w
    .exact hx y w
    .cases jd w;exact AK _
 .have hz':r1 z∈p:=by
   rcases tP hz with q | q
   .exact q
   .exact (oA q.symm).elim
  rcases tP hm with q | q
  .obtain⟨s,s1,s2⟩:=h.all y z q hz';refine⟨s,?_,s2⟩;cases l1 <;> simp[ux,s1]
  .cases jd q;obtain⟨m,e,hm⟩:=h.eJ z hz';subst e;refine⟨_,AY _ Al,.inl (AK _),?_⟩;have:=lo.1;dsimp only;split <;> lia
def Sw.swap {b o:List (Int×Int)}{p:List (List Int)}{l0 l1:Option Int}{sh:List (Int×Int)}(x:Int×Int) (h:Sw b o p l0 l1 sh) (hx:∀ y,r0 y∈p->y.1<=x.1) (hy:∀ y,r1 y∈p->y.1<=x.1):
  Sw b o (p++[r1 x]) l0 (some (xt l1 x.2)) (ux l0 sh λ m=>(x.1,if xt l1 x.2>m then xt l1 x.2 else m)):=by
 have lo:xt l1 x.2<=x.2/\∀ m,l1=some m->xt l1 x.2<=m:=by
  unfold xt;cases l1 with
  | none=>exact⟨AK _,nofun⟩
  | some m=>dsimp only;split <;> refine⟨by lia,λ m' e=>?_⟩ <;> cases e <;> lia
 have la:∃ y,r1 y∈p++[r1 x]/\y.2=xt l1 x.2:=by
  unfold xt;cases l1 with
  | none=>exact⟨x,by simp,rfl⟩
  | some m=>
   dsimp only;split
   .obtain⟨y,h1,h2⟩:=h.cu m rfl;exact⟨y,by simp[h1],h2⟩
   .exact⟨x,by simp,rfl⟩
 have snd':∀ s∈sh,(∃ x',r0 x'∈p++[r1 x]/\x'.1<=s.1/\x'.2<=s.2)/\∃ x',r1 x'∈p++[r1 x]/\x'.1<=s.1/\x'.2<=s.2:=λ s hs=>by
  obtain⟨⟨a,a1,a2⟩,c,c1,c2⟩:=h.snd s hs;exact⟨⟨a,by simp[a1],a2⟩,c,by simp[c1],c2⟩
 refine⟨λ y hm=>?_,λ y hm=>?_,λ m e=>?_,λ m e=>?_,?_,λ s hs=>?_,λ y z hm hz=>?_⟩
 .rcases tP hm with q | q
  .exact h.eK y q
  .exact (oA q).elim
 .rcases tP hm with q | q
  .obtain⟨m,e,q2⟩:=h.eJ y q;exact⟨_,rfl,by have:=lo.2 m e;lia⟩
  .cases jc q;exact⟨_,rfl,lo.1⟩
 .obtain⟨y,q1,q2⟩:=h.cv m e;exact⟨y,by simp[q1],q2⟩
 .cases e;exact la
 .have:=h.len;cases l0 <;> simp[ux] <;> lia
 .cases l0 with
  | none=>exact snd' s hs
  | some m=>
   rcases AX.mp hs with q | q
   .exact snd' s q
   .obtain rfl:s=_:=by simpa using q
    obtain⟨y,y1,y2⟩:=la;obtain⟨z,z1,z2⟩:=h.cv m rfl;have D5:=hx z z1;refine⟨⟨z,by simp[z1],D5,by dsimp only;split <;> lia⟩,y,y1,?_,by dsimp only;split <;> lia⟩;rcases tP y1 with w | w
    .exact hy y w
    .cases jc w;exact AK _
 .have hm':r0 y∈p:=by
   rcases tP hm with q | q
   .exact q
   .exact (oA q).elim
  rcases tP hz with q | q
  .obtain⟨s,s1,s2⟩:=h.all y z hm' q;refine⟨s,?_,s2⟩;cases l0 <;> simp[ux,s1]
  .cases jc q;obtain⟨m,e,hm⟩:=h.eK y hm';subst e;refine⟨_,AY _ Al,.inr (AK _),?_⟩;have:=lo.1;dsimp only;split <;> lia
structure Lw (d:List (Key×T)) (l0 l1:Option Int):Prop where
 v0:xF d (.inl 0)=l0.map T.int
 v1:xF d (.inl 1)=l1.map T.int
 len:d.length=(if l0.isSome then 1 else 0)+if l1.isSome then 1 else 0
def Lw.T3 {d:List (Key×T)}{l0 l1:Option Int}(h:Lw d l0 l1) (v:Int):Lw (uw d (.inl 0) (.int v)) (some v) l1:=by
 refine⟨by rw[k8];simp,by rw[k8];simpa using h.v1,?_⟩;rw[Y3,h.v0,h.len];cases l0 <;> cases l1 <;> simp
def Lw.T2 {d:List (Key×T)}{l0 l1:Option Int}(h:Lw d l0 l1) (v:Int):Lw (uw d (.inl 1) (.int v)) l0 (some v):=by
 refine⟨by rw[k8];simpa using h.v0,by rw[k8];simp,?_⟩;rw[Y3,h.v1,h.len];cases l0 <;> cases l1 <;> simp
def jK {rows p q:List (List Int)}{x:List Int}(e:L4.wb rows=p++x::q) {a:List Int}(ha:a∈p) {i j:Int}{as xs:List Int}(h1:a=i::as) (h2:x=j::xs):i<=j:=by
 have h:=L4.hX rows;rw[e,Du] at h;have:=h.2.2 a ha x Al;subst h1 h2;rw[HT.qg] at this;by_cases c:j=i
 .omega
 .rw[if_neg c] at this;have:=of_decide_eq_false this;lia
def Ki (b o:List (Int×Int)) (hl:b.length+o.length<64):∃ sh:List (Int×Int),ki [.tup (b.map zf),.tup (o.map zf)]=some (.tup ((vp sh).map zf))/\sh.length<64/\∀ q,zG sh q=(zG b q&&zG o q):=by
 let a0:W:=.im (.tup (b.map zf))
 let a1:W:=.im (.tup (o.map zf))
 let rows:=b.map r0++o.map r1
 let a2:W:=.im (.lst (rows.map yv))
 have hlen:rows.length<64:=by simp[rows];exact hl
 have hs:oy [.lst (rows.map yv)]=some (.lst ((L4.wb rows).map yv)):=by
  show ((uv (rows.map yv)).bind λ rs=>_)=_;rw[fg,A_,if_pos ⟨hlen,λ r hr=>by
   rcases AX.mp hr with h | h <;> obtain⟨_,_,rfl⟩:=An.mp h <;> simp[r0,r1]⟩]
 have plen:(L4.wb rows).length=rows.length:=(L4.uR rows).length_eq;obtain⟨J1,h1,d,l0,l1,sh,e1,w1,s1⟩:=vB (is:=[5,6,7]) (g:=wD 3 (yy (zC 5) (yy (zC 6) (yy (zC 7) vb)))) (b:=lR) yv (λ p J=>∃ d l0 l1 sh,J=[some a0,some a1,some a2,some (.own (.yq d)),some (.own (.lst (sh.map zf))),none,none,none]/\Lw d l0 l1/\Sw b o p l0 l1 sh) (L4.wb rows) [some a0,some a1,some a2,some (.own (.yq [])),some (.own (.lst [])),none,none,none]
  ⟨[],none,none,[],by simp,⟨rfl,rfl,rfl⟩,⟨nofun,nofun,nofun,nofun,by simp,nofun,nofun⟩⟩ (by
  rintro p x q e J ⟨d,l0,l1,sh,rfl,hw,Ck⟩;have hx:x∈rows:=(L4.uR rows).mem_iff.mp (by rw[e];simp);have Au:p.length<64:=by
   have:=congrArg List.length e;rw[plen] at this;simp at this;lia
  have Bp:sh.length<16777216:=by have:=Ck.len;lia
  have BZ:d.length<16777216:=by rw[hw.len];split <;> split <;> lia
  rcases AX.mp hx with hm | hm
  .obtain⟨y,_,rfl⟩:=An.mp hm;have st:=Ck.Uv y (λ z hz=>jK e hz rfl rfl) (λ z hz=>jK e hz rfl rfl);have hw':=hw.T3 (xt l0 y.2);refine⟨[some a0,some a1,some a2,some (.own (.yq (uw d (.inl 0) (.int (xt l0 y.2))))),some (.own (.lst ((ux l1 sh λ m=>(y.1,if m>xt l0 y.2 then m else xt l0 y.2)).map zf))),some (.im (.int y.1)),some (.im (.int 0)),some (.im (.int y.2))],?_,_,_,_,_,(by simp),hw',st⟩;have hr:yv (r0 y)=.tup [.int y.1,.int 0,.int y.2]:=rfl;have v0:=hw'.v0;have v1:=hw'.v1;have ln:=hw'.len;cases l0 <;> cases l1 <;> simp[turn,lR,hr,hw.v0,BZ,Bp,xt,ux,zJ,dep,eqT] at v0 v1 ln ⊢ <;> simp[v0,v1,ln,zf,ux]
  .obtain⟨y,_,rfl⟩:=An.mp hm;have st:=Ck.swap y (λ z hz=>jK e hz rfl rfl) (λ z hz=>jK e hz rfl rfl);have hw':=hw.T2 (xt l1 y.2);refine⟨[some a0,some a1,some a2,some (.own (.yq (uw d (.inl 1) (.int (xt l1 y.2))))),some (.own (.lst ((ux l0 sh λ m=>(y.1,if xt l1 y.2>m then xt l1 y.2 else m)).map zf))),some (.im (.int y.1)),some (.im (.int 1)),some (.im (.int y.2))],?_,_,_,_,_,(by simp),hw',st⟩;have hr:yv (r1 y)=.tup [.int y.1,.int 1,.int y.2]:=rfl;have v0:=hw'.v0;have v1:=hw'.v1;have ln:=hw'.len;cases l0 <;> cases l1 <;> simp[turn,lR,hr,hw.v1,BZ,Bp,xt,ux,zJ,dep,eqT] at v0 v1 ln ⊢ <;> simp[v0,v1,ln,zf,ux])
 have DG:sh.length<64:=by have:=s1.len;lia
 refine⟨sh,?_,DG,λ q=>?_⟩
 .subst e1;have hc1:cg [some a0,some a1,none,none,none,none,none,none]=some (.lst ((b.map r0).map yv)):=by
   rw[AQ];exact sS zf (yv ∘ r0) b (by simp[a0]) (by lia) λ y _=>by simp[zf,yv,r0]
  have hc2:cf [some a0,some a1,none,none,none,none,none,none]=some (.lst ((o.map r1).map yv)):=by
   rw[AQ];exact sS zf (yv ∘ r1) o (by simp[a1]) (by lia) λ y _=>by simp[zf,yv,r1]
  have hF:=i4 sh DG;have z:b.length+o.length<=16777216:=by lia
  simp only[a0,a1,a2,rows,Bm] at hc1 hc2 hs h1;unfold ki ag;simp[hc1,hc2,z,hs,h1,hF] at hc1 hc2 hs h1 ⊢;simp[hc1,hc2,z,hs,h1,hF]
 .have m0:∀ x,r0 x∈L4.wb rows↔x∈b:=λ x=>by
   rw[(L4.uR rows).mem_iff];constructor
   .intro h;rcases AX.mp h with h | h <;> obtain⟨y,hy,e⟩:=An.mp h
    .cases jd e;exact hy
    .exact (oA e.symm).elim
   .exact λ h=>B6 _ (List.mem_map_of_mem h)
  have m1:∀ x,r1 x∈L4.wb rows↔x∈o:=λ x=>by
   rw[(L4.uR rows).mem_iff];constructor
   .intro h;rcases AX.mp h with h | h <;> obtain⟨y,hy,e⟩:=An.mp h
    .exact (oA e).elim
    .cases jc e;exact hy
   .exact λ h=>AY _ (List.mem_map_of_mem h)
  rw[A5,BO,yI,yI,yI];constructor
  .rintro⟨s,hs,g1,g2⟩;obtain⟨⟨x,x1,x2,x3⟩,y,y1,y2,y3⟩:=s1.snd s hs;exact⟨⟨x,(m0 x).mp x1,by lia,by lia⟩,y,(m1 y).mp y1,by lia,by lia⟩
  .rintro⟨⟨x,x1,x2,x3⟩,y,y1,y2,y3⟩;obtain⟨s,s1,g1,g2⟩:=s1.all x y ((m0 x).mpr x1) ((m1 y).mpr y1);exact⟨s,s1,by lia,by lia⟩
theorem jQ {α:Type}(enc:α->T) (n:Nat) (h:∀ x,dep (enc x)<=n):∀ xs:List α,yE (xs.map enc)<=n
 | []=>by simp[yE]
 | x::xs=>by
  have:=h x;have:=jQ enc n h xs;simp only[Aq,yE];lia
def X8 (p:Int×Int):dep (zf p)<=1:=by simp[zf,dep,yE]
def X7 (ps:List (Int×Int)):dep (.tup (ps.map zf))<=60:=by
 have:=jQ zf 1 X8 ps;simp only[dep];lia
end z_
namespace z_
open PySem L2 L3 L5 RN
def bT (b:Bd):T:=.tup (b.map zf)
def rT (r:List Bd):T:=.lst (r.map bT)
noncomputable def kt (b:Bool):T:=if b=true then .str "keeper" else .str "taker"
noncomputable def zQ (w:Wy):T:=.tup [.int w.f,.int w.t,.int w.a,.int w.b]
noncomputable def w_ (b:Bool):Int:=if b=true then 1 else 0
def yH (s:Sl):T:=.tup [.int s.p,.int (w_ s.pu),.int s.gv,.int s.gt]
def zr (F:zw):T:=.tup [.tup [.int F.A,.int F.B],.tup (F.os.map kt),.tup (F.ws.map zQ),.tup (F.ss.map yH)]
def eq_int (i j:Int) (neg:Bool):zJ neg (.int i) (.int j)=some (.bl (cond neg (!decide (i=j)) (decide (i=j)))):=by
 simp[zJ,dep,eqT];cases neg <;> simp[Bool.beq_eq_decide_eq]
def WN (F:zw):oh [zr F]=some (.int F.os.length):=by
 simp[oh,bB,zr]
def WZ (q p:Int×Int):ma [zf q,zf p]=some (.bl (w9 q p)):=by
 by_cases h1:p.1<=q.1 <;> by_cases h2:p.2<=q.2 <;> simp[ma,ak,zf,w9,h1,h2]
def Lr {α:Type}(g:α->Bool) (xs:List α):qy (xs.map λ x=>T.bl (g x))=some (xs.map g):=by
 have:=Ls (xs.map g)
 rwa [AQ] at this
def WQ (ps:List (Int×Int)) (q:Int×Int) (hl:ps.length<=10000):qG [bT ps,zf q]=some (.bl (zG ps q)):=by
 have hc:lJ [some (.im (bT ps)),some (.im (zf q))]=some (.lst (ps.map λ p=>T.bl (w9 q p))):=by
  unfold lJ;refine sS zf _ ps (by simp[bT]) (by lia) λ p _=>?_;simp[WZ]
 unfold qG bZ;generalize lJ=cc at hc ⊢;simp[hc,Lr];rfl
def Kj (A B:Int) (w:Wy) (bd:Bd) (hl:bd.length<64):kq [.tup [.int A,.int B],zQ w,bT bd]=some (bT (q8 A B w.a w.b bd)):=by
 have h1:lK [some (.im (.tup [.int A,.int B])),some (.im (zQ w)),some (.im (bT bd)),none]=some (.lst ((bd.map (xu w.a w.b)).map zf)):=by
  rw[AQ];unfold lK;refine sS zf _ bd (by simp[bT]) (by lia) λ p _=>?_;simp[zf,zQ,xu,yS,pD]
 have h2:lD [some (.im (.tup [.int A,.int B])),some (.im (zQ w)),some (.im (bT bd)),some (.im (.lst ((bd.map (xu w.a w.b)).map zf)))]=some (.lst (((bd.map (xu w.a w.b)).filter (vE A B)).map zf)):=by
  have:=pA zf (λ p=>if vE A B p=true then some (zf p) else none) (pick:=[none,some 0]) (it:=xn (zc 3)) (g:=zC 0) (c:=xx (zt ma (za (zk 1) (za (zk 0) zj)))) (f:=zk 0) (J:=[some (.im (.tup [.int A,.int B])),some (.im (zQ w)),some (.im (bT bd)),some (.im (.lst ((bd.map (xu w.a w.b)).map zf)))]) (bd.map (xu w.a w.b)) (by simp) (by simp;lia) (λ p _=>by
   have e:T.tup [.int A,.int B]=zf (A,B):=rfl;have ga:w9 (A,B) p=vE A B p:=rfl;simp only[u5,e];simp[WZ,ga];cases vE A B p <;> simp)
  unfold lD;rw[this,show ∀ l:List (Int×Int),l.filterMap (λ p=>if vE A B p=true then some (zf p) else none)=(l.filter (vE A B)).map zf from λ l=>by
   induction l with
   | nil=>rfl
   | cons a l ih=>by_cases h:vE A B a=true <;> simp[Cg,h,ih]]
 have h3:=i4 ((bd.map (xu w.a w.b)).filter (vE A B)) (Nat.lt_of_le_of_lt (Ca _ _) (by simpa using hl));unfold kq aj;generalize lK=d1 at h1 ⊢;generalize lD=d2 at h2 ⊢;generalize rF=ff at h3 ⊢;generalize (bd.map (xu w.a w.b)).map zf=L1 at h1 h2;generalize (((bd.map (xu w.a w.b)).filter (vE A B)).map zf)=L2 at h2 h3;simp[h1,h2,h3];rfl
def Ka (b c:Bd) (hl:b.length+c.length<64):kg [bT b,bT c]=some (bT (uE b c)):=Kb b c hl
def Kh (b c:Bd) (hl:b.length+c.length<64):ki [bT b,bT c]=some (bT (uf b c)):=by
 obtain⟨sh,h1,_,h2⟩:=Ki b c hl;have:vp sh=uf b c:=vO.eq (eP _) (eP _) λ q=>by
  rw[oP,h2,<- Wl]
 rw[<- this];exact h1
def L_ {A B:Int}(hA:0<=A/\A<=12) (bs:List Bd) (h:∀ b∈bs,Gd A B b):kj [.lst (bs.map bT)]=some (bT (uF bs)):=by
 obtain⟨J',h1,h2⟩:=vB (is:=[2]) (g:=zC 2) (b:=lS) bT (λ p J=>J=[some (.im (.lst (bs.map bT))),some (.im (bT (p.foldl uE []))),none]) bs [some (.im (.lst (bs.map bT))),some (.im (bT [])),none] rfl (by
  rintro p x q e J rfl;have g1:Gd A B (p.foldl uE []):=lh p [] Gd.nil λ c hc=>h c (by rw[e];simp[hc]);have g2:Gd A B x:=h x (by rw[e];simp);have l1:=g1.qh hA.1;have l2:=g2.qh hA.1;refine⟨[some (.im (.lst (bs.map bT))),some (.im (bT (uE (p.foldl uE []) x))),some (.im (bT x))],?_,by simp⟩;simp[turn,lS,Ka (p.foldl uE []) x (by lia)])
 subst h2;unfold kj ah;generalize lS=bb at h1 ⊢;have e:bT []=.tup []:=rfl;rw[e] at h1;simp[h1,uF]
def Kg {A B:Int}(hA:0<=A/\A<=12) (hB:0<=B) (bs:List Bd) (h:∀ b∈bs,Gd A B b):kl [.lst (bs.map bT)]=some (bT (nA bs)):=by
 obtain⟨J',h1,h2⟩:=vB (is:=[2]) (g:=zC 2) (b:=lT) bT (λ p J=>J=[some (.im (.lst (bs.map bT))),some (.im (bT (p.foldl uf yZ))),none]) bs [some (.im (.lst (bs.map bT))),some (.im (bT yZ)),none] rfl (by
  rintro p x q e J rfl;have g1:Gd A B (p.foldl uf yZ):=cj p yZ (Gd.yZ hA.1 hB) λ c hc=>h c (by rw[e];simp[hc]);have g2:Gd A B x:=h x (by rw[e];simp);have l1:=g1.qh hA.1;have l2:=g2.qh hA.1;refine⟨[some (.im (.lst (bs.map bT))),some (.im (bT (uf (p.foldl uf yZ) x))),some (.im (bT x))],?_,by simp⟩;simp[turn,lT,Kh (p.foldl uf yZ) x (by lia)])
 subst h2;unfold kl ai;generalize lT=bb at h1 ⊢;have e:bT yZ=.tup [.tup [.int 0,.int 0]]:=rfl;rw[e] at h1;simp[h1,nA]
theorem j4 {α:Type}{is:List Nat}{g:T->Ev->Option Ev}{b:Sm}(enc ret:α->T) (test:α->Bool) (J0:Ev):∀ (xs:List α) (J:Ev),yC is J=J0->
  (∀ x∈xs,∃ J',yC is J'=J0/\turn g b (enc x) J0=some (if test x=true then .rt (ret x) else .nx J'))->
  xX is g b (xs.map enc) J=some (match xs.find? test with | some x=>.rt (ret x) | none=>.nx J0)
 | [],J,h,_=>by rw[A8,List.find?_nil,xX,h]
 | x::xs,J,h,ht=>by
  rw[Aq,j5,h];obtain⟨J',h1,h2⟩:=ht x Al;rw[h2,BP];by_cases c:test x=true
  .rw[if_pos c,c];rfl
  .rw[if_neg c];rw[Dl] at c;rw[c];exact j4 enc ret test J0 xs J' h1 λ y hy=>ht y (Av _ hy)
def WK (i a b:Int):ke [.int i,.int a,.int b]=some (.bl (decide (a<=i)&&decide (i<=b))):=by
 have h:i5 [.int i]=some (.bl true):=by simp[i5,bW,u6]
 by_cases h1:a<=i <;> by_cases h2:i<=b <;> simp[ke,bV,h,h1,h2]
def i6 (F:zw) (p:Nat) (h:p<F.os.length):su [zr F,.int p]=some .zl:=by
 have h1:=WK p 0 ((F.os.length:Int)-1);rw[show decide ((0:Int)<=p)=true from za2 (by lia),show decide ((p:Int)<=(F.os.length:Int)-1)=true from za2 (by lia)] at h1;have h2:=WN F;unfold su ae;generalize zr F=fl at *;simp[h1,h2]
def MF (pu:Bool) (A B:Int) (sp gv gt:Int) (x y:Int) (hg:1<=gv) (b0 b1:T) (hb:zh b0 (.int (w_ pu))=some (.int (if pu=true then B else A))) (hs2:zh b1 (.int 2)=some (.int gv)) (hs3:zh b1 (.int 3)=some (.int gt)) (pr:T):
  ∀ (n m:Nat) (g t:Int) (acc:Bd),(if pu=true then B else A)+1-g<=n->n<m->acc.length+n<=1000->
  ∃ g' t',xN [] (zM (zb tR (zc 5) (zb zh (zc 0) (zc 3)))) qz m [some (.im b0),some (.im b1),some (.im pr),some (.im (.int (w_ pu))),some (.own (.lst (acc.map zf))),some (.im (.int g)),some (.im (.int t))]
   = some (.nx [some (.im b0),some (.im b1),some (.im pr),some (.im (.int (w_ pu))),some (.own (.lst ((acc++wo pu (if pu=true then B else A) gv gt n g t).map zf))),some (.im (.int g')),some (.im (.int t'))]):=by
 have Bk:∀ (m:Nat) (g t:Int) (acc:Bd),¬ g<=(if pu=true then B else A)->xN [] (zM (zb tR (zc 5) (zb zh (zc 0) (zc 3)))) qz (m+1) [some (.im b0),some (.im b1),some (.im pr),some (.im (.int (w_ pu))),some (.own (.lst (acc.map zf))),some (.im (.int g)),some (.im (.int t))]
   = some (.nx [some (.im b0),some (.im b1),some (.im pr),some (.im (.int (w_ pu))),some (.own (.lst (acc.map zf))),some (.im (.int g)),some (.im (.int t))]):=λ m g t acc hn=>by
  unfold xN;simp only[zh] at hb;simp[hb,hn]
 intro n
 induction n with
 | zero=>
  intro m g t acc h1 h2 h3;obtain⟨m,rfl⟩:∃ k,m=k+1:=⟨m-1,by lia⟩
  refine⟨g,t,?_⟩;rw[Bk m g t acc (by lia)];simp[wo]
 | succ n ih=>
  intro m g t acc h1 h2 h3;obtain⟨m,rfl⟩:∃ k,m=k+1:=⟨m-1,by lia⟩
  by_cases hc:g<=(if pu=true then B else A)
  .obtain⟨g',t',e⟩:=ih m (g+gv) (yS (t-gt)) (acc++[xl pu g t]) (by lia) (by lia) (by simp;lia);refine⟨g',t',?_⟩;have hb1:qz [some (.im b0),some (.im b1),some (.im pr),some (.im (.int (w_ pu))),some (.own (.lst (acc.map zf))),some (.im (.int g)),some (.im (.int t))]=some (.nx [some (.im b0),some (.im b1),some (.im pr),some (.im (.int (w_ pu))),some (.own (.lst ((acc++[xl pu g t]).map zf))),some (.im (.int (g+gv))),some (.im (.int (yS (t-gt))))]):=by
    simp only[zh] at hs2 hs3;have hl:acc.length<16777216:=by lia
    unfold qz;cases pu <;> simp[w_,eq_int,hs2,hs3,hl,pD,yS,xl,zf]
   unfold xN;simp only[zh] at hb;generalize qz=bb at *;have e2:wo pu (if pu=true then B else A) gv gt (n+1) g t=xl pu g t::wo pu (if pu=true then B else A) gv gt n (g+gv) (yS (t-gt)):=by
    rw[wo,if_pos hc]
   rw[e2];simp only[DS,List.singleton_append] at e;simp[hb,hc,hb1];simpa using e
  .refine⟨g,t,?_⟩;rw[Bk m g t acc hc,wo,if_neg hc,CB]
def Kd {F:zw}(ok:F.Ok) (s:Sl) (hs:1<=s.gv/\0<=s.gt) (p:Int×Int) (h0:0<=p.1/\0<=p.2):l_ [.tup [.int F.A,.int F.B],yH s,zf p]=some (.lst ((xq F s p).map zf)):=by
 obtain⟨sp,pu,gv,gt⟩:=s;have a1:=ok.a1;have b1:=ok.b1;obtain⟨g',t',h⟩:=MF pu F.A F.B sp gv gt p.1 p.2 hs.1 (.tup [.int F.A,.int F.B]) (yH ⟨sp,pu,gv,gt⟩) (by cases pu <;> simp[w_]) (by simp[yH]) (by simp[yH]) (zf p) 100 1000000 (yc pu p) (y8 pu p) [] (by cases pu <;> simp[yc] <;> lia) (by decide) (by simp);unfold l_ bC qL;generalize hb:qz=bb at h ⊢;unfold xq zw.ya;simp only[A8,List.nil_append] at h;cases pu <;> simp[yH,w_,zf,yc,y8] at h ⊢ <;> simp[h]
def LM (F:zw) (p:Nat) (h:p<F.os.length) (hl:F.ss.length<=60):og [zr F,.int p]=some (match F.stall p with | some s=>yH s | none=>.zl):=by
 have hl':=j4 (is:=[2]) (g:=zC 2) (b:=nB) yH yH (λ s=>decide (s.p=p)) [some (.im (zr F)),some (.im (.int p)),none] F.ss [some (.im (zr F)),some (.im (.int p)),none] (by simp) λ s _=>⟨[some (.im (zr F)),some (.im (.int p)),some (.im (yH s))],by simp,by
  by_cases c:s.p=p
  .simp[turn,nB,yH,eq_int,c]
  .have c':¬ ((s.p:Int)=(p:Int)):=by lia
   simp[turn,nB,yH,eq_int,c,c']⟩
 have h1:=i6 F p h;have h2:zh (zr F) (.int 3)=some (.tup (F.ss.map yH)):=by simp[zr]
 unfold og b9;generalize nB=bb,zr F=fl at *;simp only[zh] at h2;unfold zw.stall;generalize F.ss.find? _=o at *;simp[h1,h2,hl'];cases o <;> simp
theorem Xw:∀ (ws:List Wy) (k:Nat),sZ k (ws.map zQ)=(ws.zipIdx k).map λ wi=>T.tup [.int (wi.2:Int),zQ wi.1]
 | [],k=>rfl
 | w::ws,k=>by
  rw[Aq,sZ,Xw ws (k+1),Dp,Aq]
theorem k6 (f:Wy->Bool):∀ (ws:List Wy) (k:Nat),((ws.zipIdx k).filter λ wi=>f wi.1).map (λ wi=>wi.1)=ws.filter f
 | [],k=>rfl
 | w::ws,k=>by
  rw[Dp,List.filter_cons,List.filter_cons];by_cases c:f w=true
  .rw[if_pos (by exact c),if_pos c,Aq,k6 f ws]
  .rw[if_neg (by exact c),if_neg c,k6 f ws]
def WM (F:zw) (p:Nat) (h:p<F.os.length) (hl:F.ws.length<=60):rD [zr F,.int p]=some (.lst (((F.ws.zipIdx).filter λ wi=>decide (wi.1.f=p)).map λ wi=>T.int (wi.2:Int))):=by
 have hc:lE [some (.im (zr F)),some (.im (.int p))]=some (.lst (((F.ws.zipIdx).filter λ wi=>decide (wi.1.f=p)).map λ wi=>T.int (wi.2:Int))):=by
  have:=pA (λ wi:Wy×Nat=>T.tup [.int (wi.2:Int),zQ wi.1]) (λ wi=>if wi.1.f=p then some (T.int (wi.2:Int)) else none) (pick:=[none,none,some 1]) (it:=wg ue (za (zb zh (zc 0) (cI 2)) zj)) (g:=wD 2 (yy (zC 0) (yy (zC 1) vb))) (c:=zM (zb (zJ false) (zb zh (zc 1) (cI 0)) (zc 2))) (f:=zk 0) (J:=[some (.im (zr F)),some (.im (.int p))]) (F.ws.zipIdx) (by
   rw[<- Xw];simp[zr]) (by simp;lia) (λ wi _=>by
   by_cases c:wi.1.f=p
   .simp[zQ,eq_int,c]
   .have c':¬ ((wi.1.f:Int)=(p:Int)):=by lia
    simp[zQ,eq_int,c,c'])
  unfold lE;rw[this];congr 2
  induction F.ws.zipIdx with
  | nil=>rfl
  | cons a l ih=>by_cases c:a.1.f=p <;> simp[Cg,c,ih]
 have h1:=i6 F p h;unfold rD b7;generalize lE=cc,zr F=fl at *;generalize List.map (λ wi:Wy×Nat=>T.int (wi.2:Int)) _=LL at *;simp[h1,hc]
theorem Xt:∀ (b c:Bd),xQ (b.map zf) (c.map zf)=decide (b=c)
 | [],[]=>by simp[xQ]
 | [],_::_=>by simp[xQ]
 | _::_,[]=>by simp[xQ]
 | p::b,q::c=>by
  have h:=Xt b c;have e:eqT (zf p) (zf q)=decide (p=q):=by
   obtain⟨p1,p2⟩:=p;obtain⟨q1,q2⟩:=q;by_cases h1:p1=q1 <;> by_cases h2:p2=q2 <;> simp[zf,eqT,xQ,h1,h2]
  rw[Aq,Aq,xQ,e,h];by_cases h1:p=q <;> by_cases h2:b=c <;> simp[h1,h2]
def P_ (b c:Bd):zJ true (bT b) (bT c)=some (.bl (decide (b≠c))):=by
 have h1:dep (bT b)<=60:=X7 b;have h2:dep (bT c)<=60:=X7 c;unfold zJ;rw[if_pos ⟨h1,h2⟩];show some (T.bl (!(xQ (b.map zf) (c.map zf))))=_;rw[Xt];by_cases h:b=c <;> simp[h]
def oU (l:List Bd) (p:Nat) (h:p<l.length):zh (rT l) (.int p)=some (bT (l.getD p [])):=by
 show L2.zZ (l.map bT) (p:Int)=_;refine wq ?_;rw[Ay,AH h,AI,AH h];rfl
def Kc {F:zw}(ok:F.Ok) (p:Nat) (hp:p<F.os.length) (b:Bd) (hb:Gd F.A F.B b):n_ [zr F,.int p,bT b]=some (bT (match F.stall p with | none=>b | some s=>pN F s b)):=by
 have h1:=LM F p hp ok.s8;cases hs:F.stall p with
 | none=>
  rw[hs] at h1;unfold n_ iI;generalize og=f1 at h1 ⊢;generalize zr F=fl,bT b=bb at *;have is1:w6 false .zl .zl=some (.bl true):=rfl;simp[h1,is1]
 | some s=>
  rw[hs] at h1;replace h1:og [zr F,.int p]=some (yH s):=h1;have AU:s∈F.ss:=Dm hs;have hsz:=ok.ss s AU;have h64:(F.A+1)*(F.B+1)<64:=by
   rcases ok.sl with x | x
   .rw[x] at AU;cases AU
   .exact x
  have a0:=ok.a0;have b0:=ok.b0;have Eh:∀ x∈b,((xq F s x).length:Int)<=F.ya s.pu+1:=λ x hx=>by
   have q:=hb.wj x hx;have:=Wh s.pu (F.ya s.pu) s.gv s.gt hsz.1 100 (yc s.pu x) (y8 s.pu x) (by unfold zw.ya yc;split <;> lia);have g0:0<=yc s.pu x:=by unfold yc;split <;> lia
   unfold xq;lia
  have Az:∀ q:Bd,(∀ x∈q,x∈b)->((q.flatMap (xq F s)).length:Int)<=q.length*(F.ya s.pu+1):=λ q=>by
   induction q with
   | nil=>intro _;simp
   | cons x q ih=>
    intro hq;have i1:=ih λ y hy=>hq y (Av _ hy);have i2:=Eh x (hq x Al);rw[List.flatMap_cons,Bf,AW,CN,CN,Ct];lia
  have hlen:(b.flatMap (xq F s)).length<64:=by
   have h2:=Az b λ _ h=>h;have l1:=hb.qh a0;have l2:=hb.O5 b0;have:((b.flatMap (xq F s)).length:Int)<64:=by
    refine Int.lt_of_le_of_lt h2 (Int.lt_of_le_of_lt ?_ h64);unfold zw.ya;split
    .exact zcB l1 (by lia)
    .rw[Int.mul_comm (F.A+1)];exact zcB l2 (by lia)
   lia
  have EC:zh (zr F) (.int 0)=some (.tup [.int F.A,.int F.B]):=by simp[zr]
  obtain⟨J',h2,h3⟩:=vB (is:=[5]) (g:=zC 5) (b:=lU) zf (λ q J=>J=[some (.im (zr F)),some (.im (.int p)),some (.im (bT b)),some (.im (yH s)),some (.own (.lst ((q.flatMap (xq F s)).map zf))),none]) b [some (.im (zr F)),some (.im (.int p)),some (.im (bT b)),some (.im (yH s)),some (.own (.lst [])),none] rfl (by
   rintro q x r e J rfl;have hx:x∈b:=by rw[e];simp
   have q1:=hb.wj x hx;have hF:=Kd ok s hsz x ⟨q1.1.1,q1.2.1⟩;have hl2:(q.flatMap (xq F s)).length+(xq F s x).length<=16777216:=by
    have e2:(b.flatMap (xq F s)).length=(q.flatMap (xq F s)).length+((xq F s x).length+(r.flatMap (xq F s)).length):=by rw[e];simp
    lia
   refine⟨[some (.im (zr F)),some (.im (.int p)),some (.im (bT b)),some (.im (yH s)),some (.own (.lst (((q++[x]).flatMap (xq F s)).map zf))),some (.im (zf x))],?_,by simp⟩;have e3:((q++[x]).flatMap (xq F s)).map zf=(q.flatMap (xq F s)).map zf++(xq F s x).map zf:=by simp
   rw[e3];unfold turn lU;have l3:((q.flatMap (xq F s)).map zf).length+((xq F s x).map zf).length<=16777216:=by simpa using hl2
   generalize l_=ff,(q.flatMap (xq F s)).map zf=L1,(xq F s x).map zf=L2,zr F=fl at *;simp only[zh] at EC;simp[EC,hF,l3])
  subst h3;have hF:=i4 (b.flatMap (xq F s)) hlen;have nn:w6 false (yH s) .zl=some (.bl false):=rfl;unfold n_ iI;generalize lU=bb,rF=ff,og=f1,(b.flatMap (xq F s)).map zf=L1 at *;have hbT:wc (bT b)=some (b.map zf):=rfl;generalize bT b=bt,zr F=fl,yH s=st at *;simp[h1,nn,hbT,h2,hF];rfl
def LU {F:zw}(ok:F.Ok) (p:Nat) (hp:p<F.os.length) (l:List Bd) (hl:l.length=F.os.length) (hg:∀ b∈l,Gd F.A F.B b):ka [zr F,.int p,rT l]=some (bT (y6 F l p)):=by
 have h1:=WM F p hp ok.uQ;have hw2:zh (zr F) (.int 2)=some (.tup (F.ws.map zQ)):=by simp[zr]
 have hw0:zh (zr F) (.int 0)=some (.tup [.int F.A,.int F.B]):=by simp[zr]
 have hw1:zh (zr F) (.int 1)=some (.tup (F.os.map kt)):=by simp[zr]
 have c1:lG [some (.im (zr F)),some (.im (.int p)),some (.im (rT l)),none,none]=some (.lst ((F.ws.filter λ w=>decide (w.f=p)).map zQ)):=by
  rw[<- k6 (λ w=>decide (w.f=p)) F.ws 0,AQ];unfold lG;refine sS (λ wi:Wy×Nat=>T.int (wi.2:Int)) _ ((F.ws.zipIdx).filter λ wi=>decide (wi.1.f=p)) ?_ (A9 (Ca _ _) (by rw[List.length_zipIdx];have:=ok.uQ;lia)) λ wi CF=>?_
  .generalize rD=ff at *;simp[h1]
  .have hm:=(AV.mp CF).1;have hg:=zcC.mp hm;have:L2.zZ (F.ws.map zQ) (wi.2:Int)=some (zQ wi.1):=by
    exact wq (by rw[Ay,hg];rfl)
   generalize zr F=fl at *;simp only[zh] at hw2;simp[hw2,this]
 have c2:lC [some (.im (zr F)),some (.im (.int p)),some (.im (rT l)),some (.im (.lst ((F.ws.filter λ w=>decide (w.f=p)).map zQ))),none]=some (.lst ((wu F l p).map bT)):=by
  unfold wu;rw[AQ];unfold lC;refine sS zQ _ (F.ws.filter λ w=>decide (w.f=p)) (by simp) (A9 (Ca _ _) (by have:=ok.uQ;lia)) λ w hw=>?_;have hm:=(AV.mp hw).1;have ht:w.t<l.length:=by rw[hl];exact (ok.ws w hm).2
  have e1:=oU l w.t ht;have gb:Gd F.A F.B (l.getD w.t []):=by
   rw[AI,AH ht];exact hg _ (Bn ht)
  have l13:=gb.qh ok.a0;have a12:=ok.a1;have hF:=Kj F.A F.B w (l.getD w.t []) (by lia);have e2:zh (zQ w) (.int 1)=some (.int (w.t:Int)):=by simp[zQ]
  obtain⟨bd,hbd⟩:∃ bd,l.getD w.t []=bd:=⟨_,rfl⟩
  rw[hbd] at e1 gb hF;have ED:(l[w.t]?).getD []=bd:=by rw[<- hbd,AI]
  generalize kq=ff,zr F=fl,rT l=rt,zQ w=wt at *;simp only[zh] at hw0 e1 e2;simp[hw0,e1,e2,hF,ED]
 have gah:=j_ F l p;have c3:=L_ ⟨ok.a0,ok.a1⟩ (wu F l p) gah;have c4:=Kg ⟨ok.a0,ok.a1⟩ ok.b0 (wu F l p) gah;have c5:=Kc ok p hp (uF (wu F l p)) (lh _ _ Gd.nil gah);have ho:L2.zZ (F.os.map kt) (p:Int)=some (kt (F.os.getD p false)):=by
  refine wq ?_;rw[Ay,AH hp,AI,AH hp];rfl
 have hk:∀ b:Bool,zJ false (kt b) (.str "keeper")=some (.bl b):=λ b=>by cases b <;> rfl
 unfold ka bE;generalize lG=d1,lC=d2,kj=f1,kl=f2,n_=f3,((F.ws.filter λ w=>decide (w.f=p)).map zQ)=L1,zr F=fl,rT l=rt at *;unfold y6;have hk':=hk (F.os.getD p false);generalize F.os.getD p false=kb at *;generalize kt kb=ktb at *;generalize (T.str "keeper")=ks at *;simp only[zh] at hw1;cases kb with
 | true=>
  simp[c1,c2,hw1,ho,hk',c3,c5]
  all_goals (cases F.stall p <;> rfl)
 | false=>simp[c1,c2,hw1,ho,hk',c4]
theorem nj {α β:Type}(c:α->Bool) (g:α->β):∀ l:List α,l.filterMap (λ x=>if c x=true then some (g x) else none)=(l.filter c).map g
 | []=>rfl
 | a::l=>by by_cases h:c a=true <;> simp[Cg,h,nj c g l]
def Nm (t:Nat) (fr:List Nat):oW false (.int t) (.lst (fr.map λ(k:Nat)=>T.int (k:Int)))=some (.bl (fr.contains t)):=by
 have d1:yE (fr.map λ(k:Nat)=>T.int (k:Int))<=60:=by
  refine jQ _ 60 (λ x=>?_) fr;simp[dep]
 have d0:dep (.int (t:Int))<=60:=by simp[dep]
 unfold oW;show (if dep (.int (t:Int))<=60/\yE (fr.map λ(k:Nat)=>T.int (k:Int))<=60 then _ else _)=_;rw[if_pos ⟨d0,d1⟩];show some (T.bl ((fr.map λ(k:Nat)=>T.int (k:Int)).any λ x=>eqT x (.int t)))=_;congr 2;rw[A5,AM,List.contains_iff_mem];constructor
 .rintro⟨x,hx,h⟩;obtain⟨k,hk,rfl⟩:=An.mp hx;have:(k:Int)=(t:Int):=by simpa [eqT] using h
  have:k=t:=by lia
  subst this;exact hk
 .intro h;exact⟨_,An.mpr ⟨t,h,rfl⟩,by simp[eqT]⟩
def LS {F:zw}(ok:F.Ok) (last:List Bd) (fr:List Nat) (hl:last.length=F.os.length) (hg:∀ b∈last,Gd F.A F.B b):
  nR [zr F,rT last,.lst (fr.map λ(k:Nat)=>T.int (k:Int))]=some (rT (ym F last fr)):=by
 have hw2:zh (zr F) (.int 2)=some (.tup (F.ws.map zQ)):=by simp[zr]
 have c1:lF [some (.im (zr F)),some (.im (rT last)),some (.im (.lst (fr.map λ(k:Nat)=>T.int (k:Int)))),some (.own (.lst (last.map bT))),none]=some (.lst (((F.ws.filter λ w=>fr.contains w.t).map λ w=>(w.f:Int)).map T.int)):=by
  have:=pA zQ (λ w=>if fr.contains w.t=true then some (T.int (w.f:Int)) else none) (pick:=[none,some 2]) (it:=xn (zb zh (zc 0) (cI 2))) (g:=zC 0) (c:=zM (zb (oW false) (zb zh (zc 0) (cI 1)) (zc 1))) (f:=zb zh (zc 0) (cI 0)) (J:=[some (.im (zr F)),some (.im (rT last)),some (.im (.lst (fr.map λ(k:Nat)=>T.int (k:Int)))),some (.own (.lst (last.map bT))),none]) F.ws (by
    generalize zr F=fl at *;simp only[zh] at hw2;simp[hw2]) (by have:=ok.uQ;lia) (λ w _=>by
   have hi:=Nm w.t fr;generalize (T.lst (fr.map λ(k:Nat)=>T.int (k:Int)))=ft,fr.contains w.t=cb at *;cases cb <;> simp[zQ,hi])
  unfold lF;rw[this];rw[nj (λ w:Wy=>fr.contains w.t) (λ w:Wy=>T.int (w.f:Int)),AQ];rfl
 have C5:qR [.lst (((F.ws.filter λ w=>fr.contains w.t).map λ w=>(w.f:Int)).map T.int)]=some (.lst ((wX ((F.ws.filter λ w=>fr.contains w.t).map λ w=>(w.f:Int))).map T.int)):=by
  show (match vd (((F.ws.filter λ w=>fr.contains w.t).map λ w=>(w.f:Int)).map T.int) with | some ns=>_ | none=>_)=_;rw[jB];refine if_pos ?_;have:=Ca (λ w:Wy=>fr.contains w.t) F.ws;have:=ok.uQ;simp only[Aw];lia
 have AU:∀ k∈wX ((F.ws.filter λ w=>fr.contains w.t).map λ w=>(w.f:Int)),∃ p:Nat,k=(p:Int)/\p<F.os.length/\uY F fr p=true:=λ k hk=>by
  obtain⟨w,hw,rfl⟩:=An.mp (jv.mp hk);obtain⟨w1,w2⟩:=AV.mp hw;exact⟨w.f,rfl,(ok.ws w w1).1,AM.mpr ⟨w,w1,by simpa using w2⟩⟩
 have D7:∀ p:Nat,uY F fr p=true->(p:Int)∈wX ((F.ws.filter λ w=>fr.contains w.t).map λ w=>(w.f:Int)):=λ p h=>by
  obtain⟨w,w1,w2⟩:=AM.mp h;have w3:w.f=p/\fr.contains w.t=true:=by simpa using w2
  exact jv.mpr (An.mpr ⟨w,AV.mpr ⟨w1,w3.2⟩,by rw[w3.1]⟩)
 generalize wX ((F.ws.filter λ w=>fr.contains w.t).map λ w=>(w.f:Int))=up at *;have ft:∃ t,(T.lst (fr.map λ(k:Nat)=>T.int (k:Int)))=t:=⟨_,rfl⟩
 obtain⟨J',h1,h2⟩:=vB (is:=[4]) (g:=zC 4) (b:=lM) T.int (λ pre J=>J=[some (.im (zr F)),some (.im (rT last)),some (.im (.lst (fr.map λ(k:Nat)=>T.int (k:Int)))),some (.own (.lst (((List.range last.length).map λ(p:Nat)=>if (p:Int)∈pre then y6 F last p else last.getD p []).map bT))),none]) up
   [some (.im (zr F)),some (.im (rT last)),some (.im (.lst (fr.map λ(k:Nat)=>T.int (k:Int)))),some (.own (.lst (last.map bT))),none] (by
  have e:(List.range last.length).map (λ(p:Nat)=>if (p:Int)∈([]:List Int) then y6 F last p else last.getD p [])=last:=by
   refine BD (by simp) λ i h1 h2=>?_;simp[h2]
  rw[e];rfl) (by
  rintro pre k q e J rfl;obtain⟨p,rfl,hp,hw⟩:=AU k (by rw[e];simp);have hF:=LU ok p hp last hl hg;refine⟨[some (.im (zr F)),some (.im (rT last)),some (.im (.lst (fr.map λ(k:Nat)=>T.int (k:Int)))),some (.own (.lst (((List.range last.length).map λ(i:Nat)=>if (i:Int)∈pre++[(p:Int)] then y6 F last i else last.getD i []).map bT))),some (.im (.int p))],?_,by simp⟩;have Eb:(((List.range last.length).map λ(i:Nat)=>if (i:Int)∈pre then y6 F last i else last.getD i []).map bT).set p (bT (y6 F last p))=((List.range last.length).map λ(i:Nat)=>if (i:Int)∈pre++[(p:Int)] then y6 F last i else last.getD i []).map bT:=by
   refine BD (by simp) λ i h1 h2=>?_;rw[List.getElem_set];simp only[List.getElem_map,D2,AX,AR];by_cases c:p=i
   .subst c;simp
   .have c':¬ ((i:Int)=(p:Int)):=by lia
    simp[c,c']
  have DI:wR (((List.range last.length).map λ(i:Nat)=>if (i:Int)∈pre then y6 F last i else last.getD i []).map bT).length (p:Int)=some p:=by
   unfold wR;simp only[Aw,Bg];rw[if_pos (by lia),if_pos (by lia),Cv]
  rw[<- Eb];unfold turn lM;generalize ka=ff,(((List.range last.length).map λ(i:Nat)=>if (i:Int)∈pre then y6 F last i else last.getD i []).map bT)=LL,zr F=fl,rT last=rl,(T.lst (fr.map λ(k:Nat)=>T.int (k:Int)))=ftt at *;simp[hF,DI])
 subst h2;have fin:((List.range last.length).map λ(p:Nat)=>if (p:Int)∈up then y6 F last p else last.getD p [])=ym F last fr:=by
  unfold ym;refine Cy λ p hp=>?_;by_cases c:uY F fr p=true
  .rw[if_pos c,if_pos (D7 p c)]
  .rw[if_neg c,if_neg λ h=>c (by obtain⟨p',e,_,h'⟩:=AU _ h;exact (show p'=p by lia)▸h')]
 rw[fin] at h1;have hlist:listS [rT last]=some (.lst (last.map bT)):=rfl;unfold nR bD;generalize lF=cc,lM=bb,(((F.ws.filter λ w=>fr.contains w.t).map λ w=>(w.f:Int)).map T.int)=L1 at *;generalize hup:up.map T.int=L2 at *;generalize last.map bT=L3,zr F=fl at *;have Cm:wc (rT last)=some L3:=by simpa using hlist
 generalize rT last=rl,(T.lst (fr.map λ(k:Nat)=>T.int (k:Int)))=ftt at *;simp[Cm,c1,C5,h1,rT]
theorem dG {α:Type}(enc:α->T) (d:α) (fo:List α):∀ (l:List α) (k:Nat),(∀ i,l.getD i d=fo.getD (k+i) d)->sZ k (l.map enc)=(List.range l.length).map λ(p:Nat)=>T.tup [.int ((k+p:Nat):Int),enc (fo.getD (k+p) d)]
 | [],k,_=>rfl
 | b::l,k,h=>by
  have h0:=h 0;rw[Aq,sZ,dG enc d fo l (k+1) λ i=>by have:=h (i+1);rw[show k+1+i=k+(i+1) from by lia];simpa using this];rw[AW,CV,Aq,AQ];have e:b=fo.getD k d:=by simpa using h0
  congr 1
  .rw[e];rfl
  .refine Cy λ p _=>?_;simp only[Function.comp];rw[show k+1+p=k+Nat.succ p from by lia]
noncomputable def xG (fr:List Nat):T:=.lst (fr.map λ(k:Nat)=>T.int (k:Int))
def Ll (a:T) (b c:Option L5.W) (last fo:List Bd) (hl:fo.length=last.length) (h16:fo.length<=10000):nu [some (.im a),b,c,some (.im (rT last)),some (.im (rT fo))]=some (xG (xO last fo)):=by
 have:=pA (λ p:Nat=>T.tup [.int (p:Int),bT (fo.getD p [])]) (λ p=>if decide (fo.getD p []≠last.getD p [])=true then some (T.int (p:Int)) else none) (pick:=[none,none,some 3]) (it:=wg ue (za (zc 4) zj)) (g:=wD 2 (yy (zC 0) (yy (zC 1) vb))) (c:=zM (zb (zJ true) (zc 1) (zb zh (zc 2) (zc 0)))) (f:=zk 0) (J:=[some (.im a),b,c,some (.im (rT last)),some (.im (rT fo))]) (List.range fo.length) (by
   have:=dG bT [] fo fo 0 λ i=>by rw[CP]
   simp only[CP] at this;have e:ue [rT fo]=some (sZ 0 (fo.map bT)):=rfl;rw[<- this];generalize ue=en at *;simp[e]) (by simp;lia) (λ p hp=>by
  have hp':p<last.length:=by rw[<- hl];exact AA.mp hp
  have h1:=oU last p hp';have h2:=P_ (fo.getD p []) (last.getD p []);generalize fo.getD p []=x,last.getD p []=y,rT last=rl at *;generalize decide (x≠y)=d at *;simp only[zh] at h1;cases d <;> simp[h1,h2])
 unfold nu;rw[this,nj (λ p:Nat=>decide (fo.getD p []≠last.getD p [])) (λ p:Nat=>T.int (p:Int))];rfl
theorem Zo {F:zw}(ok:F.Ok):∀ (n:Nat) (pre:List (List Bd)) (last:List Bd) (fr:List Nat) (res:List (List Bd)),St F last fr->rW F n pre last fr=some res->pre.length+n<=10000->∀ (m:Nat),n<m->∀ x3 x4:Option L5.W,
  ∃ fr',xN [3,4] (xx (zc 2)) tw m [some (.im (zr F)),some (.own (.lst ((pre++[last]).map rT))),some (.im (xG fr)),x3,x4]=some (.nx [some (.im (zr F)),some (.own (.lst (res.map rT))),some (.im fr'),none,none])
 | 0,_,_,_,_,_,h,_,_,_,_,_=>by cases h
 | n+1,pre,last,fr,res,s,h,hn,m,hm,x3,x4=>by
  have Bk:∀ (m:Nat) (told:List (List Bd)) (x3 x4:Option L5.W),xN [3,4] (xx (zc 2)) tw (m+1) [some (.im (zr F)),some (.own (.lst (told.map rT))),some (.im (xG [])),x3,x4]=some (.nx [some (.im (zr F)),some (.own (.lst (told.map rT))),some (.im (xG [])),none,none]):=λ m told x3 x4=>by
   unfold xN;simp[xG]
  obtain⟨m,rfl⟩:∃ k,m=k+1:=⟨m-1,by lia⟩
  unfold rW at h;by_cases A6:fr=[]
  .rw[if_pos A6] at h;cases h;subst A6;exact⟨_,Bk m _ x3 x4⟩
  .rw[if_neg A6] at h;dsimp only at h;have hlen:=s.len;have n8:=ok.n8;have hF:=LS ok last fr s.len s.gd;have hlast:zh (.lst ((pre++[last]).map rT)) (.int (-1))=some (rT last):=by
    show L2.zZ ((pre++[last]).map rT) (-1)=_;rw[Bm];exact lV _ _
   have hc:=λ b c=>Ll (zr F) b c last (ym F last fr) (qd ..) (by rw[qd,s.len];lia);have Aj:rQ (xG fr)=some true:=by
    cases fr with
    | nil=>exact absurd rfl A6
    | cons a l=>rfl
   have hb:∃ told',tw [some (.im (zr F)),some (.own (.lst ((pre++[last]).map rT))),some (.im (xG fr)),none,none]=some (.nx [some (.im (zr F)),some (.own (.lst (told'.map rT))),some (.im (xG (xO last (ym F last fr)))),some (.im (rT last)),some (.im (rT (ym F last fr)))])/\told'=if xO last (ym F last fr)=[] then pre++[last] else pre++[last]++[ym F last fr]:=by
    have hl2:((pre++[last]).map rT).length<16777216:=by simp;lia
    by_cases hf:xO last (ym F last fr)=[]
    .refine⟨pre++[last],?_,by rw[if_pos hf]⟩;have ht:rQ (xG (xO last (ym F last fr)))=some false:=by rw[hf];rfl
     unfold tw;generalize nu=cc,nR=ff,(pre++[last]).map rT=L1,xG (xO last (ym F last fr))=f2 at *;unfold xG at *;simp only[zh] at hlast;generalize (T.lst (fr.map λ(k:Nat)=>T.int (k:Int)))=f1,rT (ym F last fr)=r2,rT last=r1 at *;simp only[wc] at hlast;simp[-rQ,hlast,hF,hc,ht]
    .refine⟨pre++[last]++[ym F last fr],?_,by rw[if_neg hf]⟩;have ht:rQ (xG (xO last (ym F last fr)))=some true:=by
      cases e:xO last (ym F last fr) with
      | nil=>exact absurd e hf
      | cons a l=>rfl
     have e2:(pre++[last]++[ym F last fr]).map rT=(pre++[last]).map rT++[rT (ym F last fr)]:=by simp
     rw[e2];unfold tw;generalize nu=cc,nR=ff,(pre++[last]).map rT=L1,xG (xO last (ym F last fr))=f2 at *;unfold xG at *;simp only[zh] at hlast;generalize (T.lst (fr.map λ(k:Nat)=>T.int (k:Int)))=f1,rT (ym F last fr)=r2,rT last=r1 at *;simp only[wc] at hlast;simp[-rQ,hlast,hF,hc,ht,hl2]
   obtain⟨told',hb1,hb2⟩:=hb;have key:∀ R,xN [3,4] (xx (zc 2)) tw m [some (.im (zr F)),some (.own (.lst (told'.map rT))),some (.im (xG (xO last (ym F last fr)))),some (.im (rT last)),some (.im (rT (ym F last fr)))]=R->xN [3,4] (xx (zc 2)) tw (m+1) [some (.im (zr F)),some (.own (.lst ((pre++[last]).map rT))),some (.im (xG fr)),x3,x4]=R:=λ R e=>by
    rw[xN];generalize CK:tw=bb at *;generalize Em:xN [3,4] (xx (zc 2)) bb m=lw at *;have hf:yC [3,4] [some (.im (zr F)),some (.own (.lst ((pre++[last]).map rT))),some (.im (xG fr)),x3,x4]=[some (.im (zr F)),some (.own (.lst ((pre++[last]).map rT))),some (.im (xG fr)),none,none]:=rfl;rw[hf];have ht:xx (zc 2) [some (.im (zr F)),some (.own (.lst ((pre++[last]).map rT))),some (.im (xG fr)),none,none]=some true:=by
     generalize xG fr=f1 at *;simp[-rQ,Aj]
    rw[ht,A_,if_pos rfl,hb1,A_];exact e
   by_cases hf:xO last (ym F last fr)=[]
   .rw[if_pos hf] at h hb2;cases h;subst hb2;rw[hf] at key;obtain⟨m,rfl⟩:∃ k,m=k+1:=⟨m-1,by lia⟩
    exact⟨_,key _ (Bk m _ _ _)⟩
   .rw[if_neg hf] at h hb2;subst hb2;obtain⟨fr',e⟩:=Zo ok n (pre++[last]) (ym F last fr) (xO last (ym F last fr)) res (s.next ok) h (by simp;lia) m (by lia) (some (.im (rT last))) (some (.im (rT (ym F last fr))));exact⟨fr',key _ e⟩
def LO {F:zw}(ok:F.Ok):∃ more,vm [zr F]=some (.lst ((RN.start F::more).map rT))/\(∀ r∈RN.start F::more,r.length=F.os.length/\∀ b∈r,Gd F.A F.B b)/\more.length<=2000/\rW F 2000 [] (RN.start F) (List.range F.os.length)=some (RN.start F::more):=by
 have hmu:=Yq (RN.start F);have Bp:(RN.start F).length=F.os.length:=by unfold RN.start;simp
 have n8:=ok.n8;have n1:=ok.n1;obtain⟨more,last',e1,e2,_,e4⟩:=Zp ok 2000 [] (RN.start F) (List.range F.os.length) (St.start ok) (by lia);obtain⟨fr',e⟩:=Zo ok 2000 [] (RN.start F) (List.range F.os.length) _ (St.start ok) e1 (by simp) 1000000 (by decide) none none;refine⟨more,?_,e2,by lia,e1⟩;have hp:=WN F;have AZ:rT (RN.start F)=.lst (List.replicate F.os.length (.tup [.tup [.int 0,.int 0]])):=by
  unfold rT RN.start;rw[List.map_replicate];rfl
 have hmul:we (.lst [.tup [.tup [.int 0,.int 0]]]) (.int F.os.length)=some (rT (RN.start F)):=by
  rw[AZ];unfold we;dsimp only;rw[if_pos ⟨by simp,by lia,by lia,O1 (by simp;lia)⟩];have:∀ n:Nat,(List.replicate n [T.tup [.tup [.int 0,.int 0]]]).flatten=List.replicate n (.tup [.tup [.int 0,.int 0]]):=λ n=>by
   induction n with
   | zero=>rfl
   | succ n ih=>rw[BN,BN,B5,ih];rfl
  rw[Cv,this]
 have Bu:mR [.int F.os.length]=some (xG (List.range F.os.length)):=by
  show (if 0<=(F.os.length:Int)/\(F.os.length:Int)<=16777216 then some (T.lst (rangeT 0 (F.os.length:Int).toNat)) else none)=_;rw[if_pos ⟨by lia,by lia⟩];show some (T.lst ((List.range (F.os.length:Int).toNat).map λ(k:Nat)=>T.int (0+(k:Int))))=_;rw[Cv];unfold xG;simp
 unfold vm bA qL;generalize tw=bb,oh=ff,mR=lr at *;simp only[List.nil_append,Aq,A8] at e;generalize xG (List.range F.os.length)=f1 at *;rw[Aq];generalize rT (RN.start F)=r0,zr F=fl at *;generalize Em:xN [3,4] (xx (zc 2)) bb 1000000=lw at *;generalize we=mw at *;simp[hp,hmul,Bu,e]
def eB (i j:Int):we (.int i) (.int j)=if wI i j then some (.int (i*j)) else none:=rfl
def Nk {r:List Int}{rs:List (List Int)}:vd ((r::rs).map yv)=none:=rfl
def Uz (rs:List (List Int)) (h0:rs≠[]) (hl:rs.length<64) (hn:∀ r∈rs,r≠[]):qR [.lst (rs.map yv)]=some (.lst ((L4.wb (wO rs)).map yv)):=by
 cases rs with
 | nil=>exact absurd rfl h0
 | cons r rs=>
  show (match vd ((r::rs).map yv) with
   | some ns=>if ns.length<64 then some (T.lst ((wX ns).map T.int)) else none
   | none=>kL [T.lst ((r::rs).map yv)])=_
  rw[Nk];show (uv ((r::rs).map yv)).bind _=_;rw[fg,A_,if_pos ⟨hl,hn⟩]
def d_ (ns:List Int) (k:Nat):0<=cell ns k:=by
 unfold cell;split
 .exact CD _ (by decide)
 .exact AK _
def mF {L:List T}{P:Int->Prop}(hP:∀ y∈L,∃ v,y=.int v/\P v) {i:Int}(h0:0<=i) (h1:i<L.length):∃ v,L2.zZ L i=some (.int v)/\P v:=by
 have hl:i.toNat<L.length:=by lia
 have e:L2.zZ L i=some L[i.toNat]:=by
  have:=wq (k:=i.toNat) (AH hl);rw[Ci h0] at this;exact this
 obtain⟨v,e2,hv⟩:=hP _ (Bn hl);exact⟨v,by rw[e,e2],hv⟩
def WX (x:Int):∃ y,rH [.int x]=some (.int y):=by
 have d5:wx x 5:=⟨by decide,by decide⟩
 by_cases h:x%5=1
 .exact⟨_,by simp[rH,iG,eq_int,h,d5];rfl⟩
 .exact⟨_,by simp[rH,iG,eq_int,h,d5];rfl⟩
def LQ (ns:List Int) (many:Nat) (hm:many<=8):∃ os:List Bool,nW [zI ns,.int many]=some (.tup (os.map kt))/\os.length=many:=by
 have hc:=sy ns 2;generalize cell ns 2=num at *;obtain⟨J',h1,c,os,h2,h3⟩:=vB (is:=[4]) (g:=zC 4) (b:=lN) (λ k:Nat=>T.int (0+(k:Int))) (λ p J=>∃ (c:Int) (os:List Bool),J=[some (.im (zI ns)),some (.im (.int many)),some (.im (.int c)),some (.own (.lst (os.map kt))),none]/\os.length=p.length)
   (List.range many) [some (.im (zI ns)),some (.im (.int many)),some (.im (.int num)),some (.own (.lst [])),none] ⟨num,[],rfl,rfl⟩ (by
  rintro p k q e J ⟨c,os,rfl,r1⟩;have hp:p.length<many:=by have:=congrArg List.length e;simp at this;lia
  have hl:(os.map kt).length<16777216:=by simp;lia
  have d2:wx c 2:=⟨by decide,by decide⟩
  have pk:∃ b:Bool,L2.zZ [T.str "keeper",T.str "taker"] (c%2)=some (kt b):=by
   rcases Int.emod_two_eq c with h | h <;> rw[h]
   .exact⟨true,rfl⟩
   .exact⟨false,rfl⟩
  obtain⟨b,hb⟩:=pk;refine⟨[some (.im (zI ns)),some (.im (.int many)),some (.im (.int (c/2))),some (.own (.lst ((os++[b]).map kt))),some (.im (.int (0+(k:Int))))],?_,c/2,os++[b],by simp,by simp[r1]⟩;have e2:(os++[b]).map kt=os.map kt++[kt b]:=by simp
  rw[e2];unfold turn lN;generalize (T.str "keeper")=s1,(T.str "taker")=s2,kt b=kb,os.map kt=L,(0+(k:Int))=kk at *;simp[hb,hl,d2])
 subst h2;have hr:=sJ many (by lia);refine⟨os,?_,by simpa using h3⟩;unfold nW bI;generalize lN=bb,os.map kt=L,(List.range many).map (λ(k:Nat)=>T.int (0+(k:Int)))=R at *;have hc':yu [zI ns,.int 2]=some (.int num):=hc;generalize yu=fc,zI ns=sc at *;simp[hc',hr,h1]
def k5 (A B:Int):Prop:=(0<=A/\A<=12)/\(0<=B/\B<=12)/\((A=12/\B=12)\/(A+1)*(B+1)<64)
def k5.small {A B:Int}(h:0<=A/\A<=5) (h':0<=B/\B<=5):k5 A B:=by
 refine⟨⟨h.1,by lia⟩,⟨h'.1,by lia⟩,.inr ?_⟩;have:(A+1)*(B+1)<=6*6:=Int.mul_le_mul (by lia) (by lia) (by lia) (by decide);lia
def Kf (ns:List Int) (many:Nat):∃ A B:Int,nY [zI ns,.int many]=some (.tup [.int A,.int B])/\k5 A B:=by
 have hc:=sy ns 1;have c0:=d_ ns 1;generalize cell ns 1=num at *;have hc':yu [zI ns,.int 1]=some (.int num):=hc;have d8:wx num 8:=⟨by decide,by decide⟩
 have d64:wx num 64:=⟨by decide,by decide⟩
 obtain⟨x,hx,x0,x5⟩:=mF (L:=[T.int 3,.int 2,.int 4,.int 1,.int 5,.int 2,.int 3,.int 0]) (P:=λ v=>0<=v/\v<=5) (by intro y hy;simp only[Ai,Cs,or_false] at hy;rcases hy with rfl | rfl | rfl | rfl | rfl | rfl | rfl | rfl <;> exact⟨_,rfl,by decide,by decide⟩) (i:=num%8) (by lia) (by simp;lia);obtain⟨y,hy,y0,y5⟩:=mF (L:=[T.int 2,.int 3,.int 1,.int 4,.int 2,.int 5,.int 3,.int 0]) (P:=λ v=>0<=v/\v<=5) (by intro y hy;simp only[Ai,Cs,or_false] at hy;rcases hy with rfl | rfl | rfl | rfl | rfl | rfl | rfl | rfl <;> exact⟨_,rfl,by decide,by decide⟩) (i:=num/8%8) (by lia) (by simp;lia);have mn:∀ v:Int,0<=v->0<=(if 2<v then 2 else v)/\(if 2<v then 2 else v)<=5:=λ v hv=>by split <;> lia
 unfold nY bR;generalize yu=fc,zI ns=sc at *;by_cases h1:many>4
 .refine⟨_,_,?_,k5.small (mn x x0) (mn y y0)⟩;have h1':(4:Int)<many:=by lia
  simp[hc',hx,hy,d8,h1',pD]
 .have h1':¬ (4:Int)<many:=by lia
  by_cases h2:num/64%10=1
  .refine⟨12,y%3,?_,⟨⟨by decide,by decide⟩,⟨by lia,by lia⟩,.inr (by lia)⟩⟩;simp[hc',hx,hy,d8,h1',d64,eq_int,h2]
  .by_cases h3:num/64%10=2
   .refine⟨x%3,12,?_,⟨⟨by lia,by lia⟩,⟨by decide,by decide⟩,.inr (by lia)⟩⟩;simp[hc',hx,hy,d8,h1',d64,eq_int,h3]
   .by_cases h4:num/64%10=3/\many<3
    .refine⟨12,12,?_,⟨⟨by decide,by decide⟩,⟨by decide,by decide⟩,.inl ⟨rfl,rfl⟩⟩⟩;have h5:(many:Int)<3:=by lia
     simp[hc',hx,hy,d8,h1',d64,eq_int,h4.1,h5,yx]
    .refine⟨x,y,?_,k5.small ⟨x0,x5⟩ ⟨y0,y5⟩⟩;by_cases h6:num/64%10=3
     .have h5:¬ (many:Int)<3:=by lia
      simp[hc',hx,hy,d8,h1',d64,eq_int,h6,h5,yx]
     .simp[hc',hx,hy,d8,h1',d64,eq_int,h2,h3,h6]
def seq_eq {a b:Sm}{J J':Ev}(h:a J=some (.nx J')):zp a b J=b J':=by
 show (a J).bind _=_;rw[h];rfl
def qb {f:T->T->Option T}{fa fb:Ev->Option T}{J:Ev}{x y:T}{r:Option T}(h1:fa J=some x) (h2:fb J=some y) (h:f x y=r):zb f fa fb J=r:=by
 show (fa J).bind _=r;rw[h1];show (fb J).bind _=r;rw[h2];exact h
def Wv {i:Nat}{f:Ev->Option T}{J:Ev}{y:T}(h:f J=some y):zD i f J=some (.nx (J.set i (some (.im y)))):=by
 show (f J).map _=_;rw[h];rfl
def eC {i j:Int}(h:wI i j):we (.int i) (.int j)=some (.int (i*j)):=by rw[eB,if_pos h]
def ou (many:Nat) (r:List Int):Prop:=∃ (f t:Nat) (a b:Int),r=[(f:Int),(t:Int),a,b]/\f<many/\t<many
def V4 (M C:Int) (hM:0<M) (hC:∀ i,wI i C) (bb:Sm) (CK:bb=(zp (zD 8 (zb yw (zb we (zc 3) (zc 5)) (zc 7)))
 (zp (zD 9 (zb zS (zb yw (zb yw (zb we (zt yu (za (zk 0) (za (zb yw (cI 4) (zc 8)) zj))) (cS (.int C))) (zb we (cI 61) (zc 8))) (cI 17)) (cS (.int M))))
 (zp (zD 10 (zb xi (zc 9) (cI 8)))
 (uH 4 (tupS (za (zk 5) (za (zb zS (zb zS (zc 9) (cI 8)) (zc 1)) (za (zt rH (za (zk 10) zj)) (za (zt rH (za (zb xi (zc 10) (cI 125)) zj)) zj))))))))))
  (ns:List Int) (many wide place k:Nat) (num sz:Int) (rows:List T) (hm:1<=many) (hp:place<many) (hw:wide<=12) (hm8:many<=8) (hl:rows.length<=1000):
  ∃ r x y z,(ou many r/\r.head?=some (place:Int))/\turn (zC 7) bb (.int (0+(k:Int))) [some (.im (zI ns)),some (.im (.int many)),some (.im (.int num)),some (.im (.int wide)),some (.own (.lst rows)),some (.im (.int place)),some (.im (.int sz)),none,none,none,none]
   = some (.nx [some (.im (zI ns)),some (.im (.int many)),some (.im (.int num)),some (.im (.int wide)),some (.own (.lst (rows++[yv r]))),some (.im (.int place)),some (.im (.int sz)),some (.im (.int (0+(k:Int)))),x,y,z]):=by
 obtain⟨at',B1⟩:∃ at':Nat,(wide:Int)*(place:Int)+(0+(k:Int))=(at':Int):=⟨wide*place+k,by simp[CN,Int.natCast_mul]⟩
 have hc:=sy ns (4+at');rw[CN] at hc;have hc':yu [zI ns,.int (4+(at':Int))]=some (.int (cell ns (4+at'))):=hc;generalize cell ns (4+at')=ce at *;have m1:wI (wide:Int) (place:Int):=.inl ⟨by lia,by lia⟩;have m2:wI ce C:=hC ce;have m3:wI 61 (at':Int):=.inl ⟨by decide,by decide⟩;generalize hd:(ce*C+61*(at':Int)+17)%M=dr;have d8:wx dr 8:=⟨by decide,by decide⟩
 have d125:wx (dr/8) 125:=⟨by decide,by decide⟩
 obtain⟨a,ha⟩:=WX (dr/8);obtain⟨b,hb⟩:=WX (dr/8/125);have hmp:(0:Int)<many:=by lia
 have t0:0<=dr%8%many:=CD _ (by lia);have t1:dr%8%many<many:=DF _ hmp;have hm':0<many:=hm;have hl':rows.length<16777216:=by lia
 refine⟨[(place:Int),((dr%8%many).toNat:Int),a,b],some (.im (.int (at':Int))),some (.im (.int dr)),some (.im (.int (dr/8))),⟨⟨place,(dr%8%many).toNat,a,b,rfl,hp,by lia⟩,rfl⟩,?_⟩;rw[Ci t0];have hr:yv [(place:Int),dr%8%many,a,b]=.tup [.int place,.int (dr%8%many),.int a,.int b]:=rfl;rw[hr];rw[show turn (zC 7) bb (.int (0+(k:Int))) [some (.im (zI ns)),some (.im (.int many)),some (.im (.int num)),some (.im (.int wide)),some (.own (.lst rows)),some (.im (.int place)),some (.im (.int sz)),none,none,none,none]=bb [some (.im (zI ns)),some (.im (.int many)),some (.im (.int num)),some (.im (.int wide)),some (.own (.lst rows)),some (.im (.int place)),some (.im (.int sz)),some (.im (.int (0+(k:Int)))),none,none,none] from rfl];subst CK;generalize (0+(k:Int))=kk,yu=fc,rH=fco,zI ns=sc at *;rw[seq_eq (J':=[some (.im sc),some (.im (.int many)),some (.im (.int num)),some (.im (.int wide)),some (.own (.lst rows)),some (.im (.int place)),some (.im (.int sz)),some (.im (.int kk)),some (.im (.int at')),none,none]) (Wv (qb (qb (x:=.int wide) (y:=.int place) rfl rfl (eC m1)) (y:=.int kk) rfl (by show some (T.int ((wide:Int)*(place:Int)+kk))=_;rw[B1])))];rw[seq_eq (J':=[some (.im sc),some (.im (.int many)),some (.im (.int num)),some (.im (.int wide)),some (.own (.lst rows)),some (.im (.int place)),some (.im (.int sz)),some (.im (.int kk)),some (.im (.int at')),some (.im (.int dr)),none]) (by simp[eB,hc',m2,m3,hd,hM])];rw[seq_eq (J':=[some (.im sc),some (.im (.int many)),some (.im (.int num)),some (.im (.int wide)),some (.own (.lst rows)),some (.im (.int place)),some (.im (.int sz)),some (.im (.int kk)),some (.im (.int at')),some (.im (.int dr)),some (.im (.int (dr/8)))]) (by simp[d8])];simp[d125,ha,hb,hm',hl']
def V5 (ns:List Int) (many wide place k:Nat) (num sz:Int) (rows:List T) (hm:1<=many) (hp:place<many) (hw:wide<=12) (hm8:many<=8) (hl:rows.length<=1000):
  ∃ r x y z,(ou many r/\r.head?=some (place:Int))/\turn (zC 7) pR (.int (0+(k:Int))) [some (.im (zI ns)),some (.im (.int many)),some (.im (.int num)),some (.im (.int wide)),some (.own (.lst rows)),some (.im (.int place)),some (.im (.int sz)),none,none,none,none]
   = some (.nx [some (.im (zI ns)),some (.im (.int many)),some (.im (.int num)),some (.im (.int wide)),some (.own (.lst (rows++[yv r]))),some (.im (.int place)),some (.im (.int sz)),some (.im (.int (0+(k:Int)))),x,y,z]):=
 by
  refine V4 999983 2957 ?_ ?_ pR ?_ ns many wide place k num sz rows hm hp hw hm8 hl
  .omega
  .exact λ _=>.inr ⟨by lia,by lia⟩
  .unfold pR;rfl
def LH (ns:List Int) (many:Nat) (hm:1<=many) (hm8:many<=8):∃ ws:List Wy,nS [zI ns,.int many]=some (.tup (ws.map zQ))/\ws.length<=60/\(∀ w∈ws,w.f<many/\w.t<many)/\∀ x<many,∃ w∈ws,w.f=x:=by
 have hc:=sy ns 3;have c0:=d_ ns 3;generalize cell ns 3=num at *;have hc':yu [zI ns,.int 3]=some (.int num):=hc;obtain⟨wide,hw,hw12⟩:∃ wide:Nat,L2.zZ [T.int 3,.int 12] (if many<3 then 1 else 0)=some (.int (wide:Int))/\wide<=12:=by
  by_cases h:many<3
  .rw[if_pos h];exact⟨12,rfl,by decide⟩
  .rw[if_neg h];exact⟨3,rfl,by decide⟩
 obtain⟨J',h1,c,rows,h2,h3,h4,h5⟩:=vB (is:=[5,6,7,8,9,10]) (g:=zC 5) (b:=lL) (λ k:Nat=>T.int (0+(k:Int))) (λ p J=>∃ (c:Int) (rows:List (List Int)),J=[some (.im (zI ns)),some (.im (.int many)),some (.im (.int c)),some (.im (.int wide)),some (.own (.lst (rows.map yv))),none,none,none,none,none,none]/\0<=c/\rows.length<=(if many<3 then 12 else 3)*p.length/\((∀ r∈rows,ou many r)/\(∀ x∈p,∃ r∈rows,r.head?=some (x:Int))))
   (List.range many) [some (.im (zI ns)),some (.im (.int many)),some (.im (.int num)),some (.im (.int wide)),some (.own (.lst [])),none,none,none,none,none,none] ⟨num,[],rfl,c0,by simp,nofun,nofun⟩ (by
  rintro p k q e J ⟨c,rows,rfl,r0,r1,r2,r3⟩;have hp:p.length<many:=by have:=congrArg List.length e;simp at this;lia
  have hk:k<many:=AA.mp (by rw[e];simp);obtain⟨size,hs,s1,s2⟩:∃ size:Nat,(if (many<3/\c/3%8=1) then 9+(1+c%3) else 1+c%3)=(size:Int)/\1<=size/\size<=(if many<3 then 12 else 3):=by
   by_cases h:many<3/\c/3%8=1
   .rw[if_pos h,if_pos h.1];exact⟨(9+(1+c%3)).toNat,by lia,by lia,by lia⟩
   .rw[if_neg h];exact⟨(1+c%3).toNat,by lia,by lia,by split <;> lia⟩
  have BJ:(if many<3 then 12 else 3)*p.length<=96:=by split <;> lia
  obtain⟨J2,g1,rows',g2,g3,g4,g5,g6⟩:=vB (is:=[7,8,9,10]) (g:=zC 7) (b:=pR) (λ k:Nat=>T.int (0+(k:Int))) (λ p' J=>∃ rows':List (List Int),J=[some (.im (zI ns)),some (.im (.int many)),some (.im (.int c)),some (.im (.int wide)),some (.own (.lst (rows'.map yv))),some (.im (.int k)),some (.im (.int size)),none,none,none,none]/\rows'.length=rows.length+p'.length/\(∀ r∈rows',ou many r)/\(∀ r∈rows,r∈rows')/\(p'≠[]->∃ r∈rows',r.head?=some (k:Int)))
    (List.range size) [some (.im (zI ns)),some (.im (.int many)),some (.im (.int c)),some (.im (.int wide)),some (.own (.lst (rows.map yv))),some (.im (.int k)),some (.im (.int size)),none,none,none,none] ⟨rows,rfl,rfl,r2,λ _ h=>h,λ h=>absurd rfl h⟩ (by
   rintro p' k' q' e' J ⟨rows',rfl,u1,u2,u3,u4⟩;have hp':p'.length<size:=by have:=congrArg List.length e';simp at this;lia
   have hs12:size<=12:=by split at s2 <;> lia
   obtain⟨r,x,y,z,⟨v1,v3⟩,v2⟩:=V5 ns many wide k k' c size (rows'.map yv) hm hk hw12 hm8 (by simp;lia);refine⟨_,v2,rows'++[r],by simp,by simp[u1];lia,λ r' hr'=>?_,λ r' h=>B6 _ (u3 r' h),λ _=>⟨r,by simp,v3⟩⟩;rcases AX.mp hr' with h | h
   .exact u2 r' h
   .cases AR.mp h;exact v1)
  subst g2;have Bu:=sJ size (by split at s2 <;> lia);have d3:wx c 3:=⟨by decide,by decide⟩
  have d24:wx c 24:=⟨by decide,by decide⟩
  refine⟨[some (.im (zI ns)),some (.im (.int many)),some (.im (.int (c/24))),some (.im (.int wide)),some (.own (.lst (rows'.map yv))),some (.im (.int (0+(k:Int)))),some (.im (.int size)),none,none,none,none],?_,c/24,rows',by simp,by lia,?_,g4,λ x hx=>?_⟩
  .unfold turn lL;generalize pR=bb at *;simp only[Dn] at g1 Bu ⊢;generalize (List.range size).map (λ(k:Nat)=>T.int (k:Int))=RR,rows'.map yv=L2',rows.map yv=L1',zI ns=sc at *;by_cases hA:many<3
   .have hA':(many:Int)<3:=by lia
    by_cases hB:c/3%8=1
    .rw[if_pos ⟨hA,hB⟩] at hs;simp[hA',hB,d3,d24,yx,eq_int,hs,Bu,g1]
    .rw[if_neg (λ h=>hB h.2)] at hs;simp[hA',hB,d3,d24,yx,eq_int,hs,Bu,g1]
   .have hA':¬ (many:Int)<3:=by lia
    rw[if_neg (λ h=>hA h.1)] at hs;simp[hA',d3,d24,yx,eq_int,hs,Bu,g1]
  .have:rows'.length=rows.length+size:=by simpa using g3
   rw[Bf,C0,Nat.mul_add,Nat.mul_one];lia
  .rcases AX.mp hx with h | h
   .obtain⟨r,h1,h2⟩:=r3 x h;exact⟨r,g5 r h1,h2⟩
   .cases AR.mp h;exact g6 (λ h=>by have:=congrArg List.length h;simp at this;lia))
 subst h2;have Bu:=sJ many (by lia);have hlen:rows.length<64:=by
  rw[Bg] at h4;split at h4 <;> lia
 have Aj:rows≠[]:=λ h=>by
  obtain⟨r,hr,_⟩:=h5.2 0 (AA.mpr (by lia));rw[h] at hr;cases hr
 have Ec:∀ r∈rows,r≠[]:=λ r hr=>by obtain⟨f,t,a,b,rfl,_⟩:=h5.1 r hr;simp
 have C5:=Uz rows Aj hlen Ec;have Az:∀ r∈L4.wb (wO rows),ou many r:=λ r hr=>h5.1 r (oM.mp ((L4.uR _).mem_iff.mp hr));have hl60:(L4.wb (wO rows)).length<64:=by rw[(L4.uR _).length_eq];have:=jt rows;lia
 have conv:∀ l:List (List Int),(∀ r∈l,ou many r)->∃ ws:List Wy,l.map yv=ws.map zQ/\ws.length=l.length/\(∀ w∈ws,w.f<many/\w.t<many)/\∀ r∈l,∃ w∈ws,r.head?=some (w.f:Int):=λ l=>by
  induction l with
  | nil=>exact λ _=>⟨[],rfl,rfl,nofun,nofun⟩
  | cons r l ih=>
   intro h;obtain⟨ws,e1,e2,e3,e4⟩:=ih λ x hx=>h x (Av _ hx);obtain⟨f,t,a,b,rfl,hf,ht⟩:=h r Al;refine⟨⟨f,t,a,b⟩::ws,by rw[Aq,Aq,e1];rfl,by simp[e2],λ w hw=>?_,λ r' hr'=>?_⟩
   .rcases Ai.mp hw with x | x
    .subst x;exact⟨hf,ht⟩
    .exact e3 w x
   .rcases Ai.mp hr' with x | x
    .subst x;exact⟨_,Al,rfl⟩
    .obtain⟨w,h1,h2⟩:=e4 r' x;exact⟨w,Av _ h1,h2⟩
 obtain⟨ws,e1,e2,e3,e4⟩:=conv _ Az;refine⟨ws,?_,by
  have hn:(wO rows).length<=rows.length:=jt rows;rw[e2,(L4.uR _).length_eq];rw[Bg] at h4;split at h4 <;> lia,e3,λ x hx=>by
   obtain⟨r,k1,k2⟩:=h5.2 x (AA.mpr hx);obtain⟨w,k3,k4⟩:=e4 r ((L4.uR _).mem_iff.mpr (oM.mpr k1));rw[k2] at k4
   injection k4 with k4
   exact⟨w,k3,by lia⟩⟩
 rw[e1] at C5;unfold nS bG;generalize lL=bb,ws.map zQ=L1,rows.map yv=L2',qR=sv,(List.range many).map (λ(k:Nat)=>T.int (0+(k:Int)))=RR,yu=fc,zI ns=sc at *;by_cases hA:many<3
 .have hA':(many:Int)<3:=by lia
  rw[if_pos hA] at hw;simp[hc',yx,hA',hw,Bu,h1,C5]
 .have hA':¬ (many:Int)<3:=by lia
  rw[if_neg hA] at hw;simp[hc',yx,hA',hw,Bu,h1,C5]
def dD (x y:Str):zJ false (.str x) (.str y)=some (.bl (x == y)):=by simp[zJ,dep,eqT]
def Ux (M C:Int) (hM:0<M) (hC:∀ i,wI i C) (kk:Str) (bb:Sm) (CK:bb=(zp (zD 4 (zb zS (zb yw (zb yw (zb we (zt yu (za (zk 0) (za (zb yw (cI 28) (zc 3)) zj))) (cS (.int C))) (zb we (cI 29) (zc 3))) (cI 5)) (cS (.int M))))
 (yo (tp (zM (zb (zJ false) (zb zh (zc 1) (zc 3)) (cS (.str kk)))) (zM (zb (zJ false) (zb zS (zc 4) (cI 3)) (cI 1)))) (zp (zD 5 (zb xi (zc 4) (cI 6)))
 (zp (zD 6 (zb yw (cI 1) (zb zh (xy (za (zb zS (zc 5) (cI 3)) (za (zb zS (zc 5) (cI 3)) (za (zb zS (zc 5) (cI 12)) zj)))) (zb zS (zb xi (zc 5) (cI 12)) (cI 3)))))
 (zp (zD 7 (zb zh (xy (za (zb zS (zb xi (zc 5) (cI 36)) (cI 4)) (za (zb zS (zb xi (zc 5) (cI 36)) (cI 4)) (za (zb zS (zb xi (zc 5) (cI 36)) (cI 13)) zj)))) (zb zS (zb xi (zc 5) (cI 468)) (cI 3))))
 (uH 2 (tupS (za (zk 3) (za (zb zS (zb xi (zc 4) (cI 3)) (cI 2)) (za (zk 6) (za (zk 7) zj))))))))) yn)))
  (ns:List Int) (ots:List T) (place:Nat) (s:Str) (hs:L2.zZ ots (place:Int)=some (.str s)) (rows:List T) (hl:rows.length<=1000):
  ∃ more:List Sl,more.length<=1/\(∀ x∈more,(1<=x.gv/\0<=x.gt)/\x.p=place)/\∃ a b c d,turn (zC 3) bb (.int (place:Int)) [some (.im (zI ns)),some (.im (.tup ots)),some (.own (.lst rows)),none,none,none,none,none]
   = some (.nx [some (.im (zI ns)),some (.im (.tup ots)),some (.own (.lst (rows++more.map yH))),some (.im (.int (place:Int))),a,b,c,d]):=by
 have hc:=sy ns (28+place);rw[CN] at hc;have hc':yu [zI ns,.int (28+(place:Int))]=some (.int (cell ns (28+place))):=hc;generalize cell ns (28+place)=ce at *;have m2:wI ce C:=hC ce;have m3:wI 29 (place:Int):=.inl ⟨by decide,by decide⟩;generalize hd:(ce*C+29*(place:Int)+5)%M=dr;have hdr:0<=dr:=by rw[<- hd];exact CD _ (by lia)
 have d6:wx dr 6:=⟨by decide,by decide⟩
 have d3:wx dr 3:=⟨by decide,by decide⟩
 have r0:0<=dr/6:=by lia
 generalize hrs:dr/6=rs at *;have d12:wx rs 12:=⟨by decide,by decide⟩
 have d36:wx rs 36:=⟨by decide,by decide⟩
 have d468:wx rs 468:=⟨by decide,by decide⟩
 obtain⟨gv,hg,g0⟩:=mF (L:=[T.int (rs%3),.int (rs%3),.int (rs%12)]) (P:=λ v=>0<=v) (by intro y hy;simp only[Ai,Cs,or_false] at hy;rcases hy with rfl | rfl | rfl <;> exact⟨_,rfl,by lia⟩) (i:=rs/12%3) (by lia) (by simp;lia);obtain⟨gt,ht,t0⟩:=mF (L:=[T.int (rs/36%4),.int (rs/36%4),.int (rs/36%13)]) (P:=λ v=>0<=v) (by intro y hy;simp only[Ai,Cs,or_false] at hy;rcases hy with rfl | rfl | rfl <;> exact⟨_,rfl,by lia⟩) (i:=rs/468%3) (by lia) (by simp;lia);have hl':rows.length<16777216:=by lia
 rw[show turn (zC 3) bb (.int (place:Int)) [some (.im (zI ns)),some (.im (.tup ots)),some (.own (.lst rows)),none,none,none,none,none]=bb [some (.im (zI ns)),some (.im (.tup ots)),some (.own (.lst rows)),some (.im (.int (place:Int))),none,none,none,none] from rfl];subst CK;generalize yu=fc,zI ns=sc at *;rw[seq_eq (J':=[some (.im sc),some (.im (.tup ots)),some (.own (.lst rows)),some (.im (.int (place:Int))),some (.im (.int dr)),none,none,none]) (Wv (qb (x:=.int (ce*C+29*(place:Int)+5)) (y:=.int M) (qb (qb (qb (x:=.int ce) (y:=.int C) (by
   show ((za (zk 0) (za (zb yw (cI 28) (zc 3)) zj)) _).bind fc=_;exact hc') rfl (eC m2)) (qb (x:=.int 29) (y:=.int place) rfl rfl (eC m3)) rfl) rfl rfl) rfl (by
   show (if 0<M then some (T.int ((ce*C+29*(place:Int)+5)%M)) else none)=_;rw[if_pos hM,hd])))]
 by_cases hk:(s == kk)=true/\dr%3=1
 .refine⟨[⟨place,decide (dr/3%2=1),1+gv,gt⟩],by simp,λ x hx=>by cases AR.mp hx;exact⟨⟨by show 1<=1+gv;lia,t0⟩,rfl⟩,some (.im (.int dr)),some (.im (.int rs)),some (.im (.int (1+gv))),some (.im (.int gt)),?_⟩;have Ed:w_ (decide (dr/3%2=1))=dr/3%2:=by
   unfold w_;rcases Int.emod_two_eq (dr/3) with h | h <;> simp[h]
  have Bp:yH ⟨place,decide (dr/3%2=1),1+gv,gt⟩=.tup [.int place,.int (dr/3%2),.int (1+gv),.int gt]:=by
   unfold yH;rw[Ed]
  rw[Aq,A8,Bp];simp[hs,dD,hk.1,eq_int,hk.2,d6,d3,hrs,d12,d36,d468,hg,ht,hl']
 .refine⟨[],by simp,nofun,some (.im (.int dr)),none,none,none,?_⟩;rw[A8,CB];by_cases h1:(s == kk)=true
  .have h2:¬ dr%3=1:=λ h=>hk ⟨h1,h⟩;simp[hs,dD,h1,eq_int,h2]
  .rw[Dl] at h1;simp[hs,dD,h1]
def LK (ns:List Int) (os:List Bool) (h8:os.length<=8):∃ ss:List Sl,nU [zI ns,.tup (os.map kt)]=some (.tup (ss.map yH))/\ss.length<=60/\(∀ s∈ss,1<=s.gv/\0<=s.gt)/\ss.Pairwise (λ a b=>a.p≠b.p):=by
 obtain⟨J',h1,ss,h2,h3,h4,h5,h6⟩:=vB (is:=[3,4,5,6,7]) (g:=zC 3) (b:=nD) (λ k:Nat=>T.int (k:Int)) (λ p J=>∃ ss:List Sl,J=[some (.im (zI ns)),some (.im (.tup (os.map kt))),some (.own (.lst (ss.map yH))),none,none,none,none,none]/\ss.length<=p.length/\(∀ s∈ss,1<=s.gv/\0<=s.gt)/\(∀ s∈ss,s.p∈p)/\ss.Pairwise (λ a b=>a.p≠b.p))
   (List.range os.length) [some (.im (zI ns)),some (.im (.tup (os.map kt))),some (.own (.lst [])),none,none,none,none,none] ⟨[],rfl,Ah _,nofun,nofun,List.Pairwise.nil⟩ (by
  rintro p k q e J ⟨ss,rfl,r1,r2,r3,r4⟩;have hp:p.length<os.length:=by have:=congrArg List.length e;simp at this;lia
  have hk:k<os.length:=AA.mp (by rw[e];simp);obtain⟨s,hs⟩:∃ s:Str,L2.zZ (os.map kt) (k:Int)=some (.str s):=by
   cases hb:os[k] with
   | true=>exact⟨"keeper",wq (by rw[Ay,AH hk,hb];rfl)⟩
   | false=>exact⟨"taker",wq (by rw[Ay,AH hk,hb];rfl)⟩
  obtain⟨more,m1,m2,a,b,c,d,m3⟩:=Ux 999979 3571 (by lia) (λ _=>.inr ⟨by lia,by lia⟩) "keeper" nD (by unfold nD;rfl) ns (os.map kt) k s hs (ss.map yH) (by simp;lia);refine⟨_,m3,ss++more,by simp,by simp;lia,λ x hx=>?_,λ x hx=>?_,?_⟩
  .rcases AX.mp hx with h | h
   .exact r2 x h
   .exact (m2 x h).1
  .rcases AX.mp hx with h | h
   .exact B6 _ (r3 x h)
   .rw[(m2 x h).2];simp
  .have BW:=Dv (n:=os.length);rw[e] at BW;refine Du.mpr ⟨r4,?_,λ a ha b hb=>?_⟩
   .match more,m1 with
    | [],_=>exact List.Pairwise.nil
    | [_],_=>exact DQ _ _
    | _::_::_,m=>simp at m
   .rw[(m2 b hb).2];exact (DT.mp BW).2.2 a.p (r3 a ha) k Al)
 subst h2;rw[Bg] at h3;refine⟨ss,?_,by lia,h4,h6⟩;have hr:=sJ os.length (by lia);simp only[Dn] at hr;unfold nU bH;generalize nD=bb,(List.range os.length).map (λ(k:Nat)=>T.int (k:Int))=R at *;have hlen:(os.map kt).length=os.length:=by simp
 generalize os.map kt=L1,ss.map yH=L2',zI ns=sc at *;simp[hlen,hr,h1]
def LZ (ns:List Int):∃ F:zw,om [zI ns]=some (zr F)/\F.Ok/\(∀ x<F.os.length,∃ w∈F.ws,w.f=x)/\F.ss.Pairwise (λ a b=>a.p≠b.p):=by
 have hc:=sy ns 0;have c0:=d_ ns 0;generalize cell ns 0=num at *;have hc':yu [zI ns,.int 0]=some (.int num):=hc;have d8:wx num 8:=⟨by decide,by decide⟩
 obtain⟨mi,hm,m1,m8⟩:=mF (L:=[T.int 2,.int 3,.int 1,.int 4,.int 3,.int 2,.int 4,.int (5+num/8%4)]) (P:=λ v=>1<=v/\v<=8) (by intro y hy;simp only[Ai,Cs,or_false] at hy;rcases hy with rfl | rfl | rfl | rfl | rfl | rfl | rfl | rfl <;> exact⟨_,rfl,by lia,by lia⟩) (i:=num%8) (by lia) (by simp;lia);obtain⟨many,rfl⟩:∃ k:Nat,mi=(k:Int):=⟨mi.toNat,by lia⟩
 obtain⟨os,h1,o1⟩:=LQ ns many (by lia);obtain⟨A,B,h2,a1,b1,ab⟩:=Kf ns many;obtain⟨ws,h3,w1,w2,w3⟩:=LH ns many (by lia) (by lia);obtain⟨ss,h4,s1,s2,s3⟩:=LK ns os (by lia);by_cases BJ:(A=12/\B=12)/\(6<ws.length\/0<ss.length)
 .refine⟨⟨12,3,os,ws,ss⟩,?_,⟨by show (0:Int)<=12;decide,by show (12:Int)<=12;decide,by show (0:Int)<=3;decide,by show (3:Int)<=12;decide,by show 1<=os.length;lia,by show os.length<=8;lia,λ w hw=>by show w.f<os.length/\w.t<os.length;rw[o1];exact w2 w hw,w1,s2,.inr (by show ((12:Int)+1)*(3+1)<64;decide),s1⟩,by show ∀ x<os.length,_;rw[o1];exact w3,s3⟩;obtain⟨⟨rfl,rfl⟩,hb⟩:=BJ;have he:zJ false (.tup [.int 12,.int 12]) (.tup [.int 12,.int 12])=some (.bl true):=by simp[zJ,dep,yE,eqT,xQ]
  unfold om iE zr;have l1:(ws.map zQ).length=ws.length:=by simp
  have l2:(ss.map yH).length=ss.length:=by simp
  generalize ws.map zQ=L1,ss.map yH=L2',os.map kt=L3',yu=f1,nW=f2,nY=f3,nS=f4,nU=f5,zI ns=sc at *;rcases hb with hb | hb
  .have hb':(6:Int)<(ws.length:Int):=by lia
   simp[hc',d8,hm,h1,h2,h3,h4,he,l1,l2,hb',hb]
  .have hb':(0:Int)<(ss.length:Int):=by lia
   by_cases h6:6<ws.length
   .have h6':(6:Int)<(ws.length:Int):=by lia
    simp[hc',d8,hm,h1,h2,h3,h4,he,l1,l2,h6,h6']
   .have h6':¬ (6:Int)<(ws.length:Int):=by lia
    simp[hc',d8,hm,h1,h2,h3,h4,he,l1,l2,h6,h6',hb,hb']
 .refine⟨⟨A,B,os,ws,ss⟩,?_,⟨a1.1,a1.2,b1.1,b1.2,by show 1<=os.length;lia,by show os.length<=8;lia,λ w hw=>by show w.f<os.length/\w.t<os.length;rw[o1];exact w2 w hw,w1,s2,?_,s1⟩,by show ∀ x<os.length,_;rw[o1];exact w3,s3⟩
  .have he:zJ false (.tup [.int A,.int B]) (.tup [.int 12,.int 12])=some (.bl (decide (A=12/\B=12))):=by
    by_cases x:A=12 <;> by_cases y:B=12 <;> simp[zJ,dep,yE,eqT,xQ,x,y]
   unfold om iE zr;have l1:(ws.map zQ).length=ws.length:=by simp
   have l2:(ss.map yH).length=ss.length:=by simp
   generalize ws.map zQ=L1,ss.map yH=L2',os.map kt=L3',yu=f1,nW=f2,nY=f3,nS=f4,nU=f5,zI ns=sc at *;by_cases hAB:A=12/\B=12
   .have n1:¬ 6<ws.length:=λ h=>BJ ⟨hAB,.inl h⟩;have n2:¬ 0<ss.length:=λ h=>BJ ⟨hAB,.inr h⟩;have n1':¬ (6:Int)<(ws.length:Int):=by lia
    have n2':¬ (0:Int)<(ss.length:Int):=by lia
    rw[za2 hAB] at he;simp[hc',d8,hm,h1,h2,h3,h4,he,l1,l2,n1,n2,n1',n2']
   .rw[za0 hAB] at he;simp[hc',d8,hm,h1,h2,h3,h4,he]
  .show ss=[]\/(A+1)*(B+1)<64;rcases ab with x | x
   .refine .inl ?_;cases ss with
    | nil=>rfl
    | cons a l=>exact absurd ⟨x,.inr (by simp)⟩ BJ
   .exact .inr x
def mi (x y:Int):(if y<x then y else x)=min x y:=by split <;> lia
def tG (o:Option (Int×Int)):T:=match o with
 | none=>.zl
 | some r=>zf r
def jJ (F:zw):zh (zr F) (.int 0)=some (.tup [.int F.A,.int F.B]):=by simp[zr]
def mY (F:zw):zh (zr F) (.int 1)=some (.tup (F.os.map kt)):=by simp[zr]
def jI (F:zw):zh (zr F) (.int 2)=some (.tup (F.ws.map zQ)):=by simp[zr]
def NS (F:zw):zh (zr F) (.int 3)=some (.tup (F.ss.map yH)):=by simp[zr]
def bg (F:zw) (q:Int×Int) (w:Wy):uo [zr F,zf q,zQ w]=some (tG (vS F q w)):=by
 have hw0:=jJ F;unfold uo bS vS zf zQ;generalize zr F=fl at *;simp only[zh] at hw0;by_cases h1:q.1+w.a<0
 .simp[h1,yx,tG]
 .by_cases h2:q.2+w.b<0
  .simp[h1,h2,yx,tG]
  .simp[h1,h2,yx,tG,hw0,mi,zf]
def LJ (F:zw) (q:Int×Int) {i:Nat}{w:Wy}(hw:F.ws[i]?=some w):nQ [zr F,zf q,.int (i:Int)]=some (tG (vS F q w)):=by
 have hw0:=jJ F;have hw2:=jI F;have hi:L2.zZ (F.ws.map zQ) (i:Int)=some (.tup [.int w.f,.int w.t,.int w.a,.int w.b]):=wq (by rw[Ay,hw];rfl);have hc:xo [T.int w.f,.int w.t,.int w.a,.int w.b] (some 2) none=[.int w.a,.int w.b]:=rfl;unfold nQ b8 vS zf;generalize F.ws.map zQ=WS,zr F=fl at *;simp only[zh] at hw0 hw2;by_cases h1:q.1+w.a<0
 .simp[h1,yx,tG,hw2,hi,hc]
 .by_cases h2:q.2+w.b<0
  .simp[h1,h2,yx,tG,hw2,hi,hc]
  .simp[h1,h2,yx,tG,hw0,hw2,hi,hc,mi,zf]
def LW {F:zw}{l:List Bd}{q:Int×Int}{i:Nat}{w:Wy}(hw:F.ws[i]?=some w) (ht:w.t<l.length) (hb:(l.getD w.t []).length<=10000):oj [zr F,zf q,.int (i:Int),rT l]=some (.bl (yT F l q w)):=by
 have hw2:=jI F;have hi:L2.zZ (F.ws.map zQ) (i:Int)=some (zQ w):=wq (by rw[Ay,hw];rfl);have h1:zh (zQ w) (.int 1)=some (.int w.t):=by simp[zQ]
 have h2:=LJ F q hw;have h3:=oU l w.t ht;unfold yT;cases ho:vS F q w with
 | none=>
  rw[ho] at h2;have i1:w6 true .zl .zl=some (.bl false):=rfl;unfold oj iD;generalize nQ=f1,qG=f2,zr F=fl,zf q=pq,rT l=rl at *;simp[h2,tG,i1]
 | some r=>
  rw[ho] at h2;have h4:=WQ (l.getD w.t []) r hb;have i1:w6 true (zf r) .zl=some (.bl true):=rfl;unfold oj iD;generalize nQ=f1,qG=f2,bT (l.getD w.t [])=bt,F.ws.map zQ=WS,zQ w=wt,zr F=fl,zf q=pq,rT l=rl at *;simp only[zh] at hw2 h1 h3;simp only[tG] at h2;generalize zf r=rr at *;simp[h2,i1,hw2,hi,h1,h3,h4]
noncomputable def uq (F:zw) (p:Nat):List (Wy×Nat):=F.ws.zipIdx.filter λ wi=>decide (wi.1.f=p)
def ar {F:zw}{p:Nat}{wi:Wy×Nat}(h:wi∈uq F p):F.ws[wi.2]?=some wi.1/\wi.1.f=p:=by
 obtain⟨h1,h2⟩:=AV.mp h;exact⟨zcC.mp h1,of_decide_eq_true h2⟩
def V3 {F:zw}{p:Nat}(t:Wy->Bool):(uq F p).any (λ wi=>t wi.1)=(yX F p).any t:=by
 unfold yX;rw[<- k6 (λ w=>decide (w.f=p)) F.ws 0,List.any_map];rfl
theorem Wd {F:zw}{s:Sl}:∀ (n:Nat) (q:Int×Int),(vg F s n q).length<=n+1
 | 0,q=>by unfold vg;simp
 | n+1,q=>by
  unfold vg;rw[AW];split
  .have:=Wd n (F:=F) (s:=s) (xl s.pu (yc s.pu q-s.gv) (min (y8 s.pu q+s.gt) (F.ya (!s.pu))));lia
  .simp
def ME (F:zw) (p:Nat) (q:Int×Int):(uG F p q).length<=21:=by
 unfold uG;cases F.stall p with
 | none=>simp
 | some s=>exact Wd 20 q
def wA (F:zw) (p:Nat) (q:Int×Int) (s:Sl) (L:List (Int×Int)) (c:Option L5.W):Ev:=[some (.im (zr F)),some (.im (.int (p:Int))),some (.im (zf q)),some (.own (.lst (L.map zf))),some (.im (.int (s.p:Int))),some (.im (.int (w_ s.pu))),some (.im (.int s.gv)),some (.im (.int s.gt)),c]
def tu (F:zw) (s:Sl) (r:Int×Int):Int×Int:=xl s.pu (yc s.pu r-s.gv) (min (y8 s.pu r+s.gt) (F.ya (!s.pu)))
def ML {F:zw}{p:Nat}{q:Int×Int}{s:Sl}{pre:List (Int×Int)}{r:Int×Int}(hl:pre.length<=1000):∃ c,pT (wA F p q s (pre++[r]) none)=some (.nx (wA F p q s (pre++[r]++[tu F s r]) c)):=by
 have hlast:L2.zZ ((pre++[r]).map zf) (-1)=some (.tup [.int r.1,.int r.2]):=by rw[Bm];exact lV
 have e2:(pre++[r]++[tu F s r]).map zf=(pre++[r]).map zf++[zf (tu F s r)]:=by simp
 have hlen:((pre++[r]).map zf).length<16777216:=by simp;lia
 have hw0:=jJ F;have n0:wR 2 0=some 0:=rfl;have n1:wR 2 1=some 1:=rfl;refine⟨some (.own (.lst [.int (tu F s r).1,.int (tu F s r).2])),?_⟩;unfold wA;rw[e2];unfold pT;generalize (pre++[r]).map zf=LL,zr F=fl,zf q=pq at *;simp only[zh] at hw0;unfold tu;cases Ed:s.pu <;> simp[w_,hlast,hw0,n0,n1,hlen,xl,yc,y8,zw.ya,mi,zf]
def Wj {F:zw}{p:Nat}{q:Int×Int}{s:Sl}{pre:List (Int×Int)}{r:Int×Int}:tp (zM (zb (zJ false) (zc 4) (zc 1))) (zM (zb vD (zb zh (zb zh (zc 3) (sR (cI 1))) (zc 5)) (zc 6))) (wA F p q s (pre++[r]) none)=some (decide (s.p=p)&&decide (s.gv<=yc s.pu r)):=by
 have hlast:L2.zZ ((pre++[r]).map zf) (-1)=some (.tup [.int r.1,.int r.2]):=by rw[Bm];exact lV
 unfold wA;generalize (pre++[r]).map zf=LL,zr F=fl,zf q=pq at *;by_cases hp:s.p=p
 .have hp':(s.p:Int)=(p:Int):=by lia
  cases Ed:s.pu <;> simp[w_,hlast,yc,eq_int,hp]
 .have hp':¬ (s.p:Int)=(p:Int):=by lia
  simp[eq_int,hp,hp']
theorem Wi {F:zw}{p:Nat}{q:Int×Int}{s:Sl}(hs:1<=s.gv/\0<=s.gt) (A0:s.p=p):∀ (n:Nat) (pre:List (Int×Int)) (r:Int×Int) (m:Nat),yM F r->yc s.pu r<n->n<m->pre.length+n<=1000->∀ c,
  xN [8] (tp (zM (zb (zJ false) (zc 4) (zc 1))) (zM (zb vD (zb zh (zb zh (zc 3) (sR (cI 1))) (zc 5)) (zc 6)))) pT m (wA F p q s (pre++[r]) c)=some (.nx (wA F p q s (pre++vg F s n r) none))
 | 0,pre,r,m,hr,hn,hm,hl,c=>by
  have:=(u7 (pu:=s.pu).mp hr).1.1;lia
 | n+1,pre,r,m+1,hr,hn,hm,hl,c=>by
  have A6:yC [8] (wA F p q s (pre++[r]) c)=wA F p q s (pre++[r]) none:=by unfold wA;simp
  unfold xN vg;rw[A6,Wj,A_,za2 A0,Bool.true_and];by_cases hg:s.gv<=yc s.pu r
  .rw[za2 hg,if_pos rfl,if_pos hg];obtain⟨c',hb⟩:=ML (F:=F) (p:=p) (q:=q) (s:=s) (pre:=pre) (r:=r) (by lia);rw[hb,A_];have h':=u7 (pu:=s.pu).mp hr;have hi:yM F (tu F s r):=by
    unfold tu;rw[u7 (pu:=s.pu),uZ,qm];lia
   have ih:=Wi (q:=q) hs A0 n (pre++[r]) (tu F s r) m hi (by unfold tu;rw[uZ];lia) (by lia) (by simp;lia) c';show xN [8] _ pT m (wA F p q s (pre++[r]++[tu F s r]) c')=_;rw[ih,DS];rfl
  .rw[za0 hg,if_neg (by decide),if_neg hg]
def MK {F:zw}{p:Nat}{q:Int×Int}{s:Sl}(A0:¬ s.p=p) (pre:List (Int×Int)) (r:Int×Int) (m:Nat) (c:Option L5.W):
  xN [8] (tp (zM (zb (zJ false) (zc 4) (zc 1))) (zM (zb vD (zb zh (zb zh (zc 3) (sR (cI 1))) (zc 5)) (zc 6)))) pT (m+1) (wA F p q s (pre++[r]) c)=some (.nx (wA F p q s (pre++[r]) none)):=by
 have A6:yC [8] (wA F p q s (pre++[r]) c)=wA F p q s (pre++[r]) none:=by unfold wA;simp
 unfold xN;rw[A6,Wj,A_,za0 A0,Bool.false_and,if_neg (by decide)]
theorem We {F:zw}{s:Sl}:∀ (n:Nat) (q:Int×Int),∃ pre r,vg F s n q=pre++[r]
 | 0,q=>⟨[],q,rfl⟩
 | n+1,q=>by
  unfold vg;split
  .obtain⟨pre,r,e⟩:=We (F:=F) (s:=s) n (xl s.pu (yc s.pu q-s.gv) (min (y8 s.pu q+s.gt) (F.ya (!s.pu))));exact⟨q::pre,r,by rw[e];rfl⟩
  .exact⟨[],q,rfl⟩
def vI (F:zw) (p:Nat) (q:Int×Int) (ss:List Sl):List (Int×Int):=match ss.find? (λ s=>decide (s.p=p)) with
 | none=>[q]
 | some s=>vg F s 20 q
def Ke {F:zw}(ok:F.Ok) (B8:F.ss.Pairwise (λ a b=>a.p≠b.p)) (p:Nat) {q:Int×Int}(hq:yM F q):kd [zr F,.int (p:Int),zf q]=some (.lst ((uG F p q).map zf)):=by
 obtain⟨J',h1,h2⟩:=vB (is:=[4,5,6,7,8]) (g:=wD 4 (yy (zC 4) (yy (zC 5) (yy (zC 6) (yy (zC 7) vb))))) (b:=pQ) yH (λ ss J=>J=[some (.im (zr F)),some (.im (.int (p:Int))),some (.im (zf q)),some (.own (.lst ((vI F p q ss).map zf))),none,none,none,none,none])
   F.ss [some (.im (zr F)),some (.im (.int (p:Int))),some (.im (zf q)),some (.own (.lst [zf q])),none,none,none,none,none] rfl (by
  rintro pf s sf e J rfl;have hs:=ok.ss s (by rw[e];simp);have hb:turn (wD 4 (yy (zC 4) (yy (zC 5) (yy (zC 6) (yy (zC 7) vb))))) pQ (yH s) [some (.im (zr F)),some (.im (.int (p:Int))),some (.im (zf q)),some (.own (.lst ((vI F p q pf).map zf))),none,none,none,none,none]=pQ (wA F p q s (vI F p q pf) none):=rfl;rw[hb];refine⟨wA F p q s (vI F p q (pf++[s])) none,?_,by unfold wA;simp⟩;unfold pQ qL;by_cases A0:s.p=p
  .have DH:pf.find? (λ s=>decide (s.p=p))=none:=by
    rw[DV];intro a ha h;rw[e] at B8;exact (Du.mp B8).2.2 a ha s Al (by rw[of_decide_eq_true h,A0])
   have e1:vI F p q pf=[]++[q]:=by unfold vI;rw[DH];rfl
   have e2:vI F p q (pf++[s])=vg F s 20 q:=by
    unfold vI;rw[List.find?_append,DH,BP,za2 A0];rfl
   have hgv:yc s.pu q<20:=by
    have:=u7 (pu:=s.pu).mp hq;have:F.ya s.pu<=12:=by have:=ok.a1;have:=ok.b1;unfold zw.ya;split <;> assumption
    lia
   rw[e1,e2];exact Wi hs A0 20 [] q 1000000 hq (by lia) (by lia) (by simp) none
  .have e2:vI F p q (pf++[s])=vI F p q pf:=by
    unfold vI;rw[List.find?_append,BP,za0 A0];cases pf.find? (λ s=>decide (s.p=p)) <;> rfl
   obtain⟨pre,r,e3⟩:∃ pre r,vI F p q pf=pre++[r]:=by
    unfold vI;cases pf.find? (λ s=>decide (s.p=p)) with
    | none=>exact⟨[],q,rfl⟩
    | some s=>exact We 20 q
   rw[e2,e3];exact MK A0 pre r 999999 none)
 subst h2;have hw3:=NS F;have e:vI F p q F.ss=uG F p q:=rfl;rw[e] at h1;unfold kd bP;generalize pQ=b2,F.ss.map yH=SS,(uG F p q).map zf=CC,zr F=fl,zf q=pq at *;simp only[zh] at hw3;simp[hw3,h1]
structure Fix (F:zw) (l:List Bd):Prop where
 ok:F.Ok
 len:l.length=F.os.length
 gd:∀ b∈l,Gd F.A F.B b
 pw:F.ss.Pairwise (λ a b=>a.p≠b.p)
 go:∀ p<F.os.length,∀ q,yM F q->zG (l.getD p []) q=pE F l p q
section
variable {F:zw}
def jn {p:Nat}(hp:p<F.os.length):L2.zZ (F.os.map kt) (p:Int)=some (kt (F.os.getD p false)):=wq (by rw[Ay,AI,AH hp];rfl)
def OH (b:Bool):zJ false (kt b) (.str "taker")=some (.bl (!b)):=by
 have h:(("keeper":Str) == ("taker":Str))=false:=by decide
 cases b
 .show zJ false (.str "taker") (.str "taker")=_;simp[zJ,dep,eqT]
 .show zJ false (.str "keeper") (.str "taker")=_;simp[zJ,dep,eqT,h]
def eQ (b:Bool):zJ false (kt b) (.str "keeper")=some (.bl b):=by
 have h:(("taker":Str) == ("keeper":Str))=false:=by decide
 cases b
 .show zJ false (.str "taker") (.str "keeper")=_;simp[zJ,dep,eqT,h]
 .show zJ false (.str "keeper") (.str "keeper")=_;simp[zJ,dep,eqT]
end
def NT {F:zw}(ok:F.Ok) (B8:F.ss.Pairwise (λ a b=>a.p≠b.p)) {m:Nat}(hg:∀ b∈zx F m,Gd F.A F.B b) (AZ:zx F (m+1)=zx F m):Fix F (zx F m):=by
 refine⟨ok,qj F m,hg,B8,λ p hp q hq=>?_⟩;have hg':∀ p,Gd F.A F.B ((zx F m).getD p []):=λ p=>by
  rcases A3 p (zx F m).length with h | h
  .rw[AI,AH h];exact hg _ (Bn h)
  .rw[AI,Cd h];exact Gd.nil
 have e:(zx F m).getD p []=y6 F (zx F m) p:=by
  have:(zx F (m+1)).getD p []=y6 F (zx F m) p:=sW (λ p=>y6 F (zx F m) p) F.os.length p [] hp;rw[AZ] at this;exact this
 rw[e];exact ez ok hg' p hq
def LN (A B:Int) (q:Int×Int) (h:(0<=q.1/\q.1<=A)/\0<=q.2/\q.2<=B):kf [zf q,.tup [.tup [.int 0,.int A],.tup [.int 0,.int B]]]=some (.bl true):=by
 have hc:lI [some (.im (zf q)),some (.im (.tup [.tup [.int 0,.int A],.tup [.int 0,.int B]]))]=some (.lst ([(q.1,A),(q.2,B)].map λ x:Int×Int=>T.bl true)):=by
  unfold lI;refine sS (λ x:Int×Int=>T.tup [.int x.1,.tup [.int 0,.int x.2]]) _ [(q.1,A),(q.2,B)] (by simp[zf]) (by simp) λ x hx=>?_;have hx':0<=x.1/\x.1<=x.2:=by
   simp only[Ai,Cs,or_false] at hx;rcases hx with rfl | rfl
   .exact h.1
   .exact h.2
  simp[WK,hx']
 unfold kf bX;have it:u6 "tuple" "tuple"=true:=by decide
 generalize lI=cc at *;simp[zf] at hc;simp[zf,it,eq_int,hc,qy]
def WY (F:zw) (q:Int×Int) (h:(0<=q.1/\q.1<=F.A)/\0<=q.2/\q.2<=F.B):qI [zr F,zf q]=some .zl:=by
 have h1:=LN F.A F.B q h;have hw0:zh (zr F) (.int 0)=some (.tup [.int F.A,.int F.B]):=by simp[zr]
 unfold qI af;generalize kf=ff,zr F=fl,zf q=pq at *;simp only[zh] at hw0;simp[hw0,h1]
def zU (told:List (List Bd)):T:=.lst (told.map rT)
def yD (told:List (List Bd)) (p:Nat) (q:Int×Int):Option Nat:=(List.range told.length).find? λ k=>!zG ((told.getD k []).getD p []) q
noncomputable def s_ (o:Option Nat):T:=match o with
 | some k=>.int (k:Int)
 | none=>.zl
def aJ {told:List (List Bd)}{n:Nat}(h:∀ r∈told,r.length=n) {k:Nat}(hk:k<told.length):(told.getD k []).length=n:=by
 rw[AI,AH hk];exact h _ (Bn hk)
def WU (told:List (List Bd)) (n p:Nat) (q:Int×Int) (hn:∀ r∈told,r.length=n) (hb:∀ r∈told,∀ b∈r,b.length<=100) (hp:p<n):qH [zU told,.int p,zf q]=some (s_ (yD told p q)):=by
 have hl:=j4 (is:=[3,4]) (g:=wD 2 (yy (zC 3) (yy (zC 4) vb))) (b:=lQ) (λ k:Nat=>T.tup [.int (k:Int),rT (told.getD k [])]) (λ k:Nat=>T.int (k:Int)) (λ k=>!zG ((told.getD k []).getD p []) q) [some (.im (zU told)),some (.im (.int p)),some (.im (zf q)),none,none] (List.range told.length) [some (.im (zU told)),some (.im (.int p)),some (.im (zf q)),none,none] (by simp) λ k hk=>⟨[some (.im (zU told)),some (.im (.int p)),some (.im (zf q)),some (.im (.int (k:Int))),some (.im (rT (told.getD k [])))],by simp,by
  have hk':=AA.mp hk;have hlen:=aJ hn hk';have e1:=oU (told.getD k []) p (by lia);have e2:=WQ ((told.getD k []).getD p []) q (by
   have hm:told.getD k []∈told:=by rw[AI,AH hk'];exact Bn hk'
   have hb2:(told.getD k []).getD p []∈told.getD k []:=by
    have:p<(told.getD k []).length:=by lia
    rw[AI (l:=told.getD k []),AH this];exact Bn this
   have:=hb _ hm _ hb2;lia)
  unfold turn lQ;generalize (told.getD k []).getD p []=bd,rT (told.getD k [])=rk,qG=ff,zU told=tt,zf q=pq at *;simp only[zh] at e1;cases hc:zG bd q <;> rw[hc] at e2 <;> simp[e1,e2]⟩
 have he:ue [zU told]=some ((List.range told.length).map λ k:Nat=>T.tup [.int (k:Int),rT (told.getD k [])]):=by
  have:=dG rT [] told told 0 λ i=>by rw[CP]
  simp only[CP] at this;show some (sZ 0 (told.map rT))=_;rw[this]
 unfold qH b_ yD s_;generalize lQ=bb,ue=en,zU told=tt,zf q=pq,(List.range told.length).map (λ k:Nat=>T.tup [.int (k:Int),rT (told.getD k [])])=LL at *;generalize (List.range told.length).find? _=o at *;simp[he,hl];cases o <;> simp
noncomputable def vx (o:Option Nat):Int:=match o with
 | some k=>(k:Int)
 | none=>10 ^ 9
def TX (J:Ev):zb mD (cI 10) (cI 9) J=some (.int (10 ^ 9)):=by
 have hc:rL 10 9:=⟨by decide,by decide,by decide⟩
 show (if rL 10 9 then some (T.int (10 ^ (9:Int).toNat)) else none)=_;rw[if_pos hc];rfl
def kh (told:List (List Bd)) (n p:Nat) (q:Int×Int) (hn:∀ r∈told,r.length=n) (hp:p<n) (h5:told.length<=100000):wC [zU told,.int p,zf q]=some (.int (vx (yD told p q))):=by
 have hl:=j4 (is:=[3]) (g:=zC 3) (b:=lO) (λ k:Nat=>T.int (k:Int)) (λ k:Nat=>T.int (k:Int)) (λ k=>!zG ((told.getD k []).getD p []) q) [some (.im (zU told)),some (.im (.int p)),some (.im (zf q)),none] (List.range told.length) [some (.im (zU told)),some (.im (.int p)),some (.im (zf q)),none] (by simp) λ k hk=>⟨[some (.im (zU told)),some (.im (.int p)),some (.im (zf q)),some (.im (.int (k:Int)))],by simp,by
  have hk':=AA.mp hk;have hlen:=aJ hn hk';have e1:=oU (told.getD k []) p (by lia);have e0:zh (zU told) (.int (k:Int))=some (rT (told.getD k [])):=by
   show L2.zZ (told.map rT) (k:Int)=_;exact wq (by rw[Ay,AH hk',AI,AH hk'];rfl)
  have e2:=WR (bT ((told.getD k []).getD p [])) ((told.getD k []).getD p []) q rfl;unfold turn lO;generalize (told.getD k []).getD p []=bd,rT (told.getD k [])=rk at *;generalize bT bd=bt at *;generalize qF=ff,zU told=tt,zf q=pq at *;simp only[zh] at e1 e0;cases hc:zG bd q <;> rw[hc] at e2 <;> simp[e1,e0,e2]⟩
 have hr:=sJ told.length h5;simp only[Dn] at hr;have hlen:y7 [zU told]=some (.int told.length):=by
  simp[zU]
 have p9:=TX;unfold wC bN yD vx;generalize zb mD (cI 10) (cI 9)=o9,(10:Int) ^ 9=big,lO=bb,y7=ln,zU told=tt,zf q=pq,(List.range told.length).map (λ k:Nat=>T.int (k:Int))=LL at *;generalize (List.range told.length).find? _=o at *;simp[hlen,hr,hl];cases o <;> simp[p9]
section
variable {F:zw}
def LP (ok:F.Ok):∃ L:List (Int×Int),nV [zr F]=some (.lst (L.map zf))/\(∀ q∈L,yM F q)/\L.length<=1000/\L≠[]:=by
 obtain⟨a,ha,a12⟩:∃ a:Nat,F.A+1=(a:Int)/\a<=13:=⟨(F.A+1).toNat,by have:=ok.a0;lia,by have:=ok.a1;lia⟩
 obtain⟨b,hb,b12⟩:∃ b:Nat,F.B+1=(b:Int)/\b<=13:=⟨(F.B+1).toNat,by have:=ok.b0;lia,by have:=ok.b1;lia⟩
 have ra:=sJ a (by lia);have rb:=sJ b (by lia);have hw0:=jJ F;obtain⟨J',h1,L,h2,h3,h4,h5⟩:=vB (is:=[2]) (g:=zC 2) (b:=jY) (λ k:Nat=>T.int (0+(k:Int))) (λ p J=>∃ L:List (Int×Int),J=[some (.im (zr F)),some (.own (.lst (L.map zf))),none]/\(∀ q∈L,yM F q)/\L.length<=13*p.length/\p.length<=L.length)
   (List.range a) [some (.im (zr F)),some (.own (.lst [])),none] ⟨[],rfl,nofun,by simp,by simp⟩ (by
  rintro p k q e J ⟨L,rfl,r1,r2,r3⟩;have hp:p.length<a:=by have:=congrArg List.length e;simp at this;lia
  have hk:k<a:=AA.mp (by rw[e];simp);have hc:jV [some (.im (zr F)),some (.own (.lst (L.map zf))),some (.im (.int (0+(k:Int))))]=some (.lst ((List.range b).map λ y:Nat=>zf ((k:Int),(y:Int)))):=by
   unfold jV;refine sS (λ k:Nat=>T.int (0+(k:Int))) (λ y:Nat=>zf ((k:Int),(y:Int))) (List.range b) ?_ (by rw[Bg];lia) λ y hy=>?_
   .generalize (List.range b).map (λ k:Nat=>T.int (0+(k:Int)))=RR,zr F=fl at *;simp only[zh] at hw0;simp[hw0,hb,rb]
   .simp[zf]
  have e2:(L++(List.range b).map λ y:Nat=>((k:Int),(y:Int))).map zf=L.map zf++(List.range b).map λ y:Nat=>zf ((k:Int),(y:Int)):=by simp
  have hl:(L.map zf).length+((List.range b).map λ y:Nat=>zf ((k:Int),(y:Int))).length<=16777216:=by
   rw[Aw,Aw,Bg];lia
  refine⟨[some (.im (zr F)),some (.own (.lst ((L++(List.range b).map λ y:Nat=>((k:Int),(y:Int))).map zf))),some (.im (.int (0+(k:Int))))],?_,L++(List.range b).map λ y:Nat=>((k:Int),(y:Int)),by simp,λ x hx=>?_,?_,?_⟩
  .rw[e2];unfold turn jY;generalize (List.range b).map (λ y:Nat=>zf ((k:Int),(y:Int)))=RR at *;generalize L.map zf=LL at *;generalize jV=cc,zr F=fl,(0+(k:Int))=kk at *;simp[hc,hl]
  .rcases AX.mp hx with h | h
   .exact r1 x h
   .obtain⟨y,hy,rfl⟩:=An.mp h;have:=AA.mp hy;exact⟨⟨by show (0:Int)<=k;lia,by show (k:Int)<=F.A;lia⟩,by show (0:Int)<=y;lia,by show (y:Int)<=F.B;lia⟩
  .rw[Bf,Aw,Bg,Bf,C0];lia
  .simp only[Bf,Aw,Bg,C0];have:=ok.b0;lia)
 subst h2;rw[Bg] at h4 h5;refine⟨L,?_,h3,by lia,λ e=>by rw[e] at h5;have:=ok.a0;simp at h5;lia⟩;unfold nV V1;generalize L.map zf=LL,(List.range a).map (λ k:Nat=>T.int (0+(k:Int)))=RR,jY=bb,zr F=fl at *;simp only[zh] at hw0;simp[hw0,ha,ra,h1]
end
structure vL (F:zw) (m:Nat):Prop where
 fx:Fix F (zx F m)
 gd:∀ k,k<=m->∀ b∈zx F k,Gd F.A F.B b
def zB (F:zw) (m:Nat):List (List Bd):=(List.range (m+1)).map (zx F)
section
variable {F:zw}{m:Nat}
def qN (F:zw) (m:Nat):(zB F m).length=m+1:=by unfold zB;simp
def iU {k:Nat}(h:k<=m):(zB F m).getD k []=zx F k:=sW (zx F) (m+1) k [] (by lia)
def vL.Xg (R:vL F m) {k:Nat}(hk:k<=m) (p:Nat):Gd F.A F.B ((zx F k).getD p []):=by
 rcases A3 p (zx F k).length with h | h
 .rw[AI,AH h];exact R.gd k hk _ (Bn h)
 .rw[AI,Cd h];exact Gd.nil
def pG {p:Nat}{q:Int×Int}{k:Nat}(h:yD (zB F m) p q=some k):k<=m/\zG ((zx F k).getD p []) q=false:=by
 unfold yD at h;have h1:=AA.mp (Dm h);rw[qN] at h1;have h2:=List.find?_some h;rw[iU (by lia)] at h2;exact⟨by lia,by simpa using h2⟩
def dJ {p:Nat}{q:Int×Int}{k:Nat}(hk:k<=m) (h:zG ((zx F k).getD p []) q=false):∃ j,j<=k/\yD (zB F m) p q=some j:=by
 unfold yD;cases ho:(List.range (zB F m).length).find? (λ k=>!zG (((zB F m).getD k []).getD p []) q) with
 | none=>
  rw[DV] at ho;have:=ho k (AA.mpr (by rw[qN];lia));rw[iU hk,h] at this;exact absurd rfl this
 | some j=>
  refine⟨j,?_,rfl⟩;rcases A3 k j with hj | hj
  .have:=(List.find?_range_eq_some.mp ho).2.2 k hj;rw[iU hk,h] at this;cases this
  .exact hj
def lu {p:Nat}(hp:p<F.os.length) {q:Int×Int}(hq:yM F q):yD (zB F m) p q≠some 0:=λ h=>by
 obtain⟨_,h2⟩:=pG h;have e1:(zx F 0).getD p []=yZ:=by
  show (RN.start F).getD p []=yZ;unfold RN.start;rw[AI,Cf,if_pos hp];rfl
 rw[e1,XX.mpr ⟨hq.1.1,hq.2.1⟩] at h2;cases h2
def VQ:L2.zZ ((zB F m).map rT) (-1)=some (rT (zx F m)):=by
 unfold zB;rw[List.range_succ,Bm,Bm];exact lV
def VR {k:Nat}(h:k<=m):L2.zZ ((zB F m).map rT) (k:Int)=some (rT (zx F k)):=wq (by
 unfold zB;rw[AQ,Ay,DW (by lia)];rfl)
def sE (R:vL F m):(∀ r∈zB F m,r.length=F.os.length)/\∀ r∈zB F m,∀ b∈r,b.length<=100:=by
 constructor
 .intro r hr;obtain⟨k,hk,rfl⟩:=An.mp hr;exact qj F k
 .intro r hr b hb;obtain⟨k,hk,rfl⟩:=An.mp hr;have:=AA.mp hk;have h1:=(R.gd k (by lia) b hb).qh R.fx.ok.a0;have:=R.fx.ok.a1;lia
def LR (R:vL F m) {p:Nat}(hp:p<F.os.length) {q:Int×Int}(hq:yM F q) (ho:F.os.getD p false=false):∃ o:Option Nat,oa [zr F,.int (p:Int),zf q,zU (zB F m)]=some (s_ o)/\(yD (zB F m) p q=none->o=none)/\∀ k,yD (zB F m) p q=some k->∃ (i:Nat) (w:Wy),o=some i/\F.ws[i]?=some w/\w.f=p/\yT F (zx F (k-1)) q w=false:=by
 have h1:=WU (zB F m) F.os.length p q (sE R).1 (sE R).2 hp;have i0:w6 false .zl .zl=some (.bl true):=rfl;cases hd:yD (zB F m) p q with
 | none=>
  rw[hd] at h1;refine⟨none,?_,λ _=>rfl,nofun⟩;unfold oa iB;generalize nr=c1,qH=f1,zU (zB F m)=tt,zr F=fl,zf q=pq at *;simp only[s_] at h1 ⊢;simp[h1,i0]
 | some k=>
  rw[hd] at h1;obtain⟨k1,k2⟩:=pG hd;have k0:k≠0:=λ h=>lu hp hq (by rw[hd,h]);obtain⟨j,rfl⟩:∃ j,k=j+1:=⟨k-1,by lia⟩
  have Es:j<=m:=by lia
  have hg:(yX F p).all (yT F (zx F j) q)=false:=by
   have e:(zx F (j+1)).getD p []=y6 F (zx F j) p:=sW (λ p=>y6 F (zx F j) p) F.os.length p [] hp;rw[e,ez R.fx.ok (R.Xg Es) p hq] at k2;unfold pE at k2;rw[if_neg (by rw[ho];decide)] at k2;exact k2
  have Aj:(uq F p).filter (λ wi=>!yT F (zx F j) q wi.1)≠[]:=by
   intro h;rw[List.filter_eq_nil_iff] at h;have:(yX F p).all (yT F (zx F j) q)=true:=by
    rw[BA];intro w hw;have ha:=V3 (F:=F) (p:=p) (λ v=>!yT F (zx F j) q v);have:(uq F p).any (λ wi=>!yT F (zx F j) q wi.1)=false:=by
     rw[<- Dl,AM];rintro⟨wi,h1,h2⟩;exact h wi h1 h2
    rw[this] at ha;cases hl:yT F (zx F j) q w with
    | true=>rfl
    | false=>
     have:(yX F p).any (λ v=>!yT F (zx F j) q v)=true:=AM.mpr ⟨w,hw,by simp[hl]⟩;rw[<- ha] at this;cases this
   rw[hg] at this;cases this
  obtain⟨wi,rest,B7⟩:∃ wi rest,(uq F p).filter (λ wi=>!yT F (zx F j) q wi.1)=wi::rest:=by
   cases h:(uq F p).filter (λ wi=>!yT F (zx F j) q wi.1) with
   | nil=>exact absurd h Aj
   | cons a b=>exact⟨a,b,rfl⟩
  have AU:wi∈(uq F p).filter (λ wi=>!yT F (zx F j) q wi.1):=by rw[B7];exact Al
  obtain⟨m1,m2⟩:=AV.mp AU;obtain⟨g1,g2⟩:=ar m1;refine⟨some wi.2,?_,nofun,λ k hk=>?_⟩
  .have C4:=WM F p hp R.fx.ok.uQ;have CG:=VR (F:=F) (m:=m) Es;have hc:nr [some (.im (zr F)),some (.im (.int (p:Int))),some (.im (zf q)),some (.im (zU (zB F m))),some (.im (.int ((j:Int)+1)))]=some (.lst (((uq F p).filter λ wi=>!yT F (zx F j) q wi.1).map λ wi=>T.int (wi.2:Int))):=by
    have:=pA (λ wi:Wy×Nat=>T.int (wi.2:Int)) (λ wi=>if (!yT F (zx F j) q wi.1)=true then some (T.int (wi.2:Int)) else none) (pick:=[none,some 0,some 2,some 3,some 4]) (it:=xn (zt rD (za (zk 0) (za (zk 1) zj)))) (g:=zC 0) (c:=vw (xx (zt oj (za (zk 1) (za (zk 2) (za (zk 0) (za (zb zh (zc 3) (zb xC (zc 4) (cI 1))) zj))))))) (f:=zk 0) (J:=[some (.im (zr F)),some (.im (.int (p:Int))),some (.im (zf q)),some (.im (zU (zB F m))),some (.im (.int ((j:Int)+1)))]) (uq F p) (by
      replace C4:rD [zr F,.int (p:Int)]=some (.lst ((uq F p).map λ wi=>T.int (wi.2:Int))):=C4;generalize (uq F p).map (λ wi=>T.int (wi.2:Int))=WW,rD=f1,zr F=fl at *;simp[C4]) (by
      have h7:(uq F p).length<=F.ws.zipIdx.length:=Ca _ _;have h8:=R.fx.ok.uQ;have h9:F.ws.zipIdx.length=F.ws.length:=by simp
      lia) (λ wi hw=>by
      obtain⟨q1,q2⟩:=ar hw;have ht:wi.1.t<(zx F j).length:=by rw[qj];exact (R.fx.ok.ws wi.1 (A7 q1)).2
      have h3:=LW (F:=F) (l:=zx F j) (q:=q) q1 ht (by
       have:=(R.Xg Es wi.1.t).qh R.fx.ok.a0;have:=R.fx.ok.a1;lia)
      have hs:(j:Int)+1-1=j:=by lia
      have htt:zU (zB F m)=.lst ((zB F m).map rT):=rfl;rw[htt];generalize (zB F m).map rT=TT,oj=f1,zr F=fl,zf q=pq,rT (zx F j)=rl,yT F (zx F j) q wi.1=b at *;cases b <;> simp[hs,CG,h3])
    unfold nr;rw[this,nj]
   rw[B7,Aq] at hc;have i1:w6 false (.int ((j:Int)+1)) .zl=some (.bl false):=rfl;unfold oa iB;generalize rest.map (λ wi=>T.int (wi.2:Int))=RR,nr=c1,qH=f1,zU (zB F m)=tt,zr F=fl,zf q=pq at *;simp only[s_,Cu] at h1 ⊢;simp[h1,i1,hc]
  .cases hk;exact⟨wi.2,wi.1,rfl,g1,g2,by simpa using m2⟩
def LI (R:vL F m) (hr:vm [zr F]=some (zU (zB F m))) {p:Nat}(hp:p<F.os.length) {q:Int×Int}(hq:yM F q):∃ o:Option Nat,rE [zr F,.int (p:Int),zf q]=some (s_ o)/\((F.os.getD p false=true\/yD (zB F m) p q=none)->o=none)/\(F.os.getD p false=false->∀ k,yD (zB F m) p q=some k->∃ (i:Nat) (w:Wy),o=some i/\F.ws[i]?=some w/\w.f=p/\yT F (zx F (k-1)) q w=false):=by
 have h1:=i6 F p hp;have h2:=WY F q hq;have hw1:=mY F;have ho:=jn hp;have hk:=eQ (F.os.getD p false);cases hb:F.os.getD p false with
 | true=>
  rw[hb] at ho hk;refine⟨none,?_,λ _=>rfl,nofun⟩;unfold rE iC;generalize su=f1,qI=f2,oa=f3,vm=f4,F.os.map kt=OS,zr F=fl,zf q=pq,kt true=ko,(T.str "keeper")=ks,zJ false=ee at *;simp only[zh] at hw1;simp[h1,h2,hw1,ho,hk,s_]
 | false=>
  rw[hb] at ho hk;obtain⟨o,o1,o2,o3⟩:=LR R hp hq hb;refine⟨o,?_,λ h=>o2 (h.resolve_left (by decide)),λ _=>o3⟩;unfold rE iC;generalize su=f1,qI=f2,oa=f3,vm=f4,zU (zB F m)=tt,s_ o=dd,F.os.map kt=OS,zr F=fl,zf q=pq,kt false=ko,(T.str "keeper")=ks,zJ false=ee at *;simp only[zh] at hw1;simp[h1,h2,hw1,ho,hk,hr,o1]
theorem YG (ok:F.Ok):∀ (k p:Nat),Gd F.A F.B ((zx F k).getD p [])
 | k,p=>by
  by_cases h:p<F.os.length
  .cases k with
   | zero=>
    have e:(zx F 0).getD p []=yZ:=by
     show (List.replicate F.os.length yZ).getD p []=yZ;rw[AI,Cf,if_pos h];rfl
    rw[e];exact Gd.yZ ok.a0 ok.b0
   | succ k=>
    rw[show (zx F (k+1)).getD p []=y6 F (zx F k) p from sW _ _ _ _ h];exact e9 ok _ _
  .rw[AI,Cd (by rw[qj];lia)];exact Gd.nil
theorem YH (ok:F.Ok):∀ (k p:Nat),yG ((zx F (k+1)).getD p []) ((zx F k).getD p [])
 | k,p=>by
  by_cases h:p<F.os.length
  .cases k with
   | zero=>
    have e:(zx F 0).getD p []=yZ:=by
     show (List.replicate F.os.length yZ).getD p []=yZ;rw[AI,Cf,if_pos h];rfl
    rw[e];exact (YG ok 1 p).j7
   | succ k=>
    rw[show (zx F (k+1+1)).getD p []=y6 F (zx F (k+1)) p from sW _ _ _ _ h,show (zx F (k+1)).getD p []=y6 F (zx F k) p from sW _ _ _ _ h];exact Yp F p λ w _ _=>YH ok k w.t
  .rw[show (zx F (k+1)).getD p []=[] by rw[AI,Cd (by rw[qj];lia)];rfl];exact λ q hq=>by cases hq
def OZ (ok:F.Ok) {j k:Nat}(h:j<=k) (p:Nat):yG ((zx F k).getD p []) ((zx F j).getD p []):=by
 induction k with
 | zero=>cases Nat.le_zero.mp h;exact yG.refl _
 | succ k ih=>
  rcases Nat.lt_or_eq_of_le h with x | x
  .exact (YH ok k p).trans (ih (by lia))
  .subst x;exact yG.refl _
def Mn (ok:F.Ok) {p:Nat}{q:Int×Int}{j:Nat}(hm:m<=5000) (hj:j<=m) (h:zG ((zx F j).getD p []) q=true):(j:Int)+1<=vx (yD (zB F m) p q):=by
 cases e:yD (zB F m) p q with
 | none=>show (j:Int)+1<=10 ^ 9;lia
 | some k=>
  obtain⟨_,h2⟩:=pG e;show (j:Int)+1<=(k:Int)
  by_cases hk:k<=j
  .have:=OZ ok hk p q h;rw[h2] at this;cases this
  .omega
def Mm (hm:m<=5000) {p:Nat}{q:Int×Int}{j:Nat}(hj:j<=m) (h:(j:Int)+1<=vx (yD (zB F m) p q)):zG ((zx F j).getD p []) q=true:=by
 cases hc:zG ((zx F j).getD p []) q with
 | true=>rfl
 | false=>
  obtain⟨i,hi,e⟩:=dJ (m:=m) hj hc;rw[e] at h;have:(j:Int)+1<=(i:Int):=h;lia
def Xc (ok:F.Ok) {k:Nat}{p:Nat}(hp:p<F.os.length) {q:Int×Int}(hq:yM F q):zG ((zx F (k+1)).getD p []) q=pE F (zx F k) p q:=by
 rw[show (zx F (k+1)).getD p []=y6 F (zx F k) p from sW _ _ _ _ hp];exact ez ok (λ t=>YG ok k t) p hq
def xE (F:zw) (p:Nat) (q:Int×Int):List (Int×Int):=if F.os.getD p false=true then uG F p q else [q]
def yh (F:zw) (p:Nat) (q:Int×Int):List ((Int×Int)×Wy):=(xE F p q).flatMap λ r=>(yX F p).map λ w=>(r,w)
def y4 (F:zw) (m:Nat) (d:(Int×Int)×Wy):Int:=match vS F d.1 d.2 with
 | none=>0
 | some b=>vx (yD (zB F m) d.2.t b)
def pz {p:Nat}{q:Int×Int}{d:(Int×Int)×Wy}:d∈yh F p q↔d.1∈xE F p q/\d.2∈yX F p:=by
 unfold yh;rw[BM];constructor
 .rintro⟨r,hr,h⟩;obtain⟨w,hw,rfl⟩:=An.mp h;exact⟨hr,hw⟩
 .rintro⟨h1,h2⟩;exact⟨d.1,h1,An.mpr ⟨d.2,h2,rfl⟩⟩
def MD (F:zw) (p:Nat) (q:Int×Int):xE F p q≠[]:=by
 unfold xE uG;split
 .split
  .simp
  .unfold vg;simp
 .simp
def X9 (hw:∀ x<F.os.length,∃ w∈F.ws,w.f=x) {p:Nat}(hp:p<F.os.length) (q:Int×Int):yh F p q≠[]:=λ e=>by
 obtain⟨w,hw1,hw2⟩:=hw p hp;obtain⟨r,rs,er⟩:=List.exists_cons_of_ne_nil (MD F p q);have:(r,w)∈yh F p q:=pz.mpr ⟨by rw[er];exact Al,AV.mpr ⟨hw1,by simpa using hw2⟩⟩;rw[e] at this;cases this
def Y8 (ok:F.Ok) (hm:m<=5000) {j:Nat}(hj:j<=m) {d:(Int×Int)×Wy}(h:yT F (zx F j) d.1 d.2=true):(j:Int)+1<=y4 F m d:=by
 unfold yT at h;unfold y4;split at h
 .cases h
 .rename_i b e
  try rw[e]
  exact Mn ok hm hj h
def Y7 {j:Nat}(hj:j<=m) {d:(Int×Int)×Wy}(h:yT F (zx F j) d.1 d.2=false):y4 F m d<=(j:Int):=by
 unfold yT at h;unfold y4;split at h
 .rename_i e
  try rw[e]
  show (0:Int)<=_;lia
 .rename_i b e
  try rw[e]
  obtain⟨i,hi,e2⟩:=dJ (m:=m) hj h;show vx (yD (zB F m) d.2.t b)<=_;rw[e2];show (i:Int)<=j;lia
def OU (ok:F.Ok) {p:Nat}(hp:p<F.os.length) {q:Int×Int}(hq:yM F q) (ho:F.os.getD p false=true) {k:Nat}(hk:yD (zB F m) p q=some k) {d:(Int×Int)×Wy}(hd:d∈yh F p q):y4 F m d<(k:Int):=by
 obtain⟨k1,k2⟩:=pG hk;obtain⟨i,rfl⟩:∃ i,k=i+1:=⟨k-1,by have:k≠0:=λ e=>lu (m:=m) hp hq (by rw[hk,e]);lia⟩
 rw[Xc ok hp hq] at k2;unfold pE at k2;rw[if_pos ho] at k2;obtain⟨h1,h2⟩:=pz.mp hd;unfold xE at h1;rw[if_pos ho] at h1;have hl:yT F (zx F i) d.1 d.2=false:=by
  cases e:yT F (zx F i) d.1 d.2 with
  | false=>rfl
  | true=>
   have:((uG F p q).any λ r=>(yX F p).any (yT F (zx F i) r))=true:=AM.mpr ⟨d.1,h1,AM.mpr ⟨d.2,h2,e⟩⟩;rw[this] at k2;cases k2
 have:=Y7 (m:=m) (by lia) hl;lia
def k7 (ok:F.Ok) {p:Nat}{w:Wy}(h:w∈yX F p):w.f=p/\w.t<F.os.length:=by
 obtain⟨h1,h2⟩:=AV.mp h;exact⟨by simpa using h2,(ok.ws w h1).2⟩
def aP {q b:Int×Int}{w:Wy}(ok:F.Ok) (h:vS F q w=some b):yM F b:=by
 unfold vS at h;split at h
 .cases h
 .cases h;have:=ok.a0;have:=ok.b0;exact⟨⟨by dsimp only;lia,by dsimp only;lia⟩,by dsimp only;lia,by dsimp only;lia⟩
def zP (d:(Int×Int)×Wy):T:=.tup [zf d.1,zQ d.2]
def dQ (d:(Int×Int)×Wy):zh (zP d) (.int 0)=some (zf d.1):=rfl
def dP (d:(Int×Int)×Wy):zh (zP d) (.int 1)=some (zQ d.2):=rfl
def ao (w:Wy):zh (zQ w) (.int 0)=some (.int w.f):=rfl
def iK (w:Wy):zh (zQ w) (.int 1)=some (.int w.t):=rfl
def Wc (F:zw) (p:Nat) (q:Int×Int):(xE F p q).length<=21:=by
 unfold xE;split
 .exact ME F p q
 .simp
theorem d9 (ok:F.Ok) (p:Nat):∀ cs:List (Int×Int),(cs.flatMap λ r=>(yX F p).map λ w=>(r,w)).length<=60*cs.length
 | []=>by simp
 | r::cs=>by
  have ih:=d9 ok p cs;have h1:(yX F p).length<=60:=A9 (Ca _ _) ok.uQ;rw[List.flatMap_cons,Bf,Aw,AW];lia
def WV (ok:F.Ok) (B8:F.ss.Pairwise (λ a b=>a.p≠b.p)) {p:Nat}(hp:p<F.os.length) {q:Int×Int}(hq:yM F q):tB [zr F,.int (p:Int),zf q]=some (.lst ((yh F p q).map zP)):=by
 have uQ:=ok.uQ;have AJ:=Wc F p q;have hc:∀ (r:Int×Int) (x3 x4:Option L5.W),lH [some (.im (zr F)),some (.im (.int (p:Int))),some (.im (zf q)),x3,x4,some (.im (zf r))]=some (.lst (((yX F p).map λ w=>(r,w)).map zP)):=λ r x3 x4=>by
  have e:((yX F p).map λ w=>(r,w)).map zP=F.ws.filterMap λ w=>if decide (w.f=p)=true then some (zP (r,w)) else none:=by
   rw[AQ];exact (nj (λ w:Wy=>decide (w.f=p)) (λ w=>zP (r,w)) F.ws).symm
  rw[e];unfold lH;refine pA zQ (λ w=>if decide (w.f=p)=true then some (zP (r,w)) else none) F.ws (by
   have:=jI F;generalize zr F=fl,F.ws.map zQ=WL at *;simp only[zh] at this;simp[this]) (by lia) λ w _=>?_
  have q1:=eq_int (w.f:Int) (p:Int) false;have w0:=ao w;rw[show zP (r,w)=.tup [zf r,zQ w] from rfl];generalize zr F=fl,zf r=pr,zf q=pq,zQ w=ww,zJ=ee,zh=ix at *;by_cases h:w.f=p
  .subst h;simp[u5,w0,q1]
  .have h':¬ ((w.f:Int)=(p:Int)):=by lia
   simp[u5,w0,q1,h,h']
 obtain⟨J',g1,g2⟩:=vB (is:=[5]) (g:=zC 5) (b:=lP) zf
   (λ cs J=>J=[some (.im (zr F)),some (.im (.int (p:Int))),some (.im (zf q)),some (.im (.lst ((xE F p q).map zf))),some (.own (.lst ((cs.flatMap λ r=>(yX F p).map λ w=>(r,w)).map zP))),none])
   (xE F p q) [some (.im (zr F)),some (.im (.int (p:Int))),some (.im (zf q)),some (.im (.lst ((xE F p q).map zf))),some (.own (.lst [])),none] rfl (by
  rintro cs r cs' e J rfl;have hlc:cs.length+1<=(xE F p q).length:=by rw[e];simp
  have f1:=d9 ok p cs;have h1:(yX F p).length<=60:=A9 (Ca _ _) uQ;refine⟨[some (.im (zr F)),some (.im (.int (p:Int))),some (.im (zf q)),some (.im (.lst ((xE F p q).map zf))),some (.own (.lst (((cs++[r]).flatMap λ r=>(yX F p).map λ w=>(r,w)).map zP))),some (.im (zf r))],?_,rfl⟩;have e2:((cs++[r]).flatMap λ r=>(yX F p).map λ w=>(r,w)).map zP=(cs.flatMap λ r=>(yX F p).map λ w=>(r,w)).map zP++((yX F p).map λ w=>(r,w)).map zP:=by
   rw[List.flatMap_append,Bm];simp
  have hl:((cs.flatMap λ r=>(yX F p).map λ w=>(r,w)).map zP).length+(((yX F p).map λ w=>(r,w)).map zP).length<=16777216:=by
   rw[Aw,Aw,Aw];lia
  have hc':=hc r (some (.im (.lst ((xE F p q).map zf)))) (some (.own (.lst ((cs.flatMap λ r=>(yX F p).map λ w=>(r,w)).map zP))));rw[e2];unfold turn lP;generalize lH=cc,(cs.flatMap λ r=>(yX F p).map λ w=>(r,w)).map zP=L0 at *;generalize ((yX F p).map λ w=>(r,w)).map zP=L1 at *;generalize (xE F p q).map zf=CL,zr F=fl,zf q=pq,zf r=pr at *;simp[hc',hl])
 subst g2;have BC:=Ke ok B8 p hq;have hko:=jn hp;have Br:=eQ (F.os.getD p false);have i1:=mY F;have ed:(yh F p q).map zP=((xE F p q).flatMap λ r=>(yX F p).map λ w=>(r,w)).map zP:=rfl;rw[ed];unfold tB bO;generalize lP=bb,((xE F p q).flatMap λ r=>(yX F p).map λ w=>(r,w)).map zP=DL,kd=fc at *;have ix1:zh (.tup (F.os.map kt)) (.int (p:Int))=some (kt (F.os.getD p false)):=hko;generalize (T.tup (F.os.map kt))=OT,zr F=fl at *;cases ho:F.os.getD p false with
 | true=>
  rw[ho] at Br ix1;have ec:xE F p q=uG F p q:=by unfold xE;rw[if_pos ho]
  rw[ec] at g1;generalize (uG F p q).map zf=CL,kt true=kb,zf q=pq,zJ=ee,zh=ix at *;simp[i1,ix1,Br,BC,g1]
 | false=>
  rw[ho] at Br ix1;have ec:(xE F p q).map zf=[zf q]:=by unfold xE;rw[if_neg (by rw[ho];decide)];rfl
  rw[ec] at g1;generalize kt false=kb,zf q=pq,zJ=ee,zh=ix at *;simp[i1,ix1,Br,g1]
def WO (R:vL F m) (hm:m<=5000) {d:(Int×Int)×Wy}(ht:d.2.t<F.os.length):rG [zr F,zU (zB F m),zP d]=some (.int (y4 F m d)):=by
 have h1:=bg F d.1 d.2;have h2:=λ b=>kh (zB F m) F.os.length d.2.t b (sE R).1 ht (by rw[qN];lia);have d0:=dQ d;have d1:=dP d;have w1:=iK d.2;unfold y4;unfold rG bK;generalize uo=fb,wC=ff,zU (zB F m)=tt,zP d=dd,zQ d.2=ww,zr F=fl,zh=ix at *;cases hs:vS F d.1 d.2 with
 | none=>
  rw[hs] at h1;have h1':fb [fl,zf d.1,ww]=some .zl:=h1;have i1:w6 false .zl .zl=some (.bl true):=rfl;generalize zf d.1=pd at *;simp[d0,d1,h1',i1]
 | some b=>
  rw[hs] at h1;have h1':fb [fl,zf d.1,ww]=some (zf b):=h1;have h2':=h2 b;have i1:w6 false (zf b) .zl=some (.bl false):=rfl;generalize zf d.1=pd,zf b=pb,w6=ii at *;simp[d0,d1,w1,h1',i1,h2']
theorem Yw {α:Type}{is:List Nat}{g:T->Ev->Option Ev}{b:Sm}(enc:α->T) (v:T) (I:Ev->Prop):∀ (xs:List α) (J:Ev),I (yC is J)->
  (∀ x∈xs,∀ J,I J->turn g b (enc x) J=some (.rt v)\/∃ J',turn g b (enc x) J=some (.nx J')/\I (yC is J'))->xX is g b (xs.map enc) J=some (.rt v)\/∃ J',xX is g b (xs.map enc) J=some (.nx J')/\I J'
 | [],J,h,_=>.inr ⟨_,rfl,h⟩
 | x::xs,J,h,hs=>by
  rw[Aq,j5];rcases hs x Al _ h with e | ⟨J',e,h'⟩
  .rw[e];exact .inl rfl
  .rw[e];exact Yw enc v I xs J' h' λ y hy=>hs y (Av _ hy)
def qO:Sm:=
 (zp (zD 10 (zt rG (za (zk 1) (za (zk 2) (za (zk 8) zj)))))
 (zp (yo (vF (zM (zb vD (zc 10) (zc 5))) (zM (zb (zJ true) (zb zh (zb zh (zc 8) (cI 1)) (cI 0)) (zc 3)))) (retS (cS (.bl false))) yn)
 (zp (yo (zM (zb (zJ false) (zc 10) (cI 0))) (retS (cS (.bl true))) yn)
 (zp (zD 4 (zt uo (za (zk 1) (za (zb zh (zc 8) (cI 0)) (za (zb zh (zc 8) (cI 1)) zj)))))
 (zp (zD 3 (zb zh (zb zh (zc 8) (cI 1)) (cI 1)))
 (zD 5 (zk 10)))))))
def t7 (sc:T) (F:zw) (m p:Nat) (q:Int×Int) (k:Int) (x6 x7 x8 x9 x10:Option L5.W):Ev:=[some (.im sc),some (.im (zr F)),some (.im (zU (zB F m))),some (.im (.int (p:Int))),some (.im (zf q)),some (.im (.int k)),x6,x7,x8,x9,x10]
def lZ (sc:T) (F:zw) (m:Nat) (J:Ev):Prop:=∃ (p:Nat) (q:Int×Int) (k:Nat),J=t7 sc F m p q k none none none none none/\p<F.os.length/\yM F q/\yD (zB F m) p q=some k
def VS (R:vL F m) (hm:m<=5000) (sc:T) {p:Nat}{q:Int×Int}{k:Nat}(hk:k<=m) (x6 x7 x9 x10:Option L5.W) {d:(Int×Int)×Wy}(hf:d.2.f=p) (ht:d.2.t<F.os.length) (hl:y4 F m d<(k:Int)):
  qO (t7 sc F m p q k x6 x7 (some (.im (zP d))) x9 x10)=some (.rt (.bl true))\/∃ J',qO (t7 sc F m p q k x6 x7 (some (.im (zP d))) x9 x10)=some (.nx J')/\lZ sc F m (yC [6,7,8,9,10] J'):=by
 have h1:=WO R hm ht;have h2:=bg F d.1 d.2;have d0:=dQ d;have d1:=dP d;have w0:=ao d.2;have w1:=iK d.2;have q1:=eq_int (d.2.f:Int) (p:Int) true;rw[hf] at w0 q1;have q0:=eq_int (y4 F m d) 0 false;have ge:vD (.int (y4 F m d)) (.int (k:Int))=some (.bl false):=by
  show some (T.bl (decide ((k:Int)<=y4 F m d)))=_;rw[za0 (by lia)]
 by_cases hz:y4 F m d=0
 .left;rw[hz] at h1 q0 ge;unfold qO t7;generalize rG=fl1,zU (zB F m)=tt,zP d=dd,zQ d.2=ww,zr F=fl,zf q=pq,zh=ix,zJ=ee,vD=gg at *;simp[h1,ge,d1,w0,q1,q0]
 .right;cases hs:vS F d.1 d.2 with
  | none=>exact absurd (by unfold y4;rw[hs]) hz
  | some b=>
   rw[hs] at h2;have h2':uo [zr F,zf d.1,zQ d.2]=some (zf b):=h2;have el:y4 F m d=vx (yD (zB F m) d.2.t b):=by unfold y4;rw[hs]
   obtain⟨j,hj⟩:∃ j,yD (zB F m) d.2.t b=some j:=by
    cases e:yD (zB F m) d.2.t b with
    | some j=>exact⟨j,rfl⟩
    | none=>
     exfalso;rw[el,e] at hl;have:(10:Int) ^ 9<k:=hl;lia
   have el2:y4 F m d=(j:Int):=by rw[el,hj];rfl
   refine⟨t7 sc F m d.2.t b j x6 x7 (some (.im (zP d))) x9 (some (.im (.int (j:Int)))),?_,d.2.t,b,j,rfl,ht,aP R.fx.ok hs,hj⟩;rw[el2] at h1 q0 ge hz;have hz':¬ j=0:=by lia
   unfold qO t7;generalize rG=fl1,uo=fb,zU (zB F m)=tt,zP d=dd,zQ d.2=ww,zr F=fl,zf q=pq,zf b=pb,zf d.1=pd,zh=ix,zJ=ee,vD=gg at *;simp[h1,ge,d0,d1,w0,w1,q1,q0,hz,hz',h2']
def ZD (ns:List Int) (i:Nat) {L:List ((Int×Int)×Wy)}(Aj:L≠[]):∃ d∈L,L2.zZ (L.map zP) (cell ns (39+i)%(L.length:Int))=some (zP d):=by
 have hp:(0:Int)<L.length:=by have:=C2.mpr Aj;lia
 have h0:=CD (cell ns (39+i)) (b:=(L.length:Int)) (by lia);have h1:=DF (cell ns (39+i)) hp;obtain⟨j,hj⟩:∃ j:Nat,cell ns (39+i)%(L.length:Int)=(j:Int):=⟨_,(Ci h0).symm⟩
 rw[hj] at h1 ⊢;have hl:j<L.length:=by lia
 exact⟨L[j],Bn hl,wq (by rw[Ay,AH hl];rfl)⟩
def Ov (R:vL F m) (hm:m<=5000) (hw:∀ x<F.os.length,∃ w∈F.ws,w.f=x) (hr:vm [zr F]=some (zU (zB F m))) (ns:List Int) (i:Nat) (J:Ev) (hρ:lZ (zI ns) F m J):
  turn (zC 6) t5 (.int (0+(i:Int))) J=some (.rt (.bl true))\/∃ J',turn (zC 6) t5 (.int (0+(i:Int))) J=some (.nx J')/\lZ (zI ns) F m (yC [6,7,8,9,10] J'):=by
 obtain⟨p,q,k,rfl,hp,hq,hk⟩:=hρ;have ok:=R.fx.ok;have km:=(pG hk).1;have hD:=WV ok R.fx.pw hp hq;have hDn:=X9 hw hp q;have hc:=sy ns (39+i);have hc':yu [zI ns,.int (39+(0+(i:Int)))]=some (.int (cell ns (39+i))):=by
  rw[show (39+(0+(i:Int)))=((39+i:Nat):Int) by lia];exact hc
 obtain⟨d,hd,B1⟩:=ZD ns i hDn;have hlen:y7 [.lst ((yh F p q).map zP)]=some (.int ((yh F p q).length:Int)):=by simp
 have En:(0:Int)<(yh F p q).length:=by have:=C2.mpr hDn;lia
 have C_:zS (.int (cell ns (39+i))) (.int ((yh F p q).length:Int))=some (.int (cell ns (39+i)%((yh F p q).length:Int))):=by
  show (if _ then _ else _)=_;rw[if_pos En]
 have BL:zh (.lst ((yh F p q).map zP)) (.int (cell ns (39+i)%((yh F p q).length:Int)))=some (zP d):=B1;have Br:=OH (F.os.getD p false);have ix1:zh (.tup (F.os.map kt)) (.int (p:Int))=some (kt (F.os.getD p false)):=jn hp;have i1:=mY F;have i2:=jI F;have hb:t5=(zp (zD 7 (zt tB (za (zk 1) (za (zk 3) (za (zk 4) zj)))))
  (zp (zD 8 (zb zh (zc 7) (zb zS (zt yu (za (zk 0) (za (zb yw (cI 39) (zc 6)) zj))) (zt y7 (za (zc 7) zj)))))
  (zp (yo (zM (zb (zJ false) (zb zh (zb zh (zc 1) (cI 1)) (zc 3)) (cS (.str "taker")))) (zp (zD 9 (zt rE (za (zk 1) (za (zk 3) (za (zk 4) zj)))))
  (zp (yo (vF (vw (xx (instS "int" (zc 9)))) (vF (xx (instS "bool" (zc 9))) (vw (zM (jU tR yx (cI 0) (zc 9) (zt y7 (za (zb zh (zc 1) (cI 2)) zj))))))) (retS (cS (.bl false))) yn)
  (zD 8 (tupS (za (zk 4) (za (zb zh (zb zh (zc 1) (cI 2)) (zc 9)) zj)))))) yn) qO))):=rfl
 have key:∃ (d':(Int×Int)×Wy) (x7 x9:Option L5.W),(d'.2.f=p/\d'.2.t<F.os.length)/\y4 F m d'<(k:Int)/\turn (zC 6) t5 (.int (0+(i:Int))) (t7 (zI ns) F m p q k none none none none none)=qO (t7 (zI ns) F m p q k (some (.im (.int (0+(i:Int))))) x7 (some (.im (zP d'))) x9 none):=by
  rw[hb];unfold t7 turn;generalize qO=tl at *;cases ho:F.os.getD p false with
  | true=>
   rw[ho] at Br ix1;have hdw:=k7 ok (pz.mp hd).2;refine⟨d,some (.im (.lst ((yh F p q).map zP))),none,hdw,OU ok hp hq ho hk hd,?_⟩;generalize tB=f1,yu=f2,rE=f3,zP d=dd,(yh F p q).map zP=DL,(yh F p q).length=dl,zU (zB F m)=tt,(T.tup (F.os.map kt))=OT,zr F=fl,zf q=pq,zI ns=sc,(0+(i:Int))=ii,kt true=kb,zh=ix,zJ=ee,y7=ll,zS=md at *;simp[hD,hc',hlen,C_,BL,i1,ix1,Br]
  | false=>
   rw[ho] at Br ix1;obtain⟨o,o1,_,o3⟩:=LI R hr hp hq;obtain⟨n,w,rfl,hn,C4,B7⟩:=o3 ho k hk;have o1':rE [zr F,.int (p:Int),zf q]=some (.int (n:Int)):=o1;have hnl:n<F.ws.length:=by
    rcases A3 n F.ws.length with h | h
    .exact h
    .rw[Cd h] at hn;cases hn
   have k0:k≠0:=λ e=>lu (m:=m) hp hq (by rw[hk,e]);have Am:y4 F m (q,w)<(k:Int):=by
    have:=Y7 (m:=m) (j:=k-1) (by lia) (d:=(q,w)) B7;lia
   have hwm:w∈F.ws:=A7 hn;have hiw:zh (.tup (F.ws.map zQ)) (.int (n:Int))=some (zQ w):=by
    show L2.zZ (F.ws.map zQ) (n:Int)=_;exact wq (by rw[Ay,hn];rfl)
   have Em:y7 [.tup (F.ws.map zQ)]=some (.int (F.ws.length:Int)):=by simp
   have j7:tR (.int 0) (.int (n:Int))=some (.bl true):=by
    show some (T.bl (decide ((0:Int)<=n)))=_;rw[za2 (by lia)]
   have lt0:yx (.int (n:Int)) (.int (F.ws.length:Int))=some (.bl true):=by
    have:(n:Int)<(F.ws.length:Int):=by lia
    simp[yx];lia
   have j1:u6 "int" "int"=true:=by decide
   have j2:u6 "int" "bool"=false:=by decide
   refine⟨(q,w),some (.im (.lst ((yh F p q).map zP))),some (.im (.int (n:Int))),⟨C4,(ok.ws w hwm).2⟩,Am,?_⟩;rw[show zP (q,w)=.tup [zf q,zQ w] from rfl];generalize tB=f1,yu=f2,rE=f3,zP d=dd,(yh F p q).map zP=DL,(yh F p q).length=dl,zU (zB F m)=tt,(T.tup (F.os.map kt))=OT,(T.tup (F.ws.map zQ))=WT,F.ws.length=wl,zQ w=ww,zr F=fl,zf q=pq,zI ns=sc,(0+(i:Int))=ii,kt false=kb,zh=ix,zJ=ee,y7=ll,zS=md,tR=l1,yx=l2 at *;simp[hD,hc',hlen,C_,BL,i1,ix1,Br,o1',i2,Em,hiw,j7,lt0,j1,j2]
 obtain⟨d',x7,x9,⟨hf,ht⟩,hl,e⟩:=key;rw[e];exact VS R hm (zI ns) km _ _ _ _ hf ht hl
def Ow (mf:T->T->Option T) {u:Int}{sc fl tt:T}{p n L:Nat}{pq:T}{k:Nat}{tl:List T}{I:Ev->Prop}(s3:mf (.int 17) (.int u)=some (.int (17*u)))
  (hB:bJ=(zp (zD 5 (zt wC (za (zk 2) (za (zk 3) (za (zk 4) zj)))))
   (zp (xP [6,7,8,9,10] (wg v9 (za (zt wQ (za (zc 5) (za (zb xC (cI 20) (zb mf (cI 17) (zt ql (za (zb vC (zt y7 (za (zc 2) zj)) (cI 40)) zj)))) zj))) zj)) (zC 6) t5)
   (retS (zb vC (zc 5) (cI 0))))))
  (hL:wC [tt,.int (p:Int),pq]=some (.int (k:Int))) (hlen:y7 [tt]=some (.int (L:Int))) (s1:vC (.int (L:Int)) (.int 40)=some (.bl (decide ((40:Int)<L)))) (s2:ql [.bl (decide ((40:Int)<L))]=some (.int u)) (s4:xC (.int 20) (.int (17*u))=some (.int (20-17*u)))
  (s5:wQ [.int (k:Int),.int (20-17*u)]=some (.int (n:Int))) (s6:v9 [.int (n:Int)]=some tl)
  (hloop:xX [6,7,8,9,10] (zC 6) t5 tl [some (.im sc),some (.im fl),some (.im tt),some (.im (.int (p:Int))),some (.im pq),some (.im (.int (k:Int))),none,none,none,none,none]=some (.rt (.bl true))\/∃ J',xX [6,7,8,9,10] (zC 6) t5 tl [some (.im sc),some (.im fl),some (.im tt),some (.im (.int (p:Int))),some (.im pq),some (.im (.int (k:Int))),none,none,none,none,none]=some (.nx J')/\I J')
  (Ex:∀ J',I J'->retS (zb vC (zc 5) (cI 0)) J'=some (.rt (.bl true))):nX [sc,fl,tt,.int (p:Int),pq]=some (.bl true):=by
 unfold nX;rw[hB];generalize t5=bb,wC=ff at *;generalize hR:retS (zb vC (zc 5) (cI 0))=rr at *;generalize decide ((40:Int)<L)=dc,y7=ll,vC=gg,ql=ii,xC=ss,wQ=mm at *;rcases hloop with h | ⟨J',h,hI⟩
 .simp[hL,hlen,s1,s2,s3,s4,s5,s6,h]
 .have:=Ex J' hI;simp[hL,hlen,s1,s2,s3,s4,s5,s6,h,this]
def LV (R:vL F m) (hm:m<=5000) (hw:∀ x<F.os.length,∃ w∈F.ws,w.f=x) (hr:vm [zr F]=some (zU (zB F m))) (ns:List Int) {p:Nat}(hp:p<F.os.length) {q:Int×Int}(hq:yM F q) {k:Nat}(hk:yD (zB F m) p q=some k):
  nX [zI ns,zr F,zU (zB F m),.int (p:Int),zf q]=some (.bl true):=by
 have hL:=kh (zB F m) F.os.length p q (sE R).1 hp (by rw[qN];lia);rw[hk] at hL;have hL':wC [zU (zB F m),.int (p:Int),zf q]=some (.int (k:Int)):=hL;have km:=(pG hk).1;generalize hu:(if (40:Int)<(zB F m).length then (1:Int) else 0)=u;have u01:u=0\/u=1:=by rw[<- hu];split <;> simp
 obtain⟨n,hn,n20⟩:∃ n:Nat,(if 20-17*u<(k:Int) then 20-17*u else (k:Int))=(n:Int)/\n<=6000:=by
  split
  .exact⟨(20-17*u).toNat,by lia,by lia⟩
  .exact⟨k,rfl,by lia⟩
 have hloop:=Yw (is:=[6,7,8,9,10]) (g:=zC 6) (b:=t5) (λ i:Nat=>T.int (0+(i:Int))) (.bl true) (lZ (zI ns) F m) (List.range n) (t7 (zI ns) F m p q k none none none none none) ⟨p,q,k,rfl,hp,hq,hk⟩ λ i _ J hρ=>Ov R hm hw hr ns i J hρ;have Bu:=sJ n (by lia);have hlen:y7 [zU (zB F m)]=some (.int ((zB F m).length:Int)):=by simp[zU]
 have Ex:∀ J',lZ (zI ns) F m J'->retS (zb vC (zc 5) (cI 0)) J'=some (.rt (.bl true)):=fun J' ⟨p',q',k',e,hp',hq',hk'⟩=>by
  subst e;have k0:0<k':=Nat.pos_of_ne_zero λ e=>lu (m:=m) hp' hq' (by rw[hk',e]);unfold t7;generalize zU (zB F m)=tt,zr F=fl,zf q'=pq at *;simp[k0]
 have s1:vC (.int ((zB F m).length:Int)) (.int 40)=some (.bl (decide ((40:Int)<(zB F m).length))):=rfl;have s2:ql [.bl (decide ((40:Int)<(zB F m).length))]=some (.int u):=by
  rw[<- hu];by_cases h:(40:Int)<(zB F m).length
  .rw[if_pos h,za2 h];rfl
  .rw[if_neg h,za0 h];rfl
 have s4:xC (.int 20) (.int (17*u))=some (.int (20-17*u)):=rfl;have s5:wQ [.int (k:Int),.int (20-17*u)]=some (.int (n:Int)):=by
  show some (T.int (if 20-17*u<(k:Int) then 20-17*u else (k:Int)))=_;rw[hn]
 exact Ow we (by rw[eB,if_pos (.inl ⟨by decide,by decide⟩)]) rfl hL' hlen s1 s2 s4 s5 Bu hloop Ex
def t8 (sc:T) (F:zw) (m p:Nat) (q:Int×Int) (s:Nat) (x6 x7 x8 x9:Option L5.W):Ev:=[some (.im sc),some (.im (zr F)),some (.im (zU (zB F m))),some (.im (.int (p:Int))),some (.im (zf q)),some (.im (.int (s:Int))),x6,x7,x8,x9]
def Np {L:List ((Int×Int)×Wy)}(Aj:L≠[]) (f:(Int×Int)×Wy->Int):∃ (M:Int) (d:(Int×Int)×Wy),qf (L.map f)=some M/\d∈L/\f d=M/\(∀ x∈L,f x<=M)/\L2.zZ (L.map zP) (((L.map f).idxOf M:Nat):Int)=some (zP d)/\M∈L.map f:=by
 cases e:qf (L.map f) with
 | none=>exact absurd (by simpa using Yt e) Aj
 | some M=>
  obtain⟨h1,h2⟩:=eG e;have hj:(L.map f).idxOf M<(L.map f).length:=List.idxOf_lt_length_iff.mpr h1;have hj':(L.map f).idxOf M<L.length:=by simpa using hj
  refine⟨M,L[(L.map f).idxOf M],rfl,Bn hj',?_,λ x hx=>h2 _ (An.mpr ⟨x,hx,rfl⟩),wq (by rw[Ay,AH hj'];rfl),h1⟩;have:=List.getElem_idxOf hj;rw[List.getElem_map] at this;exact this
def mh:Sm:=
 (zp (zD 4 (zt uo (za (zk 1) (za (zb zh (zc 8) (cI 0)) (za (zb zh (zc 8) (cI 1)) zj)))))
 (zp (zD 3 (zb zh (zb zh (zc 8) (cI 1)) (cI 1)))
 (yo (vF (zM (zb (w6 false) (zc 4) (cS .zl))) (zM (zb yx (zt wC (za (zk 2) (za (zk 3) (za (zk 4) zj)))) (zb xC (zb xC (zc 5) (cI 1)) (zc 6))))) (retS (cS (.bl false))) yn)))
def VT (R:vL F m) (hm:m<=5000) (sc:T) {p:Nat}{q:Int×Int}{s i:Nat}(hi:i+1<s) (x7 x9:Option L5.W) {d:(Int×Int)×Wy}(ht:d.2.t<F.os.length) (hl:(s:Int)-1-i<=y4 F m d):
  ∃ b,yM F b/\(s:Int)-1-i<=vx (yD (zB F m) d.2.t b)/\mh (t8 sc F m p q s (some (.im (.int (0+(i:Int))))) x7 (some (.im (zP d))) x9)=some (.nx (t8 sc F m d.2.t b s (some (.im (.int (0+(i:Int))))) x7 (some (.im (zP d))) x9)):=by
 cases hs:vS F d.1 d.2 with
 | none=>
  exfalso;have:y4 F m d=0:=by unfold y4;rw[hs]
  lia
 | some b=>
  have el:y4 F m d=vx (yD (zB F m) d.2.t b):=by unfold y4;rw[hs]
  rw[el] at hl;refine⟨b,aP R.fx.ok hs,hl,?_⟩;have h2:=bg F d.1 d.2;rw[hs] at h2;have h2':uo [zr F,zf d.1,zQ d.2]=some (zf b):=h2;have hL:=kh (zB F m) F.os.length d.2.t b (sE R).1 ht (by rw[qN];lia);have d0:=dQ d;have d1:=dP d;have w1:=iK d.2;have i1:w6 false (zf b) .zl=some (.bl false):=rfl;have lt:yx (.int (vx (yD (zB F m) d.2.t b))) (.int ((s:Int)-1-(0+(i:Int))))=some (.bl false):=by
   have:¬ vx (yD (zB F m) d.2.t b)<(s:Int)-1-(0+(i:Int)):=by lia
   simp[yx];lia
  unfold mh t8;generalize vx (yD (zB F m) d.2.t b)=dn,uo=fb,wC=ff,zU (zB F m)=tt,zP d=dd,zQ d.2=ww,zr F=fl,zf q=pq,zf b=pb,zf d.1=pd,(0+(i:Int))=ii,zh=ix,w6=si,yx=tl at *;simp[d0,d1,w1,h2',i1,hL,lt]
def OG (R:vL F m) (hm:m<=5000) (hw:∀ x<F.os.length,∃ w∈F.ws,w.f=x) (ns:List Int) {s i:Nat}(hs:s<=m) (hi:i+1<s) {p:Nat}(hp:p<F.os.length) {q:Int×Int}(hq:yM F q) (hk:(s:Int)-i<=vx (yD (zB F m) p q)):
  ∃ (p':Nat) (b:Int×Int) (x7 x8 x9:Option L5.W),turn (zC 6) pS (.int (0+(i:Int))) (t8 (zI ns) F m p q s none none none none)=some (.nx (t8 (zI ns) F m p' b s (some (.im (.int (0+(i:Int))))) x7 x8 x9))/\p'<F.os.length/\yM F b/\(s:Int)-((i+1:Nat):Int)<=vx (yD (zB F m) p' b):=by
 have ok:=R.fx.ok;obtain⟨j,hj⟩:∃ j:Nat,s=j+2+i:=⟨s-2-i,by lia⟩
 have hh:zG ((zx F (j+1)).getD p []) q=true:=Mm (m:=m) hm (by lia) (by lia);rw[Xc ok hp hq] at hh;unfold pE at hh;have hD:=WV ok R.fx.pw hp hq;have hDn:=X9 hw hp q;have hc:=sy ns (39+i);have hc':yu [zI ns,.int (39+(0+(i:Int)))]=some (.int (cell ns (39+i))):=by
  rw[show (39+(0+(i:Int)))=((39+i:Nat):Int) by lia];exact hc
 obtain⟨d,hd,B1⟩:=ZD ns i hDn;have hlen:y7 [.lst ((yh F p q).map zP)]=some (.int ((yh F p q).length:Int)):=by simp
 have En:(0:Int)<(yh F p q).length:=by have:=C2.mpr hDn;lia
 have C_:zS (.int (cell ns (39+i))) (.int ((yh F p q).length:Int))=some (.int (cell ns (39+i)%((yh F p q).length:Int))):=by
  show (if _ then _ else _)=_;rw[if_pos En]
 have BL:zh (.lst ((yh F p q).map zP)) (.int (cell ns (39+i)%((yh F p q).length:Int)))=some (zP d):=B1;have Br:=eQ (F.os.getD p false);have ix1:zh (.tup (F.os.map kt)) (.int (p:Int))=some (kt (F.os.getD p false)):=jn hp;have i1:=mY F;have DM:=d9 ok p (xE F p q);have AJ:=Wc F p q;have BZ:(yh F p q).length<=2000:=by show ((xE F p q).flatMap _).length<=2000;lia
 have hb:pS=(zp (zD 7 (zt tB (za (zk 1) (za (zk 3) (za (zk 4) zj)))))
  (zp (zD 8 (zb zh (zc 7) (zb zS (zt yu (za (zk 0) (za (zb yw (cI 39) (zc 6)) zj))) (zt y7 (za (zc 7) zj)))))
  (zp (yo (zM (zb (zJ false) (zb zh (zb zh (zc 1) (cI 1)) (zc 3)) (cS (.str "keeper")))) (zp (zD 9 pO)
  (zD 8 (zb zh (zc 7) (zb oX (zc 9) (zt oO (za (zc 9) zj)))))) yn) mh))):=rfl
 have key:∃ (d':(Int×Int)×Wy) (x7 x9:Option L5.W),d'.2.t<F.os.length/\(s:Int)-1-i<=y4 F m d'/\turn (zC 6) pS (.int (0+(i:Int))) (t8 (zI ns) F m p q s none none none none)=mh (t8 (zI ns) F m p q s (some (.im (.int (0+(i:Int))))) x7 (some (.im (zP d'))) x9):=by
  rw[hb];unfold turn t8;generalize mh=tl at *;cases ho:F.os.getD p false with
  | true=>
   rw[ho] at Br ix1;rw[if_pos ho] at hh;obtain⟨r,hr1,hr2⟩:=AM.mp hh;obtain⟨w,hw1,hw2⟩:=AM.mp hr2;have hrw:(r,w)∈yh F p q:=pz.mpr ⟨by unfold xE;rw[if_pos ho];exact hr1,hw1⟩;have Ep:=Y8 ok hm (m:=m) (j:=j) (by lia) (d:=(r,w)) hw2;obtain⟨M,d',m1,m2,m3,m4,m5,m6⟩:=Np hDn (y4 F m);have Di:=(k7 ok (pz.mp m2).2).2;have hc9:∀ x9,pO [some (.im (zI ns)),some (.im (zr F)),some (.im (zU (zB F m))),some (.im (.int (p:Int))),some (.im (zf q)),some (.im (.int (s:Int))),some (.im (.int (0+(i:Int)))),some (.im (.lst ((yh F p q).map zP))),some (.im (zP d)),x9]=some (.lst (((yh F p q).map (y4 F m)).map T.int)):=λ x9=>by
    rw[AQ];unfold pO;refine sS zP (T.int ∘ y4 F m) (yh F p q) ?_ (by lia) λ x hx=>?_
    .generalize (yh F p q).map zP=DL,zU (zB F m)=tt,zr F=fl,zI ns=sc at *;simp
    .have:=WO R hm (d:=x) (k7 ok (pz.mp hx).2).2;show u5 _ _ _ _ _ _=some (some (T.int (y4 F m x)));generalize (yh F p q).map zP=DL,rG=f0,zU (zB F m)=tt,zr F=fl,zI ns=sc at *;simp[u5,this]
   have hmx:oO [.lst (((yh F p q).map (y4 F m)).map T.int)]=some (.int M):=by
    show (vd (((yh F p q).map (y4 F m)).map T.int)).bind _=_;rw[jB,A_,m1];rfl
   have zW:oX (.lst (((yh F p q).map (y4 F m)).map T.int)) (.int M)=some (.int (((yh F p q).map (y4 F m)).idxOf M:Nat)):=by
    show (vd (((yh F p q).map (y4 F m)).map T.int)).bind _=_;rw[jB,A_,if_pos m6]
   have m5':zh (.lst ((yh F p q).map zP)) (.int (((yh F p q).map (y4 F m)).idxOf M:Nat))=some (zP d'):=m5;refine⟨d',some (.im (.lst ((yh F p q).map zP))),some (.im (.lst (((yh F p q).map (y4 F m)).map T.int))),Di,?_,?_⟩
   .have:=m4 (r,w) hrw;rw[m3];lia
   .generalize tB=f1,yu=f2,pO=cc,zP d=dd at *;generalize zP d'=dd' at *;generalize (((yh F p q).map (y4 F m)).idxOf M)=ixm,((yh F p q).map (y4 F m)).map T.int=LL,(yh F p q).map zP=DL,(yh F p q).length=dl,zU (zB F m)=tt,(T.tup (F.os.map kt))=OT,zr F=fl,zf q=pq,zI ns=sc,(0+(i:Int))=ii,kt true=kb,zh=ix,zJ=ee,y7=ll,zS=md,oO=ml,oX=it at *;simp[hD,hc',hlen,C_,BL,i1,ix1,Br,hc9,hmx,zW,m5']
  | false=>
   rw[ho] at Br ix1;rw[if_neg (by rw[ho];decide)] at hh;obtain⟨h1,h2⟩:=pz.mp hd;have hdq:d.1=q:=by
    unfold xE at h1;rw[if_neg (by rw[ho];decide)] at h1;exact AR.mp h1
   have hlead:yT F (zx F j) d.1 d.2=true:=by rw[hdq];exact BA.mp hh d.2 h2
   have Ep:=Y8 ok hm (m:=m) (j:=j) (by lia) hlead;refine⟨d,some (.im (.lst ((yh F p q).map zP))),none,(k7 ok h2).2,by lia,?_⟩;generalize tB=f1,yu=f2,pO=cc,zP d=dd,(yh F p q).map zP=DL,(yh F p q).length=dl,zU (zB F m)=tt,(T.tup (F.os.map kt))=OT,zr F=fl,zf q=pq,zI ns=sc,(0+(i:Int))=ii,kt false=kb,zh=ix,zJ=ee,y7=ll,zS=md at *;simp[hD,hc',hlen,C_,BL,i1,ix1,Br]
 obtain⟨d',x7,x9,ht,hl,e⟩:=key;obtain⟨b,b1,b2,b3⟩:=VT R hm (zI ns) (p:=p) (q:=q) hi x7 x9 ht hl;exact⟨d'.2.t,b,x7,some (.im (zP d')),x9,by rw[e,b3],ht,b1,by lia⟩
def LY (R:vL F m) (hm:m<=5000) (hw:∀ x<F.os.length,∃ w∈F.ws,w.f=x) (ns:List Int) {p:Nat}(hp:p<F.os.length) {q:Int×Int}(hq:yM F q) {s:Nat}(hk:yD (zB F m) p q=some s):
  kc [zI ns,zr F,zU (zB F m),.int (p:Int),zf q]=some (.bl true):=by
 have hL:=kh (zB F m) F.os.length p q (sE R).1 hp (by rw[qN];lia);rw[hk] at hL;have hL':wC [zU (zB F m),.int (p:Int),zf q]=some (.int (s:Int)):=hL;have sm:=(pG hk).1;have s0:s≠0:=λ e=>lu (m:=m) hp hq (by rw[hk,e]);obtain⟨n,hn,n1⟩:∃ n:Nat,wQ [.int ((s:Int)-1),.int 20]=some (.int (n:Int))/\n<=s-1:=by
  by_cases h:(20:Int)<(s:Int)-1
  .exact⟨20,by show some (T.int (if (20:Int)<(s:Int)-1 then 20 else (s:Int)-1))=_;rw[if_pos h];rfl,by lia⟩
  .exact⟨s-1,by show some (T.int (if (20:Int)<(s:Int)-1 then 20 else (s:Int)-1))=_;rw[if_neg h];congr 2;lia,by lia⟩
 obtain⟨J',g1,g2⟩:=vB (is:=[6,7,8,9]) (g:=zC 6) (b:=pS) (λ i:Nat=>T.int (0+(i:Int)))
   (λ pre J=>∃ (p':Nat) (b:Int×Int),J=t8 (zI ns) F m p' b s none none none none/\p'<F.os.length/\yM F b/\(s:Int)-(pre.length:Int)<=vx (yD (zB F m) p' b))
   (List.range n) (t8 (zI ns) F m p q s none none none none) ⟨p,q,rfl,hp,hq,by rw[hk];show (s:Int)-(0:Nat)<=(s:Int);lia⟩ (by
  rintro pre i post e J ⟨p',b,rfl,h1,h2,h3⟩;have hi:i<n:=AA.mp (by rw[e];simp);have hpi:pre.length=i:=by
   have h2:=congrArg (λ l=>l[pre.length]?) e;simp only[Cz (Ah _),Nat.sub_self,List.getElem?_cons_zero] at h2;obtain⟨h3,h4⟩:=AN.mp h2;simpa using h4
  rw[hpi] at h3;obtain⟨p2,b2,x7,x8,x9,t1,t2,t3,t4⟩:=OG R hm hw ns (s:=s) (i:=i) sm (by lia) h1 h2 h3;exact⟨_,t1,p2,b2,rfl,t2,t3,by rw[Bf,C0,hpi];exact t4⟩)
 have Bu:=sJ n (by lia);obtain⟨p',b,rfl,_⟩:=g2;unfold t8 at g1;unfold kc bL;generalize pS=bb,wC=ff,(List.range n).map (λ i:Nat=>T.int (0+(i:Int)))=RR,zU (zB F m)=tt,zr F=fl,zf q=pq,zf b=pb,zI ns=sc,wQ=mm at *;simp[hL',hn,Bu,g1]
def XS {α β:Type}(f:α->β) (xs:List α) (lo hi:Option Int):xo (xs.map f) lo hi=(xo xs lo hi).map f:=by
 unfold xo;simp only[Aw,CS,CQ]
def XR {α:Type}{xs:List α}{lo hi:Option Int}{x:α}(h:x∈xo xs lo hi):x∈xs:=by
 unfold xo at h;exact DX (List.mem_of_mem_take h)
def XT {α:Type}(xs:List α) (lo hi:Option Int):(xo xs lo hi).length<=xs.length:=by
 unfold xo;rw[CA,DD];lia
def LX (R:vL F m) (hr:vm [zr F]=some (zU (zB F m))) {p:Nat}(hp:p<F.os.length) {q:Int×Int}(hq:yM F q):nZ [zr F,.int (p:Int),zf q]=some (s_ (yD (zB F m) p q)):=by
 have h1:=i6 F p hp;have h2:=WY F q hq;have h3:=WU (zB F m) F.os.length p q (sE R).1 (sE R).2 hp;unfold nZ bU;generalize su=f1,qI=f2,qH=f3,vm=f4,zU (zB F m)=tt,zr F=fl,zf q=pq at *;simp[h1,h2,h3,hr]
def Ys (x:Int) {n:Nat}(hn:0<n):∃ k:Nat,zS (.int x) (.int (n:Int))=some (.int (k:Int))/\k<n:=by
 have hp:(0:Int)<n:=by lia
 have h0:=CD x (b:=(n:Int)) (by lia);have h1:=DF x hp;refine⟨(x%n).toNat,?_,by lia⟩;show (if (0:Int)<n then some (T.int (x%n)) else none)=_;rw[if_pos hp,Ci h0]
def OC (ns:List Int) (_:ns.length<=63):oo [zI ns]=some (.bl true):=by
 obtain⟨F,h1,ok,hw,B8⟩:=LZ ns;obtain⟨more,hr,hn,hmo,hR⟩:=LO ok;have n1:=ok.n1;have Aj:List.range F.os.length≠[]:=λ h=>by
  have h2:=congrArg List.length h;rw[Bg] at h2;rw[h2] at n1;exact absurd n1 (by decide)
 obtain⟨m,e,AZ⟩:=Zq ok hw 2000 [] 0 (List.range F.os.length) _ (St.start ok) Aj rfl hR;have hm:m<=5000:=by
  have:=congrArg List.length e;simp at this;lia
 have ht:RN.start F::more=zB F m:=e;rw[ht] at hr hn;have hgk:∀ k,k<=m->∀ b∈zx F k,Gd F.A F.B b:=λ k hk=>(hn (zx F k) (An.mpr ⟨k,AA.mpr (by lia),rfl⟩)).2;have R:vL F m:=⟨NT ok B8 (hgk m (Ah _)) AZ,hgk⟩
 have hr':vm [zr F]=some (zU (zB F m)):=hr;clear hR hr hn e ht;obtain⟨L,p1,p2,p3,p4⟩:=LP (F:=F) ok;have c36:yu [zI ns,.int 36]=some (.int (cell ns 36)):=sy ns 36;have c37:yu [zI ns,.int 37]=some (.int (cell ns 37)):=sy ns 37;obtain⟨p,m36,hp⟩:=Ys (cell ns 36) (n:=F.os.length) n1;obtain⟨a,m37,ha⟩:=Ys (cell ns 37) (n:=L.length) (C2.mpr p4);have i1:=mY F;have l1:y7 [.tup (F.os.map kt)]=some (.int (F.os.length:Int)):=by simp
 have l2:y7 [.lst (L.map zf)]=some (.int (L.length:Int)):=by simp
 obtain⟨L',hL',hLi,hLl⟩:∃ L':List (Int×Int),(xo (L.map zf) (some (a:Int)) none)++(xo (L.map zf) none (some (a:Int)))=L'.map zf/\(∀ q∈L',yM F q)/\L'.length<=2000:=by
  refine⟨xo L (some (a:Int)) none++xo L none (some (a:Int)),by rw[XS,XS,Bm],λ q hq=>?_,?_⟩
  .rcases AX.mp hq with h | h
   .exact p2 q (XR h)
   .exact p2 q (XR h)
  .have:=XT L (some (a:Int)) none;have:=XT L none (some (a:Int));rw[Bf];lia
 have EE:yw (.lst (xo (L.map zf) (some (a:Int)) none)) (.lst (xo (L.map zf) none (some (a:Int))))=some (.lst (L'.map zf)):=by
  have hs:(xo (L.map zf) (some (a:Int)) none).length+(xo (L.map zf) none (some (a:Int))).length<=sizeLine:=by
   have q:=congrArg List.length hL';rw[Bf,Aw] at q;have:2000<=sizeLine:=by decide
   lia
  show (if _ then _ else _)=_;rw[if_pos hs,hL']
 have htl:zh (zU (zB F m)) (.int (-1))=some (rT (zx F m)):=VQ;have hrp:zh (rT (zx F m)) (.int (p:Int))=some (bT ((zx F m).getD p [])):=oU _ _ (by rw[qj];exact hp);have hheld:=λ q=>WR (bT ((zx F m).getD p [])) ((zx F m).getD p []) q rfl;have hc:nv [some (.im (zI ns)),some (.im (zr F)),some (.im (zU (zB F m))),some (.im (.int (p:Int))),some (.im (.lst (L.map zf))),some (.im (.int (a:Int))),none]=some (.lst ((L'.filter λ q=>!zG ((zx F m).getD p []) q).map zf)):=by
  rw[<- nj (λ q=>!zG ((zx F m).getD p []) q) zf L'];unfold nv;refine pA zf (λ q=>if (!zG ((zx F m).getD p []) q)=true then some (zf q) else none) L' ?_ (by lia) λ q _=>?_
  .have s1:o4 (zc 4) (some (zc 5)) none [some (.im (zI ns)),some (.im (zr F)),some (.im (zU (zB F m))),some (.im (.int (p:Int))),some (.im (.lst (L.map zf))),some (.im (.int (a:Int))),none]=some (.lst (xo (L.map zf) (some (a:Int)) none)):=rfl;have s2:o4 (zc 4) none (some (zc 5)) [some (.im (zI ns)),some (.im (zr F)),some (.im (zU (zB F m))),some (.im (.int (p:Int))),some (.im (.lst (L.map zf))),some (.im (.int (a:Int))),none]=some (.lst (xo (L.map zf) none (some (a:Int)))):=rfl;have s3:=qb s1 s2 EE;show (zb yw _ _ _).bind wc=_;rw[s3];rfl
  .have hq:=hheld q;cases EA:zG ((zx F m).getD p []) q <;> rw[EA] at hq
   .generalize qF=fh,bT ((zx F m).getD p [])=bt,rT (zx F m)=rt,zU (zB F m)=tt,zr F=fl,zI ns=sc,zh=ix at *;simp[u5,htl,hrp,hq]
   .generalize qF=fh,bT ((zx F m).getD p [])=bt,rT (zx F m)=rt,zU (zB F m)=tt,zr F=fl,zI ns=sc,zh=ix at *;simp[u5,htl,hrp,hq]
 cases hS:(L'.filter λ q=>!zG ((zx F m).getD p []) q) with
 | nil=>
  rw[hS] at hc;have e0:zJ false (.lst []) (.lst [])=some (.bl true):=by simp[zJ,dep,yE,eqT,xQ]
  unfold oo iH;generalize nv=cc,om=f1,vm=f2,yu=f3,nV=f4,L.map zf=LL,zU (zB F m)=tt,(T.tup (F.os.map kt))=OT,zr F=fl,zI ns=sc,zh=ix,zJ=ee,y7=ll,zS=md at *;simp[h1,hr',c36,c37,m36,m37,i1,l1,l2,p1,hc,e0]
 | cons q qs=>
  rw[hS] at hc;have hqm:q∈L'.filter λ q=>!zG ((zx F m).getD p []) q:=by rw[hS];exact Al
  obtain⟨hq1,hq2⟩:=AV.mp hqm;have hq:=hLi q hq1;have EA:zG ((zx F m).getD p []) q=false:=by simpa using hq2
  obtain⟨k,_,hk⟩:=dJ (m:=m) (Ah m) EA;have a1:=LX R hr' hp hq;have a2:=kh (zB F m) F.os.length p q (sE R).1 hp (by rw[qN];lia);rw[hk] at a1 a2;have a1':nZ [zr F,.int (p:Int),zf q]=some (.int (k:Int)):=a1;have a2':wC [zU (zB F m),.int (p:Int),zf q]=some (.int (k:Int)):=a2;have a3:=LV R hm hw hr' ns hp hq hk;have a4:=LY R hm hw ns hp hq hk;have q1:=eq_int (k:Int) (k:Int) true;have e0:zJ false (.lst ((q::qs).map zf)) (.lst [])=some (.bl false):=by
   have hd:dep (.lst ((q::qs).map zf))<=60:=by
    have:=jQ zf 1 X8 (q::qs);simp only[dep];lia
   simp[zJ,eqT,xQ,dep,yE] at hd ⊢;exact hd
  have i0:zh (.lst ((q::qs).map zf)) (.int 0)=some (zf q):=by
   show L2.zZ ((q::qs).map zf) 0=_;exact wq (k:=0) rfl
  unfold oo iH;generalize nv=cc,om=f1,vm=f2,yu=f3,nV=f4,nZ=f5,wC=f6,nX=f7,kc=f8,(q::qs).map zf=QL,L.map zf=LL,zU (zB F m)=tt,(T.tup (F.os.map kt))=OT,zr F=fl,zf q=pq,zI ns=sc,zh=ix,zJ=ee,y7=ll,zS=md at *;simp[h1,hr',c36,c37,m36,m37,i1,l1,l2,p1,hc,e0,i0,a1',a2',a3,a4,q1]
end
end z_
namespace PySem.W.Fast
def te18355499287374691516:=0
def tw5446674073685618657:=0
def tw14383034368817781288:=0
def tw12725617352005188500:=0
def tw3603499614279658797:=0
def tw17273548382064437835:=0
def tw2799313382689850147:=0
def tw4165403868125127018:=0
def tw6911346839933803781:=0
def tw719518343860501014:=0
def tw3073012803356647984:=0
def tw7616126693042106882:=0
def tw14705985724187570117:=0
def tw11908795521137677377:=0
def tw2998562131293025685:=0
def tw13471653735653752357:=0
def tw1838506789871455605:=0
def tw658739939894358199:=0
def tw8820823548724223351:=0
def tw17335565609624590000:=0
def tw7276613941891808061:=0
def tw1364708244757286808:=0
def tw7077013193208810748:=0
def tw9100963460187460632:=0
def tw7367512222790742960:=0
def tw796757813512033321:=0
def tw10268867914572912631:=0
def tw1092899960165727725:=0
def tw1718862411786328136:=0
def tw9790287203764390717:=0
def tw4826052468617156664:=0
def tw12584180597832276579:=0
def tw1940653500207679933:=0
def tw2487364141435763758:=0
def tw8194045036664059436:=0
def tw14135423360647861440:=0
def tw17747918143774591216:=0
def tw6950153090243924002:=0
def tw6769433954756185305:=0
def tw13990396718542535357:=0
def tw6713005374765300448:=0
def tw12912912531625349965:=0
def tw6663571584470266679:=0
def tw7046914244035718304:=0
def tw4938516301479781348:=0
def tw293836759056999635:=0
def tw8873801501117145259:=0
def tw9176916116015073785:=0
def tw8673993647480844267:=0
def tw6981557821745724637:=0
def tw9316130348884721807:=0
def tw10481844752391172956:=0
def tw5918358880439351464:=0
def tw15451259932440065286:=0
def tw6589711821831597050:=0
def tw2135125141257825953:=0
def tw8725496728541473592:=0
def tw5880088567742961745:=0
def tw4014042410988418877:=0
def tw3161620857472226929:=0
def tw5477939866912764349:=0
def tw11284893063345751424:=0
def tw5554846313802164860:=0
def tw9366851890084818174:=0
def tw3959776099231831847:=0
def tw10498656093883276424:=0
def tw1210400163959916997:=0
def tw14015894718923669056:=0
def tw10749627149730257060:=0
def tw3956030464653614102:=0
def tw16255073280369361239:=0
def tw689317988488574134:=0
def tw3864943041313615860:=0
def tw1178550283932754519:=0
def tw12890402859069431894:=0
def tw18292235902500528494:=0
def tw15107152567041455982:=0
def tw2213092452063977124:=0
def tw17936868348909264339:=0
def tw12916415967379785908:=0
def tw5590178133226203575:=0
def tw11088162340854225871:=0
def tw2785689230081170196:=0
def tw8840154063014640111:=0
def tw12779648285967351352:=0
def tw8917138960840755968:=0
def tw13453391999902930820:=0
def tw551506689714924444:=0
def tw17267451130178373131:=0
def tw2352051371038644873:=0
def tw571877132222368227:=0
def tw508550414128819953:=0
def tw9571676756336342282:=0
def tw15319896916027499608:=0
def tw5339334939416464550:=0
def tw8010928373837216722:=0
def tw2226979075821180633:=0
def tw3191883331728378196:=0
def tw12513144493978989574:=0
def tw13303661803211106469:=0
def tw2882388646148462757:=0
def tw1377428714230040829:=0
def tw7819910654292829057:=0
def tw9683854810730741065:=0
def tw12102348201774352831:=0
def tw2158273214401966459:=0
def tw8277279703941083298:=0
def tw10625115590021481728:=0
def tw16370784728863781344:=0
def tw14587072194590968314:=0
def tw17425955747338409984:=0
def tw12918522126587120059:=0
def tw3833443421221737783:=0
def tw14344655930749008513:=0
def tw12803705924998151407:=0
def tw2111812881897370602:=0
def tw8173351555367897580:=0
def tw6840579194239365353:=0
def tw5134439486934139624:=0
def tw18284603118200180270:=0
def tw4611933315775080647:=0
def tw16434498333560326330:=0
def tw11415508812136069180:=0
def tw9040093822103319005:=0
def tw3148456372251398109:=0
def tw10724169326051515699:=0
def tw1418596366847826961:=0
def tw14030284619232325537:=0
def tw13000249828113293506:=0
def tw12276564544189470569:=0
def tw16960351394481962419:=0
def tw16327091156419918071:=0
def tw11811722001483918567:=0
def tw2921898139133904183:=0
def tw8157716497370578718:=0
def tw5916936292797824426:=0
def tw3234073256581599485:=0
def tw16245864446215783177:=0
def tw5952636915062400690:=0
def tw12490707569531258843:=0
def tw7239704371002669991:=0
def tw13999067431599284669:=0
def tw4760438391407412363:=0
def tw1867011034689998336:=0
def tw14168424621854058439:=0
def tw15897186241665632336:=0
def tw6027493015652699199:=0
def tw2930253162697590609:=0
def tw15338809592314865272:=0
def tw7198375074748384828:=0
def tw16656341599403392366:=0
def tw9607333833644337619:=0
def tw69371337699352842:=0
def tw4215041913664350312:=0
def tw5921410461311271659:=0
def tw13493879129950303243:=0
def tw16104708934955320964:=0
def tw6697294252884613388:=0
def tw354385364298078480:=0
def tw373020226376270283:=0
def tw6066882890306742427:=0
def tw9465337646773870637:=0
def tw10773329640366487578:=0
def tw1480079095550629682:=0
def tw3916486744729885288:=0
def tw16355908884005481458:=0
def tw12460154970856274987:=0
def tw4493898517971500940:=0
def tw1544796454057627268:=0
def tw10855528866915598569:=0
def tw1201293001095791248:=0
def tw16118931358747862354:=0
def tw17317725894016545332:=0
def tw11921170412354062226:=0
def tw13084448326036312177:=0
def tw7387608115251285347:=0
def tw10636676059719024848:=0
def tw12926609452235463322:=0
def tw2574718226032694064:=0
def tw2120594225472936943:=0
def tw17972184949068641450:=0
def tw6285931459894905245:=0
def tw2145073733871424413:=0
def tw13769596036001812209:=0
def tw8320329946928800637:=0
def tw9209468683162398275:=0
def tw2969635548230232479:=0
def tw15787587167264057923:=0
def tw2008492582193066639:=0
def tw4333929507886967219:=0
def tw9625445890182209577:=0
def tw10920367233810358072:=0
def tw704443132732924726:=0
def tw17959676604373053990:=0
def tw3480702606799271460:=0
def tw9524201725287309397:=0
def tw2485804798161542346:=0
def tw7157378682286570459:=0
def tw9220131178088181306:=0
def tw12509258716954920103:=0
def tw9248894872430837719:=0
def tw88730026099669758:=0
def tw3768942326861503607:=0
def tw10717585088920820537:=0
def tw7553265575386720174:=0
end PySem.W.Fast
namespace z_
open PySem L2 L3 L5
open PyProof.Rows hiding St
def yi (i:Nat):Stmt:=PySem.Challenge.pw_purseborder_k45_whole_within_told_steps.main.body.getD i (.Pass ⟨0,0,0,0⟩)
abbrev gP:Stmt:=yi 6
abbrev gO:Stmt:=yi 7
abbrev k_:Stmt:=yi 8
abbrev gw:Stmt:=yi 9
abbrev gS:Stmt:=yi 10
abbrev gT:Stmt:=yi 11
abbrev kR:Stmt:=yi 12
abbrev gu:Stmt:=yi 13
abbrev gY:Stmt:=yi 15
abbrev gz:Stmt:=yi 16
abbrev ja:Stmt:=yi 17
abbrev mx:Stmt:=yi 18
abbrev gR:Stmt:=yi 19
abbrev my:Stmt:=yi 21
abbrev gy:Stmt:=yi 22
abbrev gX:Stmt:=yi 23
abbrev gU:Stmt:=yi 24
abbrev gW:Stmt:=yi 25
abbrev mv:Stmt:=yi 26
abbrev kU:Stmt:=yi 27
abbrev kT:Stmt:=yi 28
abbrev gQ:Stmt:=yi 29
abbrev gN:Stmt:=yi 30
abbrev gs:Stmt:=yi 32
abbrev g9:Stmt:=yi 34
abbrev kS:Stmt:=yi 35
abbrev gr:Stmt:=yi 36
abbrev gK:Stmt:=yi 38
abbrev gI:Stmt:=yi 39
abbrev gL:Stmt:=yi 40
abbrev gC:Stmt:=yi 41
abbrev gA:Stmt:=yi 42
abbrev gB:Stmt:=yi 43
abbrev gG:Stmt:=yi 44
abbrev gM:Stmt:=yi 45
abbrev gJ:Stmt:=yi 46
abbrev gF:Stmt:=yi 47
abbrev kW:Stmt:=yi 48
abbrev gH:Stmt:=yi 49
abbrev kY:Stmt:=yi 50
abbrev gE:Stmt:=yi 51
abbrev gD:Stmt:=yi 52
abbrev kX:Stmt:=yi 53
abbrev kZ:Stmt:=yi 54
def UP:yf ["thing"] ["thing"] (zF gP):=⟨rfl,rfl,rfl,by decide +kernel,rfl,by decide +kernel,by decide +kernel⟩
def UK:yf ["floor"] ["floor"] (zF gw):=⟨rfl,rfl,rfl,by decide +kernel,rfl,by decide +kernel,by decide +kernel⟩
def UW:yf ["pair","other"] ["pair","other"] (zF gY):=⟨rfl,rfl,rfl,by decide +kernel,rfl,by decide +kernel,by decide +kernel⟩
def gi:yf ["pairs","least","pair"] ["pairs"] (zF gz):=⟨rfl,rfl,rfl,by decide +kernel,rfl,by decide +kernel,by decide +kernel⟩
def qT:yf ["brims","stall","pair","purse","pairs","given","got"] ["brims","stall","pair"] (zF gy):=⟨rfl,rfl,rfl,by decide +kernel,rfl,by decide +kernel,by decide +kernel⟩
def kN:yf ["floor","pair","way","coins","first","second"] ["floor","pair","way"] (zF gs):=⟨rfl,rfl,rfl,by decide +kernel,rfl,by decide +kernel,by decide +kernel⟩
def UM:yf ["_law_script","_law_k"] ["_law_script","_law_k"] (zF gK):=⟨rfl,rfl,rfl,by decide +kernel,rfl,by decide +kernel,by decide +kernel⟩
def UL:yf ["_law_number"] ["_law_number"] (zF gI):=⟨rfl,rfl,rfl,by decide +kernel,rfl,by decide +kernel,by decide +kernel⟩
def gp:yf ["_law_floor_here","_law_pair","_law_way","_law_first_here","_law_second"] ["_law_floor_here","_law_pair","_law_way"] (zF gM):=⟨rfl,rfl,rfl,by decide +kernel,rfl,by decide +kernel,by decide +kernel⟩
def qV:yf ["_law_floor_here","_law_place","_law_pair","_law_found","_law_home","_law_purse","_law_give","_law_get","_law_coins_here"] ["_law_floor_here","_law_place","_law_pair"] (zF gJ):=⟨rfl,rfl,rfl,by decide +kernel,rfl,by decide +kernel,by decide +kernel⟩
def gk:yf ["_law_border","_law_pair","_law_x","_law_y"] ["_law_border","_law_pair"] (zF gF):=⟨rfl,rfl,rfl,by decide +kernel,rfl,by decide +kernel,by decide +kernel⟩
def gj:yf ["_law_floor_here","_law_found","_law_x"] ["_law_floor_here"] (zF kW):=⟨rfl,rfl,rfl,by decide +kernel,rfl,by decide +kernel,by decide +kernel⟩
def UO:yf ["thing","least","most"] ["thing","least","most"] (zF gO):=⟨rfl,rfl,rfl,by decide +kernel,rfl,by decide +kernel,by decide +kernel⟩
def UR:yf ["border","pair"] ["border","pair"] (zF ja):=⟨rfl,rfl,rfl,by decide +kernel,rfl,by decide +kernel,by decide +kernel⟩
def qX:yf ["border","other","steps","lows","shared","first","side","second"] ["border","other"] (zF mx):=⟨rfl,rfl,rfl,by decide +kernel,rfl,by decide +kernel,by decide +kernel⟩
def US:yf ["border","other"] ["border","other"] (zF gR):=⟨rfl,rfl,rfl,by decide +kernel,rfl,by decide +kernel,by decide +kernel⟩
def Zl:yf ["brims","way","border","pairs"] ["brims","way","border"] (zF my):=⟨rfl,rfl,rfl,by decide +kernel,rfl,by decide +kernel,by decide +kernel⟩
def gm:yf ["_law_script","_law_many","_law_number","_law_found"] ["_law_script","_law_many"] (zF gL):=⟨rfl,rfl,rfl,by decide +kernel,rfl,by decide +kernel,by decide +kernel⟩
def mq:yf ["_law_script","_law_many","_law_number","_law_found","_law_place"] ["_law_script","_law_many"] (zF gC):=⟨rfl,rfl,rfl,by decide +kernel,rfl,by decide +kernel,by decide +kernel⟩
def uu:yf ["_law_script","_law_many","_law_number","_law_wide","_law_found","_law_place","_law_size","_law_k","_law_at","_law_drawn","_law_rest"] ["_law_script","_law_many"] (zF gA):=⟨rfl,rfl,rfl,by decide +kernel,rfl,by decide +kernel,by decide +kernel⟩
def qU:yf ["_law_script","_law_owners_here","_law_found","_law_place","_law_drawn","_law_rest","_law_give","_law_get"] ["_law_script","_law_owners_here"] (zF gB):=⟨rfl,rfl,rfl,by decide +kernel,rfl,by decide +kernel,by decide +kernel⟩
def Zk:yf ["_law_told","_law_place","_law_pair","_law_k"] ["_law_told","_law_place","_law_pair"] (zF gH):=⟨rfl,rfl,rfl,by decide +kernel,rfl,by decide +kernel,by decide +kernel⟩
def mr:yf ["_law_floor_here","_law_place","_law_pair","_law_held_here","_law_found","_law_one"] ["_law_floor_here","_law_place","_law_pair"] (zF kY):=⟨rfl,rfl,rfl,by decide +kernel,rfl,by decide +kernel,by decide +kernel⟩
def UQ:yf ["thing","bounds"] ["thing","bounds"] (zF k_):=⟨rfl,rfl,rfl,by decide +kernel,rfl,by decide +kernel,by decide +kernel⟩
def UT:yf ["floor","place"] ["floor","place"] (zF gS):=⟨rfl,rfl,rfl,by decide +kernel,rfl,by decide +kernel,by decide +kernel⟩
def kO:yf ["borders","joined","border"] ["borders"] (zF gU):=⟨rfl,rfl,rfl,by decide +kernel,rfl,by decide +kernel,by decide +kernel⟩
def kP:yf ["borders","joined","border"] ["borders"] (zF gW):=⟨rfl,rfl,rfl,by decide +kernel,rfl,by decide +kernel,by decide +kernel⟩
def gq:yf ["told","place","pair","number","held"] ["told","place","pair"] (zF gQ):=⟨rfl,rfl,rfl,by decide +kernel,rfl,by decide +kernel,by decide +kernel⟩
def Zi:yf ["floor","pair","way","held","behind"] ["floor","pair","way","held"] (zF g9):=⟨rfl,rfl,rfl,by decide +kernel,rfl,by decide +kernel,by decide +kernel⟩
def rV:yf ["_law_script","_law_number","_law_many","_law_owners_here","_law_brims_here","_law_ways_here","_law_stalls_here"] ["_law_script"] (zF gG):=⟨rfl,rfl,rfl,by decide +kernel,rfl,by decide +kernel,by decide +kernel⟩
def Zj:yf ["_law_floor_here","_law_told","_law_deed","_law_behind_here"] ["_law_floor_here","_law_told","_law_deed"] (zF gE):=⟨rfl,rfl,rfl,by decide +kernel,rfl,by decide +kernel,by decide +kernel⟩
def UU:yf ["floor","pair"] ["floor","pair"] (zF gT):=⟨rfl,rfl,rfl,by decide +kernel,rfl,by decide +kernel,by decide +kernel⟩
def UI:yf ["floor","place"] ["floor","place"] (zF kR):=⟨rfl,rfl,rfl,by decide +kernel,rfl,by decide +kernel,by decide +kernel⟩
def Zh:yf ["floor","place","stall"] ["floor","place"] (zF gu):=⟨rfl,rfl,rfl,by decide +kernel,rfl,by decide +kernel,by decide +kernel⟩
def sI:yf ["_law_script","_law_floor_here","_law_told","_law_place","_law_pair","_law_steps","_law_k","_law_deeds_here","_law_deed","_law_left_here"] ["_law_script","_law_floor_here","_law_told","_law_place","_law_pair"] (zF kX):=⟨rfl,rfl,rfl,by decide +kernel,rfl,by decide +kernel,by decide +kernel⟩
def kQ:yf ["floor","place","border","stall","pairs","pair"] ["floor","place","border"] (zF gX):=⟨rfl,rfl,rfl,by decide +kernel,rfl,by decide +kernel,by decide +kernel⟩
def Zg:yf ["floor","place","pair","told","steps"] ["floor","place","pair","told"] (zF kS):=⟨rfl,rfl,rfl,by decide +kernel,rfl,by decide +kernel,by decide +kernel⟩
def gh:yf ["floor","place","last","ways","ahead"] ["floor","place","last"] (zF mv):=⟨rfl,rfl,rfl,by decide +kernel,rfl,by decide +kernel,by decide +kernel⟩
def gf:yf ["floor","last","fresh","following","place"] ["floor","last","fresh"] (zF kU):=⟨rfl,rfl,rfl,by decide +kernel,rfl,by decide +kernel,by decide +kernel⟩
def o6:yf ["floor","told","fresh","last","following"] ["floor"] (zF kT):=⟨rfl,rfl,rfl,by decide +kernel,rfl,by decide +kernel,by decide +kernel⟩
def UN:yf ["floor","place","pair"] ["floor","place","pair"] (zF gN):=⟨rfl,rfl,rfl,by decide +kernel,rfl,by decide +kernel,by decide +kernel⟩
def UJ:yf ["floor","place","pair"] ["floor","place","pair"] (zF gr):=⟨rfl,rfl,rfl,by decide +kernel,rfl,by decide +kernel,by decide +kernel⟩
def uT:yf ["_law_script","_law_floor_here","_law_told","_law_place","_law_pair","_law_steps","_law_k","_law_deeds_here","_law_deed","_law_number","_law_left_here"] ["_law_script","_law_floor_here","_law_told","_law_place","_law_pair"] (zF gD):=⟨rfl,rfl,rfl,by decide +kernel,rfl,by decide +kernel,by decide +kernel⟩
def qW:yf ["_law_script","_law_floor_here","_law_told","_law_place","_law_pairs_here","_law_at","_law_some"] ["_law_script"] (zF kZ):=⟨rfl,rfl,rfl,by decide +kernel,rfl,by decide +kernel,by decide +kernel⟩
section
variable (P:Program)(w:World)(K:Ac)(mg:Str->Option Value)(base:Heap)
abbrev Vs:=FD P w K mg base "is_whole" 1 ["thing"] (zY zL i5)
abbrev bj:=FD P w K mg base "places_of" 1 ["floor"] (zY zL oh)
abbrev bz:=FD P w K mg base "at_or_above" 1 ["pair","other"] (zY zL ma)
abbrev kr:=FD P w K mg base "least_pairs" 1 ["pairs"] (zY zL rF)
abbrev Vd:=FD P w K mg base "pairs_ahead_of_changes" 1 ["brims","stall","pair"] (zY zL l_)
abbrev Vb:=FD P w K mg base "step_by" 1 ["floor","pair","way"] (zY zL nQ)
abbrev rJ:=FD P w K mg base "_law_cell" 1 ["_law_script","_law_k"] (zY zL yu)
abbrev Vo:=FD P w K mg base "_law_coins" 1 ["_law_number"] (zY zL rH)
abbrev i9:=FD P w K mg base "_law_behind" 1 ["_law_floor_here","_law_pair","_law_way"] (zY zL uo)
abbrev Vp:=FD P w K mg base "_law_changes" 1 ["_law_floor_here","_law_place","_law_pair"] (zY zL kd)
abbrev bp:=FD P w K mg base "_law_held" 1 ["_law_border","_law_pair"] (zY zL qF)
abbrev Vj:=FD P w K mg base "_law_pairs" 1 ["_law_floor_here"] (zY zL nV)
abbrev br:=FD P w K mg base "is_whole_within" 2 ["thing","least","most"] (zY zL ke)
abbrev bu:=FD P w K mg base "holds" 2 ["border","pair"] (zY zL qG)
abbrev Vv:=FD P w K mg base "both" 2 ["border","other"] (zY zL ki)
abbrev Vu:=FD P w K mg base "either" 2 ["border","other"] (zY zL kg)
abbrev Vz:=FD P w K mg base "border_ahead_of_way" 2 ["brims","way","border"] (zY zL kq)
abbrev Vq:=FD P w K mg base "_law_brims" 2 ["_law_script","_law_many"] (zY zL nY)
abbrev Vk:=FD P w K mg base "_law_owners" 2 ["_law_script","_law_many"] (zY zL nW)
abbrev Vh:=FD P w K mg base "_law_ways" 2 ["_law_script","_law_many"] (zY zL nS)
abbrev Vi:=FD P w K mg base "_law_stalls" 2 ["_law_script","_law_owners_here"] (zY zL nU)
abbrev ku:=FD P w K mg base "_law_first" 2 ["_law_told","_law_place","_law_pair"] (zY x_ wC)
abbrev bq:=FD P w K mg base "_law_deeds" 2 ["_law_floor_here","_law_place","_law_pair"] (zY zL tB)
abbrev Vt:=FD P w K mg base "is_row_within" 3 ["thing","bounds"] (zY zL kf)
abbrev kx:=FD P w K mg base "check_place" 3 ["floor","place"] (zY zL su)
abbrev Vx:=FD P w K mg base "border_of_either" 3 ["borders"] (zY x_ kj)
abbrev Vy:=FD P w K mg base "border_of_all" 3 ["borders"] (zY x_ kl)
abbrev bw:=FD P w K mg base "first_without" 3 ["told","place","pair"] (zY x_ qH)
abbrev Vg:=FD P w K mg base "leads_into" 3 ["floor","pair","way","held"] (zY zL oj)
abbrev Vn:=FD P w K mg base "_law_floor" 3 ["_law_script"] (zY zL om)
abbrev bo:=FD P w K mg base "_law_left" 3 ["_law_floor_here","_law_told","_law_deed"] (zY x_ rG)
abbrev bx:=FD P w K mg base "check_pair" 4 ["floor","pair"] (zY zL qI)
abbrev bh:=FD P w K mg base "ways_from" 4 ["floor","place"] (zY zL rD)
abbrev Vc:=FD P w K mg base "stall_at" 4 ["floor","place"] (zY x_ og)
abbrev Vm:=FD P w K mg base "_law_lasted" 4 ["_law_script","_law_floor_here","_law_told","_law_place","_law_pair"] (zY zL kc)
abbrev V0:=FD P w K mg base "border_ahead_of_changes" 5 ["floor","place","border"] (zY x_ n_)
abbrev W_:=FD P w K mg base "way_out_of" 5 ["floor","place","pair","told"] (zY x_ oa)
abbrev Vf:=FD P w K mg base "next_border" 6 ["floor","place","last"] (zY x_ ka)
abbrev Ve:=FD P w K mg base "next_round" 7 ["floor","last","fresh"] (zY zL nR)
abbrev i8:=FD P w K mg base "rounds" 8 ["floor"] (zY zL vm)
abbrev Vr:=FD P w K mg base "lasts" 9 ["floor","place","pair"] (zY x_ nZ)
abbrev Va:=FD P w K mg base "taker_way" 9 ["floor","place","pair"] (zY x_ rE)
abbrev Vl:=FD P w K mg base "_law_lost" 10 ["_law_script","_law_floor_here","_law_told","_law_place","_law_pair"] (zY zL nX)
variable {K mg}(T:Bt mg)(U:Bq mg)
include T U
theorem Pe (F:Fy K mg "is_whole" gP):Vs P w K mg base:=
 yp (k:=0) F UP rfl (λ _ _ _ _ _ _=>rj λ _=>rfl) λ f Af A outer s H E hr=>⟨_,
  (zA (zO (mK (ZL T (pd_vn 0)) (mH (Rq (ZM T (pd_vn 0))))))),
  (by unfold bW;exact okA)⟩
theorem QB (F:Fy K mg "places_of" gw):bj P w K mg base:=
 yp (k:=0) F UK rfl (λ _ _ _ _ _ _=>rj λ _=>rfl) λ f Af A outer s H E hr=>⟨_,
  (zA (zO (vA T.len (ze (zu (pd_vn 0) zg) zm)))),
  (by unfold bB;exact okA)⟩
theorem PJ (F:Fy K mg "at_or_above" gY):bz P w K mg base:=
 yp (k:=0) F UW rfl (λ _ _ _ _ _ _=>v5 λ _ _=>rfl) λ f Af A outer s H E hr=>⟨_,
  (zA (zO (mK (ZR (zu (pd_vn 0) zg) (zu (pd_vn 1) zg)) (mH (ZR (zu (pd_vn 0) zg) (zu (pd_vn 1) zg)))))),
  (by unfold ak;exact okA)⟩
theorem QJ (F:Fy K mg "least_pairs" gz):kr P w K mg base:=
 yp (k:=0) F gi rfl (λ _ _ _ _ _ _=>rj λ _=>rfl) λ f Af A outer s H E hr=>⟨_,
  (zv (zH 1 gi.nd (xM zm))
  (zv (wy za1 rfl (xK (ZJ T.sorted (ze (pd_vn 0) zm))) (yk 2 gi.nd) (zA (yA (xT.pt (sM (tK (vV (pd_vn 1))) (rY (sN hr (zu (pd_vn 2) zg) (zu (zu (pd_vn 1) (mI zg)) zg))))) (zA (wM (r_ (pd_vn 1) (pd_vn 2)))) y9)))
  (zA (zO (oI T.tuple (ze (pd_vn 1) zm)))))),
  (by unfold bF nC;exact okA)⟩
theorem QC (F:Fy K mg "pairs_ahead_of_changes" gy):Vd P w K mg base:=
 yp (k:=0) F qT rfl (λ _ _ _ _ _ _=>vz λ _ _ _=>rfl) λ f Af A outer s H E hr=>⟨_,
  (zv (zH 3 qT.nd (zu (pd_vn 1) zg))
  (zv (zH 4 qT.nd (xM zm))
  (zv (zH 5 qT.nd (zu (pd_vn 2) (pd_vn 3)))
  (zv (zH 6 qT.nd (zu (pd_vn 2) (va zg (pd_vn 3))))
  (zv (fF za1 (Rf (pd_vn 5) (zu (pd_vn 0) (pd_vn 3))) (zv (wM (r_ (pd_vn 4) (Ry (xW hr (pd_vn 3) zg) (xm (ze (pd_vn 5) (ze (pd_vn 6) zm))) (xm (ze (pd_vn 6) (ze (pd_vn 5) zm))))))
  (zv (zH 5 qT.nd (xD (pd_vn 5) (zu (pd_vn 1) zg)))
  (zA (zH 6 qT.nd (jj T.max (ze zg (ze (va (pd_vn 6) (zu (pd_vn 1) zg)) zm))))))))
  (zA (zO (pd_vn 4)))))))),
  (by unfold bC qz;exact okA)⟩
theorem Q6 (F:Fy K mg "step_by" gs):Vb P w K mg base:=
 yp (k:=0) F kN rfl (λ _ _ _ _ _ _=>vz λ _ _ _=>rfl) λ f Af A outer s H E hr=>⟨_,
  (zv (zH 3 kN.nd (fL (zu (zu (pd_vn 0) zg) (pd_vn 2)) (fH zg) fJ))
  (zv (zH 4 kN.nd (xD (zu (pd_vn 1) zg) (zu (pd_vn 3) zg)))
  (zv (zH 5 kN.nd (xD (zu (pd_vn 1) zg) (zu (pd_vn 3) zg)))
  (zv (yA (xT.pt (sM (sN hr (pd_vn 4) zg) (rY (sN hr (pd_vn 5) zg)))) (zA (zO uV)) y9)
  (zA (zO (xm (ze (tL T.min (ze (pd_vn 4) (ze (zu (zu (pd_vn 0) zg) zg) zm))) (ze (tL T.min (ze (pd_vn 5) (ze (zu (zu (pd_vn 0) zg) zg) zm))) zm))))))))),
  (by unfold b8;exact okA)⟩
theorem QZ (F:Fy K mg "_law_cell" gK):rJ P w K mg base:=
 yp (k:=0) F UM rfl (λ _ _ _ _ _ _=>v5 λ _ _=>rfl) λ f Af A outer s H E hr=>⟨_,
  (zv (yA (sN hr (pd_vn 1) (vA T.len (ze (pd_vn 0) zm))) (zA (zO (yB (zu (pd_vn 0) (pd_vn 1)) (ZK zg zg)))) y9)
  (zA (zO zg))),
  (by unfold bQ;exact okA)⟩
theorem QX (F:Fy K mg "_law_coins" gI):Vo P w K mg base:=
 yp (k:=0) F UL rfl (λ _ _ _ _ _ _=>rj λ _=>rfl) λ f Af A outer s H E hr=>⟨_,
  (zv (yA (xW hr (yB (pd_vn 0) zg) zg) (zA (zO (va (yB (wz (pd_vn 0) zg) zg) zg))) y9)
  (zA (zO (va (yB (yB (wz (pd_vn 0) zg) zg) zg) zg)))),
  (by unfold iG;exact okA)⟩
theorem Pa (F:Fy K mg "_law_behind" gM):i9 P w K mg base:=
 yp (k:=0) F gp rfl (λ _ _ _ _ _ _=>vz λ _ _ _=>rfl) λ f Af A outer s H E hr=>⟨_,
  (zv (zH 3 gp.nd (xD (zu (pd_vn 1) zg) (zu (pd_vn 2) zg)))
  (zv (zH 4 gp.nd (xD (zu (pd_vn 1) zg) (zu (pd_vn 2) zg)))
  (zv (yA (xT.pt (sM (sN hr (pd_vn 3) zg) (rY (sN hr (pd_vn 4) zg)))) (zA (zO uV)) y9)
  (zA (zO (xm (ze (tL T.min (ze (pd_vn 3) (ze (zu (zu (pd_vn 0) zg) zg) zm))) (ze (tL T.min (ze (pd_vn 4) (ze (zu (zu (pd_vn 0) zg) zg) zm))) zm)))))))),
  (by unfold bS;exact okA)⟩
theorem QY (F:Fy K mg "_law_changes" gJ):Vp P w K mg base:=
 yp (k:=0) F qV rfl (λ _ _ _ _ _ _=>vz λ _ _ _=>rfl) λ f Af A outer s H E hr=>⟨_,
  (zv (zH 3 qV.nd (xM (ze (pd_vn 2) zm)))
  (zv (wy za1 rfl (xK (zu (pd_vn 0) zg)) (qZ (n:=4) (wN (yk 4 qV.nd) (wN (yk 5 qV.nd) (wN (yk 6 qV.nd) (wN (yk 7 qV.nd) qY))))) (zA (fF za1 (xT.pt (oG (xW hr (pd_vn 4) (pd_vn 1)) (oE (ji (zu (zu (pd_vn 3) (mI zg)) (pd_vn 5)) (pd_vn 6))))) (zv (zH 8 qV.nd (jk T.list (ze (zu (pd_vn 3) (mI zg)) zm)))
  (zv (fG (pd_vn 8) (pd_vn 5) (va (zu (pd_vn 8) (pd_vn 5)) (pd_vn 6)))
  (zv (fG (pd_vn 8) (va zg (pd_vn 5)) (tL T.min (ze (xD (zu (pd_vn 8) (va zg (pd_vn 5))) (pd_vn 7)) (ze (zu (zu (pd_vn 0) zg) (va zg (pd_vn 5))) zm))))
  (zA (wM (r_ (pd_vn 3) (oI T.tuple (ze (pd_vn 8) zm)))))))))))
  (zA (zO (pd_vn 3))))),
  (by unfold bP pQ pT;exact okA)⟩
theorem QT (F:Fy K mg "_law_held" gF):bp P w K mg base:=
 yp (k:=0) F gk rfl (λ _ _ _ _ _ _=>v5 λ _ _=>rfl) λ f Af A outer s H E hr=>⟨_,
  (zv (wy za1 rfl (xK (pd_vn 0)) (qZ (n:=2) (wN (yk 2 gk.nd) (wN (yk 3 gk.nd) qY))) (zA (yA (xT.pt (oG (ji (zu (pd_vn 1) zg) (pd_vn 2)) (oE (ji (zu (pd_vn 1) zg) (pd_vn 3))))) (zA (zO tN)) y9)))
  (zA (zO tN))),
  (by unfold bM jZ;exact okA)⟩
theorem QO (F:Fy K mg "_law_pairs" kW):Vj P w K mg base:=
 yp (k:=0) F gj rfl (λ _ _ _ _ _ _=>rj λ _=>rfl) λ f Af A outer s H E hr=>⟨_,
  (zv (zH 1 gj.nd (xM zm))
  (zv (wy za1 rfl (sO T.range (ze (xD (zu (zu (pd_vn 0) zg) zg) zg) zm)) (yk 2 gj.nd) (zA (wM (fM (pd_vn 1) (tM (N':=["_law_y","_law_x"]) (pick:=[none,some 2]) (vf (N:=["_law_floor_here","_law_found","_law_x"]) (esc:=zF kW)) rfl (sO T.range (ze (xD (zu (zu (pd_vn 0) zg) zg) zg) zm)) (λ _ _ _ _ _=>(yk 0 (by decide +kernel:List.Nodup (α:=Str) ["_law_y","_law_x"]))) (λ _ _ _ _ _=>sP) (λ _ _ _ _ _=>(xm (ze (pd_vn 1) (ze (pd_vn 0) zm)))))))))
  (zA (zO (pd_vn 1))))),
  (fR (Z_ 1 (Ye fU))
  (fR (ZY (fT (b:=true) (fX ((vW good_add ((vW nc ((vW nc (fY 0) ((px _)).fr)).er ((px _)).fr)).er ((px _)).fr)).fr fW)) (Ya 2) (ZZ 1 (Yf (fT (b:=false) (fX ((vW good_add ((vW nc ((vW nc (fY 0) ((px _)).fr)).er ((px _)).fr)).er ((px _)).fr)).fr fW)) (Yb 0) Yd ((Yc (fV (js 1) (fV (js 0) fU)))).fe)))
  (fS 1)))⟩
theorem Pd (F:Fy K mg "is_whole_within" gO) (cV:Vs P w K mg base):br P w K mg base:=
 yp (k:=1) F UO rfl (λ _ _ _ _ _ _=>vz λ _ _ _=>rfl) λ f Af A outer s H E hr=>⟨_,
  (zA (zO (mK (pd_callH cV hr (ze (pd_vn 0) zm)) (mH (R4 jo jo fit_le fit_le xA.mo xA.mo (pd_vn 1) (pd_vn 0) (pd_vn 2)))))),
  (by unfold bV;exact okA)⟩
theorem Pk (F:Fy K mg "holds" ja) (nP:bz P w K mg base):bu P w K mg base:=
 yp (k:=1) F UR rfl (λ _ _ _ _ _ _=>v5 λ _ _=>rfl) λ f Af A outer s H E hr=>⟨_,
  (zA (zO (R8 T.any (ze (tM (N':=["own","pair"]) (pick:=[none,some 1]) (vf (N:=["border","pair"]) (esc:=zF ja)) rfl (xK (pd_vn 0)) (λ _ _ _ _ _=>(yk 0 (by decide +kernel:List.Nodup (α:=Str) ["own","pair"]))) (λ _ _ _ _ _=>sP) (λ _ _ _ _ _=>(pd_callH nP hr (ze (pd_vn 1) (ze (pd_vn 0) zm))))) zm)))),
  (by unfold bZ lJ;exact okA)⟩
theorem Py (F:Fy K mg "both" mx) (uM:kr P w K mg base):Vv P w K mg base:=
 yp (k:=1) F qX rfl (λ _ _ _ _ _ _=>v5 λ _ _=>rfl) λ f Af A outer s H E hr=>⟨_,
  (zv (zH 2 qX.nd (xD (tM (N':=["pair"]) (pick:=[none]) (vf (N:=["border","other","steps","lows","shared","first","side","second"]) (esc:=zF mx)) rfl (xK (pd_vn 0)) (λ _ _ _ _ _=>(yk 0 (by decide +kernel:List.Nodup (α:=Str) ["pair"]))) (λ _ _ _ _ _=>sP) (λ _ _ _ _ _=>(xm (ze (zu (pd_vn 0) zg) (ze zg (ze (zu (pd_vn 0) zg) zm)))))) (tM (N':=["pair"]) (pick:=[none]) (vf (N:=["border","other","steps","lows","shared","first","side","second"]) (esc:=zF mx)) rfl (xK (pd_vn 1)) (λ _ _ _ _ _=>(yk 0 (by decide +kernel:List.Nodup (α:=Str) ["pair"]))) (λ _ _ _ _ _=>sP) (λ _ _ _ _ _=>(xm (ze (zu (pd_vn 0) zg) (ze zg (ze (zu (pd_vn 0) zg) zm))))))))
  (zv (zH 3 qX.nd R1)
  (zv (zH 4 qX.nd (xM zm))
  (zv (wy za1 rfl (xK (ZJ T.sorted (ze (pd_vn 2) zm))) (qZ (n:=3) (wN (yk 5 qX.nd) (wN (yk 6 qX.nd) (wN (yk 7 qX.nd) qY)))) (zv (Rj hr (pd_vn 3) (pd_vn 6) (tL T.min (ze (pd_vn 7) (ze (R3 hr (pd_vn 3) (pd_vn 6) (pd_vn 7)) zm))))
  (zA (yA (xW hr (R0 T.len (ze (pd_vn 3) zm)) zg) (zA (wM (r_ (pd_vn 4) (xm (ze (pd_vn 5) (ze (jj T.max (ze (ZS hr (pd_vn 3) zg) (ze (ZS hr (pd_vn 3) zg) zm))) zm)))))) y9))))
  (zA (zO (pd_callH uM hr (ze (pd_vn 4) zm)))))))),
  (by unfold ag lR cf cg;exact okA)⟩
theorem Pp (F:Fy K mg "either" gR) (uM:kr P w K mg base):Vu P w K mg base:=
 yp (k:=1) F US rfl (λ _ _ _ _ _ _=>v5 λ _ _=>rfl) λ f Af A outer s H E hr=>⟨_,
  (zA (zO (pd_callH uM hr (ze (xD (jk T.list (ze (pd_vn 0) zm)) (jk T.list (ze (pd_vn 1) zm))) zm)))),
  (by unfold aa;exact okA)⟩
theorem PB (F:Fy K mg "border_ahead_of_way" my) (uM:kr P w K mg base) (nP:bz P w K mg base):Vz P w K mg base:=
 yp (k:=1) F Zl rfl (λ _ _ _ _ _ _=>vz λ _ _ _=>rfl) λ f Af A outer s H E hr=>⟨_,
  (zv (oH (i:=3) (N':=["pair","way"]) (pick:=[none,some 1]) (vf (N:=["brims","way","border","pairs"]) (esc:=zF my)) rfl (xK (pd_vn 2)) (λ _ _ _ _ _=>(yk 0 (by decide +kernel:List.Nodup (α:=Str) ["pair","way"]))) (λ _ _ _ _ _=>sP) (λ _ _ _ _ _=>(xm (ze (jj T.max (ze zg (ze (va (zu (pd_vn 0) zg) (zu (pd_vn 1) zg)) zm))) (ze (jj T.max (ze zg (ze (va (zu (pd_vn 0) zg) (zu (pd_vn 1) zg)) zm))) zm)))) Zl.nd rfl (by first | exact Or.inl rfl | exact Or.inr rfl))
  (zA (zO (pd_callH uM hr (ze (tM (N':=["pair","brims"]) (pick:=[none,some 0]) (vf (N:=["brims","way","border","pairs"]) (esc:=zF my)) rfl (xK (pd_vn 3)) (λ _ _ _ _ _=>(yk 0 (by decide +kernel:List.Nodup (α:=Str) ["pair","brims"]))) (λ _ _ _ _ _=>q_ (vV (pd_callH nP hr (ze (pd_vn 1) (ze (pd_vn 0) zm))))) (λ _ _ _ _ _=>(pd_vn 0))) zm))))),
  (by unfold aj lD lK;exact okA)⟩
theorem Q_ (F:Fy K mg "_law_brims" gL) (xw:rJ P w K mg base):Vq P w K mg base:=
 yp (k:=1) F gm rfl (λ _ _ _ _ _ _=>v5 λ _ _=>rfl) λ f Af A outer s H E hr=>⟨_,
  (zv (zH 2 gm.nd (pd_callH xw hr (ze (pd_vn 0) (ze zg zm))))
  (zv (zH 3 gm.nd (xM (ze (zu (xM (ze zg (ze zg (ze zg (ze zg (ze zg (ze zg (ze zg (ze zg zm))))))))) (yB (pd_vn 2) zg)) (ze (zu (xM (ze zg (ze zg (ze zg (ze zg (ze zg (ze zg (ze zg (ze zg zm))))))))) (yB (wz (pd_vn 2) zg) zg)) zm))))
  (zv (yA (fE (pd_vn 1) zg) (zA (zO (xm (ze (tL T.min (ze (zu (pd_vn 3) zg) (ze zg zm))) (ze (tL T.min (ze (zu (pd_vn 3) zg) (ze zg zm))) zm))))) y9)
  (zv (yA (xW hr (yB (wz (pd_vn 2) zg) zg) zg) (zA (zO (xm (ze zg (ze (yB (zu (pd_vn 3) zg) zg) zm))))) y9)
  (zv (yA (xW hr (yB (wz (pd_vn 2) zg) zg) zg) (zA (zO (xm (ze (yB (zu (pd_vn 3) zg) zg) (ze zg zm))))) y9)
  (zv (yA (xT.pt (oG (xW hr (yB (wz (pd_vn 2) zg) zg) zg) (oE (sN hr (pd_vn 1) zg)))) (zA (zO (xm (ze zg (ze zg zm))))) y9)
  (zA (zO (oI T.tuple (ze (pd_vn 3) zm)))))))))),
  (by unfold bR;exact okA)⟩
theorem QP (F:Fy K mg "_law_owners" gC) (xw:rJ P w K mg base):Vk P w K mg base:=
 yp (k:=1) F mq rfl (λ _ _ _ _ _ _=>v5 λ _ _=>rfl) λ f Af A outer s H E hr=>⟨_,
  (zv (zH 2 mq.nd (pd_callH xw hr (ze (pd_vn 0) (ze zg zm))))
  (zv (zH 3 mq.nd (xM zm))
  (zv (wy za1 rfl (sO T.range (ze (pd_vn 1) zm)) (yk 4 mq.nd) (zv (wM (r_ (pd_vn 3) (zu (xM (ze oJ (ze oJ zm))) (yB (pd_vn 2) zg))))
  (zA (zH 2 mq.nd (wz (pd_vn 2) zg)))))
  (zA (zO (oI T.tuple (ze (pd_vn 3) zm))))))),
  (by unfold bI lN;exact okA)⟩
theorem QM (F:Fy K mg "_law_ways" gA) (xw:rJ P w K mg base) (iz:Vo P w K mg base):Vh P w K mg base:=
 yp (k:=1) F uu rfl (λ _ _ _ _ _ _=>v5 λ _ _=>rfl) λ f Af A outer s H E hr=>⟨_,
  (zv (zH 2 uu.nd (pd_callH xw hr (ze (pd_vn 0) (ze zg zm))))
  (zv (zH 3 uu.nd (zu (xM (ze zg (ze zg zm))) (ZN T.int (ze (Rt hr (pd_vn 1) zg) zm))))
  (zv (zH 4 uu.nd (xM zm))
  (zv (wy za1 rfl (sO T.range (ze (pd_vn 1) zm)) (yk 5 uu.nd) (zv (zH 6 uu.nd (xD zg (yB (pd_vn 2) zg)))
  (zv (yA (xT.pt (oG (sN hr (pd_vn 1) zg) (oE (xW hr (yB (wz (pd_vn 2) zg) zg) zg)))) (zA (zH 6 uu.nd (xD zg (pd_vn 6)))) y9)
  (zv (wy za1 rfl (sO T.range (ze (pd_vn 6) zm)) (yk 7 uu.nd) (zv (zH 8 uu.nd (xD (ph (pd_vn 3) (pd_vn 5)) (pd_vn 7)))
  (zv (zH 9 uu.nd (yB (xD (xD (ph (pd_callH xw hr (ze (pd_vn 0) (ze (xD zg (pd_vn 8)) zm))) zg) (ph zg (pd_vn 8))) zg) zg))
  (zv (zH 10 uu.nd (wz (pd_vn 9) zg))
  (zA (wM (r_ (pd_vn 4) (xm (ze (pd_vn 5) (ze (yB (yB (pd_vn 9) zg) (pd_vn 1)) (ze (pd_callH iz hr (ze (pd_vn 10) zm)) (ze (pd_callH iz hr (ze (wz (pd_vn 10) zg) zm)) zm))))))))))))
  (zA (zH 2 uu.nd (wz (pd_vn 2) zg)))))))
  (zA (zO (oI T.tuple (ze (ZI hr T.sorted U.set (ze (pd_vn 4) zm)) zm)))))))),
  (by unfold bG lL pR;exact okA)⟩
theorem QN (F:Fy K mg "_law_stalls" gB) (xw:rJ P w K mg base):Vi P w K mg base:=
 yp (k:=1) F qU rfl (λ _ _ _ _ _ _=>v5 λ _ _=>rfl) λ f Af A outer s H E hr=>⟨_,
  (zv (zH 2 qU.nd (xM zm))
  (zv (wy za1 rfl (sO T.range (ze (vA T.len (ze (pd_vn 1) zm)) zm)) (yk 3 qU.nd) (zv (zH 4 qU.nd (yB (xD (xD (ph (pd_callH xw hr (ze (pd_vn 0) (ze (xD zg (pd_vn 3)) zm))) zg) (ph zg (pd_vn 3))) zg) zg))
  (zA (yA (xT.pt (oG (xW hr (zu (pd_vn 1) (pd_vn 3)) oJ) (oE (xW hr (yB (pd_vn 4) zg) zg)))) (zv (zH 5 qU.nd (wz (pd_vn 4) zg))
  (zv (zH 6 qU.nd (xD zg (zu (xM (ze (yB (pd_vn 5) zg) (ze (yB (pd_vn 5) zg) (ze (yB (pd_vn 5) zg) zm)))) (yB (wz (pd_vn 5) zg) zg))))
  (zv (zH 7 qU.nd (zu (xM (ze (yB (wz (pd_vn 5) zg) zg) (ze (yB (wz (pd_vn 5) zg) zg) (ze (yB (wz (pd_vn 5) zg) zg) zm)))) (yB (wz (pd_vn 5) zg) zg)))
  (zA (wM (r_ (pd_vn 2) (xm (ze (pd_vn 3) (ze (yB (wz (pd_vn 4) zg) zg) (ze (pd_vn 6) (ze (pd_vn 7) zm))))))))))) y9))))
  (zA (zO (oI T.tuple (ze (pd_vn 2) zm)))))),
  (by unfold bH nD;exact okA)⟩
theorem QV (F:Fy K mg "_law_first" gH) (nI:bp P w K mg base):ku P w K mg base:=
 yp (k:=1) F Zk rfl (λ _ _ _ _ _ _=>vz λ _ _ _=>rfl) λ f Af A outer s H E hr=>⟨_,
  (zv (wy za1 rfl (sO T.range (ze (vA T.len (ze (pd_vn 0) zm)) zm)) (yk 3 Zk.nd) (zA (yA (tK (vV (pd_callH nI hr (ze (zu (zu (pd_vn 0) (pd_vn 3)) (pd_vn 1)) (ze (pd_vn 2) zm))))) (zA (zO (pd_vn 3))) y9)))
  (zA (zO (ZK zg zg)))),
  (by unfold bN lO;exact okA)⟩
theorem QW (F:Fy K mg "_law_deeds" kY) (cR:Vp P w K mg base):bq P w K mg base:=
 yp (k:=1) F mr rfl (λ _ _ _ _ _ _=>vz λ _ _ _=>rfl) λ f Af A outer s H E hr=>⟨_,
  (zv (zH 3 mr.nd (xM (ze (pd_vn 2) zm)))
  (zv (yA (xW hr (zu (zu (pd_vn 0) zg) (pd_vn 1)) oJ) (zA (zH 3 mr.nd (pd_callH cR hr (ze (pd_vn 0) (ze (pd_vn 1) (ze (pd_vn 2) zm)))))) y9)
  (zv (zH 4 mr.nd (xM zm))
  (zv (wy za1 rfl (xK (pd_vn 3)) (yk 5 mr.nd) (zA (wM (fM (pd_vn 4) (tM (N':=["_law_way","_law_one","_law_place"]) (pick:=[none,some 5,some 1]) (vf (N:=["_law_floor_here","_law_place","_law_pair","_law_held_here","_law_found","_law_one"]) (esc:=zF kY)) rfl (xK (zu (pd_vn 0) zg)) (λ _ _ _ _ _=>(yk 0 (by decide +kernel:List.Nodup (α:=Str) ["_law_way","_law_one","_law_place"]))) (λ _ _ _ _ _=>q_ (xW hr (zu (pd_vn 0) zg) (pd_vn 2))) (λ _ _ _ _ _=>(xm (ze (pd_vn 1) (ze (pd_vn 0) zm)))))))))
  (zA (zO (pd_vn 4))))))),
  (by unfold bO lP lH;exact okA)⟩
theorem Pf (F:Fy K mg "is_row_within" k_) (nK:br P w K mg base):Vt P w K mg base:=
 yp (k:=2) F UQ rfl (λ _ _ _ _ _ _=>v5 λ _ _=>rfl) λ f Af A outer s H E hr=>⟨_,
  (zv (yA (xT.pt (sM (tK (vV (Rw T (pd_vn 0)))) (rY (jg hr (vA T.len (ze (pd_vn 0) zm)) (vA T.len (ze (pd_vn 1) zm)))))) (zA (zO tN)) y9)
  (zA (zO (R9 T.all (ze (tM (N':=["number","bound"]) (pick:=[none,none]) (vf (N:=["thing","bounds"]) (esc:=zF k_)) rfl (Rl U.zip (ze (pd_vn 0) (ze (pd_vn 1) zm))) (λ _ _ _ _ _=>(qZ (n:=2) (wN (yk 0 (by decide +kernel:List.Nodup (α:=Str) ["number","bound"])) (wN (yk 1 (by decide +kernel:List.Nodup (α:=Str) ["number","bound"])) qY)))) (λ _ _ _ _ _=>sP) (λ _ _ _ _ _=>(pd_callH nK hr (ze (pd_vn 0) (ze (zu (pd_vn 1) zg) (ze (zu (pd_vn 1) zg) zm)))))) zm))))),
  (by unfold bX lI;exact okA)⟩
theorem Pt (F:Fy K mg "check_place" gS) (nK:br P w K mg base) (p_:bj P w K mg base):kx P w K mg base:=
 yp (k:=2) F UT rfl (λ _ _ _ _ _ _=>v5 λ _ _=>rfl) λ f Af A outer s H E hr=>⟨_,
  (zA (yA (tK (vV (pd_callH nK hr (ze (pd_vn 1) (ze zg (ze (va (pd_callH p_ hr (ze (pd_vn 0) zm)) zg) zm)))))) (zA ZH) y9)),
  (by unfold ae;exact okA)⟩
theorem Pz (F:Fy K mg "border_of_either" gU) (cX:Vu P w K mg base):Vx P w K mg base:=
 yp (k:=2) F kO rfl (λ _ _ _ _ _ _=>rj λ _=>rfl) λ f Af A outer s H E hr=>⟨_,
  (zv (zH 1 kO.nd (xm zm))
  (zv (wy za1 rfl (xK (pd_vn 0)) (yk 2 kO.nd) (zA (zH 1 kO.nd (pd_callH cX hr (ze (pd_vn 1) (ze (pd_vn 2) zm))))))
  (zA (zO (pd_vn 1))))),
  (by unfold ah lS;exact okA)⟩
theorem P0 (F:Fy K mg "border_of_all" gW) (cY:Vv P w K mg base):Vy P w K mg base:=
 yp (k:=2) F kP rfl (λ _ _ _ _ _ _=>rj λ _=>rfl) λ f Af A outer s H E hr=>⟨_,
  (zv (zH 1 kP.nd (xm (ze (xm (ze zg (ze zg zm))) zm)))
  (zv (wy za1 rfl (xK (pd_vn 0)) (yk 2 kP.nd) (zA (zH 1 kP.nd (pd_callH cY hr (ze (pd_vn 1) (ze (pd_vn 2) zm))))))
  (zA (zO (pd_vn 1))))),
  (by unfold ai lT;exact okA)⟩
theorem Pl (F:Fy K mg "first_without" gQ) (nL:bu P w K mg base):bw P w K mg base:=
 yp (k:=2) F gq rfl (λ _ _ _ _ _ _=>vz λ _ _ _=>rfl) λ f Af A outer s H E hr=>⟨_,
  (zv (wy za1 rfl (fK U.enumerate (ze (pd_vn 0) zm)) (qZ (n:=2) (wN (yk 3 gq.nd) (wN (yk 4 gq.nd) qY))) (zA (yA (tK (vV (pd_callH nL hr (ze (zu (pd_vn 4) (pd_vn 1)) (ze (pd_vn 2) zm))))) (zA (zO (pd_vn 3))) y9)))
  (zA (zO uV))),
  (by unfold b_ lQ;exact okA)⟩
theorem QK (F:Fy K mg "leads_into" g9) (cD:Vb P w K mg base) (nL:bu P w K mg base):Vg P w K mg base:=
 yp (k:=2) F Zi rfl (λ _ _ _ _ _ _=>Wz λ _ _ _ _=>rfl) λ f Af A outer s H E hr=>⟨_,
  (zv (zH 4 Zi.nd (pd_callH cD hr (ze (pd_vn 0) (ze (pd_vn 1) (ze (pd_vn 2) zm)))))
  (zA (zO (mK (Rv (pd_vn 4) uV) (mH (pd_callH nL hr (ze (zu (pd_vn 3) (zu (zu (zu (pd_vn 0) zg) (pd_vn 2)) zg)) (ze (pd_vn 4) zm)))))))),
  (by unfold iD;exact okA)⟩
theorem QU (F:Fy K mg "_law_floor" gG) (xw:rJ P w K mg base) (cN:Vk P w K mg base) (cT:Vq P w K mg base) (cK:Vh P w K mg base) (cL:Vi P w K mg base):Vn P w K mg base:=
 yp (k:=2) F rV rfl (λ _ _ _ _ _ _=>rj λ _=>rfl) λ f Af A outer s H E hr=>⟨_,
  (zv (zH 1 rV.nd (pd_callH xw hr (ze (pd_vn 0) (ze zg zm))))
  (zv (zH 2 rV.nd (zu (xM (ze zg (ze zg (ze zg (ze zg (ze zg (ze zg (ze zg (ze (xD zg (yB (wz (pd_vn 1) zg) zg)) zm))))))))) (yB (pd_vn 1) zg)))
  (zv (zH 3 rV.nd (pd_callH cN hr (ze (pd_vn 0) (ze (pd_vn 2) zm))))
  (zv (zH 4 rV.nd (pd_callH cT hr (ze (pd_vn 0) (ze (pd_vn 2) zm))))
  (zv (zH 5 rV.nd (pd_callH cK hr (ze (pd_vn 0) (ze (pd_vn 2) zm))))
  (zv (zH 6 rV.nd (pd_callH cL hr (ze (pd_vn 0) (ze (pd_vn 3) zm))))
  (zv (yA (xT.pt (oG (xW hr (pd_vn 4) (xm (ze zg (ze zg zm)))) (oE (xT.pt (sM (fE (vA T.len (ze (pd_vn 5) zm)) zg) (rY (fE (vA T.len (ze (pd_vn 6) zm)) zg))))))) (zA (zH 4 rV.nd (xm (ze zg (ze zg zm))))) y9)
  (zA (zO (xm (ze (pd_vn 4) (ze (pd_vn 3) (ze (pd_vn 5) (ze (pd_vn 6) zm)))))))))))))),
  (by unfold iE;exact okA)⟩
theorem QR (F:Fy K mg "_law_left" gE) (rC:i9 P w K mg base) (uk:ku P w K mg base):bo P w K mg base:=
 yp (k:=2) F Zj rfl (λ _ _ _ _ _ _=>vz λ _ _ _=>rfl) λ f Af A outer s H E hr=>⟨_,
  (zv (zH 3 Zj.nd (pd_callH rC hr (ze (pd_vn 0) (ze (zu (pd_vn 2) zg) (ze (zu (pd_vn 2) zg) zm)))))
  (zv (yA (jh (pd_vn 3) uV) (zA (zO zg)) y9)
  (zA (zO (pd_callH uk hr (ze (pd_vn 1) (ze (zu (zu (pd_vn 2) zg) zg) (ze (pd_vn 3) zm)))))))),
  (by unfold bK;exact okA)⟩
theorem Pu (F:Fy K mg "check_pair" gT) (cW:Vt P w K mg base):bx P w K mg base:=
 yp (k:=3) F UU rfl (λ _ _ _ _ _ _=>v5 λ _ _=>rfl) λ f Af A outer s H E hr=>⟨_,
  (zA (yA (tK (vV (pd_callH cW hr (ze (pd_vn 1) (ze (xm (ze (xm (ze zg (ze (zu (zu (pd_vn 0) zg) zg) zm))) (ze (xm (ze zg (ze (zu (zu (pd_vn 0) zg) zg) zm))) zm))) zm))))) (zA ZH) y9)),
  (by unfold af;exact okA)⟩
theorem Qz (F:Fy K mg "ways_from" kR) (uN:kx P w K mg base):bh P w K mg base:=
 yp (k:=3) F UI rfl (λ _ _ _ _ _ _=>v5 λ _ _=>rfl) λ f Af A outer s H E hr=>⟨_,
  (zv (wM (pd_callH uN hr (ze (pd_vn 0) (ze (pd_vn 1) zm))))
  (zA (zO (tM (N':=["number","way","place"]) (pick:=[none,none,some 1]) (vf (N:=["floor","place"]) (esc:=zF kR)) rfl (fK U.enumerate (ze (zu (pd_vn 0) zg) zm)) (λ _ _ _ _ _=>(qZ (n:=2) (wN (yk 0 (by decide +kernel:List.Nodup (α:=Str) ["number","way","place"])) (wN (yk 1 (by decide +kernel:List.Nodup (α:=Str) ["number","way","place"])) qY)))) (λ _ _ _ _ _=>q_ (xW hr (zu (pd_vn 1) zg) (pd_vn 2))) (λ _ _ _ _ _=>(pd_vn 0)))))),
  (by unfold b7 lE;exact okA)⟩
theorem Q7 (F:Fy K mg "stall_at" gu) (uN:kx P w K mg base):Vc P w K mg base:=
 yp (k:=3) F Zh rfl (λ _ _ _ _ _ _=>v5 λ _ _=>rfl) λ f Af A outer s H E hr=>⟨_,
  (zv (wM (pd_callH uN hr (ze (pd_vn 0) (ze (pd_vn 1) zm))))
  (zv (wy za1 rfl (xK (zu (pd_vn 0) zg)) (yk 2 Zh.nd) (zA (yA (xW hr (zu (pd_vn 2) zg) (pd_vn 1)) (zA (zO (pd_vn 2))) y9)))
  (zA (zO uV)))),
  (by unfold b9 nB;exact okA)⟩
theorem QS (F:Fy K mg "_law_lasted" kX) (uk:ku P w K mg base) (nJ:bq P w K mg base) (rC:i9 P w K mg base) (xw:rJ P w K mg base) (nH:bo P w K mg base):Vm P w K mg base:=
 yp (k:=3) F sI rfl (λ _ _ _ _ _ _=>Wx λ _ _ _ _ _=>rfl) λ f Af A outer s H E hr=>⟨_,
  (zv (zH 5 sI.nd (pd_callH uk hr (ze (pd_vn 2) (ze (pd_vn 3) (ze (pd_vn 4) zm)))))
  (zv (wy za1 rfl (sO T.range (ze (tL T.min (ze (va (pd_vn 5) zg) (ze zg zm))) zm)) (yk 6 sI.nd) (zv (zH 7 sI.nd (pd_callH nJ hr (ze (pd_vn 1) (ze (pd_vn 3) (ze (pd_vn 4) zm)))))
  (zv (zH 8 sI.nd (zu (pd_vn 7) (yB (pd_callH xw hr (ze (pd_vn 0) (ze (xD zg (pd_vn 6)) zm))) (vA T.len (ze (pd_vn 7) zm)))))
  (zv (yA (xW hr (zu (zu (pd_vn 1) zg) (pd_vn 3)) oJ) (zv (oH (i:=9) (N':=["_law_one","_law_floor_here","_law_told"]) (pick:=[none,some 1,some 2]) (vf (N:=["_law_script","_law_floor_here","_law_told","_law_place","_law_pair","_law_steps","_law_k","_law_deeds_here","_law_deed","_law_left_here"]) (esc:=zF kX)) rfl (xK (pd_vn 7)) (λ _ _ _ _ _=>(yk 0 (by decide +kernel:List.Nodup (α:=Str) ["_law_one","_law_floor_here","_law_told"]))) (λ _ _ _ _ _=>sP) (λ _ _ _ _ _=>(pd_callH nH hr (ze (pd_vn 1) (ze (pd_vn 2) (ze (pd_vn 0) zm))))) sI.nd rfl (by first | exact Or.inl rfl | exact Or.inr rfl))
  (zA (zH 8 sI.nd (zu (pd_vn 7) (Rx (pd_vn 9) (Rr T.max (ze (pd_vn 9) zm))))))) y9)
  (zv (zH 4 sI.nd (pd_callH rC hr (ze (pd_vn 1) (ze (zu (pd_vn 8) zg) (ze (zu (pd_vn 8) zg) zm)))))
  (zv (zH 3 sI.nd (zu (zu (pd_vn 8) zg) zg))
  (zA (yA (xT.pt (sM (jh (pd_vn 4) uV) (rY (sN hr (pd_callH uk hr (ze (pd_vn 2) (ze (pd_vn 3) (ze (pd_vn 4) zm)))) (va (va (pd_vn 5) zg) (pd_vn 6)))))) (zA (zO tN)) y9))))))))
  (zA (zO tN)))),
  (by unfold bL pS pO;exact okA)⟩
theorem PC (F:Fy K mg "border_ahead_of_changes" gX) (cE:Vc P w K mg base) (uM:kr P w K mg base) (cF:Vd P w K mg base):V0 P w K mg base:=
 yp (k:=4) F kQ rfl (λ _ _ _ _ _ _=>vz λ _ _ _=>rfl) λ f Af A outer s H E hr=>⟨_,
  (zv (zH 3 kQ.nd (pd_callH cE hr (ze (pd_vn 0) (ze (pd_vn 1) zm))))
  (zv (yA (jh (pd_vn 3) uV) (zA (zO (pd_vn 2))) y9)
  (zv (zH 4 kQ.nd (xM zm))
  (zv (wy za1 rfl (xK (pd_vn 2)) (yk 5 kQ.nd) (zA (wM (fM (pd_vn 4) (pd_callH cF hr (ze (zu (pd_vn 0) zg) (ze (pd_vn 3) (ze (pd_vn 5) zm))))))))
  (zA (zO (pd_callH uM hr (ze (pd_vn 4) zm)))))))),
  (by unfold iI lU;exact okA)⟩
theorem Q0 (F:Fy K mg "way_out_of" kS) (nM:bw P w K mg base) (nG:bh P w K mg base) (cJ:Vg P w K mg base):W_ P w K mg base:=
 yp (k:=4) F Zg rfl (λ _ _ _ _ _ _=>Wz λ _ _ _ _=>rfl) λ f Af A outer s H E hr=>⟨_,
  (zv (zH 4 Zg.nd (pd_callH nM hr (ze (pd_vn 3) (ze (pd_vn 1) (ze (pd_vn 2) zm)))))
  (zv (yA (jh (pd_vn 4) uV) (zA (zO uV)) y9)
  (zA (zO (zu (tM (N':=["way","floor","pair","told","steps"]) (pick:=[none,some 0,some 2,some 3,some 4]) (vf (N:=["floor","place","pair","told","steps"]) (esc:=zF kS)) rfl (xK (pd_callH nG hr (ze (pd_vn 0) (ze (pd_vn 1) zm)))) (λ _ _ _ _ _=>(yk 0 (by decide +kernel:List.Nodup (α:=Str) ["way","floor","pair","told","steps"]))) (λ _ _ _ _ _=>q_ (tK (vV (pd_callH cJ hr (ze (pd_vn 1) (ze (pd_vn 2) (ze (pd_vn 0) (ze (zu (pd_vn 3) (va (pd_vn 4) zg)) zm)))))))) (λ _ _ _ _ _=>(pd_vn 0))) zg))))),
  (by unfold iB nr;exact okA)⟩
theorem QG {ox:Value}(F:Fy K mg "next_border" mv) (qo:mg "KEEPER"=some ox) (o8:L2.RelV (.str "keeper") ox) (c_:Vy P w K mg base) (ba:Vz P w K mg base) (bc:V0 P w K mg base) (nG:bh P w K mg base) (cZ:Vx P w K mg base):Vf P w K mg base:=
 yp (k:=5) F gh rfl (λ _ _ _ _ _ _=>vz λ _ _ _=>rfl) λ f Af A outer s H E hr=>⟨_,
  (zv (oH (i:=3) (N':=["number","floor"]) (pick:=[none,some 0]) (vf (N:=["floor","place","last","ways","ahead"]) (esc:=zF mv)) rfl (xK (pd_callH nG hr (ze (pd_vn 0) (ze (pd_vn 1) zm)))) (λ _ _ _ _ _=>(yk 0 (by decide +kernel:List.Nodup (α:=Str) ["number","floor"]))) (λ _ _ _ _ _=>sP) (λ _ _ _ _ _=>(zu (zu (pd_vn 1) zg) (pd_vn 0))) gh.nd rfl (by first | exact Or.inl rfl | exact Or.inr rfl))
  (zv (oH (i:=4) (N':=["way","floor","last"]) (pick:=[none,some 0,some 2]) (vf (N:=["floor","place","last","ways","ahead"]) (esc:=zF mv)) rfl (xK (pd_vn 3)) (λ _ _ _ _ _=>(yk 0 (by decide +kernel:List.Nodup (α:=Str) ["way","floor","last"]))) (λ _ _ _ _ _=>sP) (λ _ _ _ _ _=>(pd_callH ba hr (ze (zu (pd_vn 1) zg) (ze (pd_vn 0) (ze (zu (pd_vn 2) (zu (pd_vn 0) zg)) zm))))) gh.nd rfl (by first | exact Or.inl rfl | exact Or.inr rfl))
  (zv (yA (xW hr (zu (zu (pd_vn 0) zg) (pd_vn 1)) (ZQ qo o8)) (zA (zO (pd_callH bc hr (ze (pd_vn 0) (ze (pd_vn 1) (ze (pd_callH cZ hr (ze (pd_vn 4) zm)) zm)))))) y9)
  (zA (zO (pd_callH c_ hr (ze (pd_vn 4) zm))))))),
  (by unfold bE lC lG;exact okA)⟩
theorem QF (F:Fy K mg "next_round" kU) (cH:Vf P w K mg base):Ve P w K mg base:=
 yp (k:=6) F gf rfl (λ _ _ _ _ _ _=>vz λ _ _ _=>rfl) λ f Af A outer s H E hr=>⟨_,
  (zv (zH 3 gf.nd (jk T.list (ze (pd_vn 1) zm)))
  (zv (wy za1 rfl (xK (ZI hr T.sorted U.set (ze (tM (N':=["way","fresh"]) (pick:=[none,some 2]) (vf (N:=["floor","last","fresh","following","place"]) (esc:=zF kU)) rfl (xK (zu (pd_vn 0) zg)) (λ _ _ _ _ _=>(yk 0 (by decide +kernel:List.Nodup (α:=Str) ["way","fresh"]))) (λ _ _ _ _ _=>q_ (Rg hr (zu (pd_vn 0) zg) (pd_vn 1))) (λ _ _ _ _ _=>(zu (pd_vn 0) zg))) zm))) (yk 4 gf.nd) (zA (fG (pd_vn 3) (pd_vn 4) (pd_callH cH hr (ze (pd_vn 0) (ze (pd_vn 4) (ze (pd_vn 1) zm)))))))
  (zA (zO (pd_vn 3))))),
  (by unfold bD lM lF;exact okA)⟩
theorem Q9 (F:Fy K mg "rounds" kT) (cG:Ve P w K mg base) (p_:bj P w K mg base):i8 P w K mg base:=
 yp (k:=7) F o6 rfl (λ _ _ _ _ _ _=>rj λ _=>rfl) λ f Af A outer s H E hr=>⟨_,
  (zv (zH 1 o6.nd (xM (ze (ph (xM (ze (xm (ze (xm (ze zg (ze zg zm))) zm)) zm)) (pd_callH p_ hr (ze (pd_vn 0) zm))) zm)))
  (zv (zH 2 o6.nd (Ru T.list T.range (ze (pd_callH p_ hr (ze (pd_vn 0) zm)) zm)))
  (zv (fF za1 (vV (pd_vn 2)) (zv (zH 3 o6.nd (zu (pd_vn 1) (mI zg)))
  (zv (zH 4 o6.nd (pd_callH cG hr (ze (pd_vn 0) (ze (pd_vn 3) (ze (pd_vn 2) zm)))))
  (zv (oH (i:=2) (N':=["place","border","last"]) (pick:=[none,none,some 3]) (vf (N:=["floor","told","fresh","last","following"]) (esc:=zF kT)) rfl (fK U.enumerate (ze (pd_vn 4) zm)) (λ _ _ _ _ _=>(qZ (n:=2) (wN (yk 0 (by decide +kernel:List.Nodup (α:=Str) ["place","border","last"])) (wN (yk 1 (by decide +kernel:List.Nodup (α:=Str) ["place","border","last"])) qY)))) (λ _ _ _ _ _=>q_ (jg hr (pd_vn 1) (zu (pd_vn 2) (pd_vn 0)))) (λ _ _ _ _ _=>(pd_vn 0)) o6.nd rfl (by first | exact Or.inl rfl | exact Or.inr rfl))
  (zA (yA (vV (pd_vn 2)) (zA (wM (r_ (pd_vn 1) (pd_vn 4)))) y9))))))
  (zA (zO (pd_vn 1)))))),
  (by unfold bA tw nu;exact okA)⟩
theorem Pc (F:Fy K mg "lasts" gN) (uN:kx P w K mg base) (nN:bx P w K mg base) (nM:bw P w K mg base) (rB:i8 P w K mg base):Vr P w K mg base:=
 yp (k:=8) F UN rfl (λ _ _ _ _ _ _=>vz λ _ _ _=>rfl) λ f Af A outer s H E hr=>⟨_,
  (zv (wM (pd_callH uN hr (ze (pd_vn 0) (ze (pd_vn 1) zm))))
  (zv (wM (pd_callH nN hr (ze (pd_vn 0) (ze (pd_vn 2) zm))))
  (zA (zO (pd_callH nM hr (ze (pd_callH rB hr (ze (pd_vn 0) zm)) (ze (pd_vn 1) (ze (pd_vn 2) zm)))))))),
  (by unfold bU;exact okA)⟩
theorem Q3 {ox:Value}(F:Fy K mg "taker_way" gr) (qo:mg "KEEPER"=some ox) (o8:L2.RelV (.str "keeper") ox) (uN:kx P w K mg base) (nN:bx P w K mg base) (cB:W_ P w K mg base) (rB:i8 P w K mg base):Va P w K mg base:=
 yp (k:=8) F UJ rfl (λ _ _ _ _ _ _=>vz λ _ _ _=>rfl) λ f Af A outer s H E hr=>⟨_,
  (zv (wM (pd_callH uN hr (ze (pd_vn 0) (ze (pd_vn 1) zm))))
  (zv (wM (pd_callH nN hr (ze (pd_vn 0) (ze (pd_vn 2) zm))))
  (zv (yA (xW hr (zu (zu (pd_vn 0) zg) (pd_vn 1)) (ZQ qo o8)) (zA (zO uV)) y9)
  (zA (zO (pd_callH cB hr (ze (pd_vn 0) (ze (pd_vn 1) (ze (pd_vn 2) (ze (pd_callH rB hr (ze (pd_vn 0) zm)) zm)))))))))),
  (by unfold iC;exact okA)⟩
theorem QQ (F:Fy K mg "_law_lost" gD) (uk:ku P w K mg base) (nJ:bq P w K mg base) (nH:bo P w K mg base) (rC:i9 P w K mg base) (cC:Va P w K mg base) (xw:rJ P w K mg base):Vl P w K mg base:=
 yp (k:=9) F uT rfl (λ _ _ _ _ _ _=>Wx λ _ _ _ _ _=>rfl) λ f Af A outer s H E hr=>⟨_,
  (zv (zH 5 uT.nd (pd_callH uk hr (ze (pd_vn 2) (ze (pd_vn 3) (ze (pd_vn 4) zm)))))
  (zv (wy za1 rfl (sO T.range (ze (tL T.min (ze (pd_vn 5) (ze (va zg (ph zg (ZN T.int (ze (ZO (vA T.len (ze (pd_vn 2) zm)) zg) zm)))) zm))) zm)) (yk 6 uT.nd) (zv (zH 7 uT.nd (pd_callH nJ hr (ze (pd_vn 1) (ze (pd_vn 3) (ze (pd_vn 4) zm)))))
  (zv (zH 8 uT.nd (zu (pd_vn 7) (yB (pd_callH xw hr (ze (pd_vn 0) (ze (xD zg (pd_vn 6)) zm))) (vA T.len (ze (pd_vn 7) zm)))))
  (zv (yA (xW hr (zu (zu (pd_vn 1) zg) (pd_vn 3)) oJ) (zv (zH 9 uT.nd (pd_callH cC hr (ze (pd_vn 1) (ze (pd_vn 3) (ze (pd_vn 4) zm)))))
  (zv (yA (xT.pt (sM (tK (vV (ZL T (pd_vn 9)))) (sM (vV (ZM T (pd_vn 9))) (rY (tK (Rh jo (fP hr) fit_le vv.fits xA.mo vv.mo zg (pd_vn 9) (vA T.len (ze (zu (pd_vn 1) zg) zm)))))))) (zA (zO tN)) y9)
  (zA (zH 8 uT.nd (xm (ze (pd_vn 4) (ze (zu (zu (pd_vn 1) zg) (pd_vn 9)) zm))))))) y9)
  (zv (zH 10 uT.nd (pd_callH nH hr (ze (pd_vn 1) (ze (pd_vn 2) (ze (pd_vn 8) zm)))))
  (zv (yA (xT.pt (sM (ji (pd_vn 10) (pd_vn 5)) (rY (jg hr (zu (zu (pd_vn 8) zg) zg) (pd_vn 3))))) (zA (zO tN)) y9)
  (zv (yA (xW hr (pd_vn 10) zg) (zA (zO tN)) y9)
  (zv (zH 4 uT.nd (pd_callH rC hr (ze (pd_vn 1) (ze (zu (pd_vn 8) zg) (ze (zu (pd_vn 8) zg) zm)))))
  (zv (zH 3 uT.nd (zu (zu (pd_vn 8) zg) zg))
  (zA (zH 5 uT.nd (pd_vn 10))))))))))))
  (zA (zO (ZO (pd_vn 5) zg))))),
  (by unfold bJ t5;exact okA)⟩
theorem Pb {f:Addr}{fd:FuncData}(F:t9 K "law" "law" kZ f fd) (cQ:Vn P w K mg base) (rB:i8 P w K mg base) (cM:Vj P w K mg base) (xw:rJ P w K mg base) (cU:Vr P w K mg base) (uk:ku P w K mg base) (cO:Vl P w K mg base) (cP:Vm P w K mg base) (nI:bp P w K mg base):uO P w K mg base vQ 11 f fd ["_law_script"] (sD K (zY zL oo)):=
 Xk (k:=10) F qW rfl λ Af A outer s H E hr=>⟨_,
  (zv (zH 1 qW.nd (pd_callH cQ hr (ze (pd_vn 0) zm)))
  (zv (zH 2 qW.nd (pd_callH rB hr (ze (pd_vn 1) zm)))
  (zv (zH 3 qW.nd (yB (pd_callH xw hr (ze (pd_vn 0) (ze zg zm))) (vA T.len (ze (zu (pd_vn 1) zg) zm))))
  (zv (zH 4 qW.nd (pd_callH cM hr (ze (pd_vn 1) zm)))
  (zv (zH 5 qW.nd (yB (pd_callH xw hr (ze (pd_vn 0) (ze zg zm))) (vA T.len (ze (pd_vn 4) zm))))
  (zv (oH (i:=6) (N':=["_law_pair","_law_told","_law_place"]) (pick:=[none,some 2,some 3]) (vf (N:=["_law_script","_law_floor_here","_law_told","_law_place","_law_pairs_here","_law_at","_law_some"]) (esc:=zF kZ)) rfl (xK (xD (fL (pd_vn 4) (fH (pd_vn 5)) fJ) (fL (pd_vn 4) fJ (fH (pd_vn 5))))) (λ _ _ _ _ _=>(yk 0 (by decide +kernel:List.Nodup (α:=Str) ["_law_pair","_law_told","_law_place"]))) (λ _ _ _ _ _=>q_ (tK (vV (pd_callH nI hr (ze (zu (zu (pd_vn 1) (mI zg)) (pd_vn 2)) (ze (pd_vn 0) zm)))))) (λ _ _ _ _ _=>(pd_vn 0)) qW.nd rfl (by first | exact Or.inl rfl | exact Or.inr rfl))
  (zv (yA (xW hr (pd_vn 6) (xM zm)) (zA (zO tN)) y9)
  (zv (yA (jg hr (pd_callH cU hr (ze (pd_vn 1) (ze (pd_vn 3) (ze (zu (pd_vn 6) zg) zm)))) (pd_callH uk hr (ze (pd_vn 2) (ze (pd_vn 3) (ze (zu (pd_vn 6) zg) zm))))) (zA (zO tN)) y9)
  (zA (zO (mK (pd_callH cO hr (ze (pd_vn 0) (ze (pd_vn 1) (ze (pd_vn 2) (ze (pd_vn 3) (ze (zu (pd_vn 6) zg) zm)))))) (mH (pd_callH cP hr (ze (pd_vn 0) (ze (pd_vn 1) (ze (pd_vn 2) (ze (pd_vn 3) (ze (zu (pd_vn 6) zg) zm)))))))))))))))))),
  (by unfold iH nv;exact okA)⟩
end
def L6 {l:PySem.W.OpenLaw}{w:World}{K:Ac}{h:Heap}{mg:Str->Option Value}{fa:Addr}(X:K.In h) (G:h.Ns mainGlobals mg) (Ey:mg "law"=some (.ref fa))
  (h0:Fx K "is_whole" gP) (h1:Fx K "is_whole_within" gO) (h2:Fx K "is_row_within" k_) (h3:Fx K "places_of" gw) (h4:Fx K "check_place" gS) (h5:Fx K "check_pair" gT) (h6:Fx K "ways_from" kR) (h7:Fx K "stall_at" gu) (h8:Fx K "at_or_above" gY) (h9:Fx K "least_pairs" gz) (h10:Fx K "holds" ja) (h11:Fx K "both" mx) (h12:Fx K "either" gR) (h13:Fx K "border_ahead_of_way" my) (h14:Fx K "pairs_ahead_of_changes" gy) (h15:Fx K "border_ahead_of_changes" gX) (h16:Fx K "border_of_either" gU) (h17:Fx K "border_of_all" gW) (h18:Fx K "next_border" mv) (h19:Fx K "next_round" kU) (h20:Fx K "rounds" kT) (h21:Fx K "first_without" gQ) (h22:Fx K "lasts" gN) (h23:Fx K "step_by" gs) (h24:Fx K "leads_into" g9) (h25:Fx K "way_out_of" kS) (h26:Fx K "taker_way" gr) (h27:Fx K "_law_cell" gK) (h28:Fx K "_law_coins" gI) (h29:Fx K "_law_brims" gL) (h30:Fx K "_law_owners" gC) (h31:Fx K "_law_ways" gA) (h32:Fx K "_law_stalls" gB) (h33:Fx K "_law_floor" gG) (h34:Fx K "_law_behind" gM) (h35:Fx K "_law_changes" gJ) (h36:Fx K "_law_held" gF) (h37:Fx K "_law_pairs" kW) (h38:Fx K "_law_first" gH) (h39:Fx K "_law_deeds" kY) (h40:Fx K "_law_left" gE) (h41:Fx K "_law_lost" gD) (h42:Fx K "_law_lasted" kX) (h43:Fx K "law" kZ)
  (qo:Cn K "KEEPER" (.str "keeper"))
  (y0:PySem.W.nsIn K mainGlobals "set"=some none) (y1:PySem.W.nsIn K mainGlobals "zip"=some none) (y2:PySem.W.nsIn K mainGlobals "enumerate"=some none)
  (z0:PySem.W.nsIn K mainGlobals "len"=some none) (z1:PySem.W.nsIn K mainGlobals "range"=some none) (z2:PySem.W.nsIn K mainGlobals "any"=some none) (z3:PySem.W.nsIn K mainGlobals "all"=some none) (z4:PySem.W.nsIn K mainGlobals "sorted"=some none) (z5:PySem.W.nsIn K mainGlobals "isinstance"=some none) (z6:PySem.W.nsIn K mainGlobals "bool"=some none) (z7:PySem.W.nsIn K mainGlobals "int"=some none) (z8:PySem.W.nsIn K mainGlobals "str"=some none) (z9:PySem.W.nsIn K mainGlobals "list"=some none) (z10:PySem.W.nsIn K mainGlobals "tuple"=some none) (z11:PySem.W.nsIn K mainGlobals "max"=some none) (z12:PySem.W.nsIn K mainGlobals "min"=some none):
  ∃ fd:FuncData,(∀ (s:Shared) (v:Value),BindsTo s fd ⟨[v],[]⟩ [("_law_script",v)])/\∀ base:Heap,K.In base->base.Ns mainGlobals mg->uO l.prog w K mg base vQ 11 fa fd ["_law_script"] (sD K (zY zL oo)):=by
 have T:Bt mg:=⟨Bc X G z0,Bc X G z1,Bc X G z2,Bc X G z3,Bc X G z4,Bc X G z5,Bc X G z6,Bc X G z7,Bc X G z8,Bc X G z9,Bc X G z10,Bc X G z11,Bc X G z12⟩
 have U:Bq mg:=⟨Bc X G y0,Bc X G y1,Bc X G y2⟩
 obtain⟨ox,qo,o8⟩:=qo.mk X G;obtain⟨fd,Fl,hb⟩:=h43.law X G Ey λ _ _ _ _ _ _ _ _=>.of_eq rfl;refine⟨fd,hb,λ base _ _=>?_⟩;have cV:=Pe l.prog w base T U (h0.mk X G);have p_:=QB l.prog w base T U (h3.mk X G);have nP:=PJ l.prog w base T U (h8.mk X G);have uM:=QJ l.prog w base T U (h9.mk X G);have cF:=QC l.prog w base T U (h14.mk X G);have cD:=Q6 l.prog w base T U (h23.mk X G);have xw:=QZ l.prog w base T U (h27.mk X G);have iz:=QX l.prog w base T U (h28.mk X G);have rC:=Pa l.prog w base T U (h34.mk X G);have cR:=QY l.prog w base T U (h35.mk X G);have nI:=QT l.prog w base T U (h36.mk X G);have cM:=QO l.prog w base T U (h37.mk X G);have nK:=Pd l.prog w base T U (h1.mk X G) cV;have nL:=Pk l.prog w base T U (h10.mk X G) nP;have cY:=Py l.prog w base T U (h11.mk X G) uM;have cX:=Pp l.prog w base T U (h12.mk X G) uM;have ba:=PB l.prog w base T U (h13.mk X G) uM nP;have cT:=Q_ l.prog w base T U (h29.mk X G) xw;have cN:=QP l.prog w base T U (h30.mk X G) xw;have cK:=QM l.prog w base T U (h31.mk X G) xw iz;have cL:=QN l.prog w base T U (h32.mk X G) xw;have uk:=QV l.prog w base T U (h38.mk X G) nI;have nJ:=QW l.prog w base T U (h39.mk X G) cR;have cW:=Pf l.prog w base T U (h2.mk X G) nK;have uN:=Pt l.prog w base T U (h4.mk X G) nK p_;have cZ:=Pz l.prog w base T U (h16.mk X G) cX;have c_:=P0 l.prog w base T U (h17.mk X G) cY;have nM:=Pl l.prog w base T U (h21.mk X G) nL;have cJ:=QK l.prog w base T U (h24.mk X G) cD nL;have cQ:=QU l.prog w base T U (h33.mk X G) xw cN cT cK cL;have nH:=QR l.prog w base T U (h40.mk X G) rC uk;have nN:=Pu l.prog w base T U (h5.mk X G) cW;have nG:=Qz l.prog w base T U (h6.mk X G) uN;have cE:=Q7 l.prog w base T U (h7.mk X G) uN;have cP:=QS l.prog w base T U (h42.mk X G) uk nJ rC xw nH;have bc:=PC l.prog w base T U (h15.mk X G) cE uM cF;have cB:=Q0 l.prog w base T U (h25.mk X G) nM nG cJ;have cH:=QG l.prog w base T U (h18.mk X G) qo o8 c_ ba bc nG cZ;have cG:=QF l.prog w base T U (h19.mk X G) cH;have rB:=Q9 l.prog w base T U (h20.mk X G) cG p_;have cU:=Pc l.prog w base T U (h22.mk X G) uN nN nM rB;have cC:=Q3 l.prog w base T U (h26.mk X G) qo o8 uN nN cB rB;have cO:=QQ l.prog w base T U (h41.mk X G) uk nJ nH rC cC xw;exact Pb l.prog w base T U Fl cQ rB cM xw cU uk cO cP nI
def V9 {l:PySem.W.OpenLaw}{q:Program}{loose:List Str}{XP:(Str->Option Value)->Heap->Prop}{YP:World->Heap->Prop}{d:DefRec}{K:Params->Ac}(hn:l.most=some 63) (Dj:d.params.defaults=[])
  (hY:∀ (w:World) (h:Heap),YP w h->(K w.params).In h)
  (F:∀ (w:World) (mg:Str->Option Value) (fa:Addr) (h:Heap),(K w.params).In h->h.Ns mainGlobals mg->mg d.name=some (.ref fa)->
   ∃ fd:FuncData,(∀ (s:Shared) (u:Value),BindsTo s fd ⟨[u],[]⟩ [("_law_script",u)])/\∀ base:Heap,(K w.params).In base->base.Ns mainGlobals mg->uO l.prog w (K w.params) mg base vQ 11 fa fd ["_law_script"] (sD (K w.params) (zY zL oo))):
  PySem.W.WalkO q loose XP YP l.row.toRowW d [] (λ f vs=>PySem.call f vs):=
 L2.V8 (n:=63) (k:=11) (x:="_law_script") (CX:=λ _=>vQ) (sp:=λ w=>sD (K w.params) (zY zL oo)) hn (by decide) Dj ⟨rfl,by decide,by decide⟩ hY F (λ _ _ a ns hl hO hS=>OE OC hO hS hl) λ _ _ _ _ _ z=>z
end z_
open PySem PySem.W PyProof.Rows
set_option maxHeartbeats 0 in
theorem PySem.Challenge.cw_purseborder_k45_whole_within_told_steps_holds : PySem.Challenge.rw_purseborder_k45_whole_within_told_steps.Holds := by
 w_on;o_law;k_head;(case hw=>w_witness2)
 k_fill
 refine z_.V9 (l:=PySem.Challenge.rw_purseborder_k45_whole_within_told_steps) rfl rfl (λ w h Y=>PySem.W.kIn_of Y) ?F
 case F=>
  intro w mg fa h KX G C9;refine' z_.L6 KX G C9 ?_ ?_ ?_ ?_ ?_ ?_ ?_ ?_ ?_ ?_ ?_ ?_ ?_ ?_ ?_ ?_ ?_ ?_ ?_ ?_ ?_ ?_ ?_ ?_ ?_ ?_ ?_ ?_ ?_ ?_ ?_ ?_ ?_ ?_ ?_ ?_ ?_ ?_ ?_ ?_ ?_ ?_ ?_ ?_ ?_ ?_ ?_ ?_ ?_ ?_ ?_ ?_ ?_ ?_ ?_ ?_ ?_ ?_ ?_ ?_ ?_
  all_goals first | exact L5.Fx.i (by k_is) (by k_is) (by k_is) (by k_is) | k_is | exact L5.Cn.i (by k_is) (by exact⟨_,rfl⟩)
