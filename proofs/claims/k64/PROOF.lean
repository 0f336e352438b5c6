import PyProof.Rows.All
import Wide.All
import OpenK.AllK
import Wide.FinOn
import Lean
import PyProof.EqAt
import PyProof.EqKinds
import PyProof.TupleCall
import PySem.SetOps
import PyProof.SetScanFacts
import PyProof.TupleKey
import PyProof.SetKind
import PyProof.SetRoads
import PyProof.IsRules
import PyProof.ZipIter
import PyProof.TupleIter
import PyProof.ListMulRoad
import PyProof.FactsAll.tuple
import PyProof.ListRange
import PyProof.Draws
import PyProof.EnumFor
import PyProof.Rows.ListMul
import PyProof.AutoListH
import PyProof.ExcInit
import PyProof.ExcClass2
import PyProof.InstStore
import PyProof.InstStoreFacts
import PyProof.ExcArgsOwn
import PyProof.IsInstance
import PyProof.IsInstanceH
import PyProof.StationsW
import PyProof.Rows.CatchOwn
import PyProof.FactsAll.dict_1
import PyProof.Rows.Range3
import PyProof.FitsBits
import PySem.Challenge.RW_purseborder_k64_whole_what_helps
set_option Elab.async false
set_option linter.all false
set_option compiler.extract_closed false
set_option maxRecDepth 100000
set_option genSizeOf false
abbrev Ad:=PySem.Value->PySem.Shared->Prop
abbrev Ag:=List (PySem.Addr×PySem.Obj)
abbrev Ae:=List PySem.Value
abbrev AI:=PySem.Str->Option PySem.Value
abbrev Ar:=Array PySem.Value
theorem AD {p:Prop}[Decidable p](h:decide p=true:=by decide +kernel):p:=of_decide_eq_true h
noncomputable section
def JY:=@PySem.wpAny_bind
def KY:=@PySem.Heap.get?_push_of_some
def KZ:=@decide_eq_false
def K0:=@PySem.wpAny_holding
def K1:=@PySem.wpAny_field
def K3:=@PySem.wpAny_mono
def K2:=@PySem.wpAny_call_entry
def K4:=@decide_eq_true
def K6:=@PySem.wpAny_newObj_type
def K5:=@PySem.wpAny_setState_of
def K7:=@PySem.wpAny_seqItems
def K9:=@PySem.wpAny_truthy_bool
def K8:=@PySem.wpAny_callSpecial?_slot
def Lm:=@PySem.wpAny_passesOwn
def Ll:=@PySem.wpAny_typeOf
def K_:=@PySem.Heap.get?_update_self
def Lp:=@PySem.wpAny_pyIter_list
def Ln:=@PySem.wpAny_setField_rec
def Lr:=@PySem.wpAny_askSetting
def Lq:=@PySem.wpAny_setField
def Ls:=@PySem.Heap.get?_update_other
def Aj:=@Option.bind_eq_some_iff
def Am:=@List.mem_cons_self
def Av:=@List.mem_cons_of_mem
def AE:=@Option.map_eq_some_iff
def A7:=@List.nodup_cons
def A6:=@List.not_mem_nil
def A_:=@List.map_nil
def Bg:=@List.pairwise_cons
def Bn:=@Nat.lt_or_ge
def Bx:=@List.pairwise_map
def BJ:=@List.lookup_cons
def BI:=@Nat.lt_succ_of_lt
def BH:=@List.any_cons
def BP:=@Bool.false_ne_true
def BO:=@List.ext_getElem
def B2:=@Nat.ne_of_gt
def BZ:=@List.replicate_succ
def BX:=@List.mem_flatMap
def B_:=@List.mem_iff_getElem
def Ct:=@List.getElem?_append_right
def Cs:=@List.getElem?_append_left
def Cr:=@List.flatten_cons
def Cq:=@List.find?_cons
def Cp:=@Nat.le_add_right
def Co:=@List.length_filter_le
def CF:=@List.filterMap_cons
def CD:=@List.mem_append_left
def CC:=@List.pairwise_iff_getElem
def CB:=@List.map_congr_left
def CA:=@Array.getElem_toList
def Cz:=@Int.toNat_natCast
def CS:=@List.of_mem_zip
def CQ:=@Bool.and_false
def CP:=@Array.getElem?_eq_none
def CO:=@List.map_drop
def C_:=@List.append_nil
def C9:=@List.length_take
def C8:=@List.length_nil
def C7:=@Nat.lt_trans
def C6:=@List.getElem?_set
def C5:=@Array.size_map
def C4:=@Nat.le_succ
def C3:=@List.range_succ_eq_map
def C2:=@Nat.mod_lt
def C1:=@List.length_pos_of_mem
def C0:=@List.toList_toArray
def CZ:=@List.nodup_append
def DM:=@Option.isSome_iff_exists
def DL:=@List.getElem?_replicate
def DJ:=@List.length_set
def DI:=@List.forIn_cons
def DH:=@List.getElem_range
def DG:=@List.getElem?_eq_none
def DF:=@Array.getD_eq_getD_getElem?
def DE:=@Bool.and_self
def DD:=@Nat.mul_comm
def DC:=@List.mem_erase_of_ne
def DB:=@List.length_erase_of_mem
def DA:=@List.pairwise_append
def Dz:=@Nat.lt_trichotomy
def Dy:=@List.take_append_drop
def Dx:=@Array.getElem?_setIfInBounds
def Dw:=@List.foldl_cons
def Dv:=@List.mem_iff_getElem?
def Du:=@List.map_take
def Dt:=@List.zipIdx_cons
def Ds:=@List.isEmpty_nil
def Eb:=@List.mem_filterMap
def Ea:=@List.zip_cons_cons
def D_:=@List.length_drop
def D9:=@List.drop_eq_getElem_cons
def D8:=@Nat.eq_zero_or_pos
def D7:=@List.nodup_range
def D6:=@List.getElem?_cons_succ
def D5:=@List.getElem?_range
def D4:=@List.perm_ext_iff_of_nodup
def D3:=@Bool.or_eq_true
def D2:=@Int.mul_le_mul_of_nonneg_right
def D1:=@Int.lt_of_le_of_lt
def D0:=@List.getElem?_cons_zero
def DZ:=@List.getElem_of_mem
def Az:=@List.size_toArray
def AG:=@List.getElem?_eq_getElem
def AL:=@List.getElem?_eq_some_iff
def Ay:=@List.getElem?_map
def Af:=@Nat.le_refl
def Ai:=@List.mem_cons
def Au:=@List.map_cons
def AA:=@List.length_map
def Ap:=@PySem.Heap.lt_size
def AJ:=@PySem.Heap.get?_push_size
def Ah:=@List.mem_map
def AK:=@List.getD_eq_getElem?_getD
def CU:=@Bool.not_false
def Aw:=@Nat.ne_of_lt
def A3:=@List.mem_append_right
def CT:=@Bool.not_true
def AZ:=@List.mem_singleton
def Bi:=@List.mem_of_getElem?
def Bh:=@Array.getElem?_eq_getElem
def A2:=@List.mem_append
def A4:=@List.length_cons
def AB:=@List.mem_range
def Ba:=@PySem.W.mg_none_of
def Bf:=@Nat.lt_of_lt_of_le
def Be:=@Bool.false_eq_true
def B5:=@List.length_range
def Ax:=@Int.le_refl
def BN:=@Bool.eq_iff_iff
def AN:=@List.mem_filter
def Bu:=@Option.bind_some
def A9:=@List.any_eq_true
def Ac:=@PySem.wpAny_pure
def Bs:=@Array.length_toList
def BM:=@Array.getElem?_toList
def AV:=@Nat.zero_le
def A8:=@Option.some.inj
def AF:=@List.map_map
def Cv:=@List.length_append
def B4:=@List.getElem_mem
def Dc:=@List.length_pos_iff
def Br:=@Nat.le_trans
def Ca:=@Nat.lt_irrefl
def Cu:=@Nat.lt_succ_self
def BQ:=@Nat.le_of_lt
def B3:=@List.all_eq_true
def Bc:=@Bool.and_eq_true
def Bp:=@List.map_append
def Bo:=@Int.emod_nonneg
def BK:=@Int.emod_lt_of_pos
def DN:=@Int.toNat_of_nonneg
abbrev Ab:=PySem.W.Frag
namespace L2
open PySem PySem.Spec PyProof.Rows
abbrev Key:=Sum Int Str
noncomputable def qH:Key->Value->Bool
 | .inl k,v=>Value.isInt k v
 | .inr x,v=>Value.isStrOf x v
noncomputable def PL (w:World):Key->Int
 | .inl k=>hashInt k
 | .inr x=>hashStr w x
theorem tR:∀ {k:Key}{v:Value},qH k v=true->(∃ i t,k=Sum.inl i/\v=Value.int i t)\/(∃ x t,k=Sum.inr x/\v=Value.str x t)
 | .inl i,v,h=>by
  obtain⟨t,e⟩:=Value.isInt_shape (k:=i) (v:=v) h;exact .inl ⟨i,t,rfl,e⟩
 | .inr x,v,h=>by
  obtain⟨t,e⟩:=Value.isStrOf_shape (x:=x) (v:=v) h;exact .inr ⟨x,t,rfl,e⟩
theorem PK (i:Int) (t:Tok):qH (.inl i) (.int i t)=true:=by simp[qH,Value.isInt]
theorem PJ (x:Str) (t:Tok):qH (.inr x) (.str x t)=true:=by simp[qH,Value.isStrOf]
theorem PH (a b:Int):decide ((Sum.inl a:Key)=Sum.inl b)=(a == b):=by
 by_cases e:a=b
 .subst e;simp
 .have h:¬ (Sum.inl a:Key)=Sum.inl b:=λ q=>e (Sum.inl.inj q);rw[KZ h];exact (beq_eq_false_iff_ne.mpr e).symm
theorem Pz (a b:Str):decide ((Sum.inr a:Key)=Sum.inr b)=decide (a=b):=by
 by_cases e:a=b
 .subst e;simp
 .have h:¬ (Sum.inr a:Key)=Sum.inr b:=λ q=>e (Sum.inr.inj q);rw[KZ h,KZ e]
theorem PC (a:Int) (b:Str):decide ((Sum.inl a:Key)=Sum.inr b)=false:=KZ (λ q=>nomatch q)
theorem PB (a:Str) (b:Int):decide ((Sum.inr a:Key)=Sum.inl b)=false:=KZ (λ q=>nomatch q)
def wu (prog:Program) (w:World):PySem.KeyKind prog w Key where
 is:=qH
 hash:=PL w
 inj:=λ v a b ha hb=>by
  rcases tR ha with ⟨i,t,rfl,rfl⟩ | ⟨x,t,rfl,rfl⟩
  .rcases tR hb with ⟨j,u,rfl,e⟩ | ⟨y,u,rfl,e⟩
   .injection e with e1 _;rw[e1]
   .exact nomatch e
  .rcases tR hb with ⟨j,u,rfl,e⟩ | ⟨y,u,rfl,e⟩
   .exact nomatch e
   .injection e with e1 _;rw[e1]
 byValue:=λ k v h=>by
  rcases tR h with ⟨i,t,rfl,rfl⟩ | ⟨x,t,rfl,rfl⟩ <;> rfl
 pyHash:=λ hv h=>by
  rcases tR hv with ⟨i,t,rfl,rfl⟩ | ⟨x,t,rfl,rfl⟩
  .exact wpAny_pyHash_int h
  .exact wpAny_pyHash_str h
 eqBool:=λ hu hv h=>by
  rcases tR hu with ⟨i,t,rfl,rfl⟩ | ⟨x,t,rfl,rfl⟩
  .rcases tR hv with ⟨j,u,rfl,rfl⟩ | ⟨y,u,rfl,rfl⟩
   .rw[PH] at h;exact wpAny_eqBool_int h
   .rw[PC] at h;exact SeqAt.EqAt.int_str i t y u _ _ _ _ h
  .rcases tR hv with ⟨j,u,rfl,rfl⟩ | ⟨y,u,rfl,rfl⟩
   .rw[PB] at h;exact SeqAt.EqAt.str_int x t j u _ _ _ _ h
   .rw[Pz] at h;exact wpAny_eqBool_str h
 «strs»:=λ k x t v h=>by
  rcases tR h with ⟨i,u,rfl,e⟩ | ⟨y,u,rfl,e⟩
  .exact nomatch e
  .injection e with e1 _
   subst e1;cases v <;> rfl
theorem QX (prog:Program) (w:World) (i:Int) (t:Tok):(wu prog w).is (.inl i) (.int i t)=true:=PK i t
theorem QW (prog:Program) (w:World) (x:Str) (t:Tok):(wu prog w).is (.inr x) (.str x t)=true:=PJ x t
inductive V where
 | zo | bl (b:Bool) | int (i:Int) | str (x:Str) | kq (b:Array UInt8) | bz (b:UInt64) | ref (a:Addr) | ty (n:String)
 deriving DecidableEq
noncomputable def RelV:V->Value->Prop
 | .zo,u=>u=Value.none
 | .bl b,u=>u=Value.bool b
 | .int i,u=>∃ t,u=Value.int i t
 | .str x,u=>∃ t,u=Value.str x t
 | .kq b,u=>∃ t,u=Value.bytes b t
 | .bz b,u=>∃ t,u=Value.float b t
 | .ref a,u=>u=Value.ref a
 | .ty n,u=>u=Value.type n
abbrev Vals:List V->List Value->Prop:=Paired RelV
theorem Vals.length {xs:List V}{us:Ae}(r:Vals xs us):xs.length=us.length:=Paired.length r
theorem Vals.get:∀ {xs:List V}{us:Ae}{i:Nat}{x:V},Vals xs us->xs[i]?=some x->∃ u,us[i]?=some u/\RelV x u
 | _,_,_,_,.nil,e=>by simp at e
 | _,_,0,_,.cons r _,e=>by simp at e;subst e;exact⟨_,rfl,r⟩
 | _,_,i+1,x,.cons _ t,e=>by
  obtain⟨u,h1,h2⟩:=Vals.get (i:=i) (x:=x) t (by simpa using e);exact⟨u,by simpa using h1,h2⟩
theorem Vals.set {x:V}{u:Value}(r:RelV x u):∀ {xs:List V}{us:Ae}(i:Nat),Vals xs us->Vals (xs.set i x) (us.set i u)
 | _,_,_,.nil=>.nil
 | _,_,0,.cons _ t=>.cons r t
 | _,_,i+1,.cons q t=>.cons q (Vals.set r i t)
theorem Vals.append:∀ {xs ys:List V}{us ws:Ae},Vals xs us->Vals ys ws->Vals (xs++ys) (us++ws)
 | _,_,_,_,.nil,s=>s
 | _,_,_,_,.cons r t,s=>.cons r (Vals.append t s)
theorem Vals.take:∀ {xs:List V}{us:Ae}(n:Nat),Vals xs us->Vals (xs.take n) (us.take n)
 | _,_,0,_=>.nil
 | _,_,_+1,.nil=>.nil
 | _,_,n+1,.cons r t=>.cons r (Vals.take n t)
theorem Vals.drop:∀ {xs:List V}{us:Ae}(n:Nat),Vals xs us->Vals (xs.drop n) (us.drop n)
 | _,_,0,r=>r
 | _,_,_+1,.nil=>.nil
 | _,_,n+1,.cons _ t=>Vals.drop n t
noncomputable def ua:Option V->Option Value->Prop
 | some v,some u=>RelV v u
 | none,none=>True
 | _,_=>False
def KV {κ:Type}:List (κ × V)->List (κ × Value)->Prop:=Paired λ(p:κ × V) (q:κ × Value)=>p.1=q.1/\RelV p.2 q.2
noncomputable def kV:Key->V
 | .inl i=>.int i
 | .inr x=>.str x
inductive HO where
 /-- a list -/
 | lst (xs:List V)
 /-- a tuple (never changes) -/
 | tup (xs:List V)
 /-- a dict IK keys are ints and texts;one IK keys are tuples of ints and texts (ID empty one is both) -/
 | dK (Aa:List (Key×V)) | dT (Aa:List (List Key×V))
 /-- a set of ints: its members,its size -/
 | set (S:Int->Bool) (n:Nat)
 /-- an instance of ID class at C,its dict at dx,its attributes -/
 | ins (C dx:Addr) (fs:List (Str×V))
 /-- ID dict of ID instance at x -/
 | own (x:Addr)
 /-- ID dict of an exception -/
 | xd (fs:List (Str×V))
 /-- a bound method,f of x -/
 | met (f x:Addr)
 /-- a range object lo,lo+1,.. below hi -/
 | jy (lo hi:Int)
 /-- a IQ that is known to ID object (ID J4;a dict while a loop walks it): read,never written while it is so -/
 | xO (o:Obj) (u:HO)
 /-- a code IW table -/
 | rF (ps:Ar)
 /-- any other IQ,by what is true of its one object (a def of one's own: yB a S n:=HO.ext λ h=>..) -/
 | ext (φ:Heap->Prop)
abbrev Hp:=Addr->Option HO
noncomputable def upd (H:Hp) (a:Addr) (o:HO):Hp:=λ b=>if b=a then some o else H b
theorem yz {H:Hp}{a:Addr}{o:HO}:upd H a o a=some o:=by unfold upd;rw[if_pos rfl]
theorem yj {H:Hp}{a b:Addr}{o:HO}(h:b≠a):upd H a o b=H b:=by unfold upd;rw[if_neg h]
theorem tN {H:Hp}{a b:Addr}{o u:HO}(h:H a=some o) (h':H b=some u) (d:o≠u):a≠b:=by
 intro e;subst e;rw[h] at h';exact d (A8 h')
theorem uJ {H:Hp}{a b:Addr}{o:HO}(h:H a=some o) (h':H b=none):a≠b:=by
 intro e;subst e;rw[h] at h';cases h'
section
variable (P:Program)(w:World)
noncomputable def yJ (H:Hp) (h:Heap) (a:Addr):HO->Prop
 | .lst xs=>xs.length<=sizeLine/\∃ (its:Ae) (n:Nat),Vals xs its/\h.get? a=some { cls:=.type "list",data:=.seq its.toArray n }
 | .tup xs=>xs.length<=sizeLine/\∃ its:List Value,Vals xs its/\IsTup h a its.toArray
 | .dK Aa=>Aa.length<=sizeLine/\(a == sysModules)=false/\∃ vs,KV Aa vs/\h.DictOf (wu P w) a vs
 | .dT Aa=>Aa.length<=sizeLine/\(a == sysModules)=false/\∃ xs:List (List Key×Addr×Value),
   Paired (λ(p:List Key×V) (q:List Key×Addr×Value)=>p.1=q.1/\H q.2.1=some (.tup (p.1.map kV))/\RelV p.2 q.2.2) Aa xs/\
   ∃ o es ep,h.get? a=some o/\o.ExactDict/\o.data=.dict es ep/\es.toList=xs.map (entryOfKey (tupleKind (wu P w)))/\(xs.map (·.1)).Nodup
 | .set S n=>h.SetOf (intKind P w) a S n
 | .ins C dx fs=>H dx=some (.own a)/\fs.length<=1000/\dx≠a/\h.get? a=some (PySem.W.instObj C dx)/\
   ∃ mA,h.Ns1 dx mA/\(∀ f,ua (fs.lookup f) (mA f))/\PySem.Within mA (fs.map (·.1))
 | .own _=>∃ o,h.get? a=some o
 | .xd fs=>∃ mA,h.Ns1 a mA/\∀ f,ua (fs.lookup f) (mA f)
 | .jy lo hi=>∃ t u v,h.get? a=some { cls:=.type "range",data:=.fields #[.int lo t,.int hi u,.int 1 v] }
 | .xO o u=>h.get? a=some o/\yJ H h a u
 | .rF ps=>h.get? a=some { cls:=.none,data:=.fields ps }
 | .met f x=>h.get? a=some (PySem.W.methodObj (.ref f) (.ref x))
 | .ext φ=>φ h/\(∃ o,h.get? a=some o)/\∀ h1 h2:Heap,φ h1->(∀ o,h1.get? a=some o->h2.get? a=some o)->φ h2
def yG (H:Hp) (h:Heap):Prop:=∀ a o,H a=some o->yJ P w H h a o
end
section
variable {P:Program}{w:World}{H H':Hp}{h h':Heap}{a:Addr}{o:HO}
theorem yJ.lt (x:yJ P w H h a o):a<h.objs.size:=by
 cases o with
 | lst xs=>obtain⟨_,_,_,_,e⟩:=x;exact Ap e
 | tup xs=>obtain⟨_,_,_,p⟩:=x;exact p.lt
 | dK Aa=>obtain⟨_,_,_,_,o,_,_,e,_⟩:=x;exact Ap e
 | dT Aa=>obtain⟨_,_,_,_,o,_,_,e,_⟩:=x;exact Ap e
 | set S n=>obtain⟨o,_,_,_,e,_⟩:=x;exact Ap e
 | ins C dx fs=>obtain⟨_,_,_,e,_⟩:=x;exact Ap e
 | own y=>obtain⟨_,e⟩:=x;exact Ap e
 | xd fs=>obtain⟨_,⟨_,_,_,e,_⟩,_⟩:=x;exact Ap e
 | jy lo hi=>obtain⟨_,_,_,e⟩:=x;exact Ap e
 | xO ob u=>obtain⟨e,_⟩:=x;exact Ap e
 | rF ps=>exact Ap (show h.get? a=some _ from x)
 | met f y=>exact Ap (show h.get? a=some _ from x)
 | ext φ=>obtain⟨_,⟨_,e⟩,_⟩:=x;exact Ap e
theorem Paired.mX {α β:Type}{F G:α->β->Prop}:∀ {l₁:List α}{l₂:List β},Paired F l₁ l₂->(∀ a b,F a b->G a b)->Paired G l₁ l₂
 | _,_,.nil,_=>.nil
 | _,_,.cons r t,f=>.cons (f _ _ r) (Paired.mX t f)
theorem yJ.tD (x:yJ P w H h a o) (k:∀ b u,(b=a\/H b=some (.own a))->h.get? b=some u->h'.get? b=some u)
  (ho:∀ b,H b=some (.own a)->H' b=some (.own a)) (ht:∀ b xs,H b=some (.tup xs)->H' b=some (.tup xs)):yJ P w H' h' a o:=by
 induction o with
 | lst xs=>obtain⟨z,its,n,r,e⟩:=x;exact⟨z,its,n,r,k _ _ (.inl rfl) e⟩
 | tup xs=>obtain⟨z,its,r,ob,e,c⟩:=x;exact⟨z,its,r,ob,k _ _ (.inl rfl) e,c⟩
 | dK Aa=>obtain⟨z,y,vs,r,ob,es,ep,e,c⟩:=x;exact⟨z,y,vs,r,ob,es,ep,k _ _ (.inl rfl) e,c⟩
 | dT Aa=>
  obtain⟨z,y,xs,r,ob,es,ep,e,c⟩:=x;exact⟨z,y,xs,Paired.mX r λ p q z=>⟨z.1,ht _ _ z.2.1,z.2.2⟩,ob,es,ep,k _ _ (.inl rfl) e,c⟩
 | set S n=>obtain⟨ob,es,ep,t,e,c⟩:=x;exact⟨ob,es,ep,t,k _ _ (.inl rfl) e,c⟩
 | ins C dx fs=>
  obtain⟨d,z,ne,e,mA,⟨od,es,ep,e2,c⟩,r⟩:=x;exact⟨ho _ d,z,ne,k _ _ (.inl rfl) e,mA,⟨od,es,ep,k _ _ (.inr d) e2,c⟩,r⟩
 | own y=>obtain⟨ob,e⟩:=x;exact⟨ob,k _ _ (.inl rfl) e⟩
 | xd fs=>obtain⟨mA,⟨od,es,ep,e,c⟩,r⟩:=x;exact⟨mA,⟨od,es,ep,k _ _ (.inl rfl) e,c⟩,r⟩
 | jy lo hi=>obtain⟨t,u,v,e⟩:=x;exact⟨t,u,v,k _ _ (.inl rfl) e⟩
 | xO ob u ih=>obtain⟨e,q⟩:=x;exact⟨k _ _ (.inl rfl) e,ih q⟩
 | rF ps=>
  have e:h.get? a=some { cls:=.none,data:=.fields ps }:=x;show h'.get? a=some { cls:=.none,data:=.fields ps };exact k a _ (.inl rfl) e
 | met f y=>
  have e:h.get? a=some (PySem.W.methodObj (.ref f) (.ref y)):=x;show h'.get? a=some (PySem.W.methodObj (.ref f) (.ref y));exact k a _ (.inl rfl) e
 | ext φ=>obtain⟨p,⟨o,e⟩,st⟩:=x;exact⟨st _ _ p λ o q=>k _ _ (.inl rfl) q,⟨o,k _ _ (.inl rfl) e⟩,st⟩
theorem yG.lt (x:yG P w H h) (e:H a=some o):a<h.objs.size:=(x a o e).lt
theorem yG.fresh (x:yG P w H h) (e:h.objs.size<=a):H a=none:=by
 cases q:H a with
 | none=>rfl
 | some u=>exact absurd (Bf (x.lt q) e) (Ca _)
theorem yG.kept (x:yG P w H h) (k:∀ b u,h.get? b=some u->h'.get? b=some u):yG P w H h':=λ a o e=>
 (x a o e).tD (λ b u _ q=>k b u q) (λ _ q=>q) λ _ _ q=>q
theorem yG.laid (x:yG P w H h) (k:∀ b u,h.get? b=some u->h'.get? b=some u) (hp:h.objs.size<=a) (new:yJ P w (upd H a o) h' a o):yG P w (upd H a o) h':=λ b u e=>by
 have hn:=x.fresh hp;by_cases hb:b=a
 .subst hb;rw[yz] at e;cases e;exact new
 .rw[yj hb] at e;exact (x b u e).tD (λ c v _ q=>k c v q) (λ c q=>by rw[yj (uJ q hn)];exact q) λ c xs q=>by rw[yj (uJ q hn)];exact q
end
def Rd (H:Hp) (a:Addr) (u:HO):Prop:=H a=some u\/∃ o,H a=some (.xO o u)
theorem Rd.ok {P:Program}{w:World}{H:Hp}{h:Heap}{a:Addr}{u:HO}(r:Rd H a u) (x:yG P w H h):yJ P w H h a u:=by
 rcases r with r | ⟨o,r⟩
 .exact x a u r
 .obtain⟨_,q⟩:=x a _ r;exact q
noncomputable def nJ:Option HO->Prop
 | some (.lst _)=>True
 | some (.dK _)=>True
 | some (.dT _)=>True
 | some (.set _ _)=>True
 | some (.ins _ _ _)=>True
 | some (.ext _)=>True
 | _=>False
section
variable {P:Program}{w:World}{H:Hp}{h h':Heap}{x e:Addr}{o':HO}
theorem yG.write (ok:yG P w H h) (mu:nJ (H x)) (he:e=x\/H e=some (.own x)) (k:∀ b u,b≠e->h.get? b=some u->h'.get? b=some u) (CY:∃ u,h'.get? e=some u)
  (new:yJ P w (upd H x o') h' x o'):yG P w (upd H x o') h':=λ b u q=>by
 have IZ:∀ c y,H c=some (.own y)->c≠x:=λ c y r z=>by subst z;rw[r] at mu;exact mu
 have J_:∀ c xs,H c=some (.tup xs)->c≠x:=λ c xs r z=>by subst z;rw[r] at mu;exact mu
 by_cases hb:b=x
 .subst hb;rw[yz] at q;cases q;exact new
 .rw[yj hb] at q;by_cases BW:b=e
  .have q':H b=some (.own x):=by
    rcases he with z | z
    .exact absurd (BW.trans z) hb
    .rw[BW];exact z
   rw[q] at q';cases q';obtain⟨v,hv⟩:=CY;exact⟨v,by rw[BW];exact hv⟩
  .refine (ok b u q).tD (λ c v hc r=>k c v ?_ r) (λ c r=>by rw[yj (IZ c b r)];exact r) λ c xs r=>by rw[yj (J_ c xs r)];exact r
   rcases hc with rfl | hc
   .exact BW
   .rintro rfl;rcases he with z | z
    .exact IZ c b hc z
    .rw[hc] at z;cases z;exact hb rfl
end
structure Un (fs ex:List Addr) (H H':Hp) (h h':Heap):Prop where
 keep:∀ b o,h.get? b=some o->H b=none->b∉fs->b∉ex->h'.get? b=some o
 slot:∀ b o,h.get? b=some o->H b=none->b∈fs->b∉ex->∃ sl,h'.get? b=some { o with slots:=sl }
 free:∀ b o,h.get? b=some o->H b=none->b∉ex->H' b=none
 there:∀ b o,h.get? b=some o->b∉ex->∃ o',h'.get? b=some o'
 uG:∀ b xs,H b=some (.tup xs)->H' b=some (.tup xs)
 tT:∀ b o u,H b=some (.xO o u)->H' b=some (.xO o u)
 sI:∀ b ps,H b=some (.rF ps)->∃ more,H' b=some (.rF (ps++more))
section
variable {fs ex:List Addr}{H H1:Hp}{h h1 h':Heap}{a x e:Addr}{o:HO}
theorem Un.any (u:Un fs ex H H1 h h1) {b:Addr}{ob:Obj}(q:h.get? b=some ob) (n:H b=none) (hx:b∉ex):∃ sl,h1.get? b=some { ob with slots:=sl }:=by
 by_cases hb:b∈fs
 .exact u.slot b ob q n hb hx
 .exact⟨ob.slots,u.keep b ob q n hb hx⟩
theorem Un.kept (k:∀ b u,h.get? b=some u->h'.get? b=some u):Un fs ex H H h h':=
 ⟨λ b ob q _ _ _=>k b ob q,λ b ob q _ _ _=>⟨ob.slots,k b ob q⟩,λ _ _ _ n _=>n,λ b ob q _=>⟨ob,k b ob q⟩,λ _ _ q=>q,λ _ _ _ q=>q,λ _ ps q=>⟨#[],by rw[q];simp⟩⟩
theorem Un.refl:Un fs ex H H h h:=Un.kept λ _ _ q=>q
theorem Un.laid (k:∀ b u,h.get? b=some u->h'.get? b=some u) (hp:h.objs.size<=a) (hn:H a=none):Un fs ex H (upd H a o) h h' where
 keep:=λ b u q _ _ _=>k b u q
 slot:=λ b u q _ _ _=>⟨u.slots,k b u q⟩
 free:=λ b u q n _=>by rw[yj (Aw (Bf (Ap q) hp))];exact n
 there:=λ b u q _=>⟨u,k b u q⟩
 uG:=λ b xs q=>by rw[yj (uJ q hn)];exact q
 tT:=λ b u xs q=>by rw[yj (uJ q hn)];exact q
 sI:=λ b ps q=>⟨#[],by rw[yj (uJ q hn),q];simp⟩
theorem Un.write (mu:nJ (H x)) (he:e=x\/H e=some (.own x)) (k:∀ b u,b≠e->h.get? b=some u->h'.get? b=some u) (CY:∃ u,h'.get? e=some u):Un fs ex H (upd H x o) h h':=by
 have hx:∀ b,H b=none->b≠x:=λ b n z=>by subst z;rw[n] at mu;exact mu
 have hb:∀ b,H b=none->b≠e:=λ b n z=>by
  subst z;rcases he with r | r
  .exact hx b n r
  .rw[n] at r;cases r
 have hm:∀ b u,H b=some u->¬ nJ (some u)->b≠x:=λ b u q nm z=>by subst z;rw[q] at mu;exact nm mu
 refine⟨λ b u q n _ _=>k b u (hb b n) q,λ b u q n _ _=>⟨u.slots,k b u (hb b n) q⟩,λ b u q n _=>by rw[yj (hx b n)];exact n,λ b u q _=>?_,
  λ b xs q=>by rw[yj (hm b _ q λ z=>z)];exact q,λ b u xs q=>by rw[yj (hm b _ q λ z=>z)];exact q,λ b ps q=>⟨#[],by rw[yj (hm b _ q λ z=>z),q];simp⟩⟩
 by_cases BW:b=e
 .subst BW;exact CY
 .exact⟨u,k b u BW q⟩
end
noncomputable def m5 (h:Heap) (H:Hp):List Addr:=(List.range h.objs.size).filter λ a=>(H a).isSome
def tS (h:Heap) (H:Hp):Heap:=PySem.W.hideAll h (m5 h H)
theorem Ou (h:Heap) (H:Hp):(tS h H).objs.size=h.objs.size:=PySem.W.hideAll_size _ _
theorem Ov {h:Heap}{H:Hp}{b:Addr}{o:Obj}(e:h.get? b=some o) (n:H b=none):(tS h H).get? b=some o:=
 PySem.W.hideAll_get _ e λ hm=>by
  have q:(H b).isSome=true:=(AN.mp hm).2;rw[n] at q;simp at q
theorem QF {h:Heap}{H:Hp}{b:Addr}{o:Obj}(e:(tS h H).get? b=some o):h.get? b=some o/\H b=none:=by
 have e':h.get? b=some o:=PySem.W.of_hideAll (m5 h H) e;refine⟨e',?_⟩;cases q:H b with
 | none=>rfl
 | some x=>
  have hm:b∈m5 h H:=AN.mpr ⟨AB.mpr (Ap e'),by simp[q]⟩;have z:(tS h H).get? b=none:=PySem.W.hideAll_none (m5 h H) hm;rw[z] at e;cases e
structure Mod (K:Ab) (mg:AI) (base:Heap):Prop where
 ip:K.In base
 glob:base.Ns mainGlobals mg
 blt:∃ mb,base.Ns builtinsNs mb/\∀ x:Str,x≠"__name__"->mb x=bootBuiltins x
 nolimit:base.NoLimit
structure Cx where
 prog:Program
 w:World
 K:Ab
 mg:Str->Option Value
 base:Heap
 A:Around
 N:List Str
 s₀:Shared
 H₀:Hp
 env:Env
 outer:List Env
 stack:List Env
 ex:List Addr
 fn:Str->Bool
 calm:Bool
 pn:Ag
 xe:Ad
noncomputable def v5 (l:List Env):List Addr:=l.filterMap (·.frame)
abbrev Cx.fs (X:Cx):List Addr:=v5 X.outer
def kD (sc:Scope) (x:Str):Prop:=sc.names.lookup x=some .local\/sc.names.lookup x=some .cell\/sc.names.lookup x=some .free
def Loc (sc:Scope) (x:Str):Prop:=sc.names.lookup x=some .local\/sc.names.lookup x=some .cell
def Look (env:Env) (h:Heap) (m:AI) (x:Str) (u:Value):Prop:=
 (env.kindOf x=some .local/\m x=some u)\/((env.kindOf x=some .cell\/env.kindOf x=some .free)/\∃ c,env.cells.lookup x=some c/\h.IsCell c (some u))
structure Cx.Ok (X:Cx):Prop where
 mod:Mod X.K X.mg X.base
 kind:X.env.scope.kind=.function
 glob:X.env.globals=mainGlobals
 blt:X.env.builtins=builtinsNs
 above:X.s₀.heap.objs.size<=X.env.locals
 inj:∀ x y c,X.env.cells.lookup x=some c->X.env.cells.lookup y=some c->x=y
 has:∀ x,(X.env.kindOf x=some .cell\/X.env.kindOf x=some .free)->∃ c,X.env.cells.lookup x=some c
 nq:∀ x c,X.fn x=true->X.env.cells.lookup x=some c->X.s₀.heap.objs.size<=c
 hd:X.calm=true->X.A.handled=none
 frames:X.A.frames=some X.stack
 m7:X.stack=X.outer\/(X.stack=X.env::X.outer/\X.env.frame=some X.env.locals)
 iO:∀ b∈X.ex,b≠X.env.locals/\∀ x c,X.env.cells.lookup x=some c->c≠b
 bs:∀ b o,X.base.get? b=some o->X.s₀.heap.get? b=some o/\X.H₀ b=none
 rY:X.base.objs.size<=X.s₀.heap.objs.size
 oy:∀ b o,X.base.get? b=some o->b∉X.ex
 oU:∀ b∈X.ex,b∉X.fs
 uv:X.s₀.heap.FunFrames X.base X.outer
 qR:∀ b∈X.fs,X.H₀ b=none
structure Inv (X:Cx) (EM:Ag) (Y:List (Option V)) (H:Hp) (s:Shared):Prop where
 ok:X.Ok
 os:s.os=X.s₀.os
 bare:AllBare s.gens
 base:Un X.fs X.ex X.H₀ H X.s₀.heap s.heap
 loc:∃ m,s.heap.Ns X.env.locals m/\∀ (i:Nat) (x:Str) (v:V),X.N[i]?=some x->Y[i]?=some (some v)->kD X.env.scope x->∃ u,RelV v u/\Look X.env s.heap m x u
 cell:∀ x c,X.env.cells.lookup x=some c->∃ v,s.heap.IsCell c v
 free:H X.env.locals=none
 uP:∀ x c,X.env.cells.lookup x=some c->H c=none
 pin:∀ p∈X.pn++EM,s.heap.get? p.1=some p.2/\H p.1=none/\p.1≠X.env.locals/\p.1∉X.fs/\∀ v,p.2.data≠.cell v
 zv:yG X.prog X.w H s.heap
 len:Y.length=X.N.length
section
variable {X:Cx}{EM:Ag}{Y:List (Option V)}{H H':Hp}{s:Shared}{h':Heap}
theorem Cx.Ok.QK (ok:X.Ok) {b:Addr}{o:Obj}(e:X.base.get? b=some o):b∉X.fs:=λ hb=>by
 have:=(ok.uv.mem hb).1;rw[e] at this;cases this
theorem Inv.bs (I:Inv X EM Y H s):∀ b o,X.base.get? b=some o->s.heap.get? b=some o/\H b=none:=λ b o e=>
 ⟨I.base.keep b o (I.ok.bs b o e).1 (I.ok.bs b o e).2 (I.ok.QK e) (I.ok.oy b o e),I.base.free b o (I.ok.bs b o e).1 (I.ok.bs b o e).2 (I.ok.oy b o e)⟩
theorem Inv.bk (I:Inv X EM Y H s):∀ b o,X.base.get? b=some o->s.heap.get? b=some o:=λ b o e=>(I.bs b o e).1
theorem Inv.mod (I:Inv X EM Y H s):Mod X.K X.mg X.base:=I.ok.mod
theorem Inv.vx (I:Inv X EM Y H s):X.K.In s.heap:=I.ok.mod.ip.keeps I.bk
theorem Inv.lt (I:Inv X EM Y H s):X.env.locals<s.heap.objs.size:=let ⟨_,hn,_⟩:=I.loc;hn.lt
theorem Inv.sz (I:Inv X EM Y H s):X.s₀.heap.objs.size<=s.heap.objs.size:=Br I.ok.above (BQ I.lt)
theorem Inv.dF (I:Inv X EM Y H s) {a:Addr}(h:s.heap.objs.size<=a):a∉X.fs:=λ hb=>by
 obtain⟨_,o,ho,_⟩:=I.ok.uv.mem hb;exact absurd (Bf (Ap ho) (Br I.sz h)) (Ca _)
theorem Inv.rW (I:Inv X EM Y H s):∀ x c,X.env.cells.lookup x=some c->c≠X.env.locals:=λ x c e z=>by
 obtain⟨v,o,ho,hd⟩:=I.cell x c e;obtain⟨m,⟨o',es,ep,F4,HH,_⟩,_⟩:=I.loc;rw[z,F4] at ho;cases ho;rw[HH] at hd;cases hd
theorem Inv.uv (I:Inv X EM Y H s):s.heap.FunFrames X.base X.outer:=by
 have all:∀ (l:List Env),(∀ b∈v5 l,b∈X.fs)->X.s₀.heap.FunFrames X.base l->s.heap.FunFrames X.base l:=by
  intro l
  induction l with
  | nil=>intro _ _;trivial
  | cons env r ih=>
   intro hs hl;obtain⟨hk,⟨L,o,hf,hn,ho,hd⟩,hr⟩:=hl;have hL:L∈X.fs:=hs L (by unfold v5;rw[CF,hf];exact Am);obtain⟨sl,e⟩:=I.base.slot L o ho (I.ok.qR L hL) hL λ z=>I.ok.oU L z hL;exact⟨hk,⟨L,_,hf,hn,e,hd⟩,ih (λ b hb=>hs b (by unfold v5;rw[CF,hf];exact Av _ hb)) hr⟩
 exact all X.outer (λ _ hb=>hb) I.ok.uv
theorem Inv.stack (I:Inv X EM Y H s):s.heap.FunFrames X.base X.stack:=by
 rcases I.ok.m7 with e | ⟨e,hf⟩
 .rw[e];exact I.uv
 .rw[e];obtain⟨m,hn,_⟩:=I.loc;refine .cons (by rw[I.ok.kind];decide) hf hn ?_ I.uv;exact Heap.get?_none_of_le (Br I.ok.rY I.ok.above)
theorem Inv.js (I:Inv X EM Y H s):∀ b∈v5 X.stack,b∈X.env.locals::X.fs:=λ b hb=>by
 rcases I.ok.m7 with e | ⟨e,hf⟩
 .rw[e] at hb;exact Av _ hb
 .rw[e] at hb;unfold v5 at hb;rw[CF,hf] at hb;exact hb
theorem Inv.fN (I:Inv X EM Y H s):∀ b∈v5 X.stack,H b=none:=λ b hb=>by
 rcases Ai.mp (I.js b hb) with e | hb
 .rw[e];exact I.free
 .obtain⟨_,o,ho,_⟩:=I.ok.uv.mem hb;exact I.base.free b o ho (I.ok.qR b hb) λ z=>I.ok.oU b z hb
theorem Inv.step {g':Array GenState}{t':Nat}{d':Drawn}{ch:List Addr}(I:Inv X EM Y H s)
  (B8:∀ b∈ch,(b∈X.ex\/X.s₀.heap.objs.size<=b)/\b≠X.env.locals/\(∀ x c,X.env.cells.lookup x=some c->c≠b)/\∀ p∈X.pn++EM,p.1≠b)
  (keep:∀ b o,b≠X.env.locals->b∉X.fs->b∉ch->s.heap.get? b=some o->H b=none->h'.get? b=some o)
  (slot:∀ b o,b≠X.env.locals->b∈X.fs->b∉ch->s.heap.get? b=some o->H b=none->∃ sl,h'.get? b=some { o with slots:=sl }) (free:∀ b o,b∉ch->s.heap.get? b=some o->H b=none->H' b=none)
  (there:∀ b o,b∉ch->s.heap.get? b=some o->∃ o',h'.get? b=some o')
  (uG:∀ b xs,H b=some (.tup xs)->H' b=some (.tup xs)) (tT:∀ b o u,H b=some (.xO o u)->H' b=some (.xO o u)) (sI:∀ b ps,H b=some (.rF ps)->∃ more,H' b=some (.rF (ps++more)))
  (ns:∀ m,s.heap.Ns X.env.locals m->h'.Ns X.env.locals m) (zv:yG X.prog X.w H' h') (hg:AllBare g'):
  Inv X EM Y H' { s with heap:=h',gens:=g',drawn:=d',toks:=t' }:=by
 have neL:∀ b o,X.s₀.heap.get? b=some o->b≠X.env.locals:=λ b o e=>Aw (Bf (Ap e) I.ok.above);have JF:∀ b o,X.s₀.heap.get? b=some o->b∉X.ex->b∉ch:=λ b o e hx hb=>by
  rcases (B8 b hb).1 with z | z
  .exact hx z
  .exact absurd (Bf (Ap e) z) (Ca _)
 have cellK:∀ x c,X.env.cells.lookup x=some c->∀ v,s.heap.IsCell c v->h'.IsCell c v:=λ x c e v ⟨o,ho,hd⟩=>by
  have Jb:c∉ch:=λ z=>(B8 c z).2.2.1 x c e rfl;by_cases hc:c∈X.fs
  .obtain⟨sl,q⟩:=slot c o (I.rW x c e) hc Jb ho (I.uP x c e);exact⟨_,q,hd⟩
  .exact⟨o,keep c o (I.rW x c e) hc Jb ho (I.uP x c e),hd⟩
 refine⟨I.ok,I.os,hg,⟨λ b o e n hb hx=>?_,λ b o e n hb hx=>?_,λ b o e n hx=>?_,λ b o e hx=>?_,λ b xs e=>uG b xs (I.base.uG b xs e),λ b o xs e=>tT b o xs (I.base.tT b o xs e),λ b ps e=>?_⟩,?_,λ x c e=>?_,?_,λ x c e=>?_,λ p hp=>?_,zv,I.len⟩
 .exact keep b o (neL b o e) hb (JF b o e hx) (I.base.keep b o e n hb hx) (I.base.free b o e n hx)
 .obtain⟨sl,e1⟩:=I.base.slot b o e n hb hx;obtain⟨sl',e2⟩:=slot b _ (neL b o e) hb (JF b o e hx) e1 (I.base.free b o e n hx);exact⟨sl',e2⟩
 .obtain⟨o',e1⟩:=I.base.there b o e hx;exact free b o' (JF b o e hx) e1 (I.base.free b o e n hx)
 .obtain⟨o',e1⟩:=I.base.there b o e hx;exact there b o' (JF b o e hx) e1
 .obtain⟨m1,e1⟩:=I.base.sI b ps e;obtain⟨m2,e2⟩:=sI b _ e1;exact⟨m1++m2,by rw[e2,Array.append_assoc]⟩
 .obtain⟨m,hn,hl⟩:=I.loc;refine⟨m,ns m hn,λ i x v e1 e2 e3=>?_⟩;obtain⟨u,r,l⟩:=hl i x v e1 e2 e3;refine⟨u,r,?_⟩;rcases l with l | ⟨k,c,e,z⟩
  .exact .inl l
  .exact .inr ⟨k,c,e,cellK x c e _ z⟩
 .obtain⟨v,z⟩:=I.cell x c e;exact⟨v,cellK x c e v z⟩
 .obtain⟨m,⟨o,_,_,ho,_⟩,_⟩:=I.loc;exact free _ o (λ z=>(B8 _ z).2.1 rfl) ho I.free
 .obtain⟨v,o,ho,hd⟩:=I.cell x c e;exact free c o (λ z=>(B8 c z).2.2.1 x c e rfl) ho (I.uP x c e)
 .obtain⟨e,n,ne,nf,d⟩:=I.pin p hp;have Jb:p.1∉ch:=λ z=>(B8 p.1 z).2.2.2 p hp rfl;exact⟨keep p.1 p.2 ne nf Jb e n,free p.1 p.2 Jb e n,ne,nf,d⟩
theorem Inv.un {t':Nat}(I:Inv X EM Y H s) (u:Un X.fs [] H H' s.heap h') (zv:yG X.prog X.w H' h'):Inv X EM Y H' { s with heap:=h',toks:=t' }:=by
 obtain⟨m,⟨o,es,ep,ho,r⟩,_⟩:=id I.loc;obtain⟨sl,hL⟩:=u.any ho I.free (by simp);exact I.step (g':=s.gens) (d':=s.drawn) (ch:=[]) (λ _ z=>nomatch z) (λ b o _ hb _ e n=>u.keep b o e n hb (by simp)) (λ b o _ hb _ e n=>u.slot b o e n hb (by simp)) (λ b o _ e n=>u.free b o e n (by simp)) (λ b o _ e=>u.there b o e (by simp)) u.uG u.tT u.sI (λ m' hm=>by
  obtain⟨o',F6,KO,F4,r'⟩:=hm;rw[ho] at F4;cases F4;exact⟨_,F6,KO,hL,r'⟩) zv I.bare
theorem Inv.call {g':Array GenState}{t':Nat}{d':Drawn}{ch:List Addr}(I:Inv X EM Y H s) (u:Un (v5 X.stack) ch H H' s.heap h') (zv:yG X.prog X.w H' h') (hg:AllBare g')
  (B8:∀ b∈ch,(b∈X.ex\/X.s₀.heap.objs.size<=b)/\b≠X.env.locals/\(∀ x c,X.env.cells.lookup x=some c->c≠b)/\∀ p∈X.pn++EM,p.1≠b):
  Inv X EM Y H' { s with heap:=h',gens:=g',drawn:=d',toks:=t' }:=by
 obtain⟨m,⟨o,es,ep,ho,r⟩,_⟩:=id I.loc;obtain⟨sl,hL⟩:=u.any ho I.free λ z=>(B8 _ z).2.1 rfl;exact I.step (ch:=ch) B8 (λ b o hL hb hc e n=>u.keep b o e n (λ z=>(Ai.mp (I.js b z)).elim hL hb) hc) (λ b o _ _ hc e n=>u.any e n hc) (λ b o hc e n=>u.free b o e n hc) (λ b o hc e=>u.there b o e hc) u.uG u.tT u.sI (λ m' hm=>by
  obtain⟨o',F6,KO,F4,r'⟩:=hm;rw[ho] at F4;cases F4;exact⟨_,F6,KO,hL,r'⟩) zv hg
theorem Inv.turned {t':Nat}{it:Addr}(I:Inv X EM Y H s) (k:∀ b o,b≠it->s.heap.get? b=some o->h'.get? b=some o) (hn:H it=none) (hL:it≠X.env.locals)
  (h1:it∈X.ex\/X.s₀.heap.objs.size<=it) (h2:∀ x c,X.env.cells.lookup x=some c->c≠it) (h3:∀ p∈X.pn++EM,p.1≠it):Inv X EM Y H { s with heap:=h',toks:=t' }:=by
 have Ja:∀ b u,H b=some u->b≠it:=λ b u e z=>by rw[z,hn] at e;cases e
 refine I.step (g':=s.gens) (d':=s.drawn) (ch:=[it]) (λ b hb=>?_) (λ b o _ _ hc e _=>k b o (λ z=>hc (by simp[z])) e) (λ b o _ _ hc e _=>⟨o.slots,k b o (λ z=>hc (by simp[z])) e⟩) (λ _ _ _ _ n=>n)
  (λ b o hc e=>⟨o,k b o (λ z=>hc (by simp[z])) e⟩) (λ _ _ e=>e) (λ _ _ _ e=>e) (λ b ps e=>⟨#[],by rw[e];simp⟩) (λ m hm=>?_) (λ b u e=>?_) I.bare
 .have e:b=it:=by simpa using hb
  subst e;exact⟨h1,hL,h2,h3⟩
 .obtain⟨o,es,ep,ho,r⟩:=hm;exact⟨o,es,ep,k _ o (Ne.symm hL) ho,r⟩
 .refine (I.zv b u e).tD (λ c v hc q=>k c v ?_ q) (λ _ q=>q) λ _ _ q=>q;rcases hc with z | z
  .rw[z];exact Ja b u e
  .exact Ja c _ z
theorem Inv.tok (I:Inv X EM Y H s) (t:Nat):Inv X EM Y H { s with toks:=t }:=I.un (h':=s.heap) (t':=t) Un.refl I.zv
theorem Inv.kept {t':Nat}(I:Inv X EM Y H s) (k:∀ b u,s.heap.get? b=some u->h'.get? b=some u):Inv X EM Y H { s with heap:=h',toks:=t' }:=I.un (Un.kept k) (I.zv.kept k)
theorem Inv.laid {a:Addr}{o:HO}{t':Nat}(I:Inv X EM Y H s) (k:∀ b u,s.heap.get? b=some u->h'.get? b=some u) (hp:s.heap.objs.size<=a) (new:yJ X.prog X.w (upd H a o) h' a o):
  Inv X EM Y (upd H a o) { s with heap:=h',toks:=t' }:=I.un (Un.laid k hp (I.zv.fresh hp)) (I.zv.laid k hp new)
theorem Inv.write {x e:Addr}{o:HO}{t':Nat}(I:Inv X EM Y H s) (mu:nJ (H x)) (he:e=x\/H e=some (.own x)) (k:∀ b u,b≠e->s.heap.get? b=some u->h'.get? b=some u) (CY:∃ u,h'.get? e=some u)
  (new:yJ X.prog X.w (upd H x o) h' x o):Inv X EM Y (upd H x o) { s with heap:=h',toks:=t' }:=I.un (Un.write mu he k CY) (I.zv.write mu he k CY new)
theorem Inv.jG {HN:Ag}(I:Inv X EM Y H s) (h:∀ p∈HN,s.heap.get? p.1=some p.2/\H p.1=none/\p.1≠X.env.locals/\p.1∉X.fs/\∀ v,p.2.data≠.cell v):Inv X HN Y H s:=
 ⟨I.ok,I.os,I.bare,I.base,I.loc,I.cell,I.free,I.uP,λ p hp=>(A2.mp hp).elim (λ z=>I.pin p (CD _ z)) (h p),I.zv,I.len⟩
theorem dH {N:List Str}(hN:N.Nodup) {i j:Nat}{x:Str}(a:N[i]?=some x) (b:N[j]?=some x):i=j:=by
 obtain⟨h1,e1⟩:=AL.mp a;obtain⟨h2,e2⟩:=AL.mp b;exact (List.getElem_inj hN).mp (e1.trans e2.symm)
theorem X7 {M:Model}{A:Around}{E:Ad}{i:Nat}{x:Str}{v:V}{u:Value}{Q:Unit->Shared->Prop}(I:Inv X EM Y H s) (hN:X.N.Nodup) (hi:X.N[i]?=some x) (hx:Loc X.env.scope x) (r:RelV v u)
  (h:∀ s',Inv X EM (Y.set i (some v)) H s'->(∃ a,Heap.SameBut a s.heap s'.heap/\(a=X.env.locals\/X.env.cells.lookup x=some a))->Q () s') (hf:X.fn x=true\/X.env.scope.names.lookup x=some .local:=by first | exact .inl rfl | exact .inr rfl | assumption):wpAny M A (storeName X.env x u) Q E s:=by
 obtain⟨m,hn,hl⟩:=id I.loc;have EJ:(X.env.scope.kind == .class||(X.env.scope.kind == .module&&X.env.locals != X.env.globals))=false:=by rw[I.ok.kind];rfl
 have hiσ:i < Y.length:=by rw[I.len];exact (AL.mp hi).1
 have rW:=I.rW;have tracked:∀ {a:Addr}{h':Heap},(∃ o,s.heap.get? a=some o/\H a=none)->Heap.SameBut a s.heap h'->yG X.prog X.w H h':=λ{a h'} ha hs b ob e=>by
  obtain⟨_,_,HV⟩:=ha;refine (I.zv b ob e).tD (λ c w' hc q=>(hs.2 c ?_).trans q) (λ _ q=>q) λ _ _ q=>q;rintro rfl;rcases hc with rfl | hc
  .rw[HV] at e;cases e
  .rw[HV] at hc;cases hc
 rcases hx with hk | hk
 .refine wpAny_storeName_local hk hn (λ h' JN hs=>?_) EJ;obtain⟨oL,_,_,HS,_⟩:=id hn;refine h _ ⟨I.ok,I.os,I.bare,⟨λ b o e n hb hx=>?_,λ b o e n hb hx=>?_,I.base.free,λ b o e hx=>?_,I.base.uG,I.base.tT,I.base.sI⟩,⟨_,JN,λ j y v' e1 e2 e3=>?_⟩,λ y c e=>?_,I.free,I.uP,λ p hp=>?_,tracked ⟨oL,HS,I.free⟩ hs,by simpa using I.len⟩ ⟨_,hs,.inl rfl⟩
  .exact (hs.2 b (Aw (Bf (Ap e) I.ok.above))).trans (I.base.keep b o e n hb hx)
  .obtain⟨sl,e1⟩:=I.base.slot b o e n hb hx;exact⟨sl,(hs.2 b (Aw (Bf (Ap e) I.ok.above))).trans e1⟩
  .obtain⟨o',e1⟩:=I.base.there b o e hx;exact⟨o',(hs.2 b (Aw (Bf (Ap e) I.ok.above))).trans e1⟩
  .by_cases hj:j=i
   .subst hj;rw[hi] at e1;cases e1;rw[List.getElem?_set_self hiσ] at e2;cases e2;exact⟨u,r,.inl ⟨hk,by simp⟩⟩
   .rw[List.getElem?_set_ne (Ne.symm hj)] at e2;obtain⟨u',r',q⟩:=hl j y v' e1 e2 e3;refine⟨u',r',?_⟩;rcases q with ⟨k,e⟩ | ⟨k,c,e,z⟩
    .refine .inl ⟨k,?_⟩;have:y≠x:=λ e=>hj (dH hN e1 (e▸hi));simp[this,e]
    .exact .inr ⟨k,c,e,z.sameBut hs (rW y c e)⟩
  .obtain⟨w',z⟩:=I.cell y c e;exact⟨w',z.sameBut hs (rW y c e)⟩
  .obtain⟨e,n,ne,nf,d⟩:=I.pin p hp;exact⟨(hs.2 p.1 ne).trans e,n,ne,nf,d⟩
 .have Ci:X.fn x=true:=by
   rcases hf with z | z
   .exact z
   .rw[z] at hk;cases hk
  obtain⟨c,hc⟩:=I.ok.has x (.inl hk);obtain⟨w',z⟩:=I.cell x c hc;refine wpAny_storeName_cell I.ok.kind hk hc z (λ h' Kt hs=>?_);obtain⟨oc,hoc,Et⟩:=id z;refine h { s with heap:=h' } ⟨I.ok,I.os,I.bare,⟨λ b o e n hb hx=>?_,λ b o e n hb hx=>?_,I.base.free,λ b o e hx=>?_,I.base.uG,I.base.tT,I.base.sI⟩,⟨m,hn.sameBut hs (Ne.symm (rW x c hc)),λ j y v' e1 e2 e3=>?_⟩,λ y c' e=>?_,I.free,I.uP,λ p hp=>?_,tracked ⟨oc,hoc,I.uP x c hc⟩ hs,by simpa using I.len⟩ ⟨c,hs,.inr hc⟩
  .exact (hs.2 b (Aw (Bf (Ap e) (I.ok.nq x c Ci hc)))).trans (I.base.keep b o e n hb hx)
  .obtain⟨sl,e1⟩:=I.base.slot b o e n hb hx;exact⟨sl,(hs.2 b (Aw (Bf (Ap e) (I.ok.nq x c Ci hc)))).trans e1⟩
  .obtain⟨o',e1⟩:=I.base.there b o e hx;exact⟨o',(hs.2 b (Aw (Bf (Ap e) (I.ok.nq x c Ci hc)))).trans e1⟩
  .by_cases hj:j=i
   .subst hj;rw[hi] at e1;cases e1;rw[List.getElem?_set_self hiσ] at e2;cases e2;exact⟨u,r,.inr ⟨.inl hk,c,hc,Kt⟩⟩
   .rw[List.getElem?_set_ne (Ne.symm hj)] at e2;obtain⟨u',r',q⟩:=hl j y v' e1 e2 e3;refine⟨u',r',?_⟩;rcases q with q | ⟨k,c',e,z'⟩
    .exact .inl q
    .refine .inr ⟨k,c',e,z'.sameBut hs ?_⟩;rintro rfl;exact hj (dH hN e1 (I.ok.inj _ _ _ e hc▸hi))
  .by_cases hcc:c'=c
   .subst hcc;exact⟨_,Kt⟩
   .obtain⟨w2,z2⟩:=I.cell y c' e;exact⟨w2,z2.sameBut hs hcc⟩
  .obtain⟨e,n,ne,nf,d⟩:=I.pin p hp;refine⟨(hs.2 p.1 ?_).trans e,n,ne,nf,d⟩;intro q;rw[q,hoc] at e;have q':oc=p.2:=A8 e;exact d w' (by rw[<- q'];exact Et)
theorem jr {M:Model}{A:Around}{E:Ad}{i:Nat}{x:Str}{v:V}{u:Value}{Q:Unit->Shared->Prop}(I:Inv X EM Y H s) (hN:X.N.Nodup) (hi:X.N[i]?=some x) (hx:Loc X.env.scope x) (r:RelV v u)
  (h:∀ s',Inv X EM (Y.set i (some v)) H s'->Q () s') (hf:X.fn x=true\/X.env.scope.names.lookup x=some .local:=by first | exact .inl rfl | exact .inr rfl | assumption):wpAny M A (storeName X.env x u) Q E s:=
 X7 I hN hi hx r (λ s' I' _=>h s' I') hf
theorem Inv.Mp {s':Shared}{ch:List Addr}(I:Inv X EM Y H s) (ho:s'.os=s.os) (u:Un (v5 X.stack) ch H H' s.heap s'.heap) (zv:yG X.prog X.w H' s'.heap) (hg:AllBare s'.gens)
  (B8:∀ b∈ch,(b∈X.ex\/X.s₀.heap.objs.size<=b)/\b≠X.env.locals/\(∀ x c,X.env.cells.lookup x=some c->c≠b)/\∀ p∈X.pn++EM,p.1≠b):Inv X EM Y H' s':=by
 obtain⟨h',g',d',t',o'⟩:=s';have e:o'=s.os:=ho;subst e;exact I.call (g':=g') (t':=t') (d':=d') u zv hg B8
end
abbrev XK:=Value->Option Addr->Hp->Prop
abbrev St:=List (Option V)
abbrev VK:=V->Hp->Prop
abbrev TE:=St->Hp->VK->Prop
abbrev TT:=St->Hp->(Bool->Hp->Prop)->Prop
abbrev TA:=St->Hp->(List V->Hp->Prop)->Prop
structure Ends where
 nx:St->Hp->Prop
 rt:VK
 bk:St->Hp->Prop:=λ _ _=>False
 ct:St->Hp->Prop:=λ _ _=>False
abbrev TS:=Ends->St->Hp->Prop
def EP (X:Cx) (EM:Ag) (Y:St) (Q:VK) (u:Value) (s':Shared):Prop:=∃ v H',Inv X EM Y H' s'/\RelV v u/\Q v H'
def TP (X:Cx) (EM:Ag) (Y:St) (Q:Bool->Hp->Prop) (b:Bool) (s':Shared):Prop:=∃ H',Inv X EM Y H' s'/\Q b H'
def AP (X:Cx) (EM:Ag) (Y:St) (Q:List V->Hp->Prop) (us:Ae) (s':Shared):Prop:=∃ vs H',Inv X EM Y H' s'/\Vals vs us/\Q vs H'
def SP (X:Cx) (EM:Ag) (D:Ends) (f:Flow) (s':Shared):Prop:=
 match f with
 | .next=>∃ Y' H',Inv X EM Y' H' s'/\D.nx Y' H'
 | .brk=>∃ Y' H',Inv X EM Y' H' s'/\D.bk Y' H'
 | .cont=>∃ Y' H',Inv X EM Y' H' s'/\D.ct Y' H'
 | .ret u=>∃ v Y' H',Inv X EM Y' H' s'/\RelV v u/\D.rt v H'
def PE (X:Cx) (e:Expr) (t:TE):Prop:=
 ∀ (EM:Ag) (s:Shared) (Y:St) (H:Hp) (Q:VK),Inv X EM Y H s->t Y H Q->wpAny (model X.prog X.w) X.A (eval e X.env) (EP X EM Y Q) X.xe s
def PT (X:Cx) (e:Expr) (t:TT):Prop:=
 ∀ (EM:Ag) (s:Shared) (Y:St) (H:Hp) (Q:Bool->Hp->Prop),Inv X EM Y H s->t Y H Q->wpAny (model X.prog X.w) X.A (isTrue e X.env (eval e X.env)) (TP X EM Y Q) X.xe s
def PW (X:Cx) (e:Expr) (t:TT):Prop:=
 ∀ (whole:Sem Value) (EM:Ag) (s:Shared) (Y:St) (H:Hp) (Q:Bool->Hp->Prop),Inv X EM Y H s->t Y H Q->wpAny (model X.prog X.w) X.A (isTrue e X.env whole) (TP X EM Y Q) X.xe s
theorem PW.pt {X:Cx}{e:Expr}{t:TT}(h:PW X e t):PT X e t:=h _
def PA (X:Cx) (es:List Expr) (t:TA):Prop:=
 ∀ (pos:Pos) (EM:Ag) (s:Shared) (Y:St) (H:Hp) (Q:List V->Hp->Prop),Inv X EM Y H s->t Y H Q->wpAny (model X.prog X.w) X.A (spliced (backTo pos (starEach es X.env))) (AP X EM Y Q) X.xe s
def PS (X:Cx) (st:Stmt) (t:TS):Prop:=
 ∀ (EM:Ag) (s:Shared) (Y:St) (H:Hp) (D:Ends),Inv X EM Y H s->t D Y H->wpAny (model X.prog X.w) X.A (exec st X.env) (SP X EM D) X.xe s
def xJ (X:Cx) (st:List Stmt) (t:TS):Prop:=
 ∀ (EM:Ag) (s:Shared) (Y:St) (H:Hp) (D:Ends),Inv X EM Y H s->t D Y H->wpAny (model X.prog X.w) X.A (execs st X.env) (SP X EM D) X.xe s
theorem zA {α:Type}{t:Sem α}{Q Q':α->Shared->Prop}{M:Model}{A:Around}{E:Ad}{s:Shared}(h:wpAny M A t Q E s) (hQ:∀ a s,Q a s->Q' a s):wpAny M A t Q' E s:=K3 h hQ λ _ _ x=>x
section
variable {X:Cx}
def jk (i:Nat):TE:=fun Y H Q=>∃ v,Y[i]?=some (some v)/\Q v H
def tC (v:V):TE:=λ _ H Q=>Q v H
theorem Vp {i:Nat}{x:Str}{pos:Pos}(hN:X.N[i]?=some x) (hv:kD X.env.scope x) (hd:(x == ("__debug__":Str))=false:=by decide) (BE:(x == ("__classdict__":Str))=false:=by decide):PE X (.Name x pos) (jk i):=by
 intro EM s Y H Q I h;obtain⟨v,e,h⟩:=h;obtain⟨m,hn,hl⟩:=I.loc;obtain⟨u,r,l⟩:=hl i x v hN e hv;have fin:EP X EM Y Q u s:=⟨v,H,I,r,h⟩
 rcases l with ⟨hk,hm⟩ | ⟨hk,c,hc,HX⟩
 .exact wpAny_Name (wpAny_loadName_local I.ok.kind hk hn hm fin) hd
 .rcases hk with hk | hk
  .exact wpAny_Name (wpAny_loadName_cell I.ok.kind hk hc HX fin) hd
  .exact wpAny_Name (wpAny_loadName_free I.ok.kind hk hc HX fin BE) hd
theorem V2 {i j pos}:PE X (.Constant (.int i) j pos) (tC (.int i)):=λ _ _ _ H _ I h=>wpAny_Constant_int ⟨.int i,H,I.tok _,⟨_,rfl⟩,h⟩
theorem VB {b j pos}:PE X (.Constant (.bool b) j pos) (tC (.bl b)):=λ _ _ _ H _ I h=>Constant_bool ⟨.bl b,H,I,rfl,h⟩
theorem Vy {j pos}:PE X (.Constant .none j pos) (tC .zo):=λ _ _ _ H _ I h=>Constant_none ⟨.zo,H,I,rfl,h⟩
theorem Vs {x j pos}:PE X (.Constant (.str x) j pos) (tC (.str x)):=λ _ _ _ H _ I h=>Calls.Constant_str ⟨.str x,H,I.tok _,⟨_,rfl⟩,h⟩
def Gl (X:Cx) (x:Str):Prop:=X.env.kindOf x=some .globalImplicit
theorem cv {E:Ad}{EM:Ag}{s:Shared}{Y:St}{H:Hp}{x:Str}{u:Value}{pos:Pos}{Q:Ad}(I:Inv X EM Y H s) (hg:Gl X x) (hm:X.mg x=some u) (h:Q u s)
  (hd:(x == ("__debug__":Str))=false:=by decide):wpAny (model X.prog X.w) X.A (eval (.Name x pos) X.env) Q E s:=
 Calls.Name_function_global I.ok.kind hg (Calls.loadGlobal_global (by rw[I.ok.glob];exact I.mod.glob.keeps I.bk) hm h) hd
theorem rO {E:Ad}{EM:Ag}{s:Shared}{Y:St}{H:Hp}{x:Str}{u:Value}{pos:Pos}{Q:Ad}(I:Inv X EM Y H s) (hg:Gl X x) (hm:X.mg x=none) (hv:bootBuiltins x=some u) (h:Q u s)
  (hn:x≠"__name__":=by decide) (hd:(x == ("__debug__":Str))=false:=by decide):wpAny (model X.prog X.w) X.A (eval (.Name x pos) X.env) Q E s:=by
 obtain⟨mb,h1,h2⟩:=I.mod.blt;exact Calls.Name_function_global I.ok.kind hg (Calls.loadGlobal_builtin (by rw[I.ok.glob];exact I.mod.glob.keeps I.bk) hm (by rw[I.ok.blt];exact h1.keeps I.bk) ((h2 x hn).trans hv) h) hd
theorem dg {x:Str}{v:V}{u:Value}{pos:Pos}(hg:Gl X x) (hm:X.mg x=some u) (r:RelV v u) (hd:(x == ("__debug__":Str))=false:=by decide):PE X (.Name x pos) (tC v):=
 λ _ _ _ H _ I h=>cv I hg hm ⟨v,H,I,r,h⟩ hd
theorem VA {x:Str}{v:V}{u:Value}{pos:Pos}(hg:Gl X x) (hm:X.mg x=none) (hv:bootBuiltins x=some u) (r:RelV v u) (hn:x≠"__name__":=by decide) (hd:(x == ("__debug__":Str))=false:=by decide):PE X (.Name x pos) (tC v):=
 λ _ _ _ H _ I h=>rO I hg hm hv ⟨v,H,I,r,h⟩ hn hd
variable {a b:Expr}{ta tb:TE}{pos:Pos}
variable {tA JC:TT}{ET:List Expr}
def X5 (t u:TT):TT:=fun Y H Q=>t Y H λ c H1=>if c=true then u Y H1 Q else Q false H1
def Xq (t u:TT):TT:=fun Y H Q=>t Y H λ c H1=>if c=true then Q true H1 else u Y H1 Q
def Xs (t:TT):TT:=fun Y H Q=>t Y H λ c H1=>Q (!c) H1
theorem W3 (ha:PT X a tA):PW X (.BoolOp .And [a] pos) tA:=by
 intro wh EM s Y H Q I h;refine isTrue_and (zA (ha EM s Y H Q I h) λ c s1 e=>?_);cases c with
 | true=>exact isTrue_and_nil e
 | false=>exact e
theorem W0 (ha:PT X a tA):PW X (.BoolOp .Or [a] pos) tA:=by
 intro wh EM s Y H Q I h;refine isTrue_or (zA (ha EM s Y H Q I h) λ c s1 e=>?_);cases c with
 | false=>exact isTrue_or_nil e
 | true=>exact e
theorem W4 (ha:PT X a tA) (hb:PW X (.BoolOp .And (b::ET) pos) JC):PW X (.BoolOp .And (a::b::ET) pos) (X5 tA JC):=by
 intro wh EM s Y H Q I h;refine isTrue_and (zA (ha EM s Y H _ I h) λ c s1 ⟨H1,I1,q1⟩=>?_);cases c with
 | true=>exact hb wh EM s1 Y H1 Q I1 q1
 | false=>exact⟨H1,I1,q1⟩
theorem W2 (ha:PT X a tA) (hb:PW X (.BoolOp .Or (b::ET) pos) JC):PW X (.BoolOp .Or (a::b::ET) pos) (Xq tA JC):=by
 intro wh EM s Y H Q I h;refine isTrue_or (zA (ha EM s Y H _ I h) λ c s1 ⟨H1,I1,q1⟩=>?_);cases c with
 | true=>exact⟨H1,I1,q1⟩
 | false=>exact hb wh EM s1 Y H1 Q I1 q1
theorem W8 (ha:PT X a tA):PT X (.UnaryOp .Not a pos) (Xs tA):=by
 intro EM s Y H Q I h;exact isTrue_not (ha EM s Y H (λ c H1=>Q (!c) H1) I h)
def X4 (ta tb:TE):TE:=fun Y H Q=>ta Y H λ x H1=>∃ c,x=.bl c/\if c=true then tb Y H1 Q else Q (.bl false) H1
def Xr (ta:TE):TE:=fun Y H Q=>ta Y H λ x H1=>∃ c,x=.bl c/\Q (.bl (!c)) H1
theorem Vv {op} {t:TE}(h:PE X a t):PE X (.BoolOp op [a] pos) t:=λ EM s Y H Q I hw=>BoolOp_one (h EM s Y H Q I hw)
theorem VC (ha:PE X a ta) (hb:PE X (.BoolOp .And (b::ET) pos) tb):PE X (.BoolOp .And (a::b::ET) pos) (X4 ta tb):=by
 intro EM s Y H Q I h;refine BoolOp_and (zA (ha EM s Y H _ I h) λ v s1 ⟨x,H1,I1,r1,q1⟩=>?_);obtain⟨c,rfl,q1⟩:=q1;cases r1;refine K9 ?_;cases c with
 | true=>exact hb EM s1 Y H1 Q I1 q1
 | false=>exact⟨.bl false,H1,I1,rfl,q1⟩
theorem Vx (ha:PE X a ta):PE X (.UnaryOp .Not a pos) (Xr ta):=by
 intro EM s Y H Q I h;refine UnaryOp_ (zA (ha EM s Y H _ I h) λ v s1 ⟨x,H1,I1,r1,q1⟩=>?_);obtain⟨c,rfl,q1⟩:=q1;cases r1;exact not_of (K9 ⟨.bl (!c),H1,I1,rfl,q1⟩)
def Xx (t:TT) (ta tb:TE):TE:=fun Y H Q=>t Y H λ c H1=>if c=true then ta Y H1 Q else tb Y H1 Q
theorem V3 {c:Expr}(hc:PT X c tA) (ha:PE X a ta) (hb:PE X b tb):PE X (.IfExp c a b pos) (Xx tA ta tb):=by
 intro EM s Y H Q I h;refine wpAny_IfExp (zA (hc EM s Y H _ I h) λ d s1 ⟨H1,I1,q1⟩=>?_);cases d with
 | true=>exact ha EM s1 Y H1 Q I1 q1
 | false=>exact hb EM s1 Y H1 Q I1 q1
end
def zL (K:Ab) (H:Hp) (a:Addr) (xs:List V):Prop:=
 Rd H a (.lst xs)\/
  ∃ (o:Obj) (its:Ar) (n:Nat),K.lookup a=some o/\o.cls=.type "list"/\o.dict=none/\o.data=.seq its n/\its.size<=sizeLine/\Vals xs its.toList
def zR (K:Ab) (H:Hp) (a:Addr) (xs:List V):Prop:=
 Rd H a (.tup xs)\/
  ∃ (o:Obj) (its:Ar) (n:Nat),K.lookup a=some o/\o.cls=.type "tuple"/\o.data=.seq its n/\its.size<=sizeLine/\Vals xs its.toList
noncomputable def MF:Value->Option V
 | .none=>some .zo
 | .bool b=>some (.bl b)
 | .int i _=>some (.int i)
 | .str x _=>some (.str x)
 | .bytes b _=>some (.kq b)
 | .float b _=>some (.bz b)
 | .ref a=>some (.ref a)
 | .type n=>some (.ty n)
 | _=>none
theorem RelV.abs {x:V}{u:Value}(r:RelV x u):MF u=some x:=by
 cases x with
 | zo=>cases r;rfl
 | bl _=>cases r;rfl
 | ref _=>cases r;rfl
 | ty _=>cases r;rfl
 | _=>obtain⟨t,rfl⟩:=r;rfl
theorem RelV.inj {x y:V}{u:Value}(r:RelV x u) (q:RelV y u):x=y:=A8 (r.abs.symm.trans q.abs)
theorem Vals.inj:∀ {xs ys:List V}{us:Ae},Vals xs us->Vals ys us->xs=ys
 | _,_,_,.nil,.nil=>rfl
 | _,_,_,.cons r t,.cons r' t'=>by rw[r.inj r',Vals.inj t t']
section
variable {X:Cx}{EM:Ag}{Y:St}{H:Hp}{s:Shared}{a:Addr}{xs ys:List V}
theorem zL.of {K:Ab}(h:H a=some (.lst xs)):zL K H a xs:=.inl (.inl h)
theorem zR.of {K:Ab}(h:H a=some (.tup xs)):zR K H a xs:=.inl (.inl h)
theorem Inv.list (I:Inv X EM Y H s) (h:zL X.K H a xs):∃ its:List Value,Vals xs its/\PlainL s.heap a its.toArray/\xs.length<=sizeLine:=by
 rcases h with h | ⟨o,its,n,hk,hc,hd,hs,hz,r⟩
 .obtain⟨z,its,n,r,e⟩:=h.ok I.zv;exact⟨its,r,⟨_,n,e,rfl,rfl,rfl⟩,z⟩
 .refine⟨its.toList,r,⟨o,n,I.vx a o hk,hc,hd,by simpa using hs⟩,?_⟩;have e:=r.length;simp only[Bs] at e
  lia
theorem Inv.tuple (I:Inv X EM Y H s) (h:zR X.K H a xs):∃ its:List Value,Vals xs its/\IsTup s.heap a its.toArray/\xs.length<=sizeLine:=by
 rcases h with h | ⟨o,its,n,hk,hc,hs,hz,r⟩
 .obtain⟨z,its,r,p⟩:=h.ok I.zv;exact⟨its,r,p,z⟩
 .refine⟨its.toList,r,⟨o,I.vx a o hk,hc,n,by simpa using hs⟩,?_⟩;have e:=r.length;simp only[Bs] at e
  lia
theorem Inv.ia (I:Inv X EM Y H s) (h:zL X.K H a xs) (h':zL X.K H a ys):xs=ys:=by
 obtain⟨its,r,⟨o,n,e,_,_,d⟩,_⟩:=I.list h;obtain⟨AM,r',⟨o',n',e',_,_,d'⟩,_⟩:=I.list h';rw[e] at e';cases e';rw[d] at d'
 injection d' with d1 _
 have:its=AM:=by simpa using congrArg Array.toList d1
 subst this;exact r.inj r'
theorem Inv.jh (I:Inv X EM Y H s) (h:zR X.K H a xs) (h':zR X.K H a ys):xs=ys:=by
 obtain⟨its,r,⟨o,e,_,n,d⟩,_⟩:=I.tuple h;obtain⟨AM,r',⟨o',e',_,n',d'⟩,_⟩:=I.tuple h';rw[e] at e';cases e';rw[d] at d'
 injection d' with d1 _
 have:its=AM:=by simpa using congrArg Array.toList d1
 subst this;exact r.inj r'
end
abbrev Cx.uD (X:Cx) (E:Ad):Cx:={ X with xe:=E }
abbrev Cx.wX (X:Cx):Cx:=X.uD λ _ _=>False
theorem Cx.Ok.uD {X:Cx}(ok:X.Ok) (E:Ad):(X.uD E).Ok:=
 ⟨ok.mod,ok.kind,ok.glob,ok.blt,ok.above,ok.inj,ok.has,ok.nq,ok.hd,ok.frames,ok.m7,ok.iO,ok.bs,ok.rY,ok.oy,ok.oU,ok.uv,ok.qR⟩
theorem Cx.Ok.qu {X:Cx}{E:Ad}(ok:(X.uD E).Ok):X.Ok:=
 ⟨ok.mod,ok.kind,ok.glob,ok.blt,ok.above,ok.inj,ok.has,ok.nq,ok.hd,ok.frames,ok.m7,ok.iO,ok.bs,ok.rY,ok.oy,ok.oU,ok.uv,ok.qR⟩
section
variable {X:Cx}{EM:Ag}{Y:St}{H:Hp}{s:Shared}{E:Ad}
theorem Inv.uD (I:Inv X EM Y H s) (E:Ad):Inv (X.uD E) EM Y H s:=⟨I.ok.uD E,I.os,I.bare,I.base,I.loc,I.cell,I.free,I.uP,I.pin,I.zv,I.len⟩
theorem Inv.qu (I:Inv (X.uD E) EM Y H s):Inv X EM Y H s:=⟨I.ok.qu,I.os,I.bare,I.base,I.loc,I.cell,I.free,I.uP,I.pin,I.zv,I.len⟩
theorem SP.qu {D:Ends}{f:Flow}{s':Shared}(h:SP (X.uD E) EM D f s'):SP X EM D f s':=by
 cases f with
 | ret u=>obtain⟨v,Y',H',I,r,q⟩:=h;exact⟨v,Y',H',I.qu,r,q⟩
 | _=>obtain⟨Y',H',I,q⟩:=h;exact⟨Y',H',I.qu,q⟩
theorem xJ.wX {st:List Stmt}{t:TS}(h:xJ X.wX st t):xJ X st t:=λ EM s Y H D I hw=>
 K3 (h EM s Y H D (I.uD _) hw) (λ _ _ q=>q.qu) λ _ _ z=>False.elim z
end
section
variable {X:Cx}{st:Stmt}{ET:List Stmt}{t u:TS}{e:Expr}{te:TE}{pos:Pos}
def Xu:TS:=λ D Y H=>D.nx Y H
def Xn (t u:TS):TS:=λ D Y H=>t { D with nx:=u D } Y H
theorem WC:xJ X [] Xu:=λ _ _ Y H _ I h=>wpAny_execs_nil ⟨Y,H,I,h⟩
theorem WD (h1:PS X st t) (h2:xJ X ET u):xJ X (st::ET) (Xn t u):=by
 intro EM s Y H D I h;refine wpAny_execs_cons (zA (h1 EM s Y H { D with nx:=u D } I h) λ f s1 q=>?_);cases f with
 | next=>
  obtain⟨Y',H',I',q⟩:=q;exact h2 EM s1 Y' H' D I' q
 | ret v=>exact q
 | _=>exact q
theorem WB (h1:PS X st t):xJ X [st] t:=by
 intro EM s Y H D I h;refine wpAny_execs_cons (zA (h1 EM s Y H D I h) λ f s1 q=>?_);cases f with
 | next=>exact wpAny_execs_nil q
 | ret v=>exact q
 | _=>exact q
theorem Inv.quiet {EM:Ag}{Y:St}{H:Hp}{s:Shared}(I:Inv X EM Y H s):interactive X.env=false:=by simp[interactive,I.ok.kind]
def Xz (te:TE):TS:=λ D Y H=>te Y H λ _ H1=>D.nx Y H1
theorem WM (he:PE X e te) (hs:swapsWith e none pos.line X.env=pure false:=by rfl):PS X (.Expr e pos) (Xz te):=by
 intro EM s Y H D I h;exact wpAny_Expr_any (zA (he EM s Y H _ I h) λ v s1 ⟨x,H1,I1,r1,q1⟩=>⟨Y,H1,I1,q1⟩) I.quiet hs
def Xo (te:TE):TS:=λ D Y H=>te Y H D.rt
theorem WI (he:PE X e te):PS X (.Return (some e) pos) (Xo te):=by
 intro EM s Y H D I h;exact wpAny_Return_some (zA (he EM s Y H _ I h) λ v s1 ⟨x,H1,I1,r1,q1⟩=>⟨x,Y,H1,I1,r1,q1⟩)
def Xw (c:TT) (t u:TS):TS:=λ D Y H=>c Y H λ b H1=>if b=true then t D Y H1 else u D Y H1
theorem WJ {c:Expr}{a b:List Stmt}{tc:TT}(hc:PT X c tc) (ha:xJ X a t) (hb:xJ X b u):PS X (.If c a b pos) (Xw tc t u):=by
 intro EM s Y H D I h;refine wpAny_If (zA (hc EM s Y H _ I h) λ d s1 ⟨H1,I1,q1⟩=>?_);cases d with
 | true=>exact ha EM s1 Y H1 D I1 q1
 | false=>exact hb EM s1 Y H1 D I1 q1
end
abbrev TG:=V->St->Hp->(St->Hp->Prop)->Prop
abbrev tY:=List V->St->Hp->(St->Hp->Prop)->Prop
def PG (X:Cx) (target:Expr) (t:TG):Prop:=
 ∀ (EM:Ag) (s:Shared) (Y:St) (H:Hp) (v:V) (u:Value) (Q:St->Hp->Prop),Inv X EM Y H s->RelV v u->t v Y H Q->
  wpAny (model X.prog X.w) X.A (assign target X.env u) (λ _ s'=>∃ Y' H',Inv X EM Y' H' s'/\Q Y' H') X.xe s
def tf (X:Cx) (ts:List Expr) (t:tY):Prop:=
 ∀ (EM:Ag) (s:Shared) (Y:St) (H:Hp) (vs:List V) (us:Ae) (Q:St->Hp->Prop),Inv X EM Y H s->Vals vs us->t vs Y H Q->
  wpAny (model X.prog X.w) X.A (assignInOrder ((assignEach ts X.env).map (·.2)) us) (λ _ s'=>∃ Y' H',Inv X EM Y' H' s'/\Q Y' H') X.xe s
abbrev gw:=V->V->V->Hp->(Hp->Prop)->Prop
def aY (X:Cx) (t:gw):Prop:=
 ∀ (EM:Ag) (s:Shared) (Y:St) (H:Hp) (o i v:V) (ov iv u:Value) (Q:Hp->Prop),Inv X EM Y H s->RelV o ov->RelV i iv->RelV v u->t o i v H Q->
  wpAny (model X.prog X.w) X.A (setItem ov iv u) (λ _ s'=>∃ H',Inv X EM Y H' s'/\Q H') X.xe s
section
variable {X:Cx}{pos:Pos}
noncomputable def qQ (i:Nat):TG:=λ v Y H Q=>Q (Y.set i (some v)) H
theorem Vi {i:Nat}{x:Str}(hN:X.N.Nodup) (hi:X.N[i]?=some x) (hx:Loc X.env.scope x) (hf:X.fn x=true\/X.env.scope.names.lookup x=some .local:=by first | exact .inl rfl | exact .inr rfl | assumption):PG X (.Name x pos) (qQ i):=by
 intro EM s Y H v u Q I r h;exact wpAny_assign_Name (jr I hN hi hx r (λ s' I'=>⟨_,H,I',h⟩) hf)
noncomputable def OJ:tY:=λ vs Y H Q=>vs=[]/\Q Y H
noncomputable def OK (t:TG) (u:tY):tY:=λ vs Y H Q=>∃ v r,vs=v::r/\t v Y H fun Y' H'=>u r Y' H' Q
theorem Ve:tf X [] OJ:=by
 intro EM s Y H vs us Q I r h;obtain⟨e,h⟩:=h;subst e;cases r;exact assignInOrder_nil ⟨Y,H,I,h⟩
theorem Vf {e:Expr}{es:List Expr}{t:TG}{u:tY}(h1:PG X e t) (h2:tf X es u)
  (hs:(assignEach (e::es) X.env).map (·.2)=assign e X.env::(assignEach es X.env).map (·.2):=by rfl):tf X (e::es) (OK t u):=by
 intro EM s Y H vs us Q I r h;obtain⟨v,vr,e1,h⟩:=h;subst e1;cases r with
 | cons r rr=>
  rw[hs];refine assignInOrder_cons (zA (h1 EM s Y H _ _ _ I r h) λ _ s1 ⟨Y1,H1,I1,q1⟩=>?_);exact h2 EM s1 Y1 H1 _ _ Q I1 rr q1
noncomputable def bp (K:Ab) (n:Nat) (t:tY):TG:=λ v Y H Q=>∃ a xs,v=.ref a/\zR K H a xs/\xs.length=n/\t xs Y H Q
theorem Vg {es:List Expr}{k:Nat}{t:tY}{n:Nat}(hc:X.calm=true) (h:tf X es t)
  (hn:(assignEach es X.env).length=n:=by rfl) (AQ:(assignEach es X.env).findIdx? (·.1)=none:=by rfl):PG X (.Tuple es k pos) (bp X.K n t):=by
 intro EM s Y H v u Q I r hw;obtain⟨a,xs,e1,hq,hl,hw⟩:=hw;subst e1;cases r;obtain⟨its,rv,ht,hz⟩:=I.tuple hq;refine assign_Tuple_tuple (I.ok.hd hc) ht (by simp[hn,<- hl,rv.length]) AQ λ h' hx=>?_;have I1:Inv X EM Y H { s with heap:=h' }:=I.kept (t':=s.toks) λ b o e=>hx b o (Aw (Ap e)) e;exact h EM _ Y H xs _ Q I1 (by simpa using rv) hw
noncomputable def OI (to ti:TE) (t:gw):TG:=λ v Y H Q=>to Y H λ o H1=>ti Y H1 λ i H2=>t o i v H2 λ H3=>Q Y H3
theorem Vh {o i:Expr}{to ti:TE}{t:gw}(ho:PE X o to) (hi:PE X i ti) (hs:aY X t)
  (ha:∀ v,assign (.Subscript o i pos) X.env v=(do
   let ov <- holding [v] (eval o X.env)
   let iv <- holding [v,ov] (eval i X.env)
   standAt pos
   holding [v,ov,iv] (setItem ov iv v)
   release [v,ov,iv] []):=by intro _;rfl):PG X (.Subscript o i pos) (OI to ti t):=by
 intro EM s Y H v u Q I r h;rw[ha];refine JY (K0 (zA (ho EM s Y H _ I h) λ ov s1 ⟨x,H1,I1,r1,q1⟩=>?_));refine JY (K0 (zA (hi EM s1 Y H1 _ I1 q1) λ iv s2 ⟨y,H2,I2,r2,q2⟩=>?_));refine JY (wpAny_standAt (JY (K0 (zA (hs EM s2 Y H2 x y v ov iv u _ I2 r1 r2 r q2) λ _ s3 ⟨H3,I3,q3⟩=>?_))));exact wpAny_release ⟨Y,H3,I3,q3⟩
def pU (te:TE) (g:TG):TS:=λ D Y H=>te Y H λ x H1=>g x Y H1 D.nx
theorem eY {tg e:Expr}{te:TE}{g:TG}(he:PE X e te) (hg:PG X tg g) (hs:swapsWithSole [tg] e pos.line X.env=pure false:=by rfl) (hw:swappedStores [tg] e X.env=pure none:=by rfl)
  (h1:(assignEach [tg] X.env).map (·.2)=[assign tg X.env]:=by rfl):PS X (.Assign [tg] e pos) (pU te g):=by
 intro EM s Y H D I h;refine wpAny_Assign_stores (zA (he EM s Y H _ I h) λ v s1 ⟨x,H1,I1,r1,q1⟩=>?_) hs hw;rw[h1];exact zA (hg EM s1 Y H1 x v _ I1 r1 q1) λ _ s2 q=>q
theorem WH {i:Nat}{x:Str}{e:Expr}{te:TE}{pos':Pos}(hN:X.N.Nodup) (hi:X.N[i]?=some x) (hx:Loc X.env.scope x) (he:PE X e te) (hs:swapsWith e (some (.Name x pos')) pos.line X.env=pure false:=by rfl) (hf:X.fn x=true\/X.env.scope.names.lookup x=some .local:=by first | exact .inl rfl | exact .inr rfl | assumption):
  PS X (.Assign [.Name x pos'] e pos) (pU te (qQ i)):=by
 intro EM s Y H D I h;refine wpAny_Assign_Name (zA (he EM s Y H _ I h) λ v s1 ⟨y,H1,I1,r1,q1⟩=>?_) hs;exact jr I1 hN hi hx r1 (λ s2 I2=>⟨_,H1,I2,q1⟩) hf
def Xj (c:TT) (tb:TS):TS:=λ D Y H=>∃ W:Nat->St->Hp->Prop,(∃ m,W m Y H)/\∀ m Y H,W m Y H->
 c Y H λ b H1=>if b=true then ∃ N:St->Hp->Prop,(∀ Y' H',N Y' H'->∃ m',m'<m/\W m' Y' H')/\tb { D with nx:=N,ct:=N,bk:=D.nx } Y H1 else D.nx Y H1
theorem WE {c:Expr}{body:List Stmt}{tc:TT}{tb:TS}(hp:PassesOwn (model X.prog X.w) X.A X.env X.xe) (hc:PT X c tc) (hb:xJ X body tb):PS X (.While c body [] pos) (Xj tc tb):=by
 intro EM s Y H D I h;obtain⟨W,⟨m0,w0⟩,turn⟩:=h;refine wpAny_While (codeAny_whileLoop (λ n s'=>∃ Y' H',Inv X EM Y' H' s'/\W n Y' H') ?_ m0 ⟨Y,H,I,w0⟩);rintro n s1 ⟨Y1,H1,I1,w1⟩;refine Lm hp (zA (hc EM s1 Y1 H1 _ I1 (turn n Y1 H1 w1)) λ b s2 ⟨H2,I2,q2⟩=>?_);cases b with
 | true=>
  obtain⟨N,hN,q2⟩:=q2;rw[if_pos rfl];refine Lm hp (zA (hb EM s2 Y1 H2 _ I2 q2) λ f s3 q3=>?_);cases f with
  | next=>
   obtain⟨Y3,H3,I3,n3⟩:=q3;obtain⟨m',hm,w3⟩:=hN Y3 H3 n3;exact⟨m',hm,Y3,H3,I3,w3⟩
  | cont=>
   obtain⟨Y3,H3,I3,n3⟩:=q3;obtain⟨m',hm,w3⟩:=hN Y3 H3 n3;exact⟨m',hm,Y3,H3,I3,w3⟩
  | brk=>exact q3
  | ret v=>exact q3
 | false=>
  rw[if_neg BP];exact wpAny_execs_nil ⟨Y1,H2,I2,q2⟩
end
structure It where
 go:Nat->Hp->Prop
 qt:Nat->Hp->V->Hp->Prop
 stop:Nat->Hp->Prop
def vH (X:Cx) (EM:Ag) (H:Hp) (b:Addr):Prop:=
 H b=none/\b≠X.env.locals/\b∉X.fs/\(b∈X.ex\/X.s₀.heap.objs.size<=b)/\(∀ x c,X.env.cells.lookup x=some c->c≠b)/\∀ p∈X.pn++EM,p.1≠b
theorem Inv.oP {X:Cx}{EM:Ag}{Y:St}{H H':Hp}{s:Shared}{b:Addr}(I:Inv X EM Y H s) (hb:s.heap.objs.size<=b) (hn:H' b=none):vH X EM H' b:=by
 refine⟨hn,B2 (Bf I.lt hb),I.dF hb,.inr (Br I.sz hb),λ x c e z=>?_,λ p hp z=>?_⟩
 .obtain⟨v,q⟩:=I.cell x c e;exact absurd (Bf q.lt (by rw[z];exact hb)) (Ca _)
 .exact absurd (Bf (Ap (I.pin p hp).1) (by rw[z];exact hb)) (Ca _)
structure Turn (P:Program) (w:World) (K:Ab) (tg:Expr) (J:It) (fp:List Addr) (it:Addr) (tn:Nat->Heap->Prop):Prop where
 mem:it∈fp
 obj:∀ i h,tn i h->∀ b∈fp,∃ o,h.get? b=some o/\∀ v,o.data≠.cell v
 keep:∀ i h h',tn i h->(∀ b∈fp,∀ o,h.get? b=some o->h'.get? b=some o)->tn i h'
 item:∀ (X:Cx),X.prog=P->X.w=w->X.K=K->X.calm=true->∀ (i:Nat) (EM:Ag) (s:Shared) (Y:St) (H:Hp) (E:Ad),Inv X EM Y H s->(∀ b∈fp,vH X EM H b)->tn i s.heap->J.go i H->
  wpAny (model P w) X.A (pyNext (.ref it)) (λ r s1=>∃ u,r=some u/\
   wpAny (model P w) X.A (letOwnedTupleGo tg (.ref it) u) (λ _ s2=>∃ x H',Inv X EM Y H' s2/\RelV x u/\J.qt i H x H'/\tn (i+1) s2.heap/\∀ b∈fp,H' b=none) E s1) E s
 done:∀ (X:Cx),X.prog=P->X.w=w->X.K=K->X.calm=true->∀ (i:Nat) (EM:Ag) (s:Shared) (Y:St) (H:Hp) (E:Ad),Inv X EM Y H s->(∀ b∈fp,vH X EM H b)->tn i s.heap->J.stop i H->
  wpAny (model P w) X.A (pyNext (.ref it)) (λ r s1=>r=none/\Inv X EM Y H s1) E s
 self:∀ (A:Around) (i:Nat) (s:Shared) (Q:Ad) (E:Ad),tn i s.heap->Q (.ref it) s->wpAny (model P w) A (pyIter (.ref it)) Q E s
abbrev TI:=St->Hp->(It->Hp->Prop)->Prop
def gy (X:Cx) (EM:Ag) (Y:St) (tg:Expr) (R:It->Hp->Prop) (JI:Value) (s2:Shared):Prop:=
 ∃ (it:Addr) (fp:List Addr) (tn:Nat->Heap->Prop) (J:It) (H':Hp),JI=.ref it/\Inv X EM Y H' s2/\Turn X.prog X.w X.K tg J fp it tn/\tn 0 s2.heap/\(∀ b∈fp,vH X EM H' b)/\R J H'
def PI (X:Cx) (tg iter:Expr) (wi:TI):Prop:=
 ∀ (EM:Ag) (s:Shared) (Y:St) (H:Hp) (R:It->Hp->Prop),Inv X EM Y H s->wi Y H R->
  wpAny (model X.prog X.w) X.A (eval iter X.env) (λ v s1=>wpAny (model X.prog X.w) X.A (pyIter v) (gy X EM Y tg R) X.xe s1) X.xe s
theorem l5 {M:Model}{A:Around}{E:Ad}{s:Shared}{tg:Expr}{it:Addr}{u:Value}{o:Obj}{n:String}{vs:Ar}{Q:Unit->Shared->Prop}(ho:s.heap.get? it=some o) (hc:o.cls=.type n) (hd:o.data=.fields vs)
  (hn:["enumerate","zip","dict_itemiterator","dict_reverseitemiterator","odict_iterator","itertools.zip_longest","itertools.pairwise"].contains n=false) (hQ:Q () s):wpAny M A (letOwnedTupleGo tg (.ref it) u) Q E s:=by
 unfold letOwnedTupleGo;cases tg <;> first
  | exact Ac hQ
  | (cases u <;> first
    | exact Ac hQ
    | (refine JY (wpAny_load ho ?_)
       rw[hc,hd];show wpAny M A (if (["enumerate","zip","dict_itemiterator","dict_reverseitemiterator","odict_iterator","itertools.zip_longest","itertools.pairwise"].contains n&&vs[0]? == some (rawInt _))=true then _ else _) Q E s;rw[if_neg (by intro h;rw[hn,Bool.false_and] at h;cases h)];exact Ac hQ))
def Ze (K:Ab) (a:Addr):It:=
 ⟨λ i H=>∃ xs x,zL K H a xs/\xs[i]?=some x,λ i H x H'=>H'=H/\∀ xs,zL K H a xs->xs[i]?=some x,λ i H=>∃ xs,zL K H a xs/\xs.length<=i⟩
def Zd (K:Ab) (a:Addr):It:=
 ⟨λ i H=>∃ xs x,zR K H a xs/\xs[i]?=some x,λ i H x H'=>H'=H/\∀ xs,zR K H a xs->xs[i]?=some x,λ i H=>∃ xs,zR K H a xs/\xs.length<=i⟩
def kN (lo:Int) (n:Nat):It:=⟨λ i _=>i<n,λ i H x H'=>H'=H/\x=.int (lo+i),λ i _=>n<=i⟩
theorem YZ {P:Program}{w:World}{K:Ab}{tg:Expr}(a it:Addr):Turn P w K tg (Ze K a) [it] it (λ i h=>h.IsListIter it a i) where
 mem:=by simp
 obj:=λ i h st b hb=>by
  have e:b=it:=by simpa using hb
  subst e;obtain⟨o,e,c,d⟩:=st;exact⟨o,e,λ v z=>by rw[d] at z;cases z⟩
 keep:=λ i h h' st k=>st.at λ o e=>k it (by simp) o e
 item:=by
  intro X hP hw hK hc i EM s Y H E I hf st hg;subst hP hw hK;obtain⟨xs,x,hq,hx⟩:=hg;obtain⟨its,rv,p,hz⟩:=I.list hq;obtain⟨u,hu,ru⟩:=rv.get hx;obtain⟨f0,f1,f2,f3,f4,f5⟩:=hf it (by simp);refine wpAny_pyNext_list_item st p.isList (x:=u) (by simpa using hu) λ h' GJ sb=>?_;have I1:Inv X EM Y H { s with heap:=h' }:=I.turned (t':=s.toks) (λ b o hb e=>(sb.2 b hb).trans e) f0 f1 f3 f4 f5;obtain⟨o,e,c,d⟩:=id GJ;exact⟨u,rfl,l5 (s:={ s with heap:=h' }) e c d (by decide) ⟨x,H,I1,ru,⟨rfl,λ ys hy=>by rw[I.ia hy hq];exact hx⟩,GJ,λ b hb=>(hf b hb).1⟩⟩
 done:=by
  intro X hP hw hK hc i EM s Y H E I hf st hg;subst hP hw hK;obtain⟨xs,hq,hx⟩:=hg;obtain⟨its,rv,p,hz⟩:=I.list hq;obtain⟨f0,f1,f2,f3,f4,f5⟩:=hf it (by simp);have hl:=rv.length;exact wpAny_pyNext_list_end (I.ok.hd hc) st p.isList (by simp;lia) λ h' eb=>⟨rfl,I.turned (t':=s.toks) (λ b o hb e=>eb b o hb e) f0 f1 f3 f4 f5⟩
 self:=λ _ _ _ _ _ st h=>wpAny_pyIter_listiter st h
theorem YW {P:Program}{w:World}{K:Ab}{tg:Expr}(a it:Addr):Turn P w K tg (Zd K a) [it] it (λ i h=>h.IsTupleIter it a i) where
 mem:=by simp
 obj:=λ i h st b hb=>by
  have e:b=it:=by simpa using hb
  subst e;obtain⟨o,e,c,d⟩:=st;exact⟨o,e,λ v z=>by rw[d] at z;cases z⟩
 keep:=λ i h h' st k=>st.at λ o e=>k it (by simp) o e
 item:=by
  intro X hP hw hK hc i EM s Y H E I hf st hg;subst hP hw hK;obtain⟨xs,x,hq,hx⟩:=hg;obtain⟨its,rv,p,hz⟩:=I.tuple hq;obtain⟨u,hu,ru⟩:=rv.get hx;obtain⟨f0,f1,f2,f3,f4,f5⟩:=hf it (by simp);refine wpAny_pyNext_tuple_item st (show s.heap.IsTuple a its.toArray from p) (x:=u) (by simpa using hu) λ h' GJ sb=>?_;have I1:Inv X EM Y H { s with heap:=h' }:=I.turned (t':=s.toks) (λ b o hb e=>(sb.2 b hb).trans e) f0 f1 f3 f4 f5;obtain⟨o,e,c,d⟩:=id GJ;exact⟨u,rfl,l5 (s:={ s with heap:=h' }) e c d (by decide) ⟨x,H,I1,ru,⟨rfl,λ ys hy=>by rw[I.jh hy hq];exact hx⟩,GJ,λ b hb=>(hf b hb).1⟩⟩
 done:=by
  intro X hP hw hK hc i EM s Y H E I hf st hg;subst hP hw hK;obtain⟨xs,hq,hx⟩:=hg;obtain⟨its,rv,p,hz⟩:=I.tuple hq;obtain⟨f0,f1,f2,f3,f4,f5⟩:=hf it (by simp);have hl:=rv.length;exact wpAny_pyNext_tuple_end (I.ok.hd hc) st (show s.heap.IsTuple a its.toArray from p) (by simp;lia) λ h' eb=>⟨rfl,I.turned (t':=s.toks) (λ b o hb e=>eb b o hb e) f0 f1 f3 f4 f5⟩
 self:=λ _ _ _ _ _ st h=>wpAny_pyIter_tupleiter st h
theorem YY {P:Program}{w:World}{K:Ab}{tg:Expr}(it:Addr) (lo:Int) (n:Nat):Turn P w K tg (kN lo n) [it] it (λ i h=>IsRangeIter h it (lo+(i:Nat)*1) ((n:Int)-(i:Nat)) 1) where
 mem:=by simp
 obj:=λ i h st b hb=>by
  have e:b=it:=by simpa using hb
  subst e;exact⟨_,st,λ v z=>by
   have z':Data.fields _=Data.cell v:=z;cases z'⟩
 keep:=λ i h h' st k=>k it (by simp) _ st
 item:=by
  intro X hP hw hK hc i EM s Y H E I hf st hg;subst hP hw hK;obtain⟨f0,f1,f2,f3,f4,f5⟩:=hf it (by simp);have W:=Walks.range (prog:=X.prog) (w:=X.w) (I.ok.hd hc) it lo 1 n;refine W.item i s _ _ hg st λ v h' tk hv GJ kk=>?_;obtain⟨t,rfl⟩:=hv;have I1:Inv X EM Y H { s with heap:=h',toks:=tk }:=I.turned (λ b o hb e=>kk b o (by simpa using hb) e) f0 f1 f3 f4 f5;refine⟨_,rfl,l5 (s:={ s with heap:=h',toks:=tk }) (n:="range_iterator") GJ rfl rfl (by decide) ⟨.int (lo+i),H,I1,⟨t,?_⟩,⟨rfl,rfl⟩,GJ,λ b hb=>(hf b hb).1⟩⟩;rw[Int.mul_one]
 done:=by
  intro X hP hw hK hc i EM s Y H E I hf st hg;subst hP hw hK;obtain⟨f0,f1,f2,f3,f4,f5⟩:=hf it (by simp);exact wpAny_pyNext_range_end (I.ok.hd hc) st (by have:n<=i:=hg;lia) λ h' eb=>⟨rfl,I.turned (t':=s.toks) (λ b o hb e=>eb b o hb e) f0 f1 f3 f4 f5⟩
 self:=λ _ _ _ _ _ st h=>wpAny_pyIter_rangeiter st h
section
variable {X:Cx}{tg:Expr}
theorem Wr {EM:Ag}{Y:St}{H:Hp}{s:Shared}{R:It->Hp->Prop}{E:Ad}{lo hi:Int}{t u v:Tok}{tk:Nat}(I:Inv X EM Y H s) (h1:-(2 ^ 62)<=lo) (h2:lo<2 ^ 62) (h3:-(2 ^ 62)<=hi) (h4:hi<2 ^ 62)
  (q:R (kN lo (hi-lo).toNat) H):wpAny (model X.prog X.w) X.A (pyIter (.ref s.heap.objs.size)) (gy X EM Y tg R) E { s with heap:=s.heap.push { cls:=.type "range",data:=.fields #[.int lo t,.int hi u,.int 1 v] },toks:=tk }:=by
 refine wpAny_pyIter_range (IsRange.new ..) (small_one h1 h2 h3 h4) ?_;have I1:Inv X EM Y H { s with heap:=s.heap.push { cls:=.type "range",data:=.fields #[.int lo t,.int hi u,.int 1 v] },toks:=tk }:=I.kept λ b o e=>KY _ e;refine⟨(s.heap.push { cls:=.type "range",data:=.fields #[.int lo t,.int hi u,.int 1 v] }).objs.size,[(s.heap.push { cls:=.type "range",data:=.fields #[.int lo t,.int hi u,.int 1 v] }).objs.size],_,_,H,rfl,
  I1.kept (t':=tk) λ b o e=>KY _ e,YY _ lo (hi-lo).toNat,?_,λ b hb=>?_,q⟩
 .have e1:lo+((0:Nat):Int)*1=lo:=by simp
  have e2:(((hi-lo).toNat:Nat):Int)-((0:Nat):Int)=Builtin.Range.rangeSize lo hi 1:=by rw[rangeSize_one];split <;> lia
  show IsRangeIter _ _ (lo+((0:Nat):Int)*1) ((((hi-lo).toNat:Nat):Int)-((0:Nat):Int)) 1;rw[e1,e2];exact AJ _ rfl
 .have e:b=(s.heap.push { cls:=.type "range",data:=.fields #[.int lo t,.int hi u,.int 1 v] }).objs.size:=by simpa using hb
  subst e;exact I1.oP (Af _) (I1.zv.fresh (Af _))
def cX (ta:TA):TI:=fun Y H R=>ta Y H λ vs H1=>∃ j:Int,vs=[.int j]/\-(2 ^ 62)<=j/\j<2 ^ 62/\R (kN 0 j.toNat) H1
theorem Vc {a:Expr}{ta:TA}{p pos:Pos}(hg:Gl X "range") (hm:X.mg "range"=none) (ha:PA X [a] ta) (hs:starEach [a] X.env=[(false,eval a X.env)]:=by rfl):PI X tg (.Call (.Name "range" p) [a] [] pos) (cX ta):=by
 intro EM s Y H R I h;refine Call_ (rO I hg hm boot_range (PyProof.Rows.callWith_type1 (zA (ha pos EM s Y H _ I h) λ us s1 ⟨vs,H1,I1,r1,q1⟩=>?_) hs rfl));obtain⟨j,e,q1,q2,q⟩:=q1;subst e;cases r1 with
 | cons r rr=>
  cases rr;obtain⟨t,rfl⟩:=r;exact call_range_1 (Wr I1 (by lia) (by lia) q1 q2 (by simpa using q))
def Xy (wi:TI) (g:TG) (tb:TS):TS:=λ D Y H=>wi Y H λ J H1=>∃ W:Nat->Nat->St->Hp->Prop,(∃ m,W 0 m Y H1)/\∀ i m Y H,W i m Y H->
 (J.stop i H/\D.nx Y H)\/(J.go i H/\∃ N:St->Hp->Prop,(∀ Y' H',N Y' H'->∃ m',m'<m/\W (i+1) m' Y' H')/\∀ x H',J.qt i H x H'->g x Y H' fun Y2 H2=>tb { D with nx:=N,ct:=N,bk:=D.nx } Y2 H2)
noncomputable def oo (fp:List Addr) (h:Heap):Ag:=fp.filterMap λ b=>(h.get? b).map λ o=>(b,o)
theorem mV {fp:List Addr}{h:Heap}{b:Addr}{o:Obj}(hb:b∈fp) (e:h.get? b=some o):(b,o)∈oo fp h:=Eb.mpr ⟨b,hb,by rw[e];rfl⟩
theorem QE {fp:List Addr}{h:Heap}{p:Addr×Obj}(hp:p∈oo fp h):p.1∈fp/\h.get? p.1=some p.2:=by
 obtain⟨b,hb,e⟩:=Eb.mp hp;cases q:h.get? b with
 | none=>rw[q] at e;cases e
 | some o=>
  rw[q] at e;have e':(b,o)=p:=A8 e;subst e';exact⟨hb,q⟩
theorem Inv.pinned {EM:Ag}{Y:St}{H:Hp}{s:Shared}{fp:List Addr}(I:Inv X EM Y H s) (hf:∀ b∈fp,vH X EM H b) (ho:∀ b∈fp,∃ o,s.heap.get? b=some o/\∀ v,o.data≠.cell v):Inv X (EM++oo fp s.heap) Y H s:=
 I.jG λ p hp=>(A2.mp hp).elim (λ z=>I.pin p (A3 _ z)) λ z=>by
  obtain⟨hb,e⟩:=QE z;obtain⟨f0,f1,f2,_⟩:=hf p.1 hb;obtain⟨o,e',d⟩:=ho p.1 hb;rw[e] at e';cases e';exact⟨e,f0,f1,f2,d⟩
theorem Inv.pR {EM pl:Ag}{Y:St}{H:Hp}{s:Shared}(I:Inv X (EM++pl) Y H s):Inv X EM Y H s:=I.jG λ p hp=>I.pin p (A3 _ (CD _ hp))
theorem WK {iter:Expr}{body:List Stmt}{wi:TI}{g:TG}{tb:TS}{pos:Pos}(hp:PassesOwn (model X.prog X.w) X.A X.env X.xe) (hc:X.calm=true) (hi:PI X tg iter wi) (hg:PG X tg g) (hb:xJ X body tb)
  (hs:∀ x,foldedSetIterable iter X.env x=pure x:=by intro _;rfl):PS X (.For tg iter body [] pos) (Xy wi g tb):=by
 intro EM s Y H D I h;refine wpAny_For (zA (hi EM s Y H _ I h) λ v s1 h1=>zA h1 λ JI s2 h2=>?_) hs;obtain⟨it,fp,tn,J,H2,e,I2,T,IU,f2,W,⟨m0,w0⟩,turn⟩:=h2;subst e;have GS:∀ {H':Hp},(∀ b∈fp,H' b=none)->∀ b∈fp,vH X EM H' b:=λ hn b hb=>⟨hn b hb,(f2 b hb).2⟩;refine codeAny_forLoop_any (λ n s'=>∃ i Y' H',Inv X EM Y' H' s'/\tn i s'.heap/\(∀ b∈fp,H' b=none)/\W i n Y' H') ?_ m0 ⟨0,Y,H2,I2,IU,λ b hb=>(f2 b hb).1,w0⟩;rintro n s3 ⟨i,Y3,H3,I3,IT,Js,w3⟩;rcases turn i n Y3 H3 w3 with ⟨stop,qn⟩ | ⟨go,N,hN,step⟩
 .refine Lm hp (zA (T.done X rfl rfl rfl hc i EM s3 Y3 H3 X.xe I3 (GS Js) IT stop) λ r s4 ⟨hr,I4⟩=>?_);subst hr;exact wpAny_execs_nil ⟨Y3,H3,I4,qn⟩
 .refine Lm hp (zA (T.item X rfl rfl rfl hc i EM s3 Y3 H3 X.xe I3 (GS Js) IT go) λ r s4 ⟨u,hr,h4⟩=>?_);subst hr;refine Lm hp (zA h4 λ _ s5 ⟨x,H5,I5,r5,y5,Ih,KI⟩=>?_);have KW:=I5.pinned (GS KI) (T.obj _ _ Ih);refine Lm hp (zA (hg _ s5 Y3 H5 x u _ KW r5 (step x H5 y5)) λ _ s6 ⟨Y6,H6,I6,q6⟩=>?_);refine Lm hp (zA (hb _ s6 Y6 H6 _ I6 q6) λ f s7 q7=>?_);have again:∀ {Y7:St}{H7:Hp},Inv X (EM++oo fp s5.heap) Y7 H7 s7->N Y7 H7->∃ m,m<n/\∃ i Y' H',Inv X EM Y' H' s7/\tn i s7.heap/\(∀ b∈fp,H' b=none)/\W i m Y' H':=λ{Y7 H7} I7 n7=>by
   obtain⟨m',hm,w7⟩:=hN Y7 H7 n7;refine⟨m',hm,i+1,Y7,H7,I7.pR,T.keep _ _ _ Ih λ b hb o e=>(I7.pin (b,o) (A3 _ (A3 _ (mV hb e)))).1,λ b hb=>?_,w7⟩;obtain⟨o,e,d⟩:=T.obj _ _ Ih b hb;exact (I7.pin (b,o) (A3 _ (A3 _ (mV hb e)))).2.1
  cases f with
  | brk=>obtain⟨Y7,H7,I7,q7⟩:=q7;exact⟨Y7,H7,I7.pR,q7⟩
  | ret v=>obtain⟨x7,Y7,H7,I7,r7,q7⟩:=q7;exact⟨x7,Y7,H7,I7.pR,r7,q7⟩
  | _=>obtain⟨Y7,H7,I7,n7⟩:=q7;exact again I7 n7
end
abbrev R2:=V->V->Hp->VK->Prop
def zV (X:Cx) (f:Value->Value->Sem Value) (r:R2):Prop:=
 ∀ (EM:Ag) (s:Shared) (Y:St) (H:Hp) (x y:V) (v u:Value) (Q:VK),Inv X EM Y H s->RelV x v->RelV y u->r x y H Q->
  wpAny (model X.prog X.w) X.A (f v u) (EP X EM Y Q) X.xe s
def gs (X:Cx) (f:Value->Sem Value) (r:V->Hp->VK->Prop):Prop:=
 ∀ (EM:Ag) (s:Shared) (Y:St) (H:Hp) (x:V) (v:Value) (Q:VK),Inv X EM Y H s->RelV x v->r x H Q->
  wpAny (model X.prog X.w) X.A (f v) (EP X EM Y Q) X.xe s
def yy (X:Cx) (f:Value) (r:List V->Hp->VK->Prop):Prop:=
 ∀ (EM:Ag) (s:Shared) (Y:St) (H:Hp) (xs:List V) (us:Ae) (Q:VK),Inv X EM Y H s->Vals xs us->r xs H Q->
  wpAny (model X.prog X.w) X.A (call f us) (EP X EM Y Q) X.xe s
def MG (X:Cx) (r:V->Hp->(Bool->Hp->Prop)->Prop):Prop:=
 ∀ (EM:Ag) (s:Shared) (Y:St) (H:Hp) (x:V) (v:Value) (Q:Bool->Hp->Prop),Inv X EM Y H s->RelV x v->r x H Q->
  wpAny (model X.prog X.w) X.A (truthy v) (TP X EM Y Q) X.xe s
def pT (r:R2) (ta tb:TE):TE:=fun Y H Q=>ta Y H λ x H1=>tb Y H1 λ y H2=>r x y H2 Q
def Xk (r:V->Hp->VK->Prop) (ta:TE):TE:=fun Y H Q=>ta Y H λ x H1=>r x H1 Q
def rI (C:Int->Int->Prop) (g:Int->Int->V):R2:=λ x y H Q=>∃ i j,x=.int i/\y=.int j/\C i j/\Q (g i j) H
def wH (g:Int->Int->V):R2:=λ x y H Q=>∃ i j,x=.int i/\y=.int j/\Q (g i j) H
def rU (g:Int->V):V->Hp->VK->Prop:=λ x H Q=>∃ i,x=.int i/\Q (g i) H
section
variable {X:Cx}{a b:Expr}{ta tb:TE}{pos:Pos}
theorem hX (ha:PE X a ta) (hb:PE X b tb) {EM:Ag}{s:Shared}{Y:St}{H:Hp}{R:V->V->Hp->Prop}(I:Inv X EM Y H s)
  (h:ta Y H λ x H1=>tb Y H1 λ y H2=>R x y H2) {Q:Ad}{f:Value->Value->Sem Value}
  (hf:∀ v u s2 x y H2,Inv X EM Y H2 s2->RelV x v->RelV y u->R x y H2->wpAny (model X.prog X.w) X.A (f v u) Q X.xe s2):
  wpAny (model X.prog X.w) X.A (eval a X.env) (λ v s₁=>wpAny (model X.prog X.w) X.A (eval b X.env) (λ u s₂=>wpAny (model X.prog X.w) X.A (f v u) Q X.xe s₂) X.xe s₁) X.xe s:=by
 refine zA (ha EM s Y H _ I h) λ v s1 ⟨x,H1,I1,r1,q1⟩=>?_;refine zA (hb EM s1 Y H1 _ I1 q1) λ u s2 ⟨y,H2,I2,r2,q2⟩=>?_;exact hf v u s2 x y H2 I2 r1 r2 q2
theorem Vu {op:Operator}{r:R2}(ho:zV X (binaryOp op) r) (ha:PE X a ta) (hb:PE X b tb):PE X (.BinOp a op b pos) (pT r ta tb):=by
 intro EM s Y H Q I h;exact wpAny_BinOp (hX ha hb I h λ v u s2 x y H2 I2 rx ry q=>ho EM s2 Y H2 x y v u Q I2 rx ry q)
theorem Vq {op:UnaryOp}{r:V->Hp->VK->Prop}(ho:gs X (unaryOp op) r) (ha:PE X a ta):PE X (.UnaryOp op a pos) (Xk r ta):=by
 intro EM s Y H Q I h;exact UnaryOp_ (zA (ha EM s Y H _ I h) λ v s1 ⟨x,H1,I1,r1,q1⟩=>ho EM s1 Y H1 x v Q I1 r1 q1)
theorem qE {f:Value->Value->Sem Value}{C:Int->Int->Prop}{g:Int->Int->Int}
  (rule:∀ (i j:Int) (t u:Tok) (s:Shared) (Q:Ad) (E:Ad),C i j->Q (.int (g i j) s.toks) { s with toks:=s.toks+1 }->wpAny (model X.prog X.w) X.A (f (.int i t) (.int j u)) Q E s):
  zV X f (rI C λ i j=>.int (g i j)):=by
 intro EM s Y H x y v u Q I rx ry h;obtain⟨i,j,rfl,rfl,hc,q⟩:=h;obtain⟨t,rfl⟩:=rx;obtain⟨t',rfl⟩:=ry;exact rule i j t t' s _ _ hc ⟨.int (g i j),H,I.tok _,⟨_,rfl⟩,q⟩
theorem dw {f:Value->Value->Sem Value}{g:Int->Int->Int}
  (rule:∀ (i j:Int) (t u:Tok) (s:Shared) (Q:Ad) (E:Ad),Q (.int (g i j) s.toks) { s with toks:=s.toks+1 }->wpAny (model X.prog X.w) X.A (f (.int i t) (.int j u)) Q E s):
  zV X f (wH λ i j=>.int (g i j)):=by
 intro EM s Y H x y v u Q I rx ry h;obtain⟨i,j,rfl,rfl,q⟩:=h;obtain⟨t,rfl⟩:=rx;obtain⟨t',rfl⟩:=ry;exact rule i j t t' s _ _ ⟨.int (g i j),H,I.tok _,⟨_,rfl⟩,q⟩
theorem mS {f:Value->Value->Sem Value}{g:Int->Int->Bool}
  (rule:∀ (i j:Int) (t u:Tok) (s:Shared) (Q:Ad) (E:Ad),Q (.bool (g i j)) s->wpAny (model X.prog X.w) X.A (f (.int i t) (.int j u)) Q E s):
  zV X f (wH λ i j=>.bl (g i j)):=by
 intro EM s Y H x y v u Q I rx ry h;obtain⟨i,j,rfl,rfl,q⟩:=h;obtain⟨t,rfl⟩:=rx;obtain⟨t',rfl⟩:=ry;exact rule i j t t' s _ _ ⟨.bl (g i j),H,I,rfl,q⟩
def xA (i j:Int):Prop:=0<j/\j<1073741824
def rC (i j:Int):Prop:=0<=j/\j<=1000000/\i.natAbs<2 ^ 64
def vL (i j:Int):Prop:=(-(2 ^ 64)<i/\i<2 ^ 64)\/(-(2 ^ 64)<j/\j<2 ^ 64)
theorem vL.ok {i j:Int}(h:vL i j):IntMulOk i j:=by
 rcases h with ⟨h1,h2⟩ | ⟨h1,h2⟩
 .exact .of_left (intBits_le_64 h1 h2)
 .exact .of_right (intBits_le_64 h1 h2)
theorem Sk:zV X (binaryOp .Add) (wH λ i j=>.int (i+j)):=dw λ _ _ _ _ _ _ _ q=>add_int q
theorem TC:zV X (binaryOp .Sub) (wH λ i j=>.int (i-j)):=dw λ _ _ _ _ _ _ _ q=>sub_int q
theorem TU:zV X (binaryOp .Mult) (rI vL λ i j=>.int (i*j)):=qE λ _ _ _ _ _ _ _ hc q=>mul_int q hc.ok
theorem Sf:zV X (binaryOp .FloorDiv) (rI xA λ i j=>.int (i/j)):=qE λ i j _ _ _ _ _ hc q=>by
 have h1:(0:Int)<j:=hc.1;have h2:j<1073741824:=hc.2;exact floordiv_int (by lia) (by rw[Int.fdiv_eq_ediv_of_nonneg i (by lia)];exact q) (.inl (PyProof.noPylong_small (by lia)))
theorem TV:zV X (binaryOp .Mod) (rI (λ _ j=>0<j) λ i j=>.int (i%j)):=qE λ i j _ _ _ _ _ hc q=>by
 have h1:(0:Int)<j:=hc;exact mod_int' (by lia) (by rw[Int.fmod_eq_emod_of_nonneg i (by lia)];exact q)
theorem TF:zV X (binaryOp .Pow) (rI rC λ i j=>.int (i ^ j.toNat)):=qE λ _ _ _ _ _ _ _ hc q=>pow_int_small hc.1 hc.2.1 hc.2.2 q
theorem YR {f:Value->Sem Value}{g:Int->Int}
  (rule:∀ (i:Int) (t:Tok) (s:Shared) (Q:Ad) (E:Ad),Q (.int (g i) s.toks) { s with toks:=s.toks+1 }->wpAny (model X.prog X.w) X.A (f (.int i t)) Q E s):
  gs X f (rU λ i=>.int (g i)):=by
 intro EM s Y H x v Q I rx h;obtain⟨i,rfl,q⟩:=h;obtain⟨t,rfl⟩:=rx;exact rule i t s _ _ ⟨.int (g i),H,I.tok _,⟨_,rfl⟩,q⟩
theorem YQ:gs X (unaryOp .USub) (rU λ i=>.int (-i)):=YR λ _ _ _ _ _ q=>neg_int q
end
section
variable {X:Cx}{a b c:Expr}{ta tb tc:TE}{pos:Pos}
theorem b8 {EM:Ag}{Y:St}{H:Hp}{s:Shared}{Q:VK}{k k':Bool}(I:Inv X EM Y H s) (q:Q (.bl k) H) (e:k=k'):EP X EM Y Q (.bool k') s:=by
 subst e;exact⟨.bl k,H,I,rfl,q⟩
theorem TY:zV X (compareOp .Lt) (wH λ i j=>.bl (decide (i<j))):=mS λ _ _ _ _ _ _ _ q=>lt_int q
theorem qD:zV X (compareOp .LtE) (wH λ i j=>.bl (decide (i<=j))):=mS λ _ _ _ _ _ _ _ q=>le_int q
theorem Sb:zV X (compareOp .Gt) (wH λ i j=>.bl (decide (j<i))):=mS λ _ _ _ _ _ _ _ q=>gt_int q
theorem Sd:zV X (compareOp .GtE) (wH λ i j=>.bl (decide (j<=i))):=mS λ _ _ _ _ _ _ _ q=>ge_int q
theorem TZ:zV X (compareOp .Is) (λ x y H Q=>y=.zo/\Q (.bl (decide (x=.zo))) H):=by
 intro EM s Y H x y v u Q I rx ry h;obtain⟨rfl,q⟩:=h;cases ry;refine is_none_gen (b8 I q ?_);cases x <;> first
  | (cases rx;rfl)
  | (obtain⟨t,rfl⟩:=rx;rfl)
theorem TH:zV X (compareOp .IsNot) (λ x y H Q=>y=.zo/\Q (.bl (!decide (x=.zo))) H):=by
 intro EM s Y H x y v u Q I rx ry h;obtain⟨rfl,q⟩:=h;cases ry;refine isnot_none_gen (b8 I q ?_);cases x <;> first
  | (cases rx;rfl)
  | (obtain⟨t,rfl⟩:=rx;rfl)
theorem zV.or {f:Value->Value->Sem Value}{r r':R2}(h:zV X f r) (h':zV X f r'):zV X f (λ x y H Q=>r x y H Q\/r' x y H Q):=by
 intro EM s Y H x y v u Q I rx ry q;rcases q with q | q
 .exact h EM s Y H x y v u Q I rx ry q
 .exact h' EM s Y H x y v u Q I rx ry q
theorem um (b:Expr) {op:CmpOp}(h:op≠.In:=by decide) (h2:op≠.NotIn:=by decide):behindInMarks op b=false:=by
 have e1:(op == CmpOp.In)=false:=by cases op <;> first | rfl | exact absurd rfl h
 have e2:(op == CmpOp.NotIn)=false:=by cases op <;> first | rfl | exact absurd rfl h2
 cases b <;> simp[behindInMarks,e1,e2]
theorem V7 {op:CmpOp}{r:R2}(ho:zV X (compareOp op) r) (ha:PE X a ta) (hb:PE X b tb) (hm:behindInMarks op b=false):PE X (.Compare a [op] [b] pos) (pT r ta tb):=by
 intro EM s Y H Q I h;exact wpAny_Compare1 (hX ha hb I h λ v u s2 x y H2 I2 rx ry q=>ho EM s2 Y H2 x y v u Q I2 rx ry q) hm
def fL (t:TE):TT:=fun Y H Q=>t Y H λ x H'=>∃ k,x=.bl k/\Q k H'
theorem W9 {op:CmpOp}{r:R2}(ho:zV X (compareOp op) r) (ha:PE X a ta) (hb:PE X b tb) (hm:behindInMarks op b=false):PT X (.Compare a [op] [b] pos) (fL (pT r ta tb)):=by
 intro EM s Y H Q I h;refine wpAny_isTrue_Compare1 (zA (ha EM s Y H _ I h) λ v s1 ⟨x,H1,I1,r1,q1⟩=>zA (hb EM s1 Y H1 _ I1 q1) λ u s2 ⟨y,H2,I2,r2,q2⟩=>
  zA (ho EM s2 Y H2 x y v u _ I2 r1 r2 q2) λ c s3 ⟨z,H3,I3,r3,k,e,q3⟩=>?_) hm
 subst e;cases r3;exact K9 ⟨H3,I3,q3⟩
def jo (r r':R2) (ta tb tc:TE):TE:=fun Y H Q=>ta Y H λ x H1=>tb Y H1 λ y H2=>r x y H2 λ z H3=>∃ k,z=.bl k/\
 (if k=true then tc Y H3 λ w' H4=>r' y w' H4 Q else Q (.bl false) H3)
theorem V8 {op GV:CmpOp}{r r':R2}(ho:zV X (compareOp op) r) (F4:zV X (compareOp GV) r') (ha:PE X a ta) (hb:PE X b tb) (hc:PE X c tc)
  (hm:lastMarks [op,GV] [b,c]=false:=by with_unfolding_all rfl):PE X (.Compare a [op,GV] [b,c] pos) (jo r r' ta tb tc):=by
 intro EM s Y H Q I h;refine Compare_chain (zA (ha EM s Y H _ I h) λ v s1 ⟨x,H1,I1,r1,q1⟩=>chain_link (zA (hb EM s1 Y H1 _ I1 q1) λ u s2 ⟨y,H2,I2,r2,q2⟩=>
  zA (ho EM s2 Y H2 x y v u _ I2 r1 r2 q2) λ d s3 ⟨z,H3,I3,r3,k,e,q3⟩=>?_)) hm
 subst e;cases r3;refine K9 ?_;cases k with
 | false=>exact ite_ff ⟨.bl false,H3,I3,rfl,q3⟩
 | true=>exact ite_tt (chain_last (zA (hc EM s3 Y H3 _ I3 q3) λ w' s4 ⟨z',H4,I4,r4,q4⟩=>F4 EM s4 Y H4 y z' u w' Q I4 r2 r4 q4))
theorem WA {op GV:CmpOp}{r r':R2}(ho:zV X (compareOp op) r) (F4:zV X (compareOp GV) r') (ha:PE X a ta) (hb:PE X b tb) (hc:PE X c tc)
  (hm:lastMarks [op,GV] [b,c]=false:=by with_unfolding_all rfl):PT X (.Compare a [op,GV] [b,c] pos) (fL (jo r r' ta tb tc)):=by
 intro EM s Y H Q I h;refine isTrue_chain (zA (ha EM s Y H _ I h) λ v s1 ⟨x,H1,I1,r1,q1⟩=>test_link (zA (hb EM s1 Y H1 _ I1 q1) λ u s2 ⟨y,H2,I2,r2,q2⟩=>
  zA (ho EM s2 Y H2 x y v u _ I2 r1 r2 q2) λ d s3 ⟨z,H3,I3,r3,k,e,q3⟩=>?_)) hm
 subst e;cases r3;refine K9 ?_;cases k with
 | false=>
  obtain⟨k',e',q'⟩:=q3;cases e';exact ite_ff ⟨H3,I3,q'⟩
 | true=>
  refine ite_tt (test_last (zA (hc EM s3 Y H3 _ I3 q3) λ w' s4 ⟨z',H4,I4,r4,q4⟩=>zA (F4 EM s4 Y H4 y z' u w' _ I4 r2 r4 q4) λ d' s5 ⟨z2,H5,I5,r5,k2,e2,q5⟩=>?_));subst e2;cases r5;exact K9 ⟨H5,I5,q5⟩
def gu (K:Ab) (x:V) (H:Hp) (k:Bool):Prop:=
 match x with
 | .zo=>k=false
 | .bl b=>k=b
 | .int i=>k=(i != 0)
 | .str y=>y.length<=sizeLine/\k=((y.length:Int) != 0)
 | .kq y=>y.size<=sizeLine/\k=((y.size:Int) != 0)
 | .ref p=>(∃ xs,zL K H p xs/\k=!xs.isEmpty)\/(∃ xs,zR K H p xs/\k=!xs.isEmpty)\/∃ Aa,H p=some (.dK Aa)/\k=!Aa.isEmpty
 | _=>False
theorem PZ {κ:Type}{Aa:List (κ × V)}{vs:List (κ × Value)}(r:KV Aa vs):(!vs.isEmpty)=!Aa.isEmpty:=by
 cases r <;> rfl
theorem cE {xs:List V}{its:Ae}(r:Vals xs its):(!its.toArray.isEmpty)=!xs.isEmpty:=by
 cases r <;> simp
theorem rM:(sizeLine:Nat)<2 ^ 63:=by rw[sizeLine_eq];decide
theorem Xf:MG X (λ x H Q=>∃ k,gu X.K x H k/\Q k H):=by
 intro EM s Y H x v Q I rx h;obtain⟨k,e,q⟩:=h;have hl:=rM;have hs:sizeLine=16777216:=sizeLine_eq;cases x with
 | zo=>
  cases rx;have e':k=false:=e;subst e';exact truthy_none ⟨H,I,q⟩
 | bl b=>
  cases rx;have e':k=b:=e;subst e';exact K9 ⟨H,I,q⟩
 | int i=>
  obtain⟨t,rfl⟩:=rx;have e':k=(i != 0):=e;subst e';exact PySem.P.truthy_int ⟨H,I,q⟩
 | str y=>
  obtain⟨t,rfl⟩:=rx;obtain⟨hy,e'⟩:y.length<=sizeLine/\k=((y.length:Int) != 0):=e;subst e';exact PySem.P.truthy_str (by lia) ⟨H,I.tok _,q⟩
 | kq y=>
  obtain⟨t,rfl⟩:=rx;obtain⟨hy,e'⟩:y.size<=sizeLine/\k=((y.size:Int) != 0):=e;subst e';exact PySem.W.truthy_bytes (by lia) ⟨H,I.tok _,q⟩
 | ref p=>
  cases rx;have e':(∃ xs,zL X.K H p xs/\k=!xs.isEmpty)\/(∃ xs,zR X.K H p xs/\k=!xs.isEmpty)\/∃ Aa,H p=some (.dK Aa)/\k=!Aa.isEmpty:=e;rcases e' with ⟨xs,hx,e'⟩ | ⟨xs,hx,e'⟩ | ⟨Aa,hx,e'⟩
  .subst e';obtain⟨its,r,pl,hz⟩:=I.list hx;have hlen:=r.length;exact wpAny_truthy_list pl.isList (by simp only[Az];lia) ⟨H,I.tok _,by rw[cE r];exact q⟩
  .subst e';obtain⟨its,r,pl,hz⟩:=I.tuple hx;have hlen:=r.length;exact truthy_tuple pl (by simp only[Az];lia) ⟨H,I.tok _,by rw[cE r];exact q⟩
  .subst e';obtain⟨hz,hS,vs,r,m⟩:Aa.length<=sizeLine/\(p == sysModules)=false/\∃ vs,KV Aa vs/\s.heap.DictOf (wu X.prog X.w) p vs:=I.zv p _ hx;have hlen:Aa.length=vs.length:=Paired.length r;exact wpAny_truthy_dict hS m (by lia) ⟨H,I.tok _,by rw[PZ r];exact q⟩
 | _=>exact (show False from e).elim
theorem W7 (ha:PE X a ta) (he:∀ whole,isTrue a X.env whole=(do let v <- whole;standAt a.pos;holding [v] (truthy v))):
  PT X a (fun Y H Q=>ta Y H λ x H'=>∃ k,gu X.K x H' k/\Q k H'):=by
 intro EM s Y H Q I h;exact isTrue_plain (zA (ha EM s Y H _ I h) λ v s1 ⟨x,H1,I1,r1,q1⟩=>Xf EM s1 Y H1 x v Q I1 r1 q1) (he _)
theorem Sj:zV X (binaryOp .Add) (λ x y H Q=>∃ i j,x=.str i/\y=.str j/\i.length+j.length<=sizeLine/\Q (.str (i++j)) H):=by
 intro EM s Y H x y v u Q I rx ry h;obtain⟨i,j,rfl,rfl,hz,q⟩:=h;obtain⟨t,rfl⟩:=rx;obtain⟨t',rfl⟩:=ry;exact add_str (λ t' tk=>⟨.str (i++j),H,I.tok _,⟨_,rfl⟩,q⟩) hz
theorem vals1 {x:V}{us:Ae}(r:Vals [x] us):∃ u,us=[u]/\RelV x u:=by
 cases r with
 | cons r1 r2=>cases r2;exact⟨_,rfl,r1⟩
theorem vals2 {x y:V}{us:Ae}(r:Vals [x,y] us):∃ u w',us=[u,w']/\RelV x u/\RelV y w':=by
 cases r with
 | cons r1 r2=>
  cases r2 with
  | cons r3 r4=>cases r4;exact⟨_,_,rfl,r1,r3⟩
theorem Mo:yy X (.builtin "abs") (λ xs H Q=>∃ i,xs=[.int i]/\Q (.int (if i<0 then -i else i)) H):=by
 intro EM s Y H xs us Q I r h;obtain⟨i,rfl,q⟩:=h;obtain⟨u,rfl,t,rfl⟩:=vals1 r;exact call_abs_int λ u tk=>⟨.int (if i<0 then -i else i),H,I.tok _,⟨_,rfl⟩,q⟩
theorem Me (hc:X.calm=true):yy X (.builtin "max") (λ xs H Q=>∃ i j,xs=[.int i,.int j]/\Q (.int (if j>i then j else i)) H):=by
 intro EM s Y H xs us Q I r h;obtain⟨i,j,rfl,q⟩:=h;obtain⟨u,w',rfl,⟨t,rfl⟩,⟨t',rfl⟩⟩:=vals2 r;refine max_two_ints (I.ok.hd hc) λ h' tk k=>⟨_,H,I.kept k,?_,q⟩;by_cases hj:j>i
 .rw[if_pos hj,if_pos hj];exact⟨_,rfl⟩
 .rw[if_neg hj,if_neg hj];exact⟨_,rfl⟩
theorem Md (hc:X.calm=true):yy X (.builtin "min") (λ xs H Q=>∃ i j,xs=[.int i,.int j]/\Q (.int (if j<i then j else i)) H):=by
 intro EM s Y H xs us Q I r h;obtain⟨i,j,rfl,q⟩:=h;obtain⟨u,w',rfl,⟨t,rfl⟩,⟨t',rfl⟩⟩:=vals2 r;refine min_two_ints (I.ok.hd hc) λ h' tk k=>⟨_,H,I.kept k,?_,q⟩;by_cases hj:j<i
 .rw[if_pos hj,if_pos hj];exact⟨_,rfl⟩
 .rw[if_neg hj,if_neg hj];exact⟨_,rfl⟩
theorem Mk:yy X (.type "int") (λ xs H Q=>(∃ i,xs=[.int i]/\Q (.int i) H)\/∃ k,xs=[.bl k]/\Q (.int (if k then 1 else 0)) H):=by
 intro EM s Y H xs us Q I r h;rcases h with ⟨i,rfl,q⟩ | ⟨k,rfl,q⟩
 .obtain⟨u,rfl,t,rfl⟩:=vals1 r;exact call_int_int ⟨.int i,H,I,⟨_,rfl⟩,q⟩
 .obtain⟨u,rfl,r1⟩:=vals1 r;cases r1;exact call_int_bool ⟨.int (if k then 1 else 0),H,I.tok _,⟨_,rfl⟩,q⟩
end
theorem ua.some_of {v:V}{o:Option Value}(r:ua (some v) o):∃ u,o=some u/\RelV v u:=by
 cases o with
 | none=>exact (show False from r).elim
 | some u=>exact⟨u,rfl,r⟩
structure yi (k:Nat) (A:Around):Prop where
 hd:A.handled=none
 dp:A.depth+3*k+5<recursionLimit
 un:A.units+16*k+200<cLine
theorem yi.mono {j k:Nat}{A:Around}(r:yi k A) (h:j<=k):yi j A:=⟨r.hd,by have:=r.dp;lia,by have:=r.un;lia⟩
theorem yi.deeper {k:Nat}{A:Around}(r:yi (k+1) A) (env:Env):yi k (A.deeper env):=
 ⟨r.hd,by have:=r.dp;show A.depth+1+3*k+5<_;lia,by have:=r.un;show A.units+3+16*k+200<_;lia⟩
theorem yi.depth {k:Nat}{A:Around}(r:yi k A):A.depth<recursionLimit:=by have:=r.dp;lia
theorem yi.units {k:Nat}{A:Around}(r:yi k A):A.units+64<cLine:=by have:=r.un;lia
def jl:TA:=λ _ H Q=>Q [] H
def jn (ta:TE) (tr:TA):TA:=fun Y H Q=>ta Y H λ x H1=>tr Y H1 λ xs H2=>Q (x::xs) H2
section
variable {X:Cx}{e:Expr}{es:List Expr}{te:TE}{t:TA}{pos:Pos}
theorem qC:PA X [] jl:=λ _ _ _ _ H Q I h=>Calls.spliced_nil ⟨[],H,I,.nil,h⟩
theorem rJ (ha:PE X e te) (hr:PA X es t) (hs:starEach (e::es) X.env=(false,eval e X.env)::starEach es X.env:=by rfl):PA X (e::es) (jn te t):=by
 intro pos EM s Y H Q I h;rw[hs];show wpAny _ _ (spliced ((false,eval e X.env)::backTo pos (starEach es X.env))) _ _ s;refine Calls.spliced_cons (zA (ha EM s Y H _ I h) λ u s1 ⟨x,H1,I1,r1,q1⟩=>?_);exact zA (hr pos EM s1 Y H1 _ I1 q1) λ us s2 ⟨xs,H2,I2,r2,q2⟩=>⟨x::xs,H2,I2,.cons r1 r2,q2⟩
def Xl (t:TA):TE:=fun Y H Q=>t Y H λ xs H1=>xs.length<=sizeLine/\∀ p,H1 p=none->Q (.ref p) (upd H1 p (.tup xs))
def Xv (t:TA):TE:=fun Y H Q=>t Y H λ xs H1=>xs.length<=sizeLine/\∀ p,H1 p=none->Q (.ref p) (upd H1 p (.lst xs))
theorem Vr {x1} (h:PA X es t):PE X (.Tuple es x1 pos) (Xl t):=by
 intro EM s Y H Q I hq;refine wpAny_Tuple_spliced (zA (h pos EM s Y H _ I hq) λ us s1 ⟨xs,H1,I1,r,z,q⟩=>⟨by rw[<- r.length];exact z,?_⟩);have hf:H1 s1.heap.objs.size=none:=I1.zv.fresh (Af _);refine⟨.ref s1.heap.objs.size,upd H1 s1.heap.objs.size (.tup xs),I1.laid (t':=s1.toks) (λ b u e=>KY _ e) (Af _) ?_,rfl,q _ hf⟩;exact⟨z,us,r,⟨_,AJ _ rfl,rfl,_,rfl⟩⟩
theorem Vz (h:PA X es t):PE X (.List es pos) (Xv t):=by
 intro EM s Y H Q I hq;refine wpAny_List_spliced (zA (h pos EM s Y H _ I hq) λ us s1 ⟨xs,H1,I1,r,z,q⟩=>⟨by rw[<- r.length];exact z,?_⟩);have hf:H1 s1.heap.objs.size=none:=I1.zv.fresh (Af _);refine⟨.ref s1.heap.objs.size,upd H1 s1.heap.objs.size (.lst xs),I1.laid (t':=s1.toks) (λ b u e=>KY _ e) (Af _) ?_,rfl,q _ hf⟩;exact⟨z,us,0,r,AJ _ rfl⟩
end
abbrev Sp:=List V->Hp->VK->XK->Prop
abbrev uB:=List Env->Hp->Shared->XK->Value->Shared->Prop
structure kS (P:Program) (w:World) (K:Ab) (mg:AI) (base:Heap) (A:Around) (outer:List Env) (s:Shared) (H:Hp):Prop where
 frames:A.frames=some outer
 mod:Mod K mg base
 bs:∀ b o,base.get? b=some o->s.heap.get? b=some o/\H b=none
 rY:base.objs.size<=s.heap.objs.size
 uv:s.heap.FunFrames base outer
 qR:∀ b∈v5 outer,H b=none
 zv:yG P w H s.heap
 bare:AllBare s.gens
def CE (outer:List Env) (P:Program) (w:World) (H:Hp) (s:Shared) (Q:VK) (u:Value) (s':Shared):Prop:=
 ∃ v H',s'.os=s.os/\AllBare s'.gens/\Un (v5 outer) [] H H' s.heap s'.heap/\yG P w H' s'.heap/\RelV v u/\Q v H'
def CR (CX:uB) (outer:List Env) (P:Program) (w:World) (H:Hp) (s:Shared) (Q:VK) (E:XK) (r:Result) (s':Shared):Prop:=
 match r with
 | .ok (.ret u)=>CE outer P w H s Q u s'
 | .ok _=>False
 | .error e=>CX outer H s E e s'
structure vI (P:Program) (w:World) (K:Ab) (mg:AI) (base:Heap) (CX:uB) (k:Nat) (f:Addr) (fd:FuncData) (ps:List Str) (sp:Sp):Prop where
 len:∀ vs H Q E,sp vs H Q E->vs.length=ps.length
 run:∀ (A:Around) (outer:List Env) (s:Shared) (H:Hp) (args:Args) (us:Ae) (vs:List V) (Q:VK) (E:XK),yi k A->kS P w K mg base A outer s H->BindsTo s fd args (ps.zip us)->Vals vs us->sp vs H Q E->
  codeAny (model P w) A (.call (.ref f) args) (CR CX outer P w H s Q E) s
section
variable {X:Cx}{EM:Ag}{Y:St}{H:Hp}{s s':Shared}
theorem Inv.Nm (I:Inv X EM Y H s):kS X.prog X.w X.K X.mg X.base X.A X.stack s H:=
 ⟨I.ok.frames,I.ok.mod,I.bs,Br I.ok.rY I.sz,I.stack,I.fN,I.zv,I.bare⟩
theorem Inv.after {Q:VK}{u:Value}(I:Inv X EM Y H s) (h:CE X.stack X.prog X.w H s Q u s'):EP X EM Y Q u s':=by
 obtain⟨v,H',os,bare,un,zv,r,q⟩:=h;obtain⟨hh,g,d,t,Ij⟩:=s';obtain rfl:Ij=s.os:=os;exact⟨v,H',I.call (h':=hh) (g':=g) (d':=d) (t':=t) (ch:=[]) un zv bare (λ b z=>absurd z (by simp)),r,q⟩
end
def fM (sp:Sp) (Ib:List V) (E:XK) (t:TA):TE:=fun Y H Q=>t Y H λ vs H1=>sp (vs++Ib) H1 Q E
def Binds (K:Ab) (fd:FuncData) (ps:List Str) (ds:Ae):Prop:=
 ∀ (s:Shared) (us:Ae),K.In s.heap->(us++ds).length=ps.length->BindsTo s fd ⟨us,[]⟩ (ps.zip (us++ds))
theorem Binds.all {K:Ab}{fd:FuncData}{ps:List Str}(h:∀ us:List Value,us.length=ps.length->bindArgs fd ⟨us,[]⟩=pure (ps.zip us)):Binds K fd ps []:=λ s us _ hl=>by
 rw[C_] at hl ⊢;exact .of_eq (h us hl)
def Passes (CX:uB) (X:Cx) (E:XK):Prop:=∀ (EM:Ag) (Y:St) (H:Hp) (s:Shared) (e:Value) (s':Shared),Inv X EM Y H s->CX X.stack H s E e s'->X.xe e s'
section
variable {X:Cx}{CX:uB}{k:Nat}{f:Addr}{fd:FuncData}{ps:List Str}{sp:Sp}{Ib:List V}{ds:Ae}{E:XK}{x:Str}{p pos:Pos}{e:Expr}{es:List Expr}{t:TA}
theorem Wg {EM:Ag}{Y:St}{H:Hp}{s:Shared}{Q:VK}{us:Ae}{vs:List V}(F:vI X.prog X.w X.K X.mg X.base CX k f fd ps sp) (hr:yi k X.A) (hb:Binds X.K fd ps ds) (hd:Vals Ib ds) (hx:Passes CX X E)
  (I:Inv X EM Y H s) (r:Vals vs us) (h:sp (vs++Ib) H Q E):wpAny (model X.prog X.w) X.A (call (.ref f) us) (EP X EM Y Q) X.xe s:=by
 have r2:Vals (vs++Ib) (us++ds):=r.append hd;have hl:(us++ds).length=ps.length:=by rw[<- r2.length];exact F.len _ _ _ _ h
 refine wpAny_call (codeAny_mono (F.run X.A X.stack s H ⟨us,[]⟩ (us++ds) (vs++Ib) Q E hr I.Nm (hb s us I.vx hl) r2 h) λ r s' hq=>?_);cases r with
 | error e=>exact hx EM Y H s e s' I hq
 | ok fl=>
  cases fl with
  | ret u=>exact I.after hq
  | _=>exact False.elim hq
theorem V9 (F:vI X.prog X.w X.K X.mg X.base CX k f fd ps sp) (hr:yi k X.A) (hg:Gl X x) (hm:X.mg x=some (.ref f)) (hk:PySem.W.keepIn X.K (.ref f)=true) (hb:Binds X.K fd ps ds) (hd:Vals Ib ds) (hx:Passes CX X E)
  (ha:PA X (e::es) t) (Cj:(x == ("__debug__":Str))=false:=by decide) (he:starEach (e::es) X.env=(false,eval e X.env)::starEach es X.env:=by rfl) (Aq:(backTo pos (starEach es X.env)).any (·.1)=false:=by rfl):
  PE X (.Call (.Name x p) (e::es) [] pos) (fM sp Ib E t):=by
 intro EM s Y H Q I h;refine wpAny_Call_Name_kw (cv I hg hm ?_ Cj);refine PySem.W.callWith_K (h₀:=X.base) I.ok.mod.ip hk (zA (ha pos EM s Y H _ I h) λ us s1 ⟨vs,H1,I1,r,q⟩=>⟨I1.vx,?_⟩) he Aq;exact Wg F hr hb hd hx I1 r q
end
structure tm (N P:List Str) (sc:Scope):Prop where
 kind:sc.kind=.function
 co:sc.isCoroutine=false
 gen:sc.isGenerator=false
 nd:N.Nodup
 pre:N.take P.length=P
 par:∀ x∈P,sc.names.lookup x=some .local\/sc.names.lookup x=some .cell
 QJ:∀ y∈sc.names,y.2≠.free
theorem aH {kindOf:Str->Option NameKind}{x:Str}:∀ {binds:List (Str×Value)}{m:AI},(∀ v,(x,v)∉binds)->bindL kindOf binds m x=m x
 | [],_,_=>rfl
 | (n,v)::r,m,h=>by
  unfold bindL;rw[aH λ w hw=>h w (Av _ hw)];split
  .have:x≠n:=by rintro rfl;exact h v Am
   simp[this]
  .rfl
theorem aJ {kindOf:Str->Option NameKind}{x:Str}:∀ {binds:List (Str×Value)}{m:AI},(∀ v,(x,v)∉binds)->bindC kindOf binds m x=m x
 | [],_,_=>rfl
 | (n,v)::r,m,h=>by
  unfold bindC;rw[aJ λ w hw=>h w (Av _ hw)];split
  .rfl
  .have:x≠n:=by rintro rfl;exact h v Am
   simp[this]
theorem aI {kindOf:Str->Option NameKind}{x:Str}{v:Value}:∀ {P:List Str}{vs:Ae}{i:Nat}{m:AI},P.Nodup->P[i]?=some x->vs[i]?=some v->kindOf x=some .local->
  bindL kindOf (P.zip vs) m x=some v
 | [],_,_,_,_,h,_,_=>by simp at h
 | _::_,[],_,_,_,_,h,_=>by simp at h
 | p::P,w::vs,0,m,nd,h1,h2,hk=>by
  simp at h1 h2;subst h1;subst h2;show bindL kindOf ((p,w)::P.zip vs) m p=_;unfold bindL;rw[aH λ v hv=>(A7.mp nd).1 (CS hv).1,if_pos hk];simp
 | p::P,w::vs,i+1,m,nd,h1,h2,hk=>by
  show bindL kindOf ((p,w)::P.zip vs) m x=_;unfold bindL;exact aI (i:=i) (A7.mp nd).2 (by simpa using h1) (by simpa using h2) hk
theorem aK {kindOf:Str->Option NameKind}{x:Str}{v:Value}:∀ {P:List Str}{vs:Ae}{i:Nat}{m:AI},P.Nodup->P[i]?=some x->vs[i]?=some v->kindOf x≠some .local->
  bindC kindOf (P.zip vs) m x=some v
 | [],_,_,_,_,h,_,_=>by simp at h
 | _::_,[],_,_,_,_,h,_=>by simp at h
 | p::P,w::vs,0,m,nd,h1,h2,hk=>by
  simp at h1 h2;subst h1;subst h2;show bindC kindOf ((p,w)::P.zip vs) m p=_;unfold bindC;rw[aJ λ v hv=>(A7.mp nd).1 (CS hv).1,if_neg hk];simp
 | p::P,w::vs,i+1,m,nd,h1,h2,hk=>by
  show bindC kindOf ((p,w)::P.zip vs) m x=_;unfold bindC;exact aK (i:=i) (A7.mp nd).2 (by simpa using h1) (by simpa using h2) hk
noncomputable def start (N:List Str) (vs:List V):St:=vs.map some++List.replicate (N.length-vs.length) none
noncomputable def wA (CX:uB) (P:Program) (w:World) (K:Ab) (mg:AI) (base:Heap) (N:List Str) (qual:Str) (scope:Scope) (f:Addr) (cd:Value) (A:Around) (outer:List Env) (s:Shared) (H:Hp) (E:XK):Cx where
 prog:=P
 w:=w
 K:=K
 mg:=mg
 base:=base
 A:=A.deeper (envOfC qual scope s.heap.objs.size f cd)
 N:=N
 s₀:=s
 H₀:=H
 env:=envOfC qual scope s.heap.objs.size f cd
 outer:=outer
 stack:=envOfC qual scope s.heap.objs.size f cd::outer
 ex:=[]
 calm:=true
 fn:=λ _=>true
 pn:=[]
 xe:=λ e s'=>wpAny (model P w) (A.deeper (envOfC qual scope s.heap.objs.size f cd)) (leaving (envOfC qual scope s.heap.objs.size f cd) e) (λ _ HC=>CX outer H s E e HC) (λ e' HC=>CX outer H s E e' HC) s'
theorem ay {sc:Scope}{n:Nat}{x:Str}(h:sc.names.lookup x=some .cell):∃ c,(cellsFrom n sc.names []).lookup x=some c:=by
 have q:=PySem.W.cellsFrom_some sc.names n [] (.inl h);exact DM.mp q
theorem Ob {CX:uB}{P:Program}{w:World}{K:Ab}{mg:AI}{base:Heap}{N ps:List Str}{qual:Str}{scope:Scope}{f:Addr}{cd:Value}{A:Around}{outer:List Env}{s s1:Shared}{H:Hp}{E:XK}{us:Ae}{vs:List V}
  (S:tm N ps scope) (hd:A.handled=none) (e0:kS P w K mg base A outer s H) (hl:vs.length=ps.length) (r:Vals vs us)
  (x:InCallC s s.heap.objs.size (bindL (envOfC qual scope s.heap.objs.size f cd).kindOf (ps.zip us) λ _=>none) (cellsFrom (s.heap.objs.size+1) scope.names []) (bindC (envOfC qual scope s.heap.objs.size f cd).kindOf (ps.zip us) λ _=>none) s1):
  Inv (wA CX P w K mg base N qual scope f cd A outer s H E) [] (start N vs) H s1:=by
 have Aq:ps.length<=N.length:=by have:=congrArg List.length S.pre;rw[C9] at this;lia
 obtain⟨h1,tk,rfl,hk⟩:=x.done;have I_:∀ b:Addr,b∉(wA CX P w K mg base N qual scope f cd A outer s H E).ex:=λ b z=>absurd (show b∈([]:List Addr) from z) (by simp);refine⟨⟨e0.mod,S.kind,rfl,rfl,Af _,λ y z c h1 h2=>?_,λ y hy=>?_,λ y c _ h=>?_,λ _=>hd,Around.frames_deeper e0.frames,.inr ⟨rfl,rfl⟩,λ b z=>absurd z (I_ b),e0.bs,e0.rY,λ b _ _=>I_ b,λ b z=>absurd z (I_ b),e0.uv,e0.qR⟩,
  rfl,e0.bare,Un.kept hk,⟨_,x.toInCall.ns,λ i y v h1 h2 h3=>?_⟩,λ y c h=>⟨_,x.cell y c h⟩,e0.zv.fresh (Af _),λ y c h=>?_,λ p hp=>absurd (show p∈([]:Ag) from hp) (by simp),e0.zv.kept hk,?_⟩
 .exact name_of_addr x.apart (PySem.mem_of_lookup h1) (PySem.mem_of_lookup h2)
 .have hy:scope.names.lookup y=some .cell\/scope.names.lookup y=some .free:=hy;rcases hy with hy | hy
  .exact ay hy
  .exact absurd rfl (S.QJ _ (PySem.mem_of_lookup hy))
 .exact BQ (x.above y c (PySem.mem_of_lookup h))
 .have hi:i<vs.length:=by
   unfold start at h2;by_cases hi:i<vs.length
   .exact hi
   .rw[Ct (by simpa using hi)] at h2;rw[DL] at h2;split at h2 <;> cases h2
  have ha:vs[i]?=some v:=by
   unfold start at h2;rw[Cs (by simpa using hi),Ay] at h2;cases e:vs[i]? with
   | none=>rw[e] at h2;cases h2
   | some a=>rw[e] at h2;cases h2;rfl
  obtain⟨u,hu,rv⟩:=r.get ha;have hp:ps[i]?=some y:=by
   rw[<- S.pre,List.getElem?_take_of_lt (by lia)];exact h1
  have ndP:ps.Nodup:=by rw[<- S.pre];exact S.nd.sublist (List.take_sublist _ _)
  refine⟨u,rv,?_⟩;rcases S.par y (Bi hp) with k | k
  .exact .inl ⟨k,aI ndP hp hu k⟩
  .obtain⟨c,e⟩:=ay (n:=s.heap.objs.size+1) k;refine .inr ⟨.inl k,c,e,?_⟩;have q:=x.cell y c e;rw[aK ndP hp hu (by show scope.names.lookup y≠_;rw[k];decide)] at q;exact q
 .exact e0.zv.fresh (BQ (x.above y c (PySem.mem_of_lookup h)))
 .unfold start;show _=N.length;rw[Cv,AA,List.length_replicate]
  lia
theorem OU {CX:uB}{P:Program}{w:World}{K:Ab}{mg:AI}{base:Heap}{k:Nat}{f:Addr}{name qual:Str}{params:Arguments}{body:List Stmt}{scope:Scope}{dV kV doc pm Ak ct oc:Value}{an od:Option Addr}
  {HP:Array (Option Value)}{N ps:List Str}{sp:Sp}(lk:K.lookup f=some ⟨oc,od,.func (PySem.W.fnOf name qual params body scope dV kV doc pm an Ak ct),HP⟩) (BE:PySem.W.codeIn K Ak qual=true) (S:tm N ps scope)
  (len:∀ vs H Q E,sp vs H Q E->vs.length=ps.length)
  (Fi:∀ (A:Around) (outer:List Env) (s:Shared) (H:Hp) (vs:List V) (Q:VK) (E:XK),yi k (A.deeper (envOfC qual scope s.heap.objs.size f Ak))->sp vs H Q E->
   ∃ t,xJ (wA CX P w K mg base N qual scope f Ak A outer s H E) body t/\t { nx:=λ _ H'=>Q .zo H',rt:=Q } (start N vs) H):
  vI P w K mg base CX (k+1) f (PySem.W.fnOf name qual params body scope dV kV doc pm an Ak ct) ps sp:=by
 refine⟨len,λ A outer s H args us vs Q E hr e0 hb r B6=>?_⟩;have hl:=len _ _ _ _ B6;have KX:K.In s.heap:=e0.mod.ip.keeps λ b o e=>(e0.bs b o e).1;have lim:s.heap.NoLimit:=e0.mod.nolimit.keeps λ b o e=>(e0.bs b o e).1;have Jl:∀ y∈ps.zip us,scope.names.lookup y.1=some .local\/(scope.names.lookup y.1=some .cell/\((cellsFrom (s.heap.objs.size+1) scope.names []).lookup y.1).isSome=true):=λ⟨n,v⟩ hy=>by
  rcases S.par n (CS hy).1 with q | q
  .exact .inl q
  .exact .inr ⟨q,PySem.W.cellsFrom_some _ _ _ (.inl q)⟩
 refine codeAny_call_function hr.depth (KX _ _ lk) rfl S.co S.gen rfl (PySem.W.codeRec_of KX BE) (hb _ _ _ _ ?_);refine wpAny_newFunctionEnv_cells S.kind Jl λ env he s1 x=>?_;subst he;refine⟨lim.keeps x.toInCall.keep,codeAny_func ?_⟩;obtain⟨t,ht,hq⟩:=Fi A outer s H vs Q E (hr.deeper _) B6;have I:Inv (wA CX P w K mg base N qual scope f Ak A outer s H E) [] (start N vs) H s1:=Ob S hr.hd e0 hl r x;refine K3 (ht [] s1 (start N vs) H _ I hq) (λ fl s' hs=>?_) λ e s' hs=>hs;have fin:∀ {Y':St}{H':Hp}{v:V}{u:Value},Inv (wA CX P w K mg base N qual scope f Ak A outer s H E) [] Y' H' s'->RelV v u->Q v H'->CE outer P w H s Q u s':=
  λ{Y' H' v u} J rv q=>⟨v,H',J.os,J.bare,J.base,J.zv,rv,q⟩
 cases fl with
 | ret u=>
  obtain⟨v,Y',H',J,rv,q⟩:=hs;exact fin J rv q
 | next=>
  obtain⟨Y',H',J,q⟩:=hs;exact fin (v:=V.zo) (u:=Value.none) J rfl q
 | brk=>
  obtain⟨_,_,_,q⟩:=hs;exact False.elim q
 | cont=>
  obtain⟨_,_,_,q⟩:=hs;exact False.elim q
section
variable {X:Cx}{x:Str}{p pos:Pos}{e:Expr}{es:List Expr}{t:TA}{id T:String}{r:List V->Hp->VK->Prop}
def m6 (r:List V->Hp->VK->Prop) (t:TA):TE:=fun Y H Q=>t Y H λ vs H1=>r vs H1 Q
theorem uI (hc:yy X (.builtin id) r) (hg:Gl X x) (hm:X.mg x=none) (hv:bootBuiltins x=some (.builtin id)) (ha:PA X (e::es) t) (hn:x≠"__name__":=by decide) (Cj:(x == ("__debug__":Str))=false:=by decide)
  (he:starEach (e::es) X.env=(false,eval e X.env)::starEach es X.env:=by rfl) (Aq:(backTo pos (starEach es X.env)).any (·.1)=false:=by rfl):PE X (.Call (.Name x p) (e::es) [] pos) (m6 r t):=by
 intro EM s Y H Q I h;refine wpAny_Call_Name_kw (rO I hg hm hv ?_ hn Cj);exact PyProof.Rows.callWith_builtin1 (zA (ha pos EM s Y H _ I h) λ us s1 ⟨vs,H1,I1,r1,q1⟩=>hc EM s1 Y H1 vs us Q I1 r1 q1) he Aq
theorem qA (hc:yy X (.type T) r) (hg:Gl X x) (hm:X.mg x=none) (hv:bootBuiltins x=some (.type T)) (ha:PA X (e::es) t) (hn:x≠"__name__":=by decide) (Cj:(x == ("__debug__":Str))=false:=by decide)
  (he:starEach (e::es) X.env=(false,eval e X.env)::starEach es X.env:=by rfl) (Aq:(backTo pos (starEach es X.env)).any (·.1)=false:=by rfl):PE X (.Call (.Name x p) (e::es) [] pos) (m6 r t):=by
 intro EM s Y H Q I h;refine wpAny_Call_Name_kw (rO I hg hm hv ?_ hn Cj);exact PyProof.Rows.callWith_type1 (zA (ha pos EM s Y H _ I h) λ us s1 ⟨vs,H1,I1,r1,q1⟩=>hc EM s1 Y H1 vs us Q I1 r1 q1) he Aq
end
end L2
namespace HT
open PySem PyProof.Rows
noncomputable def lexLt:List Int->List Int->Bool
 | [],[]=>false
 | [],_::_=>true
 | _::_,[]=>false
 | x::xs,y::ys=>if x=y then lexLt xs ys else decide (x<y)
theorem tP (x y:Int) (xs ys:List Int):lexLt (x::xs) (y::ys)=if x=y then lexLt xs ys else decide (x<y):=rfl
theorem Ph:lexLt [] []=false:=rfl
theorem Pj (y:Int) (ys:List Int):lexLt [] (y::ys)=true:=rfl
theorem Pk (x:Int) (xs:List Int):lexLt (x::xs) []=false:=rfl
theorem Nl (A:Around) (s:Shared) (a:Int) (t:Tok) (c:Int) (u:Tok):∃ e,SeqAt.EqAt A s (.int a t) (.int c u) e/\(e=true↔a=c):=
 ⟨(a == c),SeqAt.EqAt.int_int a t c u,by simp⟩
theorem Wo (A:Around) (s:Shared) (a:Int) (t:Tok) (c:Int) (u:Tok) (prog:Program) (w:World) (E:Ad) (Q:Ad) (h:Q (.bool (decide (a<c))) s):
  wpAny (model prog w) A (richCompare .Lt (.int a t) (.int c u)) Q E s:=
 (PyProof.Rows.lt_int h:wpAny (model prog w) A (compareOp .Lt (.int a t) (.int c u)) Q E s)
section
open PySem.SeqAt
open PySem.AutoSeq1 (wpAny_loadPart')
open PySem.MeetsSeq PySem.MeetsSeq2 PySem.MeetsSeq3
theorem Xd (l b:Addr) (items Fo:Ar) (n n2:Nat) (dd HA:Option Addr) (sl Hv:Array (Option Value)) (ns ms:List Int) (hi:IntsAre items.toList ns) (hj:IntsAre Fo.toList ms):
  Meets (Builtin.«tuple.__lt__» ⟨[.ref l,.ref b],[]⟩)
   (λ _ R s=>s.heap.get? l=some { cls:=.type "tuple",dict:=dd,data:=.seq items n,slots:=sl }/\s.heap.get? b=some { cls:=.type "tuple",dict:=HA,data:=.seq Fo n2,slots:=Hv }/\
    R (.ok (.ret (.bool (lexLt ns ms)))) s):=
 .of_wp λ prog w A R s h=>by
  obtain⟨hp,g,d,tk,os⟩:=s;obtain⟨hl,hb,h⟩:=h;have f2:=AutoSeq1.sub_tuple_tuple;have z1:items.size=ns.length:=by rw[<- hi.length];simp
  have z2:Fo.size=ms.length:=by rw[<- hj.length];simp
  wp_walk using wpAny_loadPart' hl,wpAny_loadPart' hb,wpAny_forIn_list _ (λ ET b s'=>b.1=none/\s'=⟨hp,g,d,tk,os⟩/\∃ (vs ws:Ae) (Gy Gz:List Int),ET=vs.zip ws/\
   IntsAre vs Gy/\IntsAre ws Gz/\Gy.length+Fo.size=Gz.length+items.size/\R (.ok (.ret (.bool (lexLt Gy Gz)))) ⟨hp,g,d,tk,os⟩) _
  case turn=>
   rintro⟨y,x⟩ ET b s' ⟨HZ,rfl,vs,ws,Gy,Gz,hz,Ek,Cw,hlen,hR⟩;cases Ek with
   | nil=>rw[List.zip_nil_left] at hz;cases hz
   | cons a t Ej=>
    cases Cw with
    | nil=>rw[List.zip_nil_right] at hz;cases hz
    | cons c u Eg=>
     rw[Ea] at hz
     injection hz with hyx Je
     injection hyx with hy hx
     subst hy hx;rw[tP] at hR;simp only[A4] at hlen;obtain⟨e,he,Dm⟩:=Nl A.in1 ⟨hp,g,d,tk,os⟩ a t c u;refine JY (he prog w _ _ ?_);cases e with
     | true=>
      rw[if_pos (Dm.mp rfl)] at hR
      wp_walk
      exact⟨rfl,rfl,_,_,_,_,Je,Ej,Eg,by lia,hR⟩
     | false=>
      rw[if_neg (λ q=>absurd (Dm.mpr q) BP)] at hR;have hri:=Wo A.in1 ⟨hp,g,d,tk,os⟩ a t c u prog w
      wp_walk using hri
      exact⟨_,rfl,by simpa using hR⟩
  case fin=>
   rintro⟨b1,b2⟩ s' ⟨HZ,rfl,vs,ws,Gy,Gz,hz,Ek,Cw,hlen,hR⟩;simp only at HZ;subst HZ;have hv:lexLt Gy Gz=decide (items.size<Fo.size):=by
    cases Ek with
    | nil=>
     cases Cw with
     | nil=>
      simp only[C8] at hlen;rw[Ph];exact (KZ (by lia)).symm
     | cons c u hw=>
      simp only[C8,A4] at hlen;rw[Pj];exact (K4 (by lia)).symm
    | cons a t hv=>
     cases Cw with
     | nil=>
      simp only[C8,A4] at hlen;rw[Pk];exact (KZ (by lia)).symm
     | cons c u hw=>
      rw[Ea] at hz;cases hz
   rw[hv] at hR
   wp_walk
   exact⟨_,rfl,by simpa [Builtin.Tuple.tupleCompareSizes] using hR⟩
  case h=>
   exact⟨rfl,rfl,items.toList,Fo.toList,ns,ms,rfl,hi,hj,by lia,h⟩
end
section
variable {prog:Program}{w:World}{A:Around}{E:Ad}{s:Shared}
theorem Pa {l b:Addr}{items Fo:Ar}{ns ms:List Int}{Q:Ad}(hl:IsTup s.heap l items) (hb:IsTup s.heap b Fo) (hi:IntsAre items.toList ns) (hj:IntsAre Fo.toList ms)
  (hu:A.units<cLine) (h:Q (.bool (lexLt ns ms)) s):wpAny (model prog w) A (compareOp .Lt (.ref l) (.ref b)) Q E s:=by
 obtain⟨⟨cls,dd,data,sl⟩,ho,hc,n,hd⟩:=id hl;obtain⟨⟨IB,HA,data2,Hv⟩,G8,F5,n2,hd2⟩:=id hb;simp only at hc hd F5 hd2;subst hc hd F5 hd2;exact richCompare_meets_room (op:=.Lt) ⟨_,ho,rfl⟩ ⟨_,G8,rfl⟩ PySem.F.slot_tuple_lt PySem.F.entry_tuple_lt (PySem.F.args_tuple_lt_2 _ _) (Xd l b items Fo n n2 dd HA sl Hv ns ms hi hj)
  ⟨ho,G8,show Value.bool (lexLt ns ms)≠Value.notImplemented/\Q (.bool (lexLt ns ms)) s from ⟨(λ x=>nomatch x),h⟩⟩ hu
theorem NT {t b:Addr}{vs ws:Ae}{Q:Ad}(ht:IsTup s.heap t vs.toArray) (hb:IsTup s.heap b ws.toArray) (hv:vs≠[])
  (h1:ws=[]->Q (.ref t) s) (h2:ws≠[]->Q (.ref s.heap.objs.size) { s with heap:=s.heap.push { cls:=.type "tuple",data:=.seq (vs++ws).toArray } })
  (hsz:vs.length+ws.length<=sizeLine):wpAny (model prog w) A (binaryOp .Add (.ref t) (.ref b)) Q E s:=by
 obtain⟨⟨cls,dd,data,sl⟩,ho,hc,n,hd⟩:=id ht;obtain⟨⟨IB,HA,data2,Hv⟩,G8,F5,n2,hd2⟩:=id hb;simp only at hc hd F5 hd2;subst hc hd F5 hd2;have e:vs.toArray++ws.toArray=(vs++ws).toArray:=by simp
 by_cases hw:ws=[]
 .exact concat_meets ⟨_,ho,rfl⟩ ⟨_,G8,rfl⟩ noFill_tuple_add seq_tuple_add PySem.F.slot_tuple_add PySem.F.entry_tuple_add (PySem.F.args_tuple_add_2 _ _)
   (tuple_addW1 t b vs.toArray ws.toArray n n2 dd HA sl Hv (by simpa using hv) (by simp[hw])) ⟨ho,G8,h1 hw⟩
 .refine concat_meets ⟨_,ho,rfl⟩ ⟨_,G8,rfl⟩ noFill_tuple_add seq_tuple_add PySem.F.slot_tuple_add PySem.F.entry_tuple_add (PySem.F.args_tuple_add_2 _ _)
   (tuple_addW2 t b vs.toArray ws.toArray n n2 dd HA sl Hv (by simpa using hv) (by simpa using hw) (by rw[Az,Az];exact hsz)) ⟨ho,G8,?_⟩
  rw[e];exact h2 hw
noncomputable def zD (n d:Nat):Option Int->Nat
 | none=>d
 | some v=>if v<0 then (v+(n:Int)).toNat else min v.toNat n
theorem We (n d:Nat) (hd:d<=n) (o:Option Int):zD n d o<=n:=by
 cases o with
 | none=>exact hd
 | some v=>
  show (if v<0 then (v+(n:Int)).toNat else min v.toNat n)<=n;by_cases hv:v<0
  .rw[if_pos hv];lia
  .rw[if_neg hv];exact Nat.min_le_right _ _
theorem ar (v:Int) (n d:Nat):(if v<0 then max (v+(n:Int)) 0 else min v (n:Int))=((zD n d (some v):Nat):Int):=by
 show (if v<0 then max (v+(n:Int)) 0 else min v (n:Int))=(((if v<0 then (v+(n:Int)).toNat else min v.toNat n):Nat):Int)
 by_cases hv:v<0
 .simp only[if_pos hv];lia
 .simp only[if_neg hv];lia
theorem MC (lo hi:Option Int) (n:Nat):Builtin.Slice.sliceAdjust lo hi 1 (n:Int)=(((zD n 0 lo:Nat):Int),((zD n n hi:Nat):Int)):=by
 have h1:¬ ((1:Int)<0):=by lia
 unfold Builtin.Slice.sliceAdjust;simp only[h1,if_false];refine Prod.ext ?_ ?_
 .cases lo with
  | none=>rfl
  | some v=>exact ar v n 0
 .cases hi with
  | none=>rfl
  | some v=>exact ar v n n
theorem WT (i j:Nat):Builtin.Slice.slicePlaces (i:Int) (j:Int) 1=j-i:=by
 unfold Builtin.Slice.slicePlaces;have h1:(1:Int)>0:=by lia
 simp only[h1,if_true,Int.ediv_one];split <;> lia
theorem fY {v:Value}{o:Option Int}{Q:Option Int->Shared->Prop}(p:IsPart v o) (h:Q o s):wpAny (model prog w) A (Builtin.Slice.slicePartIndex v) Q E s:=by
 cases p with
 | none=>exact slicePart_none h
 | int i t=>exact slicePart_int h
theorem fZ {sl:Addr}{vl vu:Value}{lo hi:Option Int}{n:Nat}{Q:Int×Int×Nat->Shared->Prop}(hs:s.heap.IsSliceOf sl vl vu .none) (pl:IsPart vl lo) (pu:IsPart vu hi)
  (h:Q (((zD n 0 lo:Nat):Int),1,zD n n hi-zD n 0 lo) s):wpAny (model prog w) A (Builtin.Slice.sliceApplied (.ref sl) (pure (n:Int))) Q E s:=by
 obtain⟨os,Ce,hcs,DX⟩:=id hs;unfold Builtin.Slice.sliceApplied Builtin.Slice.sliceFields;refine JY (JY (K1 Ce DX (x:=vl) rfl (JY (K1 Ce DX (x:=vu) rfl (JY (K1 Ce DX (x:=.none) rfl (Ac ?_)))))));refine JY (slicePart_none ?_);show wpAny _ _ (if ((1:Int) == 0)=true then _ else _) _ _ s;rw[if_neg (by decide)];refine JY (fY pl (JY (fY pu (JY (Ac ?_)))));show wpAny _ _ (match Builtin.Slice.sliceAdjust lo hi 1 (n:Int) with | (lo,hi)=>pure (lo,(1:Int),Builtin.Slice.slicePlaces lo hi 1)) _ _ s;rw[MC lo hi n];show wpAny _ _ (pure (((zD n 0 lo:Nat):Int),(1:Int),Builtin.Slice.slicePlaces ((zD n 0 lo:Nat):Int) ((zD n n hi:Nat):Int) 1)) _ _ s;rw[WT];exact Ac h
theorem WY (xs:Ar) (i k:Nat):((List.range k).filterMap λ(m:Nat)=>xs[((i:Int)+(m:Int)*1).toNat]?).toArray=((xs.toList.drop i).take k).toArray:=by
 have e:(λ(m:Nat)=>xs[((i:Int)+(m:Int)*1).toNat]?)=λ m=>xs[i+m]?:=by
  funext m;have:((i:Int)+(m:Int)*1).toNat=i+m:=by lia
  rw[this]
 rw[e];have:=pick_run xs i k;rw[List.filterMap_map] at this;have e2:((λ x=>xs[x]?) ∘ λ x=>i+x)=λ m=>xs[i+m]?:=rfl;rw[e2] at this;rw[this]
theorem OH {t sl:Addr}{items:Ar}{vl vu:Value}{lo hi:Option Int}{Q:Ad}(ht:IsTup s.heap t items) (hs:s.heap.IsSliceOf sl vl vu .none) (pl:IsPart vl lo) (pu:IsPart vu hi)
  (hw:¬ (zD items.size 0 lo=0/\zD items.size items.size hi=items.size))
  (h:Q (.ref s.heap.objs.size) { s with heap:=s.heap.push { cls:=.type "tuple",data:=.seq ((items.toList.drop (zD items.size 0 lo)).take (zD items.size items.size hi-zD items.size 0 lo)).toArray } })
  (hsz:items.size<=sizeLine):wpAny (model prog w) A (getItem (.ref t) (.ref sl)) Q E s:=by
 have G2:sizeOk (.seq ((items.toList.drop (zD items.size 0 lo)).take (zD items.size items.size hi-zD items.size 0 lo)).toArray):=by
  show ((items.toList.drop (zD items.size 0 lo)).take (zD items.size items.size hi-zD items.size 0 lo)).toArray.size<=sizeLine;rw[Az,C9,D_,Bs]
  lia
 have hj:zD items.size items.size hi<=items.size:=We _ _ (Af _) hi;obtain⟨os,Ce,hcs,DX⟩:=id hs;have hTs:s.TypeIs (.ref sl) "slice":=⟨os,Ce,hcs⟩
 unfold getItem
 try with_reducible refine K0 ?_
 first | refine JY (Ac ?_) | skip
 refine JY (wpAny_sequenceKey ht.typeIs (by decide) ?_);refine JY (K8 (name:=Str.ofString "__getitem__") ht.typeIs PyProof.Rows.slot_tuple_getitem
  (K2 PyProof.Rows.slot_tuple_getitem ht.typeIs entry_tuple_getitem ?_ (args_tuple_getitem _ _)))
 show wpAny _ _ (Builtin.Tuple.tupleItemsOf (.ref t) >>= _) _ _ s;refine JY (tupleItemsOf_ ht ?_);refine JY (Ll hTs ?_);rw[if_pos (by decide)];refine JY (fZ hs pl pu ?_);have hno:¬ ((((zD items.size 0 lo:Nat):Int) == 0&&(1:Int) == 1&&(zD items.size items.size hi-zD items.size 0 lo) == items.size)=true):=by
  intro q;rw[Bc,Bc] at q;have q1:((zD items.size 0 lo:Nat):Int)=0:=eq_of_beq q.1.1;have q2:zD items.size items.size hi-zD items.size 0 lo=items.size:=eq_of_beq q.2;exact hw ⟨by lia,by lia⟩
 show wpAny _ _ (if (((zD items.size 0 lo:Nat):Int) == 0&&(1:Int) == 1&&(zD items.size items.size hi-zD items.size 0 lo) == items.size)=true then _ else _) _ _ s;rw[if_neg hno,WY]
 first
  | exact JY (m:=Builtin.Tuple.tupleExact _) (K6 (Ac ⟨_,rfl,Ac h⟩) G2)
  | exact JY (m:=Builtin.Tuple.tupleExact _) (K6 (JY (Ac (Ac ⟨_,rfl,Ac h⟩))) G2)
  | exact JY (JY (m:=Builtin.Tuple.tupleExact _) (K6 (Ac (Ac ⟨_,rfl,Ac h⟩)) G2))
  | exact JY (JY (m:=Builtin.Tuple.tupleExact _) (K6 (Ac ⟨_,rfl,Ac h⟩) G2))
end
end HT
namespace L2
open PySem PySem.Spec PyProof.Rows
abbrev TO:=St->Hp->(Option Int->Hp->Prop)->Prop
def PO (X:Cx) (e:Option Expr) (t:TO):Prop:=
 ∀ (EM:Ag) (s:Shared) (Y:St) (H:Hp) (Q:Option Int->Hp->Prop),Inv X EM Y H s->t Y H Q->
  wpAny (model X.prog X.w) X.A (evalPart e X.env) (λ u s'=>∃ o H',Inv X EM Y H' s'/\IsPart u o/\Q o H') X.xe s
noncomputable def Xt:TO:=λ _ H Q=>Q none H
noncomputable def Xp (t:TE):TO:=fun Y H Q=>t Y H λ x H1=>∃ i,x=.int i/\Q (some i) H1
theorem intsAre_of {ns:List Int}:∀ {us:Ae},Vals (ns.map V.int) us->IntsAre us ns:=by
 induction ns with
 | nil=>intro us r;rw[A_] at r;cases r;exact .nil
 | cons n ns ih=>
  intro us r;rw[Au] at r;cases r with
  | cons r1 r2=>
   obtain⟨t,e⟩:=r1;subst e;exact .cons n t (ih r2)
section
variable {X:Cx}{e:Expr}{te:TE}{lo hi:Option Expr}{tl th:TO}{pos p2:Pos}
theorem WS:PO X none Xt:=by
 intro EM s Y H Q I h;rw[evalPart_none];exact Ac ⟨none,H,I,.none,h⟩
theorem WR (h:PE X e te):PO X (some e) (Xp te):=by
 intro EM s Y H Q I hw;rw[evalPart_some];refine zA (h EM s Y H _ I hw) λ u s1 ⟨x,H1,I1,r1,q1⟩=>?_;obtain⟨i,rfl,q⟩:=q1;obtain⟨t,rfl⟩:=r1;exact⟨some i,H1,I1,.int i t,q⟩
def rh (X:Cx) (r:V->Option Int->Option Int->Hp->VK->Prop):Prop:=
 ∀ (EM:Ag) (s:Shared) (Y:St) (H:Hp) (x:V) (v vl vu:Value) (lo hi:Option Int) (sl:Addr) (Q:VK),Inv X EM Y H s->RelV x v->s.heap.IsSliceOf sl vl vu .none->IsPart vl lo->IsPart vu hi->r x lo hi H Q->
  ∃ T id,typeLookup (.type T) "__getitem__"=pure (some (.builtin id))/\s.TypeIs v T/\wpAny (model X.prog X.w) X.A (getItem v (.ref sl)) (EP X EM Y Q) X.xe s
theorem rh.or {r r':V->Option Int->Option Int->Hp->VK->Prop}(h:rh X r) (h':rh X r'):rh X (λ x lo hi H Q=>r x lo hi H Q\/r' x lo hi H Q):=by
 intro EM s Y H x v vl vu lo hi sl Q I rx hs pl pu q;rcases q with q | q
 .exact h EM s Y H x v vl vu lo hi sl Q I rx hs pl pu q
 .exact h' EM s Y H x v vl vu lo hi sl Q I rx hs pl pu q
def Xm (r:V->Option Int->Option Int->Hp->VK->Prop) (te:TE) (tl th:TO):TE:=fun Y H Q=>te Y H λ x H1=>tl Y H1 λ l H2=>th Y H2 λ u H3=>r x l u H3 Q
theorem Vt {r:V->Option Int->Option Int->Hp->VK->Prop}(hr:rh X r) (he:PE X e te) (hl:PO X lo tl) (hu:PO X hi th):PE X (.Subscript e (.Slice lo hi none p2) pos) (Xm r te tl th):=by
 intro EM s Y H Q I h;refine Subscript_ (zA (he EM s Y H _ I h) λ v s1 ⟨x,H1,I1,r1,q1⟩=>?_);refine wpAny_Slice (zA (hl EM s1 Y H1 _ I1 q1) λ vl s2 ⟨l,H2,I2,pl,q2⟩=>zA (hu EM s2 Y H2 _ I2 q2) λ vu s3 ⟨u,H3,I3,pu,q3⟩=>?_);rw[evalPart_none];refine Ac ?_;have I4:Inv X EM Y H3 { s3 with heap:=s3.heap.push { cls:=.type "slice",data:=.fields #[vl,vu,.none] } }:=I3.kept (t':=s3.toks) λ b ob q=>KY _ q;obtain⟨T,id,hT,ht,hg⟩:=hr EM { s3 with heap:=s3.heap.push { cls:=.type "slice",data:=.fields #[vl,vu,.none] } } Y H3 x v vl vu l u s3.heap.objs.size Q I4 r1 (Heap.IsSliceOf.new ..) pl pu q3;show wpAny (model X.prog X.w) X.A (subscriptTail e (.Slice lo hi none p2) v (.ref s3.heap.objs.size)) (EP X EM Y Q) X.xe { s3 with heap:=s3.heap.push { cls:=.type "slice",data:=.fields #[vl,vu,.none] } };exact tail_any (ops:=[.ref s3.heap.objs.size,v]) ht hT hg (by with_unfolding_all rfl)
def uW (xs:List V) (lo hi:Option Int):List V:=(xs.drop (HT.zD xs.length 0 lo)).take (HT.zD xs.length xs.length hi-HT.zD xs.length 0 lo)
theorem ai (xs:List V) (lo hi:Option Int):(uW xs lo hi).length<=xs.length:=by
 unfold uW;rw[C9,D_]
 lia
def eM (K:Ab):V->Option Int->Option Int->Hp->VK->Prop:=λ x lo hi H Q=>∃ a xs,x=.ref a/\zR K H a xs/\
 ¬ (HT.zD xs.length 0 lo=0/\HT.zD xs.length xs.length hi=xs.length)/\∀ p,H p=none->Q (.ref p) (upd H p (.tup (uW xs lo hi)))
theorem XT:rh X (eM X.K):=by
 intro EM s Y H x v vl vu lo hi sl Q I rx hs pl pu h;obtain⟨a,xs,rfl,hx,hw,q⟩:=h;cases rx;obtain⟨its,r,ht,hz⟩:=I.tuple hx;have hlen:its.toArray.size=xs.length:=by rw[Az];exact r.length.symm
 refine⟨"tuple",_,PyProof.Rows.slot_tuple_getitem.lookup,ht.typeIs,?_⟩;refine HT.OH ht hs pl pu (by rw[hlen];exact hw) ?_ (by rw[hlen];exact hz);rw[hlen];refine⟨.ref s.heap.objs.size,_,I.laid (t':=s.toks) (o:=.tup (uW xs lo hi)) (λ b ob q=>KY _ q) (Af _) ?_,rfl,q _ (I.zv.fresh (Af _))⟩;exact⟨Br (ai xs lo hi) hz,_,(r.drop (HT.zD xs.length 0 lo)).take (HT.zD xs.length xs.length hi-HT.zD xs.length 0 lo),IsTup.new _ _⟩
def j6 (K:Ab):R2:=λ x y H Q=>∃ a b ns ms,x=.ref a/\y=.ref b/\zR K H a (ns.map V.int)/\zR K H b (ms.map V.int)/\Q (.bl (HT.lexLt ns ms)) H
theorem TX (hu:X.A.units<cLine):zV X (compareOp .Lt) (j6 X.K):=by
 intro EM s Y H x y v u Q I rx ry h;obtain⟨a,b,ns,ms,rfl,rfl,ha,hb,q⟩:=h;cases rx;cases ry;obtain⟨its,r1,p1,_⟩:=I.tuple ha;obtain⟨Fp,r2,p2,_⟩:=I.tuple hb;have i1:IntsAre its.toArray.toList ns:=intsAre_of r1;have i2:IntsAre Fp.toArray.toList ms:=intsAre_of r2;exact HT.Pa p1 p2 i1 i2 hu ⟨.bl (HT.lexLt ns ms),H,I,rfl,q⟩
def eU (K:Ab):R2:=λ x y H Q=>∃ a b xs ys,x=.ref a/\y=.ref b/\zR K H a xs/\zR K H b ys/\xs≠[]/\xs.length+ys.length<=sizeLine/\
 (ys=[]->Q (.ref a) H)/\(ys≠[]->∀ p,H p=none->Q (.ref p) (upd H p (.tup (xs++ys))))
theorem Vals.oz {xs:List V}{us:Ae}(r:Vals xs us):us=[]↔xs=[]:=by
 cases r with
 | _=>simp
theorem Sh:zV X (binaryOp .Add) (eU X.K):=by
 intro EM s Y H x y v u Q I rx ry h;obtain⟨a,b,xs,ys,rfl,rfl,ha,hb,hx,hz,q1,q2⟩:=h;cases rx;cases ry;obtain⟨its,r1,p1,_⟩:=I.tuple ha;obtain⟨Fp,r2,p2,_⟩:=I.tuple hb;refine HT.NT p1 p2 (λ z=>hx (r1.oz.mp z)) (λ z=>⟨.ref a,H,I,rfl,q1 (r2.oz.mp z)⟩) (λ z=>?_) (by rw[<- r1.length,<- r2.length];exact hz);refine⟨.ref s.heap.objs.size,_,I.laid (t':=s.toks) (o:=.tup (xs++ys)) (λ b ob q=>KY _ q) (Af _) ?_,rfl,q2 (λ w=>z (r2.oz.mpr w)) _ (I.zv.fresh (Af _))⟩;exact⟨by rw[Cv];exact hz,_,r1.append r2,IsTup.new _ _⟩
end
noncomputable def xF (n:Nat) (i:Int):Option Nat:=if 0<=i then (if i<n then some i.toNat else none) else if -(n:Int)<=i then some (i+n).toNat else none
def zB {α:Type}(xs:List α) (i:Int):Option α:=(xF xs.length i).bind λ j=>xs[j]?
theorem c9 {n:Nat}{i:Int}{j:Nat}(h:xF n i=some j):seqIndex? i n=some j/\j<n/\-(n:Int)<=i/\i<n:=by
 unfold xF at h;by_cases h0:0<=i
 .rw[if_pos h0] at h;by_cases h1:i<n
  .rw[if_pos h1] at h;have e:i.toNat=j:=A8 h;exact⟨by rw[seqIndex_of h0 h1,e],by lia,by lia,h1⟩
  .rw[if_neg h1] at h;cases h
 .rw[if_neg h0] at h;by_cases h1:-(n:Int)<=i
  .rw[if_pos h1] at h;have e:(i+n).toNat=j:=A8 h;exact⟨by rw[seqIndex_neg (by lia) h1,e],by lia,h1,by lia⟩
  .rw[if_neg h1] at h;cases h
theorem gf {α:Type}{xs:List α}{i:Int}{v:α}(h:zB xs i=some v):∃ j,seqIndex? i xs.length=some j/\xs[j]?=some v/\j<xs.length/\-(xs.length:Int)<=i/\i<xs.length:=by
 unfold zB at h;cases e:xF xs.length i with
 | none=>rw[e] at h;cases h
 | some j=>
  rw[e] at h;obtain⟨h1,h2,h3,h4⟩:=c9 e;exact⟨j,h1,h,h2,h3,h4⟩
theorem h_ {α:Type}(xs:List α) (v:α):zB (xs++[v]) (-1)=some v:=by
 have hl:(xs++[v]).length=xs.length+1:=by simp
 have e:xF (xs++[v]).length (-1)=some xs.length:=by
  unfold xF;rw[hl,if_neg (by decide),if_pos (by lia)];congr 1
  lia
 unfold zB;rw[e];show (xs++[v])[xs.length]?=some v;simp
def aX (b:Expr):Prop:=∀ o i,subscripted b false o i=operate [o,i] (getItem o i)
def se (X:Cx) (r:R2):Prop:=
 ∀ (value slice:Expr) (EM:Ag) (s:Shared) (Y:St) (H:Hp) (x y:V) (v u:Value) (Q:VK),Inv X EM Y H s->RelV x v->RelV y u->r x y H Q->
  subscripted slice false v u=operate [v,u] (getItem v u)->wpAny (model X.prog X.w) X.A (subscriptTail value slice v u) (EP X EM Y Q) X.xe s
def MJ (X:Cx) (id:String) (r:V->List V->Hp->VK->Prop):Prop:=
 ∀ (EM:Ag) (s:Shared) (Y:St) (H:Hp) (x:V) (xs:List V) (v:Value) (us:Ae) (Q:VK),Inv X EM Y H s->RelV x v->Vals xs us->r x xs H Q->
  wpAny (model X.prog X.w) X.A (call (.builtin id) (v::us)) (EP X EM Y Q) X.xe s
section
variable {X:Cx}{a b:Expr}{ta tb:TE}{pos:Pos}
theorem se.or {r r':R2}(h:se X r) (h':se X r'):se X (λ x y H Q=>r x y H Q\/r' x y H Q):=by
 intro value slice EM s Y H x y v u Q I rx ry q hs;rcases q with q | q
 .exact h value slice EM s Y H x y v u Q I rx ry q hs
 .exact h' value slice EM s Y H x y v u Q I rx ry q hs
theorem V1 {r:R2}(hr:se X r) (ha:PE X a ta) (hb:PE X b tb) (hs:aX b):PE X (.Subscript a b pos) (pT r ta tb):=by
 intro EM s Y H Q I h;exact Subscript_ (hX ha hb I h λ v u s2 x y H2 I2 rx ry q=>hr a b EM s2 Y H2 x y v u Q I2 rx ry q (hs _ _))
def eQ (K:Ab):R2:=λ x y H Q=>∃ p xs i v,x=.ref p/\y=.int i/\zL K H p xs/\zB xs i=some v/\Q v H
def eO (K:Ab):R2:=λ x y H Q=>∃ p xs i v,x=.ref p/\y=.int i/\zR K H p xs/\zB xs i=some v/\Q v H
def eP:R2:=λ x y H Q=>∃ z i c,x=.str z/\y=.int i/\z.length<=sizeLine/\zB z.cps.toList i=some c/\Q (.str ⟨#[c]⟩) H
theorem PR:se X (eQ X.K):=by
 intro value slice EM s Y H x y v u Q I rx ry h hs;obtain⟨p,xs,i,z,rfl,rfl,hq,he,q⟩:=h;cases rx;obtain⟨t,rfl⟩:=ry;obtain⟨its,r,pl,hz⟩:=I.list hq;obtain⟨j,h1,h2,h3,h4,h5⟩:=gf he;obtain⟨w,ew,Hg⟩:=r.get h2;have hl:=r.length;have hn:=rM;have fin:EP X EM Y Q w s:=⟨z,H,I,Hg,q⟩
 by_cases h0:0<=i
 .have hj:i.toNat=j:=by
   rw[seqIndex_of h0 h5] at h1;exact A8 h1
  exact item_listR pl.isList h0 (by lia) (by rw[hj];simpa using ew) fin hs
 .have hj:(i+(its.toArray.size:Int)).toNat=j:=by
   rw[seqIndex_neg (by lia) h4] at h1;rw[Az,<- hl];exact A8 h1
  exact subscriptTail_builtinR (x:=w) pl.isList.typeIs slot_list_getitem.lookup
   (wpAny_getItem_list_neg (Q:=λ r s'=>r=w/\EP X EM Y Q r s') pl.isList (by lia) (by rw[Az] <;> lia) (by lia) (by rw[hj];simpa using ew) ⟨rfl,fin⟩) hs
theorem PM:se X (eO X.K):=by
 intro value slice EM s Y H x y v u Q I rx ry h hs;obtain⟨p,xs,i,z,rfl,rfl,hq,he,q⟩:=h;cases rx;obtain⟨t,rfl⟩:=ry;obtain⟨its,r,pl,hz⟩:=I.tuple hq;obtain⟨j,h1,h2,h3,h4,h5⟩:=gf he;obtain⟨w,ew,Hg⟩:=r.get h2;have hl:=r.length;have hn:=rM;have fin:EP X EM Y Q w s:=⟨z,H,I,Hg,q⟩
 exact subscriptTail_builtinR (x:=w) pl.typeIs slot_tuple_getitem.lookup
  (getItem_tuple (j:=j) (Q:=λ r s'=>r=w/\EP X EM Y Q r s') pl (by lia) (by lia) (by rw[Az,<- hl];exact h1) (by simpa using ew) ⟨rfl,fin⟩) hs
theorem PN:se X eP:=by
 intro value slice EM s Y H x y v u Q I rx ry h hs;obtain⟨z,i,c,rfl,rfl,hz,he,q⟩:=h;obtain⟨t,rfl⟩:=rx;obtain⟨t',rfl⟩:=ry;obtain⟨j,h1,h2,h3,h4,h5⟩:=gf he;have hl:z.cps.toList.length=z.length:=by simp[Str.length]
 rw[hl] at h1 h4 h5;have hn:=rM;exact tail_any (typeIs_str s z t) slot_str_getitem.lookup (getItem_str (c:=c) (by
  have e1:decide (i < -(2 ^ 63:Int))=false:=KZ (by lia);have e2:decide (i≥2 ^ 63)=false:=KZ (by lia);rw[e1,e2,Bool.or_false]) (by rw[h1];simpa using h2) ⟨.str ⟨#[c]⟩,H,I.tok _,⟨_,rfl⟩,q⟩) hs
def eR (K:Ab):R2:=λ x y H Q=>eQ K x y H Q\/eO K x y H Q\/eP x y H Q
theorem PQ:se X (eR X.K):=PR.or (PM.or PN)
theorem Q_ (its:Ae) (n j:Nat) (u:Value):Obj.mapSeq (·.setIfInBounds j u) { cls:=.type "list",data:=.seq its.toArray n }={ cls:=.type "list",data:=.seq (its.set j u).toArray n }:=by
 simp[Obj.mapSeq]
theorem Inv.lst {EM:Ag}{Y:St}{H:Hp}{s:Shared}{p:Addr}{xs:List V}(I:Inv X EM Y H s) (h:H p=some (.lst xs)):
  ∃ (its:Ae) (n:Nat),Vals xs its/\s.heap.get? p=some { cls:=.type "list",data:=.seq its.toArray n }/\xs.length<=sizeLine:=by
 obtain⟨z,its,n,r,e⟩:=I.zv p _ h;exact⟨its,n,r,e,z⟩
theorem Inv.Pb {EM:Ag}{Y:St}{H:Hp}{s:Shared}{p:Addr}{xs ys:List V}{its AM:Ae}{n n':Nat}{f:Obj->Obj}(I:Inv X EM Y H s) (h:H p=some (.lst xs))
  (ho:s.heap.get? p=some { cls:=.type "list",data:=.seq its.toArray n }) (hf:f { cls:=.type "list",data:=.seq its.toArray n }={ cls:=.type "list",data:=.seq AM.toArray n' }) (r:Vals ys AM) (hz:ys.length<=sizeLine) (t:Nat):
  Inv X EM Y (upd H p (.lst ys)) { s with heap:=s.heap.update p f,toks:=t }:=by
 have e:(s.heap.update p f).get? p=some { cls:=.type "list",data:=.seq AM.toArray n' }:=by
  rw[K_ f ho (by rw[hf] <;> rfl),hf]
 refine I.write (x:=p) (e:=p) (by rw[h];trivial) (.inl rfl) (λ b u hb q=>(Ls _ _ (Ne.symm hb)).trans q) ⟨_,e⟩ ?_;exact⟨hz,AM,n',r,e⟩
def Wx:V->V->V->Hp->(Hp->Prop)->Prop:=λ o i v H Q=>∃ p xs k j,o=.ref p/\i=.int k/\H p=some (.lst xs)/\xF xs.length k=some j/\Q (upd H p (.lst (xs.set j v)))
theorem set_list:aY X Wx:=by
 intro EM s Y H o i v ov iv u Q I ro ri rv h;obtain⟨p,xs,k,j,rfl,rfl,hp,hj,q⟩:=h;cases ro;obtain⟨t,rfl⟩:=ri;obtain⟨its,n,r,ho,hz⟩:=I.lst hp;obtain⟨h1,h2,h3,h4⟩:=c9 hj;have hl:=r.length;have hn:=rM;have I':Inv X EM Y (upd H p (.lst (xs.set j v))) { s with heap:=s.heap.update p (Obj.mapSeq (·.setIfInBounds j u)) }:=
  I.Pb hp ho (Q_ its n j u) (r.set rv j) (by rw[DJ];exact hz) s.toks
 by_cases h0:0<=k
 .have hk:k.toNat=j:=by
   rw[seqIndex_of h0 h4] at h1;exact A8 h1
  exact PySem.W.ki_setAt ho h0 (by lia) (by rw[Az,<- hl];exact h4) (by rw[hk];exact⟨_,I',q⟩)
 .have hk:(k+(its.toArray.size:Int)).toNat=j:=by
   rw[seqIndex_neg (by lia) h3] at h1;rw[Az,<- hl];exact A8 h1
  exact PySem.W.ki_setBack ho (by lia) (by rw[Az,<- hl];exact h3) (by lia) (by rw[hk];exact⟨_,I',q⟩)
theorem XQ (lo hi:Option Int) (n:Nat):(sliceBounds lo hi none n).1=((HT.zD n 0 lo:Nat):Int)/\(sliceBounds lo hi none n).2.1=((HT.zD n n hi:Nat):Int)/\(sliceBounds lo hi none n).2.2=1:=by
 refine⟨?_,?_,rfl⟩
 .cases lo with
  | none=>simp[sliceBounds,HT.zD]
  | some i=>
   simp only[sliceBounds,HT.zD,Option.getD_none,show (1:Int)>0 by decide,if_true];by_cases h:i<0
   .simp only[h,if_true] <;> lia
   .simp only[h,if_false] <;> lia
 .cases hi with
  | none=>simp[sliceBounds,HT.zD]
  | some i=>
   simp only[sliceBounds,HT.zD,Option.getD_none,show (1:Int)>0 by decide,if_true];by_cases h:i<0
   .simp only[h,if_true] <;> lia
   .simp only[h,if_false] <;> lia
theorem XR (its:Ae) (lo hi:Option Int):slicePick its.toArray lo hi none=((its.drop (HT.zD its.length 0 lo)).take (HT.zD its.length its.length hi-HT.zD its.length 0 lo)).toArray:=by
 obtain⟨h1,h2,h3⟩:=XQ lo hi its.toArray.size;unfold slicePick;rw[h1,h2,h3];simp only[sliceRange_one,pick_run,Az] <;> rfl
def eN (K:Ab):V->Option Int->Option Int->Hp->VK->Prop:=λ x lo hi H Q=>∃ a xs,x=.ref a/\zL K H a xs/\∀ p,H p=none->Q (.ref p) (upd H p (.lst (uW xs lo hi)))
theorem XW:rh X (eN X.K):=by
 intro EM s Y H x v vl vu lo hi sl Q I rx hs pl pu h;obtain⟨a,xs,rfl,hx,q⟩:=h;cases rx;obtain⟨its,r,ht,hz⟩:=I.list hx;have hlen:=r.length;refine⟨"list",_,slot_list_getitem.lookup,ht.isList.typeIs,?_⟩;refine wpAny_getItem_list_slice ht.isList hs pl pu .none (by simp) ?_ (by rw[Az] <;> lia);rw[XR,<- hlen];refine⟨.ref s.heap.objs.size,_,I.laid (t':=s.toks) (o:=.lst (uW xs lo hi)) (λ b ob q=>KY _ q) (Af _) ?_,rfl,q _ (I.zv.fresh (Af _))⟩;exact⟨Br (ai xs lo hi) hz,_,0,(r.drop (HT.zD xs.length 0 lo)).take (HT.zD xs.length xs.length hi-HT.zD xs.length 0 lo),AJ _ rfl⟩
theorem Mi:yy X (.builtin "len") (λ xs H Q=>∃ p ys,xs=[.ref p]/\(zL X.K H p ys\/zR X.K H p ys)/\Q (.int ys.length) H):=by
 intro EM s Y H xs us Q I r h;obtain⟨p,ys,rfl,hq,q⟩:=h;obtain⟨u,rfl,rx⟩:=vals1 r;cases rx;have hn:=rM;rcases hq with hq | hq
 .obtain⟨its,r',pl,hz⟩:=I.list hq;have hlen:=r'.length;exact Calls.call_len_list pl.isList (by simp only[Az] <;> lia) ⟨.int ys.length,H,I.tok _,⟨s.toks+1,by rw[Az,hlen]⟩,q⟩
 .obtain⟨its,r',pl,hz⟩:=I.tuple hq;have hlen:=r'.length;exact len_tuple pl (by simp only[Az] <;> lia) ⟨.int ys.length,H,I.tok _,⟨s.toks+1,by rw[Az,hlen]⟩,q⟩
theorem Mh:yy X (.builtin "len") (λ xs H Q=>∃ z,xs=[.str z]/\z.length<=sizeLine/\Q (.int z.length) H):=by
 intro EM s Y H xs us Q I r h;obtain⟨z,rfl,hz,q⟩:=h;obtain⟨u,rfl,t,rfl⟩:=vals1 r;have hn:=rM;exact len_str (by lia) ⟨.int z.length,H,I.tok _,⟨_,rfl⟩,q⟩
theorem yy.or {f:Value}{r r':List V->Hp->VK->Prop}(h:yy X f r) (h':yy X f r'):yy X f (λ xs H Q=>r xs H Q\/r' xs H Q):=by
 intro EM s Y H xs us Q I rs q;rcases q with q | q
 .exact h EM s Y H xs us Q I rs q
 .exact h' EM s Y H xs us Q I rs q
theorem Mf:yy X (.type "list") (λ xs H Q=>∃ p ys,xs=[.ref p]/\(zL X.K H p ys\/zR X.K H p ys)/\∀ l,H l=none->Q (.ref l) (upd H l (.lst ys))):=by
 intro EM s Y H xs us Q I r h;obtain⟨p,ys,rfl,hq,q⟩:=h;obtain⟨u,rfl,rx⟩:=vals1 r;cases rx;have fin:∀ (its:Ae),Vals ys its->ys.length<=sizeLine->∀ (h':Heap) (c':Nat),(∀ b o',s.heap.get? b=some o'->h'.get? b=some o')->
   h'.get? s.heap.objs.size=some { cls:=.type "list",dict:=none,data:=.seq its.toArray c',slots:=#[] }->EP X EM Y Q (.ref s.heap.objs.size) { s with heap:=h' }:=λ its r' hz h' c' kp e=>
  ⟨.ref s.heap.objs.size,_,I.laid (t':=s.toks) kp (Af _) (show yJ X.prog X.w _ h' _ (.lst ys) from ⟨hz,its,c',r',e⟩),rfl,q _ (I.zv.fresh (Af _))⟩
 rcases hq with hq | hq
 .obtain⟨its,r',pl,hz⟩:=I.list hq;have hlen:=r'.length;obtain⟨o,ho,hc,n,hd⟩:=pl.isList;exact call_list_seq p (.inl rfl) ho hc hd (λ h' c' kp e=>fin its r' hz h' c' kp e) (by simp only[Az] <;> lia)
 .obtain⟨its,r',pl,hz⟩:=I.tuple hq;have hlen:=r'.length;obtain⟨o,ho,hc,n,hd⟩:=pl;exact call_list_seq p (.inr rfl) ho hc hd (λ h' c' kp e=>fin its r' hz h' c' kp e) (by simp only[Az] <;> lia)
theorem NU:yy X (.type "tuple") (λ xs H Q=>∃ p ys,xs=[.ref p]/\((zL X.K H p ys/\∀ l,H l=none->Q (.ref l) (upd H l (.tup ys)))\/(zR X.K H p ys/\Q (.ref p) H))):=by
 intro EM s Y H xs us Q I r h;obtain⟨p,ys,rfl,h⟩:=h;obtain⟨u,rfl,rx⟩:=vals1 r;cases rx;rcases h with ⟨hq,q⟩ | ⟨hq,q⟩
 .obtain⟨its,r',pl,hz⟩:=I.list hq;have hlen:=r'.length;refine call_tuple_list pl.isList (λ h' kp=>?_) (by simp only[Az] <;> lia);have I1:Inv X EM Y H { s with heap:=h' }:=I.kept (t':=s.toks) kp;have I2:Inv X EM Y (upd H h'.objs.size (.tup ys)) { s with heap:=h'.push { cls:=.type "tuple",data:=.seq its.toArray } }:=
   I1.laid (t':=s.toks) (λ b o e=>KY _ e) (Af _) (show yJ X.prog X.w _ _ _ (.tup ys) from ⟨hz,its,r',IsTup.new _ _⟩)
  exact⟨.ref h'.objs.size,_,I2,rfl,q _ (I1.zv.fresh (Af _))⟩
 .obtain⟨its,r',pl,hz⟩:=I.tuple hq;exact call_tuple_same pl ⟨.ref p,H,I,rfl,q⟩
def fH (K:Ab) (T:String) (x:V) (H:Hp):Prop:=match x with
 | .str _=>T="str"
 | .int _=>T="int"
 | .ref p=>(T="list"/\∃ xs,zL K H p xs)\/(T="tuple"/\∃ o,K.lookup p=some o/\o.cls=.type "tuple"/\o.dict=none)\/
   (T="dict"/\((∃ Aa,H p=some (.dK Aa))\/∃ Aa,H p=some (.dT Aa)))\/(T="set"/\∃ S n,H p=some (.set S n))
 | _=>False
theorem YS {EM:Ag}{Y:St}{H:Hp}{s:Shared}{T:String}{x:V}{v:Value}(I:Inv X EM Y H s) (r:RelV x v) (ty:fH X.K T x H):
  s.TypeIs v T/\∀ a,v=.ref a->∃ ob,s.heap.get? a=some ob/\ob.dict=none:=by
 cases x with
 | str z=>
  obtain⟨t,rfl⟩:=r;cases (show T="str" from ty);exact⟨typeIs_str s z t,λ _ e=>nomatch e⟩
 | int i=>
  obtain⟨t,rfl⟩:=r;cases (show T="int" from ty);exact⟨typeIs_int s i t,λ _ e=>nomatch e⟩
 | ref p=>
  cases r;rcases ty with ⟨rfl,xs,hq⟩ | ⟨rfl,o,hk,hc,hd⟩ | ⟨rfl,hk⟩ | ⟨rfl,S,n,hk⟩
  .obtain⟨its,_,pl,_⟩:=I.list hq;refine⟨pl.isList.typeIs,λ a e=>?_⟩;cases e;obtain⟨o,n,e,c,hd,_⟩:=pl;exact⟨o,e,hd⟩
  .refine⟨⟨o,I.vx p o hk,hc⟩,λ a e=>?_⟩;cases e;exact⟨o,I.vx _ o hk,hd⟩
  .have z:∃ o,s.heap.get? p=some o/\o.ExactDict:=by
    rcases hk with ⟨Aa,hk⟩ | ⟨Aa,hk⟩
    .obtain⟨_,_,_,_,o,_,_,e,ex,_⟩:=I.zv p _ hk;exact⟨o,e,ex⟩
    .obtain⟨_,_,_,_,o,_,_,e,ex,_⟩:=I.zv p _ hk;exact⟨o,e,ex⟩
   obtain⟨o,e,ex⟩:=z;refine⟨⟨o,e,ex.1⟩,λ a e2=>?_⟩;cases e2;exact⟨o,e,ex.2.1⟩
  .obtain⟨o,_,_,_,e,ex,_⟩:=I.zv p _ hk;refine⟨⟨o,e,ex.1⟩,λ a e2=>?_⟩;cases e2;exact⟨o,e,ex.2.1⟩
 | _=>exact False.elim ty
def jq (K:Ab) (T:String) (r:V->List V->Hp->VK->Prop) (to:TE) (t:TA):TE:=fun Y H Q=>to Y H λ x H1=>fH K T x H1/\t Y H1 λ xs H2=>r x xs H2 Q
variable {o e:Expr}{es:List Expr}{to:TE}{t:TA}{name:Str}{apos Al:Pos}{T id:String}{r:V->List V->Hp->VK->Prop}
theorem dh (pa:PlainAttrs T) (slot:Slot T name id) (hty:typeOf (.builtin id)=pure (.type "method_descriptor")) (hm:MJ X id r) (ho:PE X o to) (ha:PA X (e::es) t)
  (GO:attributeBase o name X.env (eval o X.env)=eval o X.env:=by rfl)
  (AR:((backTo Al (starEach (e::es) X.env)).all (λ x=>!x.1)&&(backToKw Al (keywordEach [] X.env)).all (λ x=>x.1.isSome)
   && decide ((e::es).length+([]:List Keyword).length+(if ([]:List Keyword).isEmpty then 0 else 1)<30))=true:=by rfl)
  (GK:(apos.endLine == Al.line)=true:=by rfl) (hs:starEach (e::es) X.env=(false,eval e X.env)::starEach es X.env:=by rfl) (Gm:(backTo Al (starEach es X.env)).any (·.1)=false:=by rfl):
  PE X (.Call (.Attribute o name apos) (e::es) [] Al) (jq X.K T r to t):=by
 intro EM s Y H Q I h;refine wpAny_Call_method_late GO AR GK rfl (zA (ho EM s Y H _ I h) λ v s1 ⟨x,H1,I1,r1,ty,q1⟩=>?_);obtain⟨h1,h2⟩:=YS I1 r1 ty;refine⟨T,id,pa,slot,hty,h1,h2,?_⟩;have hA:=ha Al EM s1 Y H1 _ I1 q1;rw[hs] at hA ⊢;refine Calls.callWith_builtin (by show (false||(backTo Al (starEach es X.env)).any (·.1))=false;rw[Gm] <;> rfl) (Calls.evalArgs_plain ?_);exact zA hA λ us s2 ⟨vs,H2,I2,r2,q2⟩=>hm EM s2 Y H2 x vs v us Q I2 r1 r2 q2
end
def a_ (X:Cx) (id:String) (r:V->List V->Hp->VK->Prop):Prop:=
 ∀ (EM:Ag) (s:Shared) (Y:St) (H:Hp) (x:V) (xs:List V) (v:Value) (us:Ae) (Q:VK),Inv X EM Y H s->RelV x v->Vals xs us->r x xs H Q->
  wpAny (model X.prog X.w) X.A (call (.builtin id) (v::us)) (EP X EM Y Q) X.xe s
theorem Vals.one:∀ {x:V}{us:Ae},Vals [x] us->∃ u,us=[u]/\RelV x u
 | _,_,.cons r .nil=>⟨_,rfl,r⟩
theorem Vals.rep {xs:List V}{us:Ae}(h:Vals xs us):∀ k:Nat,Vals (List.replicate k xs).flatten (List.replicate k us).flatten
 | 0=>.nil
 | k+1=>by
  rw[BZ,BZ,Cr,Cr];exact Vals.append h (Vals.rep h k)
section
variable {X:Cx}{EM:Ag}{Y:St}{H:Hp}{s:Shared}{l:Addr}{xs ys:List V}
theorem Inv.dZ {its AM:Ae}{n:Nat}{f:Array Value->Array Value}{t':Nat}(I:Inv X EM Y H s) (hH:H l=some (.lst xs))
  (e:s.heap.get? l=some { cls:=.type "list",data:=.seq its.toArray n }) (hf:f its.toArray=AM.toArray) (hv:Vals ys AM) (hz:ys.length<=sizeLine):
  Inv X EM Y (upd H l (.lst ys)) { s with heap:=s.heap.update l (Obj.mapSeq f),toks:=t' }:=by
 have q:=PySem.IsL.update e f;rw[hf] at q;refine I.write (x:=l) (e:=l) (by rw[hH];exact trivial) (.inl rfl) (λ b' u hb hu=>(Ls s.heap (Obj.mapSeq f) (Ne.symm hb)).trans hu) ⟨_,q⟩ ?_;exact⟨hz,AM,_,hv,q⟩
theorem Inv.Pe {its:Ae}{t':Nat}(I:Inv X EM Y H s) (hv:Vals ys its) (hz:ys.length<=sizeLine):
  Inv X EM Y (upd H s.heap.objs.size (.lst ys)) { s with heap:=s.heap.push { cls:=.type "list",data:=.seq its.toArray },toks:=t' }:=
 I.laid (λ _ _ q=>KY _ q) (Af _) ⟨hz,its,0,hv,AJ _ rfl⟩
theorem Inv.fresh (I:Inv X EM Y H s):H s.heap.objs.size=none:=I.zv.fresh (Af _)
theorem Inv.jW (I:Inv X EM Y H s) (hH:H l=some (.lst xs)):xs.length<=sizeLine/\∃ (its:Ae) (n:Nat),Vals xs its/\xs.length=its.length/\s.heap.get? l=some { cls:=.type "list",data:=.seq its.toArray n }:=by
 obtain⟨z,its,n,r,e⟩:=I.zv l _ hH;exact⟨z,its,n,r,r.length,e⟩
theorem QH {n:Nat}(h:n<=sizeLine):Builtin.List.listTooLong n=false:=by
 unfold Builtin.List.listTooLong;exact KZ (by lia)
def eW:V->List V->Hp->VK->Prop:=λ x vs H Q=>∃ l xs y,x=.ref l/\vs=[y]/\H l=some (.lst xs)/\xs.length<sizeLine/\Q .zo (upd H l (.lst (xs++[y])))
theorem dX:a_ X "list.append" eW:=by
 intro EM s Y H x vs v us Q I rx rv h;obtain⟨l,xs,y,rfl,rfl,hH,hz,q⟩:=h;cases rx;obtain⟨u,rfl,ru⟩:=rv.one;obtain⟨z,its,n,r,hl,e⟩:=I.jW hH;refine call_meets F.slot_list_append ⟨_,e,rfl⟩ F.entry_list_append (F.args_list_append_2 _ _) (PySem.list_append l its.toArray n u (by rw[Az];lia)) ⟨e,?_⟩;refine⟨.zo,_,I.dZ (AM:=its++[u]) hH e (by simp) (r.append (.cons ru .nil)) ?_,rfl,q⟩;rw[Cv,List.length_singleton]
 lia
def eS:V->List V->Hp->VK->Prop:=λ x vs H Q=>∃ l b xs zs,x=.ref l/\vs=[.ref b]/\H l=some (.lst xs)/\H b=some (.lst zs)/\xs.length+zs.length<=sizeLine/\Q .zo (upd H l (.lst (xs++zs)))
theorem QV:a_ X "list.extend" eS:=by
 intro EM s Y H x vs v us Q I rx rv h;obtain⟨l,b,xs,zs,rfl,rfl,hH,hB,hz,q⟩:=h;cases rx;obtain⟨u,rfl,ru⟩:=rv.one;cases ru;obtain⟨z,its,n,r,hl,e⟩:=I.jW hH;obtain⟨z2,Fp,n2,r2,Hx,e2⟩:=I.jW hB;have hsz:its.toArray.size+Fp.toArray.size<=sizeLine:=by rw[Az,Az];lia
 have Ji:¬ (!its.toArray.isEmpty&&Builtin.List.listTooLong (its.toArray.size+Fp.toArray.size))=true:=by
  rw[QH hsz,CQ];exact BP
 refine call_meets F.slot_list_extend ⟨_,e,rfl⟩ F.entry_list_extend (F.args_list_extend_2 _ _)
  (AutoSeq1.list_extend_list_list_0 l its.toArray n b Fp.toArray n2 Ji (by rw[Az];lia) (by lia)) ⟨e,e2,?_⟩
 refine⟨.zo,_,I.dZ (AM:=its++Fp) hH e (by simp) (r.append r2) ?_,rfl,q⟩;rw[Cv]
 lia
end
end L2
namespace Y9
open PySem PySem.W PySem.Calls PyProof.Rows
theorem Oe {P:Params}{h:Heap}:∀ (ns:List Int) (vs:Ae),WellAll P h vs (ns.map WData.int)->IntsAre vs ns:=by
 intro ns
 induction ns with
 | nil=>
  intro vs w;rw[A_] at w;cases w;exact .nil
 | cons n ns ih=>
  intro vs w;rw[Au] at w;cases w with
  | cons a b=>
   cases a;exact .cons _ _ (ih _ b)
theorem Wd {l:OpenLaw}{n:Nat}(hn:l.most=some n) {P:Params}{h:Heap}{args:List WData}{vals:Ae}
  (Cd:l.row.toRowW.claim.pre args=true) (Ef:WellAll P h vals args):
  ∃ a vs ns,vals=[Value.ref a]/\args=[WData.list (ns.map WData.int)]/\h.get? a=some { cls:=.type "list",data:=.seq vs.toArray }/\IntsAre vs ns/\ns.length<=n:=by
 have DS:WShape.hasAll [] args [.list .int]=true:=(pre_splitW Cd).1;have hc:l.pre.holds [] { args:=args }=true:=(pre_splitW Cd).2;obtain⟨d,r,rfl,h1,h2⟩:=hasAllW_cons DS;obtain rfl:=hasAllW_nil h2;obtain⟨xs,rfl,h3⟩:=hasW_list h1;obtain⟨ns,rfl⟩:=items_int h3;have hlen:ns.length<=n:=by
  unfold OpenLaw.pre at hc;have h4:(WTm.not (.lt (.lit (.int (n:Int))) (.len (.arg 0)))).holds [] { args:=[.list (ns.map .int)] }=true:=by
   have h4:=(holds_andW hc).1;rw[hn] at h4;exact h4
  have h5:=condW_of h4 (w_not (w_lt w_lit (w_len_list (w_arg rfl))));rw[AA] at h5;refine Nat.le_of_not_lt λ q=>?_;have q':(n:Int)<((ns.length:Nat):Int):=by lia
  first
   | (rw[K4 q'] at h5;exact absurd h5 (by decide))
   | (simp at h5;lia)
 cases Ef with
 | cons w1 w2=>
  cases w2;cases w1 with
  | list ho AH=>exact⟨_,_,ns,rfl,rfl,ho,Oe ns _ AH,hlen⟩
theorem WQ (l:OpenLaw) (args:List WData):l.row.toRowW.claim.post args (.bool true) args=true:=
 postW_of (r:=l.row.toRowW) (X:=(true == true))
  (show WShape.has [] (.bool true) .bool=true by first | rfl | decide | simp[WShape.has,WShape.arms,WShape.armsAll])
  (show (WTm.eq .res (.lit (.bool true))).value [] { args:=args,res:=some (.bool true),after:=args }=some (.bool (true == true)) from w_eq_bool (w_res rfl) w_lit) rfl
theorem M0 {l:OpenLaw}{n:Nat}{q:Program}{loose:List Str}{XP:(Str->Option Value)->Heap->Prop}{YP:World->Heap->Prop}{d:DefRec}
  (hn:l.most=some n) (Dq:d.params.defaults=[])
  (call:∀ (w:World) (s₀ s₁:Shared) (mg mb:AI) (fa:Addr) (o:Obj) (pm cd doc:Value) (a:Addr) (vs:Ae) (ns:List Int),
   Ground q loose [] XP w s₀ mg mb s₁.heap->YP w s₁.heap->
   s₁.heap.get? fa=some o->o.data=.func (docDef d.name d.params d.body d.scope pm cd doc)->s₁.heap.CodeRec cd d.name->mg d.name=some (.ref fa)->
   s₁.heap.get? a=some { cls:=.type "list",data:=.seq vs.toArray }->IntsAre vs ns->ns.length<=n->s₁.gens=#[]->
   codeAny (model l.prog w) callerA (.call (.ref fa) ⟨[.ref a],[]⟩) (λ r s'=>r=.ok (.ret (.bool true))/\OldK s₁.heap s'.heap/\s'.os=s₁.os/\AllBare s'.gens) s₁):
  WalkO q loose XP YP l.row.toRowW d [] (λ f vs=>PySem.call f vs):=by
 intro w s₀ s₁ mg mb G Y fa o pm cd doc dV kV ho hd BE hD Dj hg args vals as Cd Dk hrd Ef Ey;obtain rfl:dV=.none:=Dflts.none hD Dq;obtain rfl:kV=.none:=Dflts.noKw hD;obtain⟨a,vs,ns,rfl,rfl,CK,hints,hlen⟩:=Wd hn Cd Ef;refine enter_call (codeAny_mono (call w s₀ s₁ mg mb fa o pm cd doc a vs ns G Y ho (fd_plain hd) BE Dj CK hints hlen hg) λ r s' hq=>?_);obtain⟨rfl,h2,h3,h4⟩:=hq;exact⟨.inl ⟨.bool true,.bool true,[],rfl,λ _=>rfl,.bool true,WQ l _,λ _=>⟨List.Pairwise.nil,λ _ hm=>(nomatch hm)⟩⟩,h2,h3,h4⟩
end Y9
namespace L2
open PySem PySem.Spec PyProof.Rows
theorem f6:∀ {vs:Ae}{ns:List Int},IntsAre vs ns->Vals (ns.map V.int) vs
 | _,_,.nil=>.nil
 | _,_,.cons n t h=>.cons ⟨t,rfl⟩ (f6 h)
def kG (H:Hp):Prop:=∀ b,H b=none\/∃ o xs,H b=some (.xO o (.lst xs))
theorem Pw {P:Program}{w:World}{K:Ab}{mg mb:AI}{CX:uB}{k:Nat}{fa a:Addr}{fd:FuncData}{x:Str}{sp:Sp}{s₁:Shared}{vs:Ae}{ns:List Int}
  (KX:K.In s₁.heap) (CL:s₁.heap.Ns mainGlobals mg) (hb:s₁.heap.Ns builtinsNs mb) (hbb:∀ x:Str,x≠"__name__"->mb x=bootBuiltins x) (BC:s₁.heap.NoLimit) (hg:s₁.gens=#[])
  (ha:s₁.heap.get? a=some { cls:=.type "list",data:=.seq vs.toArray }) (hi:IntsAre vs ns) (hl:ns.length<=sizeLine) (hr:yi k callerA)
  (F:∀ base:Heap,K.In base->base.Ns mainGlobals mg->vI P w K mg base CX k fa fd [x] sp) (Jn:∀ (s:Shared) (u:Value),BindsTo s fd ⟨[u],[]⟩ [(x,u)])
  (B6:∀ H:Hp,kG H->zL K H a (ns.map V.int)->sp [.ref a] H (λ v _=>v=.bl true) λ _ _ _=>False)
  (KA:∀ H e s',CX [] H s₁ (λ _ _ _=>False) e s'->False):
  codeAny (model P w) callerA (.call (.ref fa) ⟨[.ref a],[]⟩) (λ r s'=>r=.ok (.ret (.bool true))/\OldK s₁.heap s'.heap/\s'.os=s₁.os/\AllBare s'.gens) s₁:=by
 have rv:=f6 hi;have Kb:=hi.length;have core:∀ H:Hp,kG H->zL K H a (ns.map V.int)->yG P w H s₁.heap->(∀ b,H b≠none->b=a)->(H a≠none->K.lookup a=none)->
   codeAny (model P w) callerA (.call (.ref fa) ⟨[.ref a],[]⟩) (λ r s'=>r=.ok (.ret (.bool true))/\OldK s₁.heap s'.heap/\s'.os=s₁.os/\AllBare s'.gens) s₁:=by
  intro H hO hS zv hA hK;have G6:∀ {b:Addr}{o:Obj},s₁.heap.get? b=some o->H b=none->(tS s₁.heap H).get? b=some o:=λ e n=>Ov e n;have I_:∀ {b:Addr}{o:Obj}{es:Array DictEntry}{ep:Nat},s₁.heap.get? b=some o->o.data=.dict es ep->H b=none:=λ{b o es ep} e d=>by
   cases q:H b with
   | none=>rfl
   | some u=>
    have e':b=a:=hA b (by rw[q];simp);subst e';rw[ha] at e;cases e;have d':Data.seq vs.toArray _=Data.dict es ep:=d;cases d'
  have JE:∀ {b:Addr}{m:AI},s₁.heap.Ns b m->(tS s₁.heap H).Ns b m:=λ{b m} ⟨o,es,ep,e,d,r⟩=>⟨o,es,ep,G6 e (I_ e d),d,r⟩;have hKb:K.In (tS s₁.heap H):=λ b o e=>G6 (KX b o e) (by
   cases q:H b with
   | none=>rfl
   | some u=>
    have e':b=a:=hA b (by rw[q];simp);subst e';rw[hK (by rw[q];simp)] at e;cases e)
  have hM:Mod K mg (tS s₁.heap H):=⟨hKb,JE CL,⟨mb,JE hb,hbb⟩,let ⟨mc,h1,h2⟩:=BC;⟨mc,JE h1,h2⟩⟩
  have e0:kS P w K mg (tS s₁.heap H) callerA [] s₁ H:=⟨rfl,hM,λ b o e=>QF e,Nat.le_of_eq (Ou _ _),trivial,λ b hb=>absurd (show b∈([]:List Addr) from hb) (by simp),zv,.of_eq hg⟩
  refine codeAny_mono ((F _ hKb (JE CL)).run callerA [] s₁ H ⟨[.ref a],[]⟩ [.ref a] [.ref a] _ _ hr e0 (Jn s₁ (.ref a)) (.cons rfl .nil) (B6 H hO hS)) λ r s' h=>?_;cases r with
  | error e=>exact (KA H e s' h).elim
  | ok fl=>
   cases fl with
   | ret u=>
    obtain⟨v,H',os,bare,un,Er,r',q⟩:=h;have q':v=.bl true:=q;subst q';obtain rfl:u=Value.bool true:=r';refine⟨rfl,OldK.of_keep λ b o e=>?_,os,bare⟩;cases q:H b with
    | none=>exact un.keep b o e q (by intro z;exact absurd (show b∈([]:List Addr) from z) (by simp)) (by simp)
    | some u=>
     rcases hO b with z | ⟨ob,xs,z⟩
     .rw[q] at z;cases z
     .have z2:=un.tT b ob _ z;obtain⟨e1,_⟩:=zv b _ z;obtain⟨e2,_⟩:=Er b _ z2;rw[e] at e1;cases e1;exact e2
   | _=>exact False.elim h
 cases hk:K.lookup a with
 | some o=>
  have e:=KX a o hk;rw[ha] at e;cases e;refine core (λ _=>none) (λ _=>.inl rfl) (.inr ⟨_,vs.toArray,_,hk,rfl,rfl,rfl,by rw[Az,Kb];exact hl,by simpa using rv⟩) (λ b u z=>by have z':(none:Option HO)=some u:=z;cases z') (λ b z=>absurd rfl z) λ z=>absurd rfl z
 | none=>
  refine core (λ b=>if b=a then some (.xO { cls:=.type "list",data:=.seq vs.toArray } (.lst (ns.map V.int))) else none) (λ b=>?_) (.inl (.inr ⟨{ cls:=.type "list",data:=.seq vs.toArray },if_pos rfl⟩)) (λ b u z=>?_) (λ b z=>?_) λ _=>hk
  .by_cases hb:b=a
   .exact .inr ⟨_,_,if_pos hb⟩
   .exact .inl (if_neg hb)
  .by_cases hb:b=a
   .have z':=(if_pos hb).symm.trans z;cases z';subst hb;exact⟨ha,by rw[AA];exact hl,vs,_,rv,ha⟩
   .have z':=(if_neg hb).symm.trans z;cases z'
  .by_cases hb:b=a
   .exact hb
   .exact absurd (if_neg hb) z
theorem YH {l:PySem.W.OpenLaw}{n k:Nat}{q:Program}{loose:List Str}{XP:(Str->Option Value)->Heap->Prop}{YP:World->Heap->Prop}{d:DefRec}{K:Params->Ab}{CX:World->uB}{sp:World->Sp}{x:Str}
  (hn:l.most=some n) (hn2:n<=sizeLine) (Dq:d.params.defaults=[]) (hr:yi k callerA)
  (hY:∀ (w:World) (h:Heap),YP w h->(K w.params).In h)
  (F:∀ (w:World) (mg:AI) (fa:Addr) (h:Heap),(K w.params).In h->h.Ns mainGlobals mg->mg d.name=some (.ref fa)->
   ∃ fd:FuncData,(∀ (s:Shared) (u:Value),BindsTo s fd ⟨[u],[]⟩ [(x,u)])/\
    ∀ base:Heap,(K w.params).In base->base.Ns mainGlobals mg->vI l.prog w (K w.params) mg base (CX w) k fa fd [x] (sp w))
  (B6:∀ (w:World) (H:Hp) (a:Addr) (ns:List Int),ns.length<=n->kG H->zL (K w.params) H a (ns.map V.int)->sp w [.ref a] H (λ v _=>v=.bl true) λ _ _ _=>False)
  (KA:∀ (w:World) (H:Hp) (s:Shared) (e:Value) (s':Shared),CX w [] H s (λ _ _ _=>False) e s'->False):
  PySem.W.WalkO q loose XP YP l.row.toRowW d [] (λ f vs=>PySem.call f vs):=by
 refine Y9.M0 hn Dq λ w s₀ s₁ mg mb fa o pm cd doc a vs ns G Y ho hd BE Dj CK hints hlen hg=>?_;have KX:=hY w _ Y;obtain⟨fd,hb,hF⟩:=F w mg fa _ KX G.T.g Dj;exact Pw KX G.T.g G.T.b G.T.builtins G.T.nolimit hg CK hints (Br hlen hn2) hr hF hb (λ H hO hS=>B6 w H a ns hlen hO hS) λ H e s'=>KA w H s₁ e s'
noncomputable def uV (s:Stmt):Arguments:=match s with
 | .FunctionDef _ a _ _ _ _ _ _ _ _=>a
 | _=>{ posonlyargs:=[],args:=[],vararg:=none,kwonlyargs:=[],kw_defaults:=[],kwarg:=none,defaults:=[] }
noncomputable def wc (s:Stmt):List Stmt:=match s with
 | .FunctionDef _ _ b _ _ _ _ _ _ _=>b
 | _=>[]
noncomputable def ym (s:Stmt):Scope:=match s with
 | .FunctionDef _ _ _ _ _ _ sc _ _ _=>sc
 | _=>{ kind:=.function,names:=[],isGenerator:=false,isCoroutine:=false }
abbrev xt:uB:=λ _ _ _ _ _ _=>False
abbrev E0:XK:=λ _ _ _=>False
theorem T7 {X:Cx}:Passes xt X E0:=λ _ _ _ _ _ _ _ h=>h.elim
structure ue (K:Ab) (x qual:Str) (st:Stmt) (f:Addr) (fd:FuncData):Prop where
 ex:∃ (oc:Value) (od:Option Addr) (kV doc pm:Value) (an:Option Addr) (Ak ct:Value) (HP:Array (Option Value)),
  fd=PySem.W.fnOf x qual (uV st) (wc st) (ym st) .none kV doc pm an Ak ct/\K.lookup f=some ⟨oc,od,.func fd,HP⟩/\PySem.W.codeIn K Ak qual=true
 kp:PySem.W.keepIn K (.ref f)=true
section
variable {P:Program}{w:World}{K:Ab}{mg:AI}{base:Heap}
theorem ue.ok {x qual:Str}{st:Stmt}{f:Addr}{fd:FuncData}{N ps:List Str}{k:Nat}{sp:Sp}(F:ue K x qual st f fd) (S:tm N ps (ym st)) (len:∀ vs H Q E,sp vs H Q E->vs.length=ps.length)
  (Fi:∀ (Ak:Value) (A:Around) (outer:List Env) (s:Shared) (H:Hp) (vs:List V) (Q:VK) (E:XK),yi k (A.deeper (envOfC qual (ym st) s.heap.objs.size f Ak))->sp vs H Q E->
   ∃ t,xJ (wA xt P w K mg base N qual (ym st) f Ak A outer s H E).wX (wc st) t/\t { nx:=λ _ H'=>Q .zo H',rt:=Q } (start N vs) H):vI P w K mg base xt (k+1) f fd ps sp:=by
 obtain⟨oc,od,kV,doc,pm,an,Ak,ct,HP,rfl,lk,BE⟩:=F.ex;refine OU lk BE S len λ A outer s H vs Q E hr B6=>?_;obtain⟨t,h,q⟩:=Fi Ak A outer s H vs Q E hr B6;exact⟨t,h.wX,q⟩
theorem ue.binds {x qual:Str}{st:Stmt}{f:Addr}{fd:FuncData}{ps:List Str}(F:ue K x qual st f fd)
  (h:∀ (kV doc pm:Value) (an:Option Addr) (Ak ct:Value) (us:Ae),us.length=ps.length->bindArgs (PySem.W.fnOf x qual (uV st) (wc st) (ym st) .none kV doc pm an Ak ct) ⟨us,[]⟩=pure (ps.zip us)):Binds K fd ps []:=by
 obtain⟨oc,od,kV,doc,pm,an,Ak,ct,HP,rfl,lk,BE⟩:=F.ex;exact .all (h kV doc pm an Ak ct)
theorem bq {x qual:Str}{st:Stmt}{f:Addr}{oc:Value}{od an:Option Addr}{HP:Array (Option Value)}{kV doc pm Ak ct:Value}(l:K.lookup f=some ⟨oc,od,.func (PySem.W.fnOf x qual (uV st) (wc st) (ym st) .none kV doc pm an Ak ct),HP⟩)
  (c:PySem.W.codeIn K Ak qual=true) (k:PySem.W.keepIn K (.ref f)=true):ue K x qual st f (PySem.W.fnOf x qual (uV st) (wc st) (ym st) .none kV doc pm an Ak ct):=⟨⟨oc,od,kV,doc,pm,an,Ak,ct,HP,rfl,l,c⟩,k⟩
end
theorem i0 {A:Around}{k:Nat}(hr:yi k A):A.units+1<cLine:=Nat.lt_of_le_of_lt (Nat.add_le_add_left (by decide:1<=64) _) hr.units
section
variable {X:Cx}
theorem pv (i:Nat) {x:Str}{pos:Pos}(hN:X.N[i]?=some x:=by rfl) (hv:kD X.env.scope x:=by first | exact Or.inl rfl | exact Or.inr (Or.inl rfl) | exact Or.inr (Or.inr rfl)) (hd:(x == ("__debug__":Str))=false:=by decide)
  (BE:(x == ("__classdict__":Str))=false:=by decide):PE X (.Name x pos) (jk i):=Vp hN hv hd BE
end
end L2
namespace PySem
theorem iX {env:Env}:∀ (l:List (Str×NameKind)) (acc:List (Str×Addr)),(∀ y∈l,y.2=.free->∃ c,env.cells.lookup y.1=some c)->
  ∃ cl,(forIn l acc (λ(x:Str×NameKind) r=>if (x.2 == NameKind.free)=true then do let a <- cellOf env x.1;pure (ForInStep.yield ((x.1,a)::r)) else pure (ForInStep.yield r)):Sem (List (Str×Addr)))=pure cl/\
   (∀ x c,cl.lookup x=some c->acc.lookup x=some c\/((x,NameKind.free)∈l/\env.cells.lookup x=some c))/\(∀ x,(x,NameKind.free)∈l\/(acc.lookup x).isSome->(cl.lookup x).isSome)
 | [],acc,_=>⟨acc,rfl,λ x c h=>.inl h,λ x h=>by simpa using h⟩
 | (n,k)::l,acc,h=>by
  by_cases hk:k=.free
  .subst hk;obtain⟨c,hc⟩:=h (n,.free) Am rfl;obtain⟨cl,e1,e2,e3⟩:=iX l ((n,c)::acc) λ y hy=>h y (Av _ hy);refine⟨cl,?_,λ x d hx=>?_,λ x hx=>?_⟩
   .rw[DI];simp only[beq_self_eq_true,if_true,cellOf,hc];exact e1
   .rcases e2 x d hx with q | ⟨q1,q2⟩
    .rw[BJ] at q;cases De:x == n with
     | true=>
      rw[De] at q;have:x=n:=by simpa using De
      subst this;refine .inr ⟨Am,?_⟩;rw[hc];exact q
     | false=>rw[De] at q;exact .inl q
    .exact .inr ⟨Av _ q1,q2⟩
   .refine e3 x ?_;rcases hx with hx | hx
    .rcases Ai.mp hx with q | q
     .have:x=n:=congrArg Prod.fst q;subst this;exact .inr (by simp[BJ])
     .exact .inl q
    .refine .inr ?_;rw[BJ];cases x == n <;> simp[hx]
  .have hb:(k == NameKind.free)=false:=by simpa using hk
   obtain⟨cl,e1,e2,e3⟩:=iX l acc λ y hy=>h y (Av _ hy);refine⟨cl,?_,λ x d hx=>?_,λ x hx=>?_⟩
   .rw[DI];simp only[hb,Be,if_false];exact e1
   .rcases e2 x d hx with q | ⟨q1,q2⟩
    .exact .inl q
    .exact .inr ⟨Av _ q1,q2⟩
   .refine e3 x ?_;rcases hx with hx | hx
    .rcases Ai.mp hx with q | q
     .exact absurd (congrArg Prod.snd q).symm hk
     .exact .inl q
    .exact .inr hx
theorem aq {scope:Scope}{env:Env}(h:∀ y∈scope.names,y.2=.free->∃ c,env.cells.lookup y.1=some c):
  ∃ cl,closureFor scope env=pure cl/\(∀ x c,cl.lookup x=some c->(x,NameKind.free)∈scope.names/\env.cells.lookup x=some c)/\∀ x,(x,NameKind.free)∈scope.names->(cl.lookup x).isSome:=by
 obtain⟨cl,e1,e2,e3⟩:=iX (env:=env) scope.names [] h;refine⟨cl,?_,λ x c hx=>?_,λ x hx=>e3 x (.inl hx)⟩
 .simp only[closureFor];rw[e1];rfl
 .rcases e2 x c hx with q | q
  .simp at q
  .exact q
theorem cg {env:Env}:∀ {names:List (Str×NameKind)}{x:Str},names.lookup x=some .free->
  (names.map λ(n,k)=>if (k == NameKind.free&&env.scope.kind == .function&&env.kindOf n == some .cell) then (n,NameKind.cell) else (n,k)).lookup x=some .cell\/
  (names.map λ(n,k)=>if (k == NameKind.free&&env.scope.kind == .function&&env.kindOf n == some .cell) then (n,NameKind.cell) else (n,k)).lookup x=some .free
 | [],_,h=>by simp at h
 | (n,k)::r,x,h=>by
  have ih:=@cg env r x;show List.lookup x ((if (k == NameKind.free&&env.scope.kind == .function&&env.kindOf n == some .cell)=true then (n,NameKind.cell) else (n,k))::_)=_\/List.lookup x ((if (k == NameKind.free&&env.scope.kind == .function&&env.kindOf n == some .cell)=true then (n,NameKind.cell) else (n,k))::_)=_;cases hx:x == n with
  | true=>
   simp only[BJ,hx] at h;cases h;by_cases hc:(NameKind.free == NameKind.free&&env.scope.kind == .function&&env.kindOf n == some .cell)=true
   .rw[if_pos hc];simp[BJ,hx]
   .rw[if_neg hc];simp[BJ,hx]
  | false=>
   simp only[BJ,hx] at h;by_cases hc:(k == NameKind.free&&env.scope.kind == .function&&env.kindOf n == some .cell)=true
   .rw[if_pos hc];simp only[BJ,hx];exact ih h
   .rw[if_neg hc];simp only[BJ,hx];exact ih h
theorem eI {env:Env}:∀ {names:List (Str×NameKind)}{x:Str},(∀ y∈names,y.2≠.cell)->
  ((names.map λ(n,k)=>if (k == NameKind.free&&env.scope.kind == .function&&env.kindOf n == some .cell) then (n,NameKind.cell) else (n,k)).lookup x=some .cell\/
  (names.map λ(n,k)=>if (k == NameKind.free&&env.scope.kind == .function&&env.kindOf n == some .cell) then (n,NameKind.cell) else (n,k)).lookup x=some .free)->(x,NameKind.free)∈names
 | [],_,_,h=>by simp at h
 | (n,k)::r,x,hn,h=>by
  have ih:=@eI env r x λ y hy=>hn y (Av _ hy);have h':List.lookup x ((if (k == NameKind.free&&env.scope.kind == .function&&env.kindOf n == some .cell)=true then (n,NameKind.cell) else (n,k))::_)=some .cell\/List.lookup x ((if (k == NameKind.free&&env.scope.kind == .function&&env.kindOf n == some .cell)=true then (n,NameKind.cell) else (n,k))::_)=some .free:=h;have hf:∀ k',((if (k == NameKind.free&&env.scope.kind == .function&&env.kindOf n == some .cell)=true then (n,NameKind.cell) else (n,k)):Str×NameKind)=(n,k')->(k'=.cell\/k'=.free)->k=.free:=by
   intro k' e G9;by_cases hc:(k == NameKind.free&&env.scope.kind == .function&&env.kindOf n == some .cell)=true
   .simp only[Bc] at hc;simpa using hc.1.1
   .rw[if_neg hc] at e;have:k=k':=congrArg Prod.snd e;subst this;rcases G9 with q | q
    .exact absurd q (hn (n,k) Am)
    .exact q
  cases hx:x == n with
  | true=>
   have De:x=n:=by simpa using hx
   subst De;by_cases hc:(k == NameKind.free&&env.scope.kind == .function&&env.kindOf x == some .cell)=true
   .simp only[Bc] at hc;have:k=.free:=by simpa using hc.1.1
    subst this;exact Am
   .rw[if_neg hc] at h';simp only[BJ,beq_self_eq_true] at h';rcases h' with q | q
    .exact absurd (A8 q) (hn (x,k) Am)
    .have:=A8 q;subst this;exact Am
  | false=>
   refine Av _ (ih ?_);by_cases hc:(k == NameKind.free&&env.scope.kind == .function&&env.kindOf n == some .cell)=true
   .rw[if_pos hc] at h';simp only[BJ,hx] at h';exact h'
   .rw[if_neg hc] at h';simp only[BJ,hx] at h';exact h'
end PySem
namespace L2
open PySem PySem.Spec PyProof.Rows
noncomputable def vQ (pick:List (Option Nat)) (Y:St):St:=pick.map λ o=>o.bind λ i=>(Y[i]?).join
noncomputable def yo (X:Cx) (N':List Str) (scope:Scope) (cl:List (Str×Addr)) (C:Addr) (s:Shared) (H:Hp) (ex:List Addr):Cx:=
 { X with N:=N',s₀:=s,H₀:=H,env:=compEnvC scope cl C X.env,outer:=X.stack,stack:=X.stack,ex:=ex,fn:=λ _=>false,pn:=[],xe:=λ _ _=>False }
noncomputable def q8 (N N':List Str) (pick:List (Option Nat)) (scope:Scope):Bool:=(N'.zip pick).all λ p=>match p.2 with
 | none=>true
 | some j=>decide (N[j]?=some p.1)&&decide (scope.names.lookup p.1=some .free)
structure sC (X:Cx) (N':List Str) (pick:List (Option Nat)) (scope:Scope):Prop where
 kind:scope.kind=.function
 dI:∀ y∈scope.names,y.2≠.cell
 names:∀ y∈scope.names,y.2=.local->scope.names.lookup y.1=some .local
 free:∀ y∈scope.names,y.2=.free->X.env.scope.names.lookup y.1=some .cell\/X.env.scope.names.lookup y.1=some .free
 len:pick.length=N'.length
 ok:q8 X.N N' pick scope=true
theorem q8.get {N N':List Str}{pick:List (Option Nat)}{scope:Scope}(h:q8 N N' pick scope=true) {i j:Nat}{x:Str}(h1:N'[i]?=some x) (h2:pick[i]?=some (some j)):N[j]?=some x/\scope.names.lookup x=some .free:=by
 unfold q8 at h;have hm:(x,some j)∈N'.zip pick:=by
  refine Bi (i:=i) ?_;rw[List.getElem?_zip_eq_some];exact⟨h1,h2⟩
 have q:=B3.mp h _ hm;simp only[Bc,decide_eq_true_eq] at q;exact q
theorem vQ.get {pick:List (Option Nat)}{Y:St}{i:Nat}{v:V}(h:(vQ pick Y)[i]?=some (some v)):∃ j,pick[i]?=some (some j)/\Y[j]?=some (some v):=by
 unfold vQ at h;rw[Ay] at h;cases e:pick[i]? with
 | none=>rw[e] at h;cases h
 | some o=>
  rw[e] at h;cases o with
  | none=>simp at h
  | some j=>
   refine⟨j,rfl,?_⟩;simp only[Option.map_some,Option.some.injEq,Bu] at h;cases q:Y[j]? with
   | none=>rw[q] at h;simp at h
   | some w=>rw[q] at h;simp at h;rw[h]
def PF (X:Cx) (ifs:List Expr) (t:TT):Prop:=∀ (EM:Ag) (s:Shared) (Y:St) (H:Hp) (Q:Bool->Hp->Prop),Inv X EM Y H s->t Y H Q->
 wpAny (model X.prog X.w) X.A (forIn ifs true λ c r=>if r=true then do let ok <- isTrue c X.env (eval c X.env);pure (ForInStep.yield ok) else pure (ForInStep.yield r)) (TP X EM Y Q) X.xe s
theorem Vn {X:Cx}:PF X [] (λ _ H Q=>Q true H):=λ _ _ _ H _ I h=>wpAny_tests_nil ⟨H,I,h⟩
theorem Vm {X:Cx}{c:Expr}{t:TT}(h:PT X c t):PF X [c] t:=λ EM s Y H Q I q=>wpAny_tests_one (h EM s Y H Q I q)
def jm (pick:List (Option Nat)) (wi:TI) (g:TG) (tc:TT) (te:TE):TE:=fun Y H Q=>wi Y H λ J H1=>∀ D,H1 D=none->∃ W:Nat->Nat->St->Hp->Prop,(∃ m,W 0 m (vQ pick Y) (upd H1 D (.lst [])))/\
 ∀ i m Y H,W i m Y H->(J.stop i H/\Q (.ref D) H)\/(J.go i H/\∀ x H',J.qt i H x H'->g x Y H' fun Y2 H2=>tc Y2 H2 λ b H3=>
  if b=true then te Y2 H3 λ y H4=>∃ ys m',H4 D=some (.lst ys)/\ys.length<sizeLine/\m'<m/\W (i+1) m' Y2 (upd H4 D (.lst (ys++[y]))) else ∃ m',m'<m/\W (i+1) m' Y2 H3)
section
variable {X:Cx}{EM:Ag}{Y:St}{H:Hp}{s:Shared}{N':List Str}{pick:List (Option Nat)}{scope:Scope}{cl:List (Str×Addr)}{C:Addr}{fp:List Addr}
theorem Od (S:sC X N' pick scope) (I:Inv X EM Y H s) (Bl:∀ b∈fp,vH X EM H b) (An:∀ b∈fp,b<s.heap.objs.size)
  (c1:∀ x c,cl.lookup x=some c->(x,NameKind.free)∈scope.names/\X.env.cells.lookup x=some c) (c2:∀ x,(x,NameKind.free)∈scope.names->(cl.lookup x).isSome)
  {h1:Heap}{m1:AI}{t':Nat}(hC:s.heap.objs.size<C) (old:∀ b o,s.heap.get? b=some o->h1.get? b=some o) (CL:h1.Ns C m1)
  (hD:h1.get? s.heap.objs.size=some { cls:=.type "list",data:=.seq #[] 0 }):
  Inv (yo X N' scope cl C s H fp) [] (vQ pick Y) (upd H s.heap.objs.size (.lst [])) { s with heap:=h1,toks:=t' }:=by
 have Kz:H s.heap.objs.size=none:=I.zv.fresh (Af _);have hCn:H C=none:=I.zv.fresh (BQ hC);have clt:∀ x c,cl.lookup x=some c->c<s.heap.objs.size:=λ x c e=>by
  obtain⟨v,q⟩:=I.cell x c (c1 x c e).2;exact q.lt
 refine⟨⟨I.ok.mod,S.kind,I.ok.glob,I.ok.blt,BQ hC,λ x y c e1 e2=>I.ok.inj x y c (c1 x c e1).2 (c1 y c e2).2,λ x hx=>?_,λ x c hf _=>absurd (show false=true from hf) BP,I.ok.hd,I.ok.frames,.inl rfl,
  λ b hb=>⟨Aw (C7 (An b hb) hC),λ x c e=>(Bl b hb).2.2.2.2.1 x c (c1 x c e).2⟩,I.bs,Br I.ok.rY I.sz,λ b o e hb=>?_,λ b hb z=>?_,I.stack,I.fN⟩,
  rfl,I.bare,Un.laid old (Af _) Kz,⟨m1,CL,λ i x v e1 e2 e3=>?_⟩,λ x c e=>?_,?_,λ x c e=>?_,λ p hp=>absurd (show p∈([]:Ag) from hp) (by simp),I.zv.laid old (Af _) ?_,?_⟩
 .exact DM.mp (c2 x (eI S.dI hx))
 .rcases (Bl b hb).2.2.2.1 with z | z
  .exact I.ok.oy b o e z
  .exact absurd (Bf (Ap (I.ok.bs b o e).1) z) (Ca _)
 .rcases Ai.mp (I.js b z) with q | q
  .exact (Bl b hb).2.1 q
  .exact (Bl b hb).2.2.1 q
 .obtain⟨j,p1,p2⟩:=vQ.get e2;obtain⟨q1,q2⟩:=q8.get S.ok e1 p1;obtain⟨m0,n0,l0⟩:=I.loc;have hm:(x,NameKind.free)∈scope.names:=PySem.mem_of_lookup q2;have hk:X.env.scope.names.lookup x=some .cell\/X.env.scope.names.lookup x=some .free:=S.free _ hm rfl;obtain⟨u,r,l⟩:=l0 j x v q1 p2 (.inr hk);refine⟨u,r,.inr ⟨cg q2,?_⟩⟩;rcases l with ⟨k,_⟩ | ⟨_,c,e,z⟩
  .have k':X.env.scope.names.lookup x=some .local:=k;rcases hk with hk | hk <;> (rw[k'] at hk;cases hk)
  .obtain⟨c',e'⟩:=DM.mp (c2 x hm);have e'':=(c1 x c' e').2;rw[e] at e'';cases e'';obtain⟨o,z1,z2⟩:=z;exact⟨c,e',o,old _ _ z1,z2⟩
 .obtain⟨v,o,z1,z2⟩:=I.cell x c (c1 x c e).2;exact⟨v,o,old _ _ z1,z2⟩
 .show upd H s.heap.objs.size (.lst []) C=none;rw[yj (B2 hC)];exact hCn
 .show upd H s.heap.objs.size (.lst []) c=none;rw[yj (Aw (clt x c e))];exact I.uP x c (c1 x c e).2
 .exact⟨AV _,[],0,.nil,hD⟩
 .show (vQ pick Y).length=N'.length;unfold vQ;rw[AA];exact S.len
theorem Oa {Y':St}{H':Hp}{s':Shared}{oC:Obj}(I:Inv X EM Y H s) (Bl:∀ b∈fp,vH X EM H b) (hC:s.heap.objs.size<C)
  (I':Inv (yo X N' scope cl C s H fp) [] Y' H' s') (hoC:s'.heap.get? C=some oC):Inv X (EM++[(C,oC)]) Y H' s':=by
 have J:Inv X EM Y H' s':=I.Mp (ch:=fp) I'.os I'.base I'.zv I'.bare λ b hb=>⟨(Bl b hb).2.2.2.1,(Bl b hb).2.1,(Bl b hb).2.2.2.2.1,(Bl b hb).2.2.2.2.2⟩;refine J.jG λ p hp=>(A2.mp hp).elim (λ z=>J.pin p (A3 _ z)) λ z=>?_;obtain rfl:p=(C,oC):=AZ.mp z;refine⟨hoC,I'.free,B2 (C7 I.lt hC),I.dF (BQ hC),λ v hv=>?_⟩;obtain⟨m,⟨o,es,ep,ho,hd,_⟩,_⟩:=I'.loc;have F4:s'.heap.get? C=some o:=ho;rw[hoC] at F4;cases F4;rw[hd] at hv;cases hv
theorem cL {Y':St}{H':Hp}{s':Shared}{oC:Obj}{h':Heap}(I:Inv X EM Y H s) (hC:s.heap.objs.size<C) (J:Inv X (EM++[(C,oC)]) Y' H' s') (hs:Heap.SameBut C s'.heap h'):Inv X EM Y' H' { s' with heap:=h' }:=by
 have J':=J.pR;have hp:=J.pin (C,oC) (A3 _ (A3 _ (AZ.mpr rfl)));have lt:∀ c,c<s.heap.objs.size->c≠C:=λ c h=>Aw (C7 h hC);refine J'.turned (t':=s'.toks) (it:=C) (λ b o hb e=>hs.extBut b o hb e) hp.2.1 hp.2.2.1 (.inr (Br I.sz (BQ hC))) (λ x c e z=>?_) (λ p hq z=>?_)
 .obtain⟨v,q⟩:=I.cell x c e;exact lt c q.lt z
 .exact lt p.1 (Ap (I.pin p hq).1) z
end
section
variable {X:Cx}{N':List Str}{pick:List (Option Nat)}{scope:Scope}{elt iter tg:Expr}{ifs:List Expr}{pos:Pos}{wi:TI}{g:TG}{tc:TT}{te:TE}
theorem Pp {EM:Ag}{Y:St}{H:Hp}{s:Shared}{it C:Addr}{fp:List Addr}{tn:Nat->Heap->Prop}{J:It}{cl:List (Str×Addr)}{W:Nat->Nat->St->Hp->Prop}{Q:V->Hp->Prop}{R:Result->Shared->Prop}{D:Addr}
  (hc:X.calm=true) (hg:PG (yo X N' scope cl C s H fp) tg g) (hf:PF (yo X N' scope cl C s H fp) ifs tc) (he:PE (yo X N' scope cl C s H fp) elt te)
  (T:Turn X.prog X.w X.K tg J fp it tn) (Bl:∀ b∈fp,vH X EM H b) (Hm:∀ b∈fp,b≠C/\b∉v5 X.stack/\∀ x c,cl.lookup x=some c->c≠b)
  (turn:∀ i m Y H,W i m Y H->(J.stop i H/\Q (.ref D) H)\/(J.go i H/\∀ x H',J.qt i H x H'->g x Y H' fun Y2 H2=>tc Y2 H2 λ b H3=>
   if b=true then te Y2 H3 λ y H4=>∃ ys m',H4 D=some (.lst ys)/\ys.length<sizeLine/\m'<m/\W (i+1) m' Y2 (upd H4 D (.lst (ys++[y]))) else ∃ m',m'<m/\W (i+1) m' Y2 H3))
  (fin:∀ Y' H' s',Inv (yo X N' scope cl C s H fp) [] Y' H' s'->Q (.ref D) H'->R (.ok .next) s')
  {m0:Nat}{Y0:St}{H0:Hp}{s0:Shared}(I0:Inv (yo X N' scope cl C s H fp) [] Y0 H0 s0) (t0:tn 0 s0.heap) (f0:∀ b∈fp,H0 b=none) (w0:W 0 m0 Y0 H0):
  codeAny (model X.prog X.w) X.A (.compLoop (.ListComp elt [⟨tg,iter,ifs,0⟩] scope pos) 0 (.ref it) (.ref D) (compEnvC scope cl C X.env)) R s0:=by
 have GS:∀ {H':Hp},(∀ b∈fp,H' b=none)->∀ b∈fp,vH (yo X N' scope cl C s H fp) [] H' b:=λ hn b hb=>⟨hn b hb,(Hm b hb).1,(Hm b hb).2.1,.inl hb,(Hm b hb).2.2,λ p hp=>absurd (show p∈([]:Ag) from hp) (by simp)⟩;refine codeAny_loop rfl (λ n s'=>∃ i Y' H',Inv (yo X N' scope cl C s H fp) [] Y' H' s'/\tn i s'.heap/\(∀ b∈fp,H' b=none)/\W i n Y' H') (λ n s3 hI=>?_) m0 ⟨0,Y0,H0,I0,t0,f0,w0⟩;obtain⟨i,Y3,H3,I3,IT,Js,w3⟩:=hI;show wpAny _ X.A ((compTurn (.ListComp elt [⟨tg,iter,ifs,0⟩] scope pos) 0 (.ref it) (.ref D) (compEnvC scope cl C X.env)).onRaise (λ x=>do noteFrame x (compEnvC scope cl C X.env);theTreesLotGoes x)) _ _ s3;refine wpAny_noted ?_;rw[compTurn_list];refine JY (wpAny_standAt (JY ?_));rcases turn i n Y3 H3 w3 with ⟨stop,qn⟩ | ⟨go,step⟩
 .refine zA (T.done (yo X N' scope cl C s H fp) rfl rfl rfl hc i [] s3 Y3 H3 _ I3 (GS Js) IT stop) λ r s4 ⟨hr,I4⟩=>?_;subst hr;exact Ac (fin Y3 H3 s4 I4 qn)
 .refine zA (T.item (yo X N' scope cl C s H fp) rfl rfl rfl hc i [] s3 Y3 H3 _ I3 (GS Js) IT go) λ r s4 ⟨u,hr,h4⟩=>?_;subst hr;refine JY (zA h4 λ _ s5 ⟨x,H5,I5,r5,y5,Ih,KI⟩=>?_);have KW:=I5.pinned (GS KI) (T.obj _ _ Ih);refine JY (K3 (hg _ s5 Y3 H5 x u _ KW r5 (step x H5 y5)) (λ _ s6 ⟨Y6,H6,I6,q6⟩=>?_) λ _ _ z=>False.elim z);refine JY (K3 (hf _ s6 Y6 H6 _ I6 q6) (λ ok s7 ⟨H7,I7,q7⟩=>?_) λ _ _ z=>False.elim z);have back:∀ {H8:Hp}{s8:Shared},Inv (yo X N' scope cl C s H fp) ([]++oo fp s5.heap) Y6 H8 s8->(∃ m',m'<n/\W (i+1) m' Y6 H8)->∃ m,m<n/\∃ i Y' H',Inv (yo X N' scope cl C s H fp) [] Y' H' s8/\tn i s8.heap/\(∀ b∈fp,H' b=none)/\W i m Y' H':=λ{H8 s8} I8 ⟨m',hm,w8⟩=>by
   refine⟨m',hm,i+1,Y6,H8,I8.pR,T.keep _ _ _ Ih λ b hb o e=>(I8.pin (b,o) (A3 _ (A3 _ (mV hb e)))).1,λ b hb=>?_,w8⟩;obtain⟨o,e,d⟩:=T.obj _ _ Ih b hb;exact (I8.pin (b,o) (A3 _ (A3 _ (mV hb e)))).2.1
  cases ok with
  | false=>
   rw[if_neg BP] at q7;exact Ac ⟨rfl,back I7 q7⟩
  | true=>
   rw[if_pos rfl] at q7;refine JY (JY (K3 (he _ s7 Y6 H7 _ I7 q7) (λ uy s8 ⟨y,H8,I8,r8,ys,m',e8,z8,hm,w8⟩=>?_) λ _ _ z=>False.elim z));refine JY (K3 (dX (X:=yo X N' scope cl C s H fp) _ s8 Y6 H8 (.ref D) [y] (.ref D) [uy] (λ _ H9=>W (i+1) m' Y6 H9) I8 rfl (.cons r8 .nil) ⟨D,ys,y,rfl,rfl,e8,z8,w8⟩) (λ _ s9 ⟨_,H9,I9,_,q9⟩=>?_) λ _ _ z=>False.elim z);exact Ac (Ac ⟨rfl,back I9 ⟨m',hm,q9⟩⟩)
theorem cw {EM:Ag}{Y:St}{H:Hp}{s:Shared}{it:Addr}{fp:List Addr}{tn:Nat->Heap->Prop}{J:It}{cl:List (Str×Addr)}{Q:V->Hp->Prop}{E:Ad}{RR:Value->Addr->Result->Shared->Prop}
  (S:sC X N' pick scope) (hc:X.calm=true) (hg:∀ cl C s H fp,PG (yo X N' scope cl C s H fp) tg g) (hf:∀ cl C s H fp,PF (yo X N' scope cl C s H fp) ifs tc) (he:∀ cl C s H fp,PE (yo X N' scope cl C s H fp) elt te)
  (c1:∀ x c,cl.lookup x=some c->(x,NameKind.free)∈scope.names/\X.env.cells.lookup x=some c) (c2:∀ x,(x,NameKind.free)∈scope.names->(cl.lookup x).isSome)
  (I:Inv X EM Y H s) (T:Turn X.prog X.w X.K tg J fp it tn) (t0:tn 0 s.heap) (Bl:∀ b∈fp,vH X EM H b)
  (rd:∀ D,H D=none->∃ W:Nat->Nat->St->Hp->Prop,(∃ m,W 0 m (vQ pick Y) (upd H D (.lst [])))/\
   ∀ i m Y H,W i m Y H->(J.stop i H/\Q (.ref D) H)\/(J.go i H/\∀ x H',J.qt i H x H'->g x Y H' fun Y2 H2=>tc Y2 H2 λ b H3=>
    if b=true then te Y2 H3 λ y H4=>∃ ys m',H4 D=some (.lst ys)/\ys.length<sizeLine/\m'<m/\W (i+1) m' Y2 (upd H4 D (.lst (ys++[y]))) else ∃ m',m'<m/\W (i+1) m' Y2 H3))
  (fin:∀ C D oC H' s',s.heap.objs.size<C->Inv X (EM++[(C,oC)]) Y H' s'->s'.heap.get? C=some oC->(∃ m,s'.heap.Ns C m)->Q (.ref D) H'->RR (.ref D) C (.ok .next) s'):
  wpAny (model X.prog X.w) X.A (newList []) (λ acc s₃=>wpAny (model X.prog X.w) X.A (newFunctionEnv scope X.env.globals cl [] X.env.qual none .none (some X.env)) (λ Jv s₄=>
   codeAny (model X.prog X.w) X.A (.compStart (.ListComp elt [⟨tg,iter,ifs,0⟩] scope pos) 0 (.ref it) acc { Jv with scope:=relabel scope X.env }) (RR acc Jv.locals) s₄) E s₃) E s:=by
 refine K6 (wpAny_newFunctionEnv S.dI (by intro y hy;simp at hy) (λ h₁ Iv HF=>?_) S.kind);dsimp only at Iv HF ⊢;generalize Ky:s.heap.push { cls:=.type "list",dict:=none,data:=.seq ([]:Ae).toArray }=H2 at Iv HF ⊢;have hC:H2.objs.size=s.heap.objs.size+1:=by rw[<- Ky,Heap.size_push]
 have An:s.heap.objs.size<H2.objs.size:=by rw[hC];exact Cu _
 have old:∀ b o,s.heap.get? b=some o->h₁.get? b=some o:=λ b o e=>HF.extBut b o (Aw (C7 (Ap e) An)) (KY _ (Ky▸KY _ e));have AY:h₁.get? s.heap.objs.size=some { cls:=.type "list",data:=.seq #[] 0 }:=HF.extBut _ _ (Aw An) (KY _ (Ky▸AJ _ rfl));have Dp:∀ b∈fp,b<s.heap.objs.size:=λ b hb=>by
  obtain⟨o,e,_⟩:=T.obj _ _ t0 b hb;exact Ap e
 have Kz:H s.heap.objs.size=none:=I.zv.fresh (Af _);obtain⟨W,⟨m0,w0⟩,turn⟩:=rd s.heap.objs.size Kz;have I0:=Od (t':=s.toks+([]:List (Str×Value)).length) S I Bl Dp c1 c2 An old Iv AY;have t1:tn 0 h₁:=T.keep _ _ _ t0 λ b _ o e=>old b o e;have AQ:∀ b∈fp,b≠H2.objs.size/\b∉v5 X.stack/\∀ x c,cl.lookup x=some c->c≠b:=λ b hb=>I0.ok.iO b hb |> λ q=>⟨q.1,I0.ok.oU b hb,q.2⟩
 have loop:codeAny (model X.prog X.w) X.A (.compLoop (.ListComp elt [⟨tg,iter,ifs,0⟩] scope pos) 0 (.ref it) (.ref s.heap.objs.size) (compEnvC scope cl H2.objs.size X.env)) (RR (.ref s.heap.objs.size) H2.objs.size) { s with heap:=h₁,toks:=s.toks+([]:List (Str×Value)).length }:=by
  refine Pp (Y:=Y) hc (hg _ _ _ _ _) (hf _ _ _ _ _) (he _ _ _ _ _) T Bl AQ turn (fun Y' H' s' I' q=>?_) I0 t1 (λ b hb=>?_) w0
  .obtain⟨m,hn,_⟩:=I'.loc;have JN:s'.heap.Ns H2.objs.size m:=hn;obtain⟨oC,es,ep,ho,hr⟩:=id JN;exact fin _ _ oC H' s' An (Oa I Bl An I' ho) ho ⟨m,JN⟩ q
  .show upd H s.heap.objs.size (.lst []) b=none;rw[yj (Aw (Dp b hb))];exact (Bl b hb).1
 exact codeAny_compStart_list loop (T.self _ 0 _ _ _ t1 loop)
theorem V0 (S:sC X N' pick scope) (hc:X.calm=true) (hi:PI X tg iter wi) (hg:∀ cl C s H fp,PG (yo X N' scope cl C s H fp) tg g) (hf:∀ cl C s H fp,PF (yo X N' scope cl C s H fp) ifs tc) (he:∀ cl C s H fp,PE (yo X N' scope cl C s H fp) elt te)
  (hs:∀ x,foldedSetIterable iter X.env x=pure x:=by intro _;rfl):PE X (.ListComp elt [⟨tg,iter,ifs,0⟩] scope pos) (jm pick wi g tc te):=by
 intro EM s Y H Q I h;obtain⟨cl,Ho,c1,c2⟩:=aq (scope:=scope) (env:=X.env) λ y hy hk=>I.ok.has y.1 (S.free y hy hk);rw[eval_ListComp];refine wpAny_comprehension_free (use:=none) rfl hs Ho S.kind S.names (zA (hi EM s Y H _ I h) λ v s1 h1=>zA h1 λ JI s2 h2=>?_);obtain⟨it,fp,tn,J,H2,e,I2,T,IU,f2,rd⟩:=h2;subst e;refine cw (RR:=λ acc C=>compPost (model X.prog X.w) X.A X.xe none (EP X EM Y Q) acc C) S hc hg hf he c1 c2 I2 T IU f2 rd λ C D oC H' s' hC J' ho hn q=>?_;obtain⟨m,hn⟩:=hn;exact⟨m,hn,λ h' He=>⟨.ref D,H',cL I2 hC J' He,rfl,q⟩⟩
theorem WG {i:Nat}{y:Str}{py Bb:Pos}(S:sC X N' pick scope) (hc:X.calm=true) (hi:PI X tg iter wi) (hg:∀ cl C s H fp,PG (yo X N' scope cl C s H fp) tg g) (hf:∀ cl C s H fp,PF (yo X N' scope cl C s H fp) ifs tc) (he:∀ cl C s H fp,PE (yo X N' scope cl C s H fp) elt te)
  (hN:X.N.Nodup) (hy:X.N[i]?=some y) (hx:Loc X.env.scope y)
  (Cb:swapsWith (.ListComp elt [⟨tg,iter,ifs,0⟩] scope pos) (some (.Name y py)) Bb.line X.env=pure true:=by rfl)
  (Ci:X.fn y=true\/X.env.scope.names.lookup y=some .local:=by first | exact .inl rfl | exact .inr rfl | assumption)
  (hs:∀ x,foldedSetIterable iter X.env x=pure x:=by intro _;rfl):PS X (.Assign [.Name y py] (.ListComp elt [⟨tg,iter,ifs,0⟩] scope pos) Bb) (pU (jm pick wi g tc te) (qQ i)):=by
 intro EM s Y H Q I h;obtain⟨cl,Ho,c1,c2⟩:=aq (scope:=scope) (env:=X.env) λ y hy hk=>I.ok.has y.1 (S.free y hy hk);rw[exec_Assign_Name_used _ _ _ _ Cb];refine JY (wpAny_standAt (JY ?_));show wpAny _ X.A (do let _ <- comprehension (.ListComp elt [⟨tg,iter,ifs,0⟩] scope pos) scope X.env _ (newList []) false (eval iter X.env) (some (assign (.Name y py) X.env))) _ _ s;refine JY (K3 (wpAny_comprehension_free (use:=some (assign (.Name y py) X.env)) (Q:=λ _ s'=>SP X EM Q .next s') rfl hs Ho S.kind S.names
  (zA (hi EM s Y H _ I h) λ v s1 h1=>zA h1 λ JI s2 h2=>?_)) (λ _ s' hq=>Ac (Ac hq)) λ _ _ e=>e)
 obtain⟨it,fp,tn,J,H2,e,I2,T,IU,f2,rd⟩:=h2;subst e;refine cw (Q:=λ x H1=>qQ i x Y H1 Q.nx) (RR:=λ acc C=>compPost (model X.prog X.w) X.A X.xe (some (assign (.Name y py) X.env)) (λ _ s'=>SP X EM Q .next s') acc C) S hc hg hf he c1 c2 I2 T IU f2 rd λ C D oC H' s' hC J' ho hn q=>?_;show wpAny _ X.A (assign (.Name y py) X.env (.ref D)) _ _ _;refine wpAny_assign_Name (jr J' hN hy hx (v:=.ref D) rfl (λ s3 J3=>?_) Ci);have hp:=(J3.pin (C,oC) (A3 _ (A3 _ (AZ.mpr rfl)))).1;obtain⟨m,o,es,ep,F4,hr⟩:=hn;have:o=oC:=A8 (F4.symm.trans ho);subst this;exact⟨m,⟨o,es,ep,hp,hr⟩,λ h' He=>⟨_,H',cL I2 hC J3 He,q⟩⟩
end
end L2
namespace L3
open PySem PySem.Spec L2
open PyProof.Rows hiding St
inductive D where
 | zo | bl (b:Bool) | int (i:Int) | str (x:Str) | tup (ds:List D) | xv (ds:List D) | ref (a:Addr) | err (c f:Str) (d:D)
def pb (K:Ab) (H:Hp) (a:Addr) (xs:List V):Prop:=
 (∃ o,H a=some (.xO o (.lst xs)))\/
  ∃ (o:Obj) (its:Ar) (n:Nat),K.lookup a=some o/\o.cls=.type "list"/\o.dict=none/\o.data=.seq its n/\its.size<=sizeLine/\Vals xs its.toList
theorem pb.sq {K:Ab}{H:Hp}{a:Addr}{xs:List V}(h:pb K H a xs):zL K H a xs:=by
 rcases h with h | h
 .exact .inl (.inr h)
 .exact .inr h
abbrev aC:List Value:=[.type "ValueError",.type "Exception",.type "BaseException",.type "object"]
abbrev dM:List Str:=["__getattribute__","__getattr__","__class__","__setattr__","place","pair","way","times","told","name","row"]
def aZ (K:Ab) (c:Str) (C:Addr) (bm:Ae) (N:Addr):Prop:=
 (∃ (q:Str) (bs:Ae) (sn:List Str) (sub:Ae) (ab:Bool) (col:Option Bool) (dd:Option Addr) (k0 k1 k2 k3 k5:Option Value),K.lookup C=some (excClassObj c q C N bs bm true sn sub ab col dd k0 k1 k2 k3 k5 "ValueError.__new__"))/\
 PySem.W.nsOkIn K N=true/\∀ n∈dM,PySem.W.nsIn K N n=some none
structure Li (K:Ab) (c:Str) (C P N NP:Addr):Prop where
 own:aZ K c C (.ref P::aC) N
 par:aZ K "PurseError" P aC NP
 top:PySem.W.nsIn K mainGlobals c=some (some (.ref C))
 zab:PySem.W.nsIn K mainGlobals "PurseError"=some (some (.ref P))
 zac:PySem.W.nsIn K NP "__init__"=some none
def mj (K:Ab) (c:Str) (C:Addr):Prop:=∃ P N NP,Li K c C P N NP
noncomputable def ownIn (K:Ab) (c:Str) (C:Addr) (bm:Ae):Option Addr:=match K.lookup C with
 | some ⟨.type "type",_,.cls cd,sl⟩=>(match cd.mro,sl.toList with
  | .ref C'::bm',[_,_,_,_,some (.builtin n),_]=>if C' == C&&n == "ValueError.__new__"&&!cd.hasDel&&bm' == bm&&cd.hasDict&&cd.name == c&&PySem.W.nsOkIn K cd.ns&&dM.all (λ n=>PySem.W.nsIn K cd.ns n == some none) then some cd.ns else none
  | _,_=>none)
 | _=>none
noncomputable def sy (e C dx:Addr):HO:=.ext λ h=>∃ oe vs,h.get? e=some oe/\oe.cls=.ref C/\oe.dict=some dx/\oe.data=.fields vs
mutual
noncomputable def zg (K:Ab) (H:Hp):D->V->Prop
 | .zo,v=>v=.zo
 | .bl b,v=>v=.bl b
 | .int i,v=>v=.int i
 | .str x,v=>v=.str x
 | .tup ds,v=>∃ a xs,v=.ref a/\zR K H a xs/\zl K H ds xs
 | .xv ds,v=>∃ a xs,v=.ref a/\pb K H a xs/\zl K H ds xs
 | .ref a,v=>v=.ref a
 | .err c f d,v=>∃ e C dx w,v=.ref e/\(mj K c C/\H e=some (sy e C dx)/\H dx=some (.xd [(f,w)]))/\zg K H d w
noncomputable def zl (K:Ab) (H:Hp):List D->List V->Prop
 | [],xs=>xs=[]
 | d::ds,xs=>∃ x r,xs=x::r/\zg K H d x/\zl K H ds r
end
structure Ext (H H':Hp):Prop where
 tup:∀ b xs,H b=some (.tup xs)->H' b=some (.tup xs)
 xO:∀ b o u,H b=some (.xO o u)->H' b=some (.xO o u)
 ext:∀ b φ,H b=some (.ext φ)->H' b=some (.ext φ)
 xd:∀ b fs,H b=some (.xd fs)->H' b=some (.xd fs)
theorem Ext.refl (H:Hp):Ext H H:=⟨λ _ _ h=>h,λ _ _ _ h=>h,λ _ _ h=>h,λ _ _ h=>h⟩
theorem Ext.trans {H H1 H2:Hp}(a:Ext H H1) (b:Ext H1 H2):Ext H H2:=⟨λ c xs h=>b.tup c xs (a.tup c xs h),λ c o u h=>b.xO c o u (a.xO c o u h),λ c u h=>b.ext c u (a.ext c u h),λ c u h=>b.xd c u (a.xd c u h)⟩
theorem Ext.new {H:Hp}{p:Addr}(h:H p=none) (o:HO):Ext H (upd H p o):=
 ⟨λ b xs q=>by rw[yj (uJ q h)];exact q,λ b ob u q=>by rw[yj (uJ q h)];exact q,λ b u q=>by rw[yj (uJ q h)];exact q,λ b u q=>by rw[yj (uJ q h)];exact q⟩
theorem Ext.lst {H:Hp}{p:Addr}{xs:List V}(h:H p=some (.lst xs)) (o:HO):Ext H (upd H p o):=
 ⟨λ b ys q=>by rw[yj (tN q h (by intro z;cases z))];exact q,λ b ob u q=>by rw[yj (tN q h (by intro z;cases z))];exact q,λ b u q=>by rw[yj (tN q h (by intro z;cases z))];exact q,λ b u q=>by rw[yj (tN q h (by intro z;cases z))];exact q⟩
theorem Ext.mC {K:Ab}{H H':Hp}{a:Addr}{xs:List V}(e:Ext H H') (h:zR K H a xs):zR K H' a xs:=by
 rcases h with (h | ⟨o,h⟩) | h
 .exact .inl (.inl (e.tup _ _ h))
 .exact .inl (.inr ⟨o,e.xO _ _ _ h⟩)
 .exact .inr h
theorem Ext.mD {K:Ab}{H H':Hp}{a:Addr}{xs:List V}(e:Ext H H') (h:pb K H a xs):pb K H' a xs:=by
 rcases h with ⟨o,h⟩ | h
 .exact .inl ⟨o,e.xO _ _ _ h⟩
 .exact .inr h
section
variable {K:Ab}{H H':Hp}
mutual
theorem zg.ext (e:Ext H H'):∀ (d:D) {v:V},zg K H d v->zg K H' d v
 | .zo,v,h=>by simpa only [zg] using h
 | .bl b,v,h=>by simpa only [zg] using h
 | .int i,v,h=>by simpa only [zg] using h
 | .str x,v,h=>by simpa only [zg] using h
 | .ref a,v,h=>by simpa only [zg] using h
 | .err c f d,v,h=>by
  simp only[zg] at h ⊢;obtain⟨a,C,dx,w,h1,⟨h2,h3,h4⟩,h5⟩:=h;exact⟨a,C,dx,w,h1,⟨h2,e.ext _ _ h3,e.xd _ _ h4⟩,zg.ext e d h5⟩
 | .tup ds,v,h=>by
  simp only[zg] at h ⊢;obtain⟨a,xs,h1,h2,h3⟩:=h;exact⟨a,xs,h1,e.mC h2,zl.ext e ds h3⟩
 | .xv ds,v,h=>by
  simp only[zg] at h ⊢;obtain⟨a,xs,h1,h2,h3⟩:=h;exact⟨a,xs,h1,e.mD h2,zl.ext e ds h3⟩
theorem zl.ext (e:Ext H H'):∀ (ds:List D) {xs:List V},zl K H ds xs->zl K H' ds xs
 | [],xs,h=>by simpa only [zl] using h
 | d::ds,xs,h=>by
  simp only[zl] at h ⊢;obtain⟨x,r,h1,h2,h3⟩:=h;exact⟨x,r,h1,zg.ext e d h2,zl.ext e ds h3⟩
end
theorem zl.length:∀ {ds:List D}{xs:List V},zl K H ds xs->ds.length=xs.length
 | [],xs,h=>by simp only[zl] at h;subst h;rfl
 | d::ds,xs,h=>by
  simp only[zl] at h;obtain⟨x,r,h1,_,h3⟩:=h;subst h1;simp[zl.length h3]
theorem zl.get:∀ {ds:List D}{xs:List V}{i:Nat}{d:D},zl K H ds xs->ds[i]?=some d->∃ x,xs[i]?=some x/\zg K H d x
 | [],_,i,d,_,e=>by simp at e
 | c::ds,xs,i,d,h,e=>by
  simp only[zl] at h;obtain⟨x,r,h1,h2,h3⟩:=h;subst h1;cases i with
  | zero=>simp at e;subst e;exact⟨x,rfl,h2⟩
  | succ i=>
   obtain⟨y,e1,e2⟩:=zl.get (i:=i) h3 (by simpa using e);exact⟨y,by simpa using e1,e2⟩
theorem zl.append:∀ {ds es:List D}{xs ys:List V},zl K H ds xs->zl K H es ys->zl K H (ds++es) (xs++ys)
 | [],es,xs,ys,h,h'=>by simp only[zl] at h;subst h;simpa using h'
 | d::ds,es,xs,ys,h,h'=>by
  simp only[zl] at h;obtain⟨x,r,h1,h2,h3⟩:=h;subst h1;show zl K H (d::(ds++es)) (x::(r++ys));simp only[zl];exact⟨x,r++ys,rfl,h2,zl.append h3 h'⟩
theorem zl.nil:zl K H [] []:=by simp only[zl]
theorem zl.cons {d:D}{ds:List D}{x:V}{xs:List V}(h:zg K H d x) (h':zl K H ds xs):zl K H (d::ds) (x::xs):=by
 simp only[zl];exact⟨x,xs,rfl,h,h'⟩
theorem zl.snoc {d:D}{ds:List D}{x:V}{xs:List V}(h':zl K H ds xs) (h:zg K H d x):zl K H (ds++[d]) (xs++[x]):=h'.append (.cons h .nil)
theorem zl.ints:∀ {ns:List Int}{xs:List V},zl K H (ns.map D.int) xs->xs=ns.map V.int
 | [],xs,h=>by simpa only [A_,zl] using h
 | n::ns,xs,h=>by
  rw[Au] at h;simp only[zl,zg] at h;obtain⟨x,r,h1,h2,h3⟩:=h;subst h1 h2;rw[Au,zl.ints h3]
theorem zl.jP:∀ (ns:List Int),zl K H (ns.map D.int) (ns.map V.int)
 | []=>.nil
 | n::ns=>.cons (by simp only[zg]) (zl.jP ns)
theorem zl.bools:∀ {ns:List Bool}{xs:List V},zl K H (ns.map D.bl) xs->xs=ns.map V.bl
 | [],xs,h=>by simpa only [A_,zl] using h
 | n::ns,xs,h=>by
  rw[Au] at h;simp only[zl,zg] at h;obtain⟨x,r,h1,h2,h3⟩:=h;subst h1 h2;rw[Au,zl.bools h3]
end
inductive O where
 | lst (ds:List D)
 | z_ (Aa:List (Key×D))
abbrev SS:=Addr->Option O
def yI (K:Ab) (H:Hp):List (Key×D)->List (Key×V)->Prop:=Paired λ p q=>p.1=q.1/\zg K H p.2 q.2
noncomputable def qd (K:Ab) (H:Hp) (a:Addr):O->Prop
 | .lst ds=>∃ xs,H a=some (.lst xs)/\zl K H ds xs
 | .z_ Aa=>∃ vs,H a=some (.dK vs)/\yI K H Aa vs
def zJ (K:Ab) (H:Hp) (S:SS):Prop:=∀ a o,S a=some o->qd K H a o
noncomputable def ups (S:SS) (a:Addr) (o:O):SS:=λ b=>if b=a then some o else S b
theorem sE {S:SS}{a:Addr}{o:O}:ups S a o a=some o:=by unfold ups;rw[if_pos rfl]
theorem t9 {S:SS}{a b:Addr}{o:O}(h:b≠a):ups S a o b=S b:=by unfold ups;rw[if_neg h]
def Sx (S S':SS):Prop:=∀ b o,S b=some o->S' b=some o
theorem Sx.refl (S:SS):Sx S S:=λ _ _ h=>h
theorem Sx.trans {S S1 S2:SS}(a:Sx S S1) (b:Sx S1 S2):Sx S S2:=λ c o h=>b c o (a c o h)
theorem Sx.new {S:SS}{p:Addr}(h:S p=none) (o:O):Sx S (ups S p o):=λ b u q=>by
 rw[t9 (by intro z;subst z;rw[h] at q;cases q)];exact q
theorem Sx.none {S S':SS}(e:Sx S S') {p:Addr}(h:S' p=Option.none):S p=Option.none:=by
 cases q:S p with
 | none=>rfl
 | some o=>rw[e p o q] at h;cases h
section
variable {K:Ab}{H H':Hp}{S:SS}
theorem qd.has {a:Addr}{o:O}(h:qd K H a o):H a≠none:=by
 cases o with
 | lst ds=>obtain⟨xs,h,_⟩:=h;rw[h];simp
 | z_ Aa=>obtain⟨xs,h,_⟩:=h;rw[h];simp
theorem zJ.none (r:zJ K H S) {p:Addr}(h:H p=Option.none):S p=Option.none:=by
 cases q:S p with
 | none=>rfl
 | some o=>exact absurd h (r p o q).has
theorem yI.ext (e:Ext H H') {Aa:List (Key×D)}{vs:List (Key×V)}(h:yI K H Aa vs):yI K H' Aa vs:=
 Paired.mX h λ p q z=>⟨z.1,zg.ext e p.2 z.2⟩
theorem qd.keep {a:Addr}{o:O}(e:Ext H H') (k:∀ u,H a=some u->H' a=some u) (h:qd K H a o):qd K H' a o:=by
 cases o with
 | lst ds=>obtain⟨xs,h1,h2⟩:=h;exact⟨xs,k _ h1,zl.ext e ds h2⟩
 | z_ Aa=>obtain⟨xs,h1,h2⟩:=h;exact⟨xs,k _ h1,h2.ext e⟩
theorem zJ.keep (e:Ext H H') (k:∀ a u o,S a=some o->H a=some u->H' a=some u) (r:zJ K H S):zJ K H' S:=λ a o h=>(r a o h).keep e λ u q=>k a u o h q
theorem zJ.new {p:Addr}{u:HO}(hp:H p=Option.none) (r:zJ K H S):zJ K (upd H p u) S:=
 r.keep (Ext.new hp u) λ a v o _ q=>by rw[yj (uJ q hp)];exact q
theorem zJ.ups {p:Addr}{u:HO}{o:O}(e:Ext H (upd H p u)) (hn:qd K (upd H p u) p o) (r:zJ K H S):zJ K (upd H p u) (ups S p o):=λ a o' h=>by
 by_cases ha:a=p
 .subst ha;rw[sE] at h;cases h;exact hn
 .rw[t9 ha] at h;exact (r a o' h).keep e λ v q=>by rw[yj ha];exact q
end
abbrev yd:=List (Option D)
def yD (K:Ab) (H:Hp) (L:yd) (Y:St):Prop:=L.length=Y.length/\∀ (i:Nat) (d:D),L[i]?=some (some d)->∃ v,Y[i]?=some (some v)/\zg K H d v
theorem yD.ext {K:Ab}{H H':Hp}{L:yd}{Y:St}(e:Ext H H') (r:yD K H L Y):yD K H' L Y:=⟨r.1,λ i d h=>by
 obtain⟨v,h1,h2⟩:=r.2 i d h;exact⟨v,h1,zg.ext e d h2⟩⟩
theorem yD.set {K:Ab}{H:Hp}{L:yd}{Y:St}(i:Nat) {d:D}{v:V}(r:yD K H L Y) (h:zg K H d v):yD K H (L.set i (some d)) (Y.set i (some v)):=by
 refine⟨by rw[DJ,DJ];exact r.1,λ j c hc=>?_⟩;rw[C6] at hc ⊢;by_cases hj:i=j
 .subst hj;rw[if_pos rfl] at hc ⊢;by_cases hl:i < L.length
  .rw[if_pos hl] at hc;rw[if_pos (by rw[<- r.1];exact hl)];cases hc;exact⟨v,rfl,h⟩
  .rw[if_neg hl] at hc;cases hc
 .rw[if_neg hj] at hc ⊢;exact r.2 j c hc
abbrev DK:=D->SS->Prop
abbrev zr:=yd->SS->DK->Prop
abbrev yx:=yd->SS->(Bool->SS->Prop)->Prop
abbrev yh:=yd->SS->(List D->SS->Prop)->Prop
def ye (t:zr):Prop:=∀ L S (Q Q':DK),(∀ d S',Q d S'->Q' d S')->t L S Q->t L S Q'
def wD (t:yx):Prop:=∀ L S (Q Q':Bool->SS->Prop),(∀ d S',Q d S'->Q' d S')->t L S Q->t L S Q'
def sd (t:yh):Prop:=∀ L S (Q Q':List D->SS->Prop),(∀ d S',Q d S'->Q' d S')->t L S Q->t L S Q'
def wb (K:Ab) (H:Hp) (Q:VK):DK:=λ d S'=>∀ v H',zg K H' d v->Ext H H'->zJ K H' S'->Q v H'
def o_ (K:Ab) (H:Hp) (Q:Bool->Hp->Prop):Bool->SS->Prop:=λ b S'=>∀ H',Ext H H'->zJ K H' S'->Q b H'
def Ny (K:Ab) (H:Hp) (Q:List V->Hp->Prop):List D->SS->Prop:=λ ds S'=>∀ vs H',zl K H' ds vs->Ext H H'->zJ K H' S'->Q vs H'
def wN (K:Ab) (H:Hp) (Q:St->Hp->Prop):yd->SS->Prop:=fun L S'=>∀ Y H',yD K H' L Y->Ext H H'->zJ K H' S'->Q Y H'
theorem wb.ext {K:Ab}{H H':Hp}{Q:VK}(e:Ext H H') {d:D}{S:SS}(h:wb K H Q d S):wb K H' Q d S:=λ v H2 r x q=>h v H2 r (e.trans x) q
theorem o_.ext {K:Ab}{H H':Hp}{Q:Bool->Hp->Prop}(e:Ext H H') {d:Bool}{S:SS}(h:o_ K H Q d S):o_ K H' Q d S:=λ H2 x q=>h H2 (e.trans x) q
theorem wN.ext {K:Ab}{H H':Hp}{Q:St->Hp->Prop}(e:Ext H H') {d:yd}{S:SS}(h:wN K H Q d S):wN K H' Q d S:=λ v H2 r x q=>h v H2 r (e.trans x) q
def zK (K:Ab) (t:zr):TE:=fun Y H Q=>∃ L S,yD K H L Y/\zJ K H S/\t L S (wb K H Q)
def xV (K:Ab) (t:yx):TT:=fun Y H Q=>∃ L S,yD K H L Y/\zJ K H S/\t L S (o_ K H Q)
def xW (K:Ab) (t:yh):TA:=fun Y H Q=>∃ L S,yD K H L Y/\zJ K H S/\t L S (Ny K H Q)
structure PD (X:Cx) (e:Expr) (t:zr):Prop where
 mo:ye t
 pe:PE X e (zK X.K t)
structure yQ (X:Cx) (e:Expr) (t:yx):Prop where
 mo:wD t
 pt:PT X e (xV X.K t)
structure yR (X:Cx) (es:List Expr) (t:yh):Prop where
 mo:sd t
 pa:PA X es (xW X.K t)
theorem PE.imp {X:Cx}{e:Expr}{t t':TE}(h:PE X e t) (hi:∀ Y H Q,t' Y H Q->t Y H Q):PE X e t':=λ EM s Y H Q I q=>h EM s Y H Q I (hi Y H Q q)
theorem PT.imp {X:Cx}{e:Expr}{t t':TT}(h:PT X e t) (hi:∀ Y H Q,t' Y H Q->t Y H Q):PT X e t':=λ EM s Y H Q I q=>h EM s Y H Q I (hi Y H Q q)
theorem PA.imp {X:Cx}{e:List Expr}{t t':TA}(h:PA X e t) (hi:∀ Y H Q,t' Y H Q->t Y H Q):PA X e t':=λ pos EM s Y H Q I q=>h pos EM s Y H Q I (hi Y H Q q)
theorem PS.imp {X:Cx}{e:Stmt}{t t':TS}(h:PS X e t) (hi:∀ D Y H,t' D Y H->t D Y H):PS X e t':=λ EM s Y H Q I q=>h EM s Y H Q I (hi Q Y H q)
theorem xJ.imp {X:Cx}{e:List Stmt}{t t':TS}(h:xJ X e t) (hi:∀ D Y H,t' D Y H->t D Y H):xJ X e t':=λ EM s Y H Q I q=>h EM s Y H Q I (hi Q Y H q)
section
variable {X:Cx}{K:Ab}
theorem zK.go {t:zr}{Y:St}{H:Hp}{Q:VK}{L:yd}{S:SS}{R:DK}(mo:ye t) (r1:yD K H L Y) (r2:zJ K H S) (h:t L S R) (k:∀ d S' v H',R d S'->zg K H' d v->Ext H H'->zJ K H' S'->Q v H'):zK K t Y H Q:=
 ⟨L,S,r1,r2,mo L S _ _ (λ d S' q v H' a b c=>k d S' v H' q a b c) h⟩
theorem xV.go {t:yx}{Y:St}{H:Hp}{Q:Bool->Hp->Prop}{L:yd}{S:SS}{R:Bool->SS->Prop}(mo:wD t) (r1:yD K H L Y) (r2:zJ K H S) (h:t L S R) (k:∀ d S' H',R d S'->Ext H H'->zJ K H' S'->Q d H'):xV K t Y H Q:=
 ⟨L,S,r1,r2,mo L S _ _ (λ d S' q H' b c=>k d S' H' q b c) h⟩
theorem xW.go {t:yh}{Y:St}{H:Hp}{Q:List V->Hp->Prop}{L:yd}{S:SS}{R:List D->SS->Prop}(mo:sd t) (r1:yD K H L Y) (r2:zJ K H S) (h:t L S R) (k:∀ d S' v H',R d S'->zl K H' d v->Ext H H'->zJ K H' S'->Q v H'):xW K t Y H Q:=
 ⟨L,S,r1,r2,mo L S _ _ (λ d S' q v H' a b c=>k d S' v H' q a b c) h⟩
def yw (i:Nat):zr:=fun L S Q=>match L[i]? with
 | some (some d)=>Q d S
 | _=>False
def dC (d:D):zr:=λ _ S Q=>Q d S
theorem U0 (i:Nat) {x:Str}{pos:Pos}(h:PE X (.Name x pos) (jk i)):PD X (.Name x pos) (yw i):=by
 refine⟨fun L S Q Q' hq h=>?_,PE.imp h fun Y H Q hu=>?_⟩
 .unfold yw at h ⊢;split at h
  .exact hq _ _ h
  .exact h
 .obtain⟨L,S,r1,r2,h⟩:=hu;unfold yw at h;split at h
  .rename_i d e;obtain⟨v,h1,h2⟩:=r1.2 i d e;exact⟨v,h1,h v H h2 (Ext.refl H) r2⟩
  .exact h.elim
theorem dC.mo (d:D):ye (dC d):=λ _ _ _ _ hq h=>hq _ _ h
theorem qB {e:Expr}{d:D}{v:V}(h:PE X e (tC v)) (r:∀ H,zg X.K H d v):PD X e (dC d):=
 ⟨dC.mo d,PE.imp h λ _ H _ ⟨_,_,_,r2,h⟩=>h v H (r H) (Ext.refl H) r2⟩
theorem U_ {i j pos}:PD X (.Constant (.int i) j pos) (dC (.int i)):=qB V2 λ _=>by simp only[zg]
theorem Tx {i j pos}:PD X (.Constant (.bool i) j pos) (dC (.bl i)):=qB VB λ _=>by simp only[zg]
theorem UC {j pos}:PD X (.Constant .none j pos) (dC .zo):=qB Vy λ _=>by simp only[zg]
theorem U5 {x j pos}:PD X (.Constant (.str x) j pos) (dC (.str x)):=qB Vs λ _=>by simp only[zg]
abbrev y6:=D->D->SS->DK->Prop
def xh (f:y6):Prop:=∀ x y S (Q Q':DK),(∀ d S',Q d S'->Q' d S')->f x y S Q->f x y S Q'
def yS (K:Ab) (f:y6) (r:R2):Prop:=∀ x y d e H S Q,zg K H d x->zg K H e y->zJ K H S->f d e S (wb K H Q)->r x y H Q
def yf (f:y6) (ta tb:zr):zr:=fun L S Q=>ta L S λ x S1=>tb L S1 λ y S2=>f x y S2 Q
theorem yf.mo {f:y6}{ta tb:zr}(hf:xh f) (ha:ye ta) (hb:ye tb):ye (yf f ta tb):=fun L S Q Q' hq h=>
 ha L S _ _ (λ x S1 h=>hb L S1 _ _ (λ y S2 h=>hf x y S2 _ _ hq h) h) h
theorem mv {f:y6}{r:R2}{ta tb:zr}(hr:yS K f r) (hf:xh f) (ha:ye ta) (hb:ye tb) {Y:St}{H:Hp}{Q:VK}(h:zK K (yf f ta tb) Y H Q):pT r (zK K ta) (zK K tb) Y H Q:=by
 obtain⟨L,S,r1,r2,h⟩:=h;refine zK.go ha r1 r2 h λ x S1 v H1 h1 q1 e1 p1=>?_;refine zK.go hb (r1.ext e1) p1 h1 λ y S2 w H2 h2 q2 e2 p2=>?_;exact hr v w x y H2 S2 Q (zg.ext e2 x q1) q2 p2 (hf x y S2 _ _ (λ d S' z=>z.ext (e1.trans e2)) h2)
theorem sN {a b:Expr}{op:Operator}{pos:Pos}{f:y6}{r:R2}{ta tb:zr}(ho:zV X (binaryOp op) r) (hr:yS X.K f r) (hf:xh f) (ha:PD X a ta) (hb:PD X b tb):PD X (.BinOp a op b pos) (yf f ta tb):=
 ⟨yf.mo hf ha.mo hb.mo,PE.imp (Vu ho ha.pe hb.pe) λ _ _ _ h=>mv hr hf ha.mo hb.mo h⟩
theorem ot {a b:Expr}{op:CmpOp}{pos:Pos}{f:y6}{r:R2}{ta tb:zr}(ho:zV X (compareOp op) r) (hr:yS X.K f r) (hf:xh f) (ha:PD X a ta) (hb:PD X b tb) (hm:behindInMarks op b=false):PD X (.Compare a [op] [b] pos) (yf f ta tb):=
 ⟨yf.mo hf ha.mo hb.mo,PE.imp (V7 ho ha.pe hb.pe hm) λ _ _ _ h=>mv hr hf ha.mo hb.mo h⟩
def w9 (t:zr):yx:=fun L S Q=>t L S λ x S1=>match x with
 | .bl b=>Q b S1
 | _=>False
theorem w9.mo {t:zr}(h:ye t):wD (w9 t):=fun L S Q Q' hq q=>h L S _ _ (λ d S' z=>by
 cases d <;> first
  | exact hq _ _ z
  | exact z) q
theorem tK {a b:Expr}{op:CmpOp}{pos:Pos}{f:y6}{r:R2}{ta tb:zr}(ho:zV X (compareOp op) r) (hr:yS X.K f r) (hf:xh f) (ha:PD X a ta) (hb:PD X b tb) (hm:behindInMarks op b=false):yQ X (.Compare a [op] [b] pos) (w9 (yf f ta tb)):=by
 refine⟨w9.mo (yf.mo hf ha.mo hb.mo),PT.imp (W9 ho ha.pe hb.pe hm) fun Y H Q h=>?_⟩;obtain⟨L,S,r1,r2,h⟩:=h;refine mv hr hf ha.mo hb.mo ⟨L,S,r1,r2,yf.mo hf ha.mo hb.mo L S _ _ (λ d S' z v H' a b c=>?_) h⟩;cases d with
 | bl k=>simp only[zg] at a;exact⟨k,a,z H' b c⟩
 | _=>exact z.elim
def fI (C:Int->Int->Prop) (g:Int->Int->D):y6:=λ x y S Q=>match x,y with
 | .int i,.int j=>C i j/\Q (g i j) S
 | _,_=>False
theorem fI.mo {C:Int->Int->Prop}{g:Int->Int->D}:xh (fI C g):=λ x y S Q Q' hq h=>by
 unfold fI at h ⊢;split at h
 .exact⟨h.1,hq _ _ h.2⟩
 .exact h.elim
def yM (g:Int->Int->D):y6:=λ x y S Q=>match x,y with
 | .int i,.int j=>Q (g i j) S
 | _,_=>False
theorem yM.mo {g:Int->Int->D}:xh (yM g):=λ x y S Q Q' hq h=>by
 unfold yM at h ⊢;split at h
 .exact hq _ _ h
 .exact h.elim
theorem fI.fits {C:Int->Int->Prop}{g:Int->Int->D}{g':Int->Int->V}(hg:∀ i j H,zg K H (g i j) (g' i j)):yS K (fI C g) (rI C g'):=λ x y d e H S Q h1 h2 h3 h=>by
 unfold fI at h;split at h
 .simp only[zg] at h1 h2;exact⟨_,_,h1,h2,h.1,h.2 _ H (hg _ _ H) (Ext.refl H) h3⟩
 .exact h.elim
theorem yM.fits {g:Int->Int->D}{g':Int->Int->V}(hg:∀ i j H,zg K H (g i j) (g' i j)):yS K (yM g) (wH g'):=λ x y d e H S Q h1 h2 h3 h=>by
 unfold yM at h;split at h
 .simp only[zg] at h1 h2;exact⟨_,_,h1,h2,h _ H (hg _ _ H) (Ext.refl H) h3⟩
 .exact h.elim
variable {a b:Expr}{ta tb:zr}{pos:Pos}
theorem U4 (ha:PD X a ta) (hb:PD X b tb):PD X (.BinOp a .Sub b pos) (yf (yM λ i j=>.int (i-j)) ta tb):=sN TC (yM.fits λ _ _ _=>by simp only[zg]) yM.mo ha hb
theorem UH (ha:PD X a ta) (hb:PD X b tb):PD X (.BinOp a .Mod b pos) (yf (fI (λ _ j=>0<j) λ i j=>.int (i%j)) ta tb):=sN TV (fI.fits λ _ _ _=>by simp only[zg]) fI.mo ha hb
theorem Ti (ha:PD X a ta) (hb:PD X b tb):PD X (.BinOp a .FloorDiv b pos) (yf (fI xA λ i j=>.int (i/j)) ta tb):=sN Sf (fI.fits λ _ _ _=>by simp only[zg]) fI.mo ha hb
theorem U9 (ha:PD X a ta) (hb:PD X b tb):PD X (.BinOp a .Pow b pos) (yf (fI rC λ i j=>.int (i ^ j.toNat)) ta tb):=sN TF (fI.fits λ _ _ _=>by simp only[zg]) fI.mo ha hb
abbrev l9:y6:=yM λ i j=>.bl (decide (i<=j))
abbrev iK:y6:=yM λ i j=>.bl (decide (j<i))
abbrev iL:y6:=yM λ i j=>.bl (decide (j<=i))
theorem fit_le:yS K l9 (wH λ i j=>.bl (decide (i<=j))):=yM.fits λ _ _ _=>by simp only[zg]
theorem OY:yS K iK (wH λ i j=>.bl (decide (j<i))):=yM.fits λ _ _ _=>by simp only[zg]
theorem OZ:yS K iL (wH λ i j=>.bl (decide (j<=i))):=yM.fits λ _ _ _=>by simp only[zg]
theorem US (ha:PD X a ta) (hb:PD X b tb):PD X (.Compare a [.LtE] [b] pos) (yf l9 ta tb):=ot qD fit_le yM.mo ha hb (um _)
theorem Tg (ha:PD X a ta) (hb:PD X b tb):PD X (.Compare a [.GtE] [b] pos) (yf iL ta tb):=ot Sd OZ yM.mo ha hb (um _)
theorem VL (ha:PD X a ta) (hb:PD X b tb):yQ X (.Compare a [.LtE] [b] pos) (w9 (yf l9 ta tb)):=tK qD fit_le yM.mo ha hb (um _)
theorem VP (ha:PD X a ta) (hb:PD X b tb):yQ X (.Compare a [.Gt] [b] pos) (w9 (yf iK ta tb)):=tK Sb OY yM.mo ha hb (um _)
end
section
variable {X:Cx}{K:Ab}{a b c:Expr}{ta tb:zr}{pos:Pos}
def nk (ta tb:zr):zr:=fun L S Q=>ta L S λ x S1=>match x with
 | .bl k=>if k=true then tb L S1 Q else Q (.bl false) S1
 | _=>False
def nh (ta:zr):zr:=fun L S Q=>ta L S λ x S1=>match x with
 | .bl k=>Q (.bl (!k)) S1
 | _=>False
theorem wL {c:Prop} [Decidable c] {A B A' B':Prop}(h1:A->A') (h2:B->B') (h:if c then A else B):if c then A' else B':=by
 by_cases q:c
 .rw[if_pos q] at h ⊢;exact h1 h
 .rw[if_neg q] at h ⊢;exact h2 h
theorem nk.mo (ha:ye ta) (hb:ye tb):ye (nk ta tb):=fun L S Q Q' hq h=>ha L S _ _ (λ x S1 z=>by
 cases x <;> first
  | exact wL (hb L S1 _ _ hq) (hq _ _) z
  | exact z) h
theorem nh.mo (ha:ye ta):ye (nh ta):=fun L S Q Q' hq h=>ha L S _ _ (λ x S1 z=>by
 cases x <;> first
  | exact hq _ _ z
  | exact z) h
theorem UA {op} {t:zr}(h:PD X a t):PD X (.BoolOp op [a] pos) t:=⟨h.mo,Vv h.pe⟩
variable {ET:List Expr}
theorem T3 (ha:PD X a ta) (hb:PD X (.BoolOp .And (b::ET) pos) tb):PD X (.BoolOp .And (a::b::ET) pos) (nk ta tb):=by
 refine⟨nk.mo ha.mo hb.mo,PE.imp (VC ha.pe hb.pe) fun Y H Q hu=>?_⟩;obtain⟨L,S,r1,r2,h⟩:=hu;refine zK.go ha.mo r1 r2 h λ x S1 v H1 h1 q1 e1 p1=>?_;cases x with
 | bl k=>
  simp only[zg] at q1;refine⟨k,q1,wL (λ z=>?_) (λ z=>?_) h1⟩
  .exact zK.go hb.mo (r1.ext e1) p1 z λ y S2 w H2 h2 q2 e2 p2=>h2 w H2 q2 (e1.trans e2) p2
  .exact z _ H1 (by simp only[zg]) e1 p1
 | _=>exact h1.elim
theorem UB (ha:PD X a ta):PD X (.UnaryOp .Not a pos) (nh ta):=by
 refine⟨nh.mo ha.mo,PE.imp (Vx ha.pe) fun Y H Q hu=>?_⟩;obtain⟨L,S,r1,r2,h⟩:=hu;refine zK.go ha.mo r1 r2 h λ x S1 v H1 h1 q1 e1 p1=>?_;cases x with
 | bl k=>
  simp only[zg] at q1;exact⟨k,q1,h1 _ H1 (by simp only[zg]) e1 p1⟩
 | _=>exact h1.elim
def oY (t u:yx):yx:=fun L S Q=>t L S λ k S1=>if k=true then u L S1 Q else Q false S1
def oW (t u:yx):yx:=fun L S Q=>t L S λ k S1=>if k=true then Q true S1 else u L S1 Q
def oX (t:yx):yx:=fun L S Q=>t L S λ k S1=>Q (!k) S1
variable {t u:yx}
theorem oY.mo (h:wD t) (h':wD u):wD (oY t u):=fun L S _ _ hq z=>h L S _ _ (λ k S1 z=>wL (h' L S1 _ _ hq) (hq _ _) z) z
theorem oW.mo (h:wD t) (h':wD u):wD (oW t u):=fun L S _ _ hq z=>h L S _ _ (λ k S1 z=>wL (hq _ _) (h' L S1 _ _ hq) z) z
theorem oX.mo (h:wD t):wD (oX t):=fun L S _ _ hq z=>h L S _ _ (λ k S1 z=>hq _ _ z) z
structure sa (X:Cx) (e:Expr) (t:yx):Prop where
 mo:wD t
 pw:PW X e (xV X.K t)
theorem PW.imp {e:Expr}{t t':TT}(h:PW X e t) (hi:∀ Y H Q,t' Y H Q->t Y H Q):PW X e t':=λ whole EM s Y H Q I q=>h whole EM s Y H Q I (hi Y H Q q)
theorem sa.pt {e:Expr}{t:yx}(h:sa X e t):yQ X e t:=⟨h.mo,PW.pt h.pw⟩
theorem VE (h:yQ X a t):sa X (.BoolOp .And [a] pos) t:=⟨h.mo,W3 h.pt⟩
theorem VD (h:yQ X a t):sa X (.BoolOp .Or [a] pos) t:=⟨h.mo,W0 h.pt⟩
theorem dk (ha:yQ X a t) (hb:sa X (.BoolOp .And (b::ET) pos) u):sa X (.BoolOp .And (a::b::ET) pos) (oY t u):=by
 refine⟨oY.mo ha.mo hb.mo,PW.imp (W4 ha.pt hb.pw) fun Y H Q hu=>?_⟩;obtain⟨L,S,r1,r2,h⟩:=hu;refine xV.go ha.mo r1 r2 h λ k S1 H1 h1 e1 p1=>wL (λ z=>?_) (λ z=>z H1 e1 p1) h1;exact xV.go hb.mo (r1.ext e1) p1 z λ y S2 H2 h2 e2 p2=>h2 H2 (e1.trans e2) p2
theorem di (ha:yQ X a t) (hb:sa X (.BoolOp .Or (b::ET) pos) u):sa X (.BoolOp .Or (a::b::ET) pos) (oW t u):=by
 refine⟨oW.mo ha.mo hb.mo,PW.imp (W2 ha.pt hb.pw) fun Y H Q hu=>?_⟩;obtain⟨L,S,r1,r2,h⟩:=hu;refine xV.go ha.mo r1 r2 h λ k S1 H1 h1 e1 p1=>wL (λ z=>z H1 e1 p1) (λ z=>?_) h1;exact xV.go hb.mo (r1.ext e1) p1 z λ y S2 H2 h2 e2 p2=>h2 H2 (e1.trans e2) p2
theorem VH (ha:yQ X a t):yQ X (.UnaryOp .Not a pos) (oX t):=by
 refine⟨oX.mo ha.mo,PT.imp (W8 ha.pt) fun Y H Q hu=>?_⟩;obtain⟨L,S,r1,r2,h⟩:=hu;exact xV.go ha.mo r1 r2 h λ k S1 H1 h1 e1 p1=>h1 H1 e1 p1
def ni (t:yx) (ta tb:zr):zr:=fun L S Q=>t L S λ k S1=>if k=true then ta L S1 Q else tb L S1 Q
theorem ni.mo (h:wD t) (ha:ye ta) (hb:ye tb):ye (ni t ta tb):=fun L S _ _ hq z=>h L S _ _ (λ k S1 z=>wL (ha L S1 _ _ hq) (hb L S1 _ _ hq) z) z
theorem Tb (hc:yQ X c t) (ha:PD X a ta) (hb:PD X b tb):PD X (.IfExp c a b pos) (ni t ta tb):=by
 refine⟨ni.mo hc.mo ha.mo hb.mo,PE.imp (V3 hc.pt ha.pe hb.pe) fun Y H Q hu=>?_⟩;obtain⟨L,S,r1,r2,h⟩:=hu;refine xV.go hc.mo r1 r2 h λ k S1 H1 h1 e1 p1=>wL (λ z=>?_) (λ z=>?_) h1
 .exact zK.go ha.mo (r1.ext e1) p1 z λ y S2 w H2 h2 q2 e2 p2=>h2 w H2 q2 (e1.trans e2) p2
 .exact zK.go hb.mo (r1.ext e1) p1 z λ y S2 w H2 h2 q2 e2 p2=>h2 w H2 q2 (e1.trans e2) p2
def vj (d:D) (S:SS) (Q:Bool->SS->Prop):Prop:=match d with
 | .zo=>Q false S
 | .bl k=>Q k S
 | .int i=>Q (i != 0) S
 | .str x=>x.length<=sizeLine/\Q ((x.length:Int) != 0) S
 | .tup ds=>Q (!ds.isEmpty) S
 | .xv ds=>Q (!ds.isEmpty) S
 | .ref p=>match S p with
  | some (.lst ds)=>Q (!ds.isEmpty) S
  | some (.z_ Aa)=>Q (!Aa.isEmpty) S
  | none=>False
 | .err _ _ _=>False
def bM (ta:zr):yx:=fun L S Q=>ta L S λ x S1=>vj x S1 Q
theorem vj.mo {d:D}{S:SS}{Q Q':Bool->SS->Prop}(hq:∀ k S',Q k S'->Q' k S') (h:vj d S Q):vj d S Q':=by
 cases d with
 | str x=>exact⟨h.1,hq _ _ h.2⟩
 | err _ _ _=>exact h.elim
 | ref p=>
  unfold vj at h ⊢;dsimp only at h ⊢;split at h
  .exact hq _ _ h
  .exact hq _ _ h
  .exact h
 | _=>exact hq _ _ h
theorem zl.isEmpty {H:Hp}{ds:List D}{xs:List V}(h:zl K H ds xs):ds.isEmpty=xs.isEmpty:=by
 have:=h.length;cases ds <;> cases xs <;> simp_all
theorem MI {α β:Type}{F:α->β->Prop}{xs:List α}{ys:List β}(h:Paired F xs ys):xs.isEmpty=ys.isEmpty:=by cases h <;> rfl
theorem vj.fits {H:Hp}{d:D}{v:V}{S:SS}{Q:Bool->Hp->Prop}(r:zg K H d v) (p:zJ K H S) (h:vj d S (o_ K H Q)):∃ k,gu K v H k/\Q k H:=by
 cases d with
 | zo=>simp only[zg] at r;subst r;exact⟨false,rfl,h H (.refl H) p⟩
 | bl k=>simp only[zg] at r;subst r;exact⟨k,rfl,h H (.refl H) p⟩
 | int i=>simp only[zg] at r;subst r;exact⟨_,rfl,h H (.refl H) p⟩
 | str x=>simp only[zg] at r;subst r;exact⟨_,⟨h.1,rfl⟩,h.2 H (.refl H) p⟩
 | err _ _ _=>exact h.elim
 | tup ds=>
  simp only[zg] at r;obtain⟨a,xs,rfl,r1,r2⟩:=r;exact⟨_,.inr (.inl ⟨xs,r1,by rw[r2.isEmpty]⟩),h H (.refl H) p⟩
 | xv ds=>
  simp only[zg] at r;obtain⟨a,xs,rfl,r1,r2⟩:=r;exact⟨_,.inl ⟨xs,r1.sq,by rw[r2.isEmpty]⟩,h H (.refl H) p⟩
 | ref a=>
  simp only[zg] at r;subst r;unfold vj at h;dsimp only at h;split at h
  .rename_i ds e;obtain⟨xs,e1,r2⟩:=p a _ e;exact⟨_,.inl ⟨xs,zL.of e1,by rw[r2.isEmpty]⟩,h H (.refl H) p⟩
  .rename_i Aa e;obtain⟨xs,e1,r2⟩:=p a _ e;exact⟨_,.inr (.inr ⟨xs,e1,by rw[MI r2]⟩),h H (.refl H) p⟩
  .exact h.elim
theorem VF (ha:PD X a ta) (he:∀ whole,isTrue a X.env whole=(do let v <- whole;standAt a.pos;holding [v] (truthy v))):yQ X a (bM ta):=by
 refine⟨fun L S Q Q' hq h=>ha.mo L S _ _ (λ x S1 z=>vj.mo hq z) h,PT.imp (W7 ha.pe he) fun Y H Q hu=>?_⟩;obtain⟨L,S,r1,r2,h⟩:=hu;refine zK.go ha.mo r1 r2 h λ x S1 v H1 h1 q1 e1 p1=>?_;exact vj.fits q1 p1 (vj.mo (λ k S' z=>z.ext e1) h1)
def lK:yh:=λ _ S Q=>Q [] S
def rS (te:zr) (tr:yh):yh:=fun L S Q=>te L S λ x S1=>tr L S1 λ xs S2=>Q (x::xs) S2
variable {e:Expr}{es:List Expr}{te:zr}{tA:yh}
theorem rS.mo (h:ye te) (h':sd tA):sd (rS te tA):=fun L S _ _ hq z=>h L S _ _ (λ x S1 z=>h' L S1 _ _ (λ xs S2 z=>hq _ _ z) z) z
theorem Uy:yR X [] lK:=⟨λ _ _ _ _ hq h=>hq _ _ h,PA.imp qC fun Y H Q ⟨_,_,_,r2,h⟩=>h [] H .nil (.refl H) r2⟩
theorem Uz (ha:PD X e te) (hr:yR X es tA) (hs:starEach (e::es) X.env=(false,eval e X.env)::starEach es X.env):yR X (e::es) (rS te tA):=by
 refine⟨rS.mo ha.mo hr.mo,PA.imp (rJ ha.pe hr.pa hs) fun Y H Q hu=>?_⟩;obtain⟨L,S,r1,r2,h⟩:=hu;refine zK.go ha.mo r1 r2 h λ x S1 v H1 h1 q1 e1 p1=>?_;refine xW.go hr.mo (r1.ext e1) p1 h1 λ xs S2 w H2 h2 q2 e2 p2=>?_;exact h2 (v::w) H2 (.cons (zg.ext e2 x q1) q2) (e1.trans e2) p2
def bS (t:yh):zr:=fun L S Q=>t L S λ ds S1=>ds.length<=sizeLine/\Q (.tup ds) S1
def bZ (t:yh):zr:=fun L S Q=>t L S λ ds S1=>ds.length<=sizeLine/\∀ p,S1 p=none->Q (.ref p) (ups S1 p (.lst ds))
theorem U3 {k} (h:yR X es tA):PD X (.Tuple es k pos) (bS tA):=by
 refine⟨fun L S _ _ hq z=>h.mo L S _ _ (λ ds S1 z=>⟨z.1,hq _ _ z.2⟩) z,PE.imp (Vr h.pa) fun Y H Q hu=>?_⟩;obtain⟨L,S,r1,r2,h'⟩:=hu;refine xW.go h.mo r1 r2 h' λ ds S1 xs H1 h1 q1 e1 p1=>⟨by rw[<- q1.length];exact h1.1,λ p hp=>?_⟩;refine h1.2 _ _ ?_ (e1.trans (.new hp _)) (p1.new hp);simp only[zg];exact⟨p,xs,rfl,zR.of yz,zl.ext (.new hp _) ds q1⟩
theorem UO (h:yR X es tA):PD X (.List es pos) (bZ tA):=by
 refine⟨fun L S _ _ hq z=>h.mo L S _ _ (λ ds S1 z=>⟨z.1,λ p hp=>hq _ _ (z.2 p hp)⟩) z,PE.imp (Vz h.pa) fun Y H Q hu=>?_⟩;obtain⟨L,S,r1,r2,h'⟩:=hu;refine xW.go h.mo r1 r2 h' λ ds S1 xs H1 h1 q1 e1 p1=>⟨by rw[<- q1.length];exact h1.1,λ p hp=>?_⟩;refine h1.2 p (p1.none hp) _ _ (by simp only[zg]) (e1.trans (.new hp _)) ?_;exact p1.ups (.new hp _) ⟨xs,yz,zl.ext (.new hp _) ds q1⟩
def xZ:y6:=λ x y S Q=>match x,y with
 | .tup ds,.int i=>match zB ds i with
  | some d=>Q d S
  | none=>False
 | .xv ds,.int i=>match zB ds i with
  | some d=>Q d S
  | none=>False
 | .ref p,.int i=>match S p with
  | some (.lst ds)=>match zB ds i with
   | some d=>Q d S
   | none=>False
  | _=>False
 | _,_=>False
theorem xZ.mo:xh xZ:=λ x y S Q Q' hq h=>by
 unfold xZ at h ⊢;split at h
 .skip
  split at h
  .exact hq _ _ h
  .exact h
 .skip
  split at h
  .exact hq _ _ h
  .exact h
 .skip
  split at h
  .skip
   split at h
   .exact hq _ _ h
   .exact h
  .exact h.elim
 .exact h.elim
theorem zl.zB {H:Hp}{ds:List D}{xs:List V}{i:Int}{d:D}(h:zl K H ds xs) (e:L2.zB ds i=some d):∃ x,L2.zB xs i=some x/\zg K H d x:=by
 unfold L2.zB at e ⊢;rw[h.length] at e;cases q:xF xs.length i with
 | none=>rw[q] at e;cases e
 | some j=>
  rw[q] at e;exact h.get e
theorem xZ.fits:yS K xZ (eR K):=λ x y d e H S Q h1 h2 h3 h=>by
 unfold xZ at h;split at h
 .split at h
  .rename_i q;simp only[zg] at h1 h2;obtain⟨a,xs,rfl,r1,r2⟩:=h1;obtain⟨x',e1,e2⟩:=r2.zB q;exact .inr (.inl ⟨a,xs,_,x',rfl,h2,r1,e1,h x' H e2 (.refl H) h3⟩)
  .exact h.elim
 .split at h
  .rename_i q;simp only[zg] at h1 h2;obtain⟨a,xs,rfl,r1,r2⟩:=h1;obtain⟨x',e1,e2⟩:=r2.zB q;exact .inl ⟨a,xs,_,x',rfl,h2,r1.sq,e1,h x' H e2 (.refl H) h3⟩
  .exact h.elim
 .split at h
  .rename_i q0;split at h
   .rename_i q;simp only[zg] at h1 h2;subst h1;obtain⟨xs,r1,r2⟩:=h3 _ _ q0;obtain⟨x',e1,e2⟩:=r2.zB q;exact .inl ⟨_,xs,_,x',rfl,h2,zL.of r1,e1,h x' H e2 (.refl H) h3⟩
   .exact h.elim
  .exact h.elim
 .exact h.elim
theorem UT (ha:PD X a ta) (hb:PD X b tb) (hs:aX b):PD X (.Subscript a b pos) (yf xZ ta tb):=
 ⟨yf.mo xZ.mo ha.mo hb.mo,PE.imp (V1 PQ ha.pe hb.pe hs) λ _ _ _ h=>mv xZ.fits xZ.mo ha.mo hb.mo h⟩
abbrev xn:=List D->SS->DK->Prop
def vh (f:xn):Prop:=∀ ds S (Q Q':DK),(∀ d S',Q d S'->Q' d S')->f ds S Q->f ds S Q'
def uf (K:Ab) (f:xn) (r:List V->Hp->VK->Prop):Prop:=∀ xs ds H S Q,zl K H ds xs->zJ K H S->f ds S (wb K H Q)->r xs H Q
def xl (f:xn) (t:yh):zr:=fun L S Q=>t L S λ ds S1=>f ds S1 Q
theorem xl.mo {f:xn}(hf:vh f) (h:sd tA):ye (xl f tA):=fun L S _ _ hq z=>h L S _ _ (λ ds S1 z=>hf ds S1 _ _ hq z) z
theorem fF {f:xn}{r:List V->Hp->VK->Prop}(hf:vh f) (hr:uf K f r) (h:sd tA) {Y:St}{H:Hp}{Q:VK}(hu:zK K (xl f tA) Y H Q):m6 r (xW K tA) Y H Q:=by
 obtain⟨L,S,r1,r2,h'⟩:=hu;refine xW.go h r1 r2 h' λ ds S1 xs H1 h1 q1 e1 p1=>?_;exact hr xs ds H1 S1 Q q1 p1 (hf ds S1 _ _ (λ d S' z=>z.ext e1) h1)
theorem uk {f:xn}{r:List V->Hp->VK->Prop}{e:Expr}(h:PE X e (m6 r (xW X.K tA))) (hf:vh f) (hr:uf X.K f r) (ha:sd tA):PD X e (xl f tA):=
 ⟨xl.mo hf ha,PE.imp h λ _ _ _ hu=>fF hf hr ha hu⟩
noncomputable def zO (d:D) (S:SS):Option (List D):=match d with
 | .tup ds=>some ds
 | .xv ds=>some ds
 | .ref p=>match S p with
  | some (.lst ds)=>some ds
  | _=>none
 | _=>none
theorem zO.sq {H:Hp}{S:SS}{d:D}{v:V}{ds:List D}(r:zg K H d v) (p:zJ K H S) (e:zO d S=some ds):∃ a xs,v=.ref a/\(zL K H a xs\/zR K H a xs)/\zl K H ds xs:=by
 unfold zO at e;split at e
 .cases e;simp only[zg] at r;obtain⟨a,xs,h1,h2,h3⟩:=r;exact⟨a,xs,h1,.inr h2,h3⟩
 .cases e;simp only[zg] at r;obtain⟨a,xs,h1,h2,h3⟩:=r;exact⟨a,xs,h1,.inl h2.sq,h3⟩
 .split at e
  .rename_i q;cases e;simp only[zg] at r;subst r;obtain⟨xs,h1,h2⟩:=p _ _ q;exact⟨_,xs,rfl,.inl (zL.of h1),h2⟩
  .cases e
 .cases e
theorem zl.one {H:Hp}{d:D}{xs:List V}(h:zl K H [d] xs):∃ x,xs=[x]/\zg K H d x:=by
 simp only[zl] at h;obtain⟨x,r,rfl,h2,rfl⟩:=h;exact⟨x,rfl,h2⟩
theorem zl.two {H:Hp}{d d':D}{xs:List V}(h:zl K H [d,d'] xs):∃ x y,xs=[x,y]/\zg K H d x/\zg K H d' y:=by
 simp only[zl] at h;obtain⟨x,r,rfl,h2,y,r',rfl,h3,rfl⟩:=h;exact⟨x,y,rfl,h2,h3⟩
def vX:xn:=λ ds S Q=>match ds with
 | [d]=>match zO d S with
  | some ds=>Q (.int ds.length) S
  | none=>match d with
   | .str z=>z.length<=sizeLine/\Q (.int z.length) S
   | _=>False
 | _=>False
theorem vX.mo:vh vX:=λ ds S Q Q' hq h=>by
 unfold vX at h ⊢;split at h
 .skip
  split at h
  .exact hq _ _ h
  .split at h
   .exact⟨h.1,hq _ _ h.2⟩
   .exact h.elim
 .exact h.elim
abbrev Wz (K:Ab):List V->Hp->VK->Prop:=λ xs H Q=>(∃ p ys,xs=[.ref p]/\(zL K H p ys\/zR K H p ys)/\Q (.int ys.length) H)\/(∃ z,xs=[.str z]/\z.length<=sizeLine/\Q (.int z.length) H)
theorem vX.fits:uf K vX (Wz K):=λ xs ds H S Q h0 h2 h=>by
 unfold vX at h;split at h
 .obtain⟨x,hx,h1⟩:=h0.one;subst hx;split at h
  .rename_i e;obtain⟨a,ys,rfl,q,r⟩:=zO.sq h1 h2 e;refine .inl ⟨a,ys,rfl,q,?_⟩;rw[<- r.length];exact h _ H (by simp only[zg]) (.refl H) h2
  .split at h
   .simp only[zg] at h1;subst h1;exact .inr ⟨_,rfl,h.1,h.2 _ H (by simp only[zg]) (.refl H) h2⟩
   .exact h.elim
 .exact h.elim
def vW:xn:=λ ds S Q=>match ds with
 | [d]=>match zO d S with
  | some ds=>∀ p,S p=none->Q (.ref p) (ups S p (.lst ds))
  | none=>False
 | _=>False
theorem vW.mo:vh vW:=λ ds S Q Q' hq h=>by
 unfold vW at h ⊢;split at h
 .skip
  split at h
  .exact λ p hp=>hq _ _ (h p hp)
  .exact h.elim
 .exact h.elim
theorem vW.fits:uf K vW (λ xs H Q=>∃ p ys,xs=[.ref p]/\(zL K H p ys\/zR K H p ys)/\∀ l,H l=none->Q (.ref l) (upd H l (.lst ys))):=λ xs ds H S Q h0 h2 h=>by
 unfold vW at h;split at h
 .obtain⟨x,hx,h1⟩:=h0.one;subst hx;split at h
  .rename_i e;obtain⟨a,ys,rfl,q,r⟩:=zO.sq h1 h2 e;refine⟨a,ys,rfl,q,λ l hl=>?_⟩;exact h l (h2.none hl) _ _ (by simp only[zg]) (.new hl _) (h2.ups (.new hl _) ⟨ys,yz,zl.ext (.new hl _) _ r⟩)
  .exact h.elim
 .exact h.elim
def vV:xn:=λ ds S Q=>match ds with
 | [.tup ds]=>Q (.tup ds) S
 | [.xv ds]=>Q (.tup ds) S
 | [.ref p]=>match S p with
  | some (.lst ds)=>Q (.tup ds) S
  | _=>False
 | _=>False
theorem vV.mo:vh vV:=λ ds S Q Q' hq h=>by
 unfold vV at h ⊢;split at h
 .exact hq _ _ h
 .exact hq _ _ h
 .skip
  split at h
  .exact hq _ _ h
  .exact h.elim
 .exact h.elim
theorem vV.fits:uf K vV (λ xs H Q=>∃ p ys,xs=[.ref p]/\((zL K H p ys/\∀ l,H l=none->Q (.ref l) (upd H l (.tup ys)))\/(zR K H p ys/\Q (.ref p) H))):=λ xs ds H S Q h0 h2 h=>by
 unfold vV at h;split at h
 .obtain⟨x,hx,h1⟩:=h0.one;subst hx;have Jr:=h1;simp only[zg] at h1;obtain⟨a,xs,rfl,r1,r2⟩:=h1;exact⟨a,xs,rfl,.inr ⟨r1,h _ H Jr (.refl H) h2⟩⟩
 .obtain⟨x,hx,h1⟩:=h0.one;subst hx;simp only[zg] at h1;obtain⟨a,xs,rfl,r1,r2⟩:=h1;refine⟨a,xs,rfl,.inl ⟨r1.sq,λ l hl=>h _ _ ?_ (.new hl _) (h2.new hl)⟩⟩;simp only[zg];exact⟨l,xs,rfl,zR.of yz,zl.ext (.new hl _) _ r2⟩
 .obtain⟨x,hx,h1⟩:=h0.one;subst hx;split at h
  .rename_i e;simp only[zg] at h1;subst h1;obtain⟨xs,r1,r2⟩:=h2 _ _ e;refine⟨_,xs,rfl,.inl ⟨zL.of r1,λ l hl=>h _ _ ?_ (.new hl _) (h2.new hl)⟩⟩;simp only[zg];exact⟨l,xs,rfl,zR.of yz,zl.ext (.new hl _) _ r2⟩
  .exact h.elim
 .exact h.elim
def v8 (g:Int->Int->D):xn:=λ ds S Q=>match ds with
 | [.int i,.int j]=>Q (g i j) S
 | _=>False
theorem v8.mo {g:Int->Int->D}:vh (v8 g):=λ ds S Q Q' hq h=>by
 unfold v8 at h ⊢;split at h
 .exact hq _ _ h
 .exact h.elim
theorem v8.fits {g:Int->Int->D}{g':Int->Int->V}(hg:∀ i j H,zg K H (g i j) (g' i j)):uf K (v8 g) (λ xs H Q=>∃ i j,xs=[.int i,.int j]/\Q (g' i j) H):=λ xs ds H S Q h0 h2 h=>by
 unfold v8 at h;split at h
 .obtain⟨x,y,hx,h1,h3⟩:=h0.two;subst hx;simp only[zg] at h1 h3;subst h1 h3;exact⟨_,_,rfl,h _ H (hg _ _ H) (.refl H) h2⟩
 .exact h.elim
def zal:y6:=λ x y S Q=>match x,y with
 | .ref p,.ref q=>match S p,S q with
  | some (.lst ds),some (.lst es)=>ds.length+es.length<=sizeLine/\∀ r,S r=none->Q (.ref r) (ups S r (.lst (ds++es)))
  | _,_=>False
 | _,_=>False
def ra (to te:zr):zr:=fun L S Q=>to L S λ x S1=>match x with
 | .ref p=>(∃ ds,S1 p=some (.lst ds))/\te L S1 λ y S2=>match S2 p with
  | some (.lst ds)=>ds.length<sizeLine/\Q .zo (ups S2 p (.lst (ds++[y])))
  | _=>False
 | _=>False
theorem ra.mo {to te:zr}(h:ye to) (h':ye te):ye (ra to te):=fun L S Q Q' hq z=>h L S _ _ (λ x S1 z=>by
 cases x with
 | ref p=>
  refine⟨z.1,h' L S1 _ _ (λ y S2 w=>?_) z.2⟩;split at w
  .exact⟨w.1,hq _ _ w.2⟩
  .exact w.elim
 | _=>exact z) z
theorem Tz {o e:Expr}{to te:zr}{e0:Expr}(En:PE X e0 (jq X.K "list" eW (zK X.K to) (jn (zK X.K te) jl))) (h:ye to) (h':ye te):PD X e0 (ra to te):=by
 refine⟨ra.mo h h',PE.imp En fun Y H Q hu=>?_⟩;obtain⟨L,S,r1,r2,z⟩:=hu;refine zK.go h r1 r2 z λ x S1 v H1 h1 q1 e1 p1=>?_;cases x with
 | ref p=>
  obtain⟨⟨ds,hd⟩,h1⟩:=h1;simp only[zg] at q1;subst q1;obtain⟨xs,g1,g2⟩:=p1 _ _ hd;refine⟨.inl ⟨rfl,xs,zL.of g1⟩,?_⟩;refine zK.go h' (r1.ext e1) p1 h1 λ y S2 w H2 h2 q2 e2 p2=>?_;split at h2
  .rename_i Hz e3;obtain⟨Fg,g3,g4⟩:=p2 _ _ e3;refine⟨p,Fg,w,rfl,rfl,g3,by rw[<- g4.length];exact h2.1,?_⟩;have e4:Ext H2 (upd H2 p (.lst (Fg++[w]))):=.lst g3 _;exact h2.2 _ _ (by simp only[zg]) ((e1.trans e2).trans e4) (p2.ups e4 ⟨_,yz,zl.ext e4 _ (g4.snoc q2)⟩)
  .exact h2.elim
 | _=>exact h1.elim
end
structure rA where
 nx:yd->SS->Prop
 rt:DK
 bk:yd->SS->Prop:=λ _ _=>False
 ct:yd->SS->Prop:=λ _ _=>False
abbrev yA:=rA->yd->SS->Prop
structure rA.Le (E E':rA):Prop where
 nx:∀ L S,E.nx L S->E'.nx L S
 rt:∀ d S,E.rt d S->E'.rt d S
 bk:∀ L S,E.bk L S->E'.bk L S
 ct:∀ L S,E.ct L S->E'.ct L S
def tj (t:yA):Prop:=∀ E E' L S,rA.Le E E'->t E L S->t E' L S
def uU (K:Ab) (H:Hp) (D:Ends):rA:=⟨wN K H D.nx,wb K H D.rt,wN K H D.bk,wN K H D.ct⟩
theorem uU.ext {K:Ab}{H H':Hp}{D:Ends}(e:Ext H H'):(uU K H D).Le (uU K H' D):=⟨λ _ _ h=>wN.ext e h,λ _ _ h=>wb.ext e h,λ _ _ h=>wN.ext e h,λ _ _ h=>wN.ext e h⟩
def je (K:Ab) (t:yA):TS:=λ D Y H=>∃ L S,yD K H L Y/\zJ K H S/\t (uU K H D) L S
structure xT (X:Cx) (st:Stmt) (t:yA):Prop where
 mo:tj t
 ps:PS X st (je X.K t)
structure wR (X:Cx) (st:List Stmt) (t:yA):Prop where
 mo:tj t
 ps:xJ X st (je X.K t)
section
variable {X:Cx}{K:Ab}{st:Stmt}{ET:List Stmt}{t u:yA}{pos:Pos}{e:Expr}{te:zr}
def bV:yA:=λ E L S=>E.nx L S
def ng (t u:yA):yA:=λ E L S=>t { E with nx:=u E } L S
theorem ng.mo (h:tj t) (h':tj u):tj (ng t u):=λ E E' L S hE z=>h { E with nx:=u E } { E' with nx:=u E' } L S ⟨fun L S q=>h' E E' L S hE q,hE.rt,hE.bk,hE.ct⟩ z
theorem VT:wR X [] bV:=⟨λ _ _ _ _ hE h=>hE.nx _ _ h,xJ.imp WC λ D Y H ⟨L,S,r1,r2,h⟩=>h Y H r1 (.refl H) r2⟩
theorem VS (h:xT X st t):wR X [st] t:=⟨h.mo,WB h.ps⟩
theorem VU (h:xT X st t) (h':wR X ET u):wR X (st::ET) (ng t u):=by
 refine⟨ng.mo h.mo h'.mo,xJ.imp (WD h.ps h'.ps) λ D Y H hu=>?_⟩;obtain⟨L,S,r1,r2,z⟩:=hu;refine⟨L,S,r1,r2,h.mo { uU X.K H D with nx:=u (uU X.K H D) } _ L S ⟨fun L' S' q Y' H' q1 q2 q3=>?_,λ _ _ q=>q,λ _ _ q=>q,λ _ _ q=>q⟩ z⟩;exact⟨L',S',q1,q3,h'.mo _ _ L' S' (uU.ext q2) q⟩
def lL (te:zr):yA:=λ E L S=>te L S λ _ S1=>E.nx L S1
theorem Ud (he:PD X e te) (hs:swapsWith e none pos.line X.env=pure false):xT X (.Expr e pos) (lL te):=by
 refine⟨λ E E' L S hE z=>he.mo L S _ _ (λ _ _ q=>hE.nx _ _ q) z,PS.imp (WM he.pe hs) λ D Y H hu=>?_⟩;obtain⟨L,S,r1,r2,z⟩:=hu;exact zK.go he.mo r1 r2 z λ x S1 v H1 h1 q1 e1 p1=>h1 Y H1 (r1.ext e1) e1 p1
def iU (te:zr):yA:=λ E L S=>te L S E.rt
theorem VY (he:PD X e te):xT X (.Return (some e) pos) (iU te):=by
 refine⟨λ E E' L S hE z=>he.mo L S _ _ (λ _ _ q=>hE.rt _ _ q) z,PS.imp (WI he.pe) λ D Y H hu=>?_⟩;obtain⟨L,S,r1,r2,z⟩:=hu;exact zK.go he.mo r1 r2 z λ x S1 v H1 h1 q1 e1 p1=>h1 v H1 q1 e1 p1
def aa (c:yx) (t u:yA):yA:=λ E L S=>c L S λ k S1=>if k=true then t E L S1 else u E L S1
theorem Ub {c:Expr}{p q:List Stmt}{tc:yx}(hc:yQ X c tc) (h:wR X p t) (h':wR X q u):xT X (.If c p q pos) (aa tc t u):=by
 refine⟨λ E E' L S hE z=>hc.mo L S _ _ (λ k S1 z=>wL (h.mo _ _ L S1 hE) (h'.mo _ _ L S1 hE) z) z,PS.imp (WJ hc.pt h.ps h'.ps) λ D Y H hu=>?_⟩;obtain⟨L,S,r1,r2,z⟩:=hu;refine xV.go hc.mo r1 r2 z λ k S1 H1 h1 e1 p1=>wL (λ z=>?_) (λ z=>?_) h1
 .exact⟨L,S1,r1.ext e1,p1,h.mo _ _ L S1 (uU.ext e1) z⟩
 .exact⟨L,S1,r1.ext e1,p1,h'.mo _ _ L S1 (uU.ext e1) z⟩
abbrev yP:=D->yd->SS->(yd->SS->Prop)->Prop
abbrev xI:=List D->yd->SS->(yd->SS->Prop)->Prop
def nK (t:yP):Prop:=∀ d L S (Q Q':yd->SS->Prop),(∀ L S,Q L S->Q' L S)->t d L S Q->t d L S Q'
def Zb (t:xI):Prop:=∀ d L S (Q Q':yd->SS->Prop),(∀ L S,Q L S->Q' L S)->t d L S Q->t d L S Q'
def pQ (K:Ab) (t:yP):TG:=λ v Y H Q=>∃ d L S,zg K H d v/\yD K H L Y/\zJ K H S/\t d L S (wN K H Q)
def fD (K:Ab) (t:xI):tY:=λ v Y H Q=>∃ d L S,zl K H d v/\yD K H L Y/\zJ K H S/\t d L S (wN K H Q)
structure ve (X:Cx) (e:Expr) (t:yP):Prop where
 mo:nK t
 pg:PG X e (pQ X.K t)
structure qf (X:Cx) (es:List Expr) (t:xI):Prop where
 mo:Zb t
 pg:tf X es (fD X.K t)
theorem PG.imp {e:Expr}{t t':TG}(h:PG X e t) (hi:∀ v Y H Q,t' v Y H Q->t v Y H Q):PG X e t':=λ EM s Y H v w Q I r q=>h EM s Y H v w Q I r (hi v Y H Q q)
theorem tf.imp {e:List Expr}{t t':tY}(h:tf X e t) (hi:∀ v Y H Q,t' v Y H Q->t v Y H Q):tf X e t':=λ EM s Y H v w Q I r q=>h EM s Y H v w Q I r (hi v Y H Q q)
def hName (i:Nat):yP:=λ d L S Q=>Q (L.set i (some d)) S
theorem Uv {e:Expr}{i:Nat}(h:PG X e (qQ i)):ve X e (hName i):=
 ⟨λ _ _ _ _ _ hq z=>hq _ _ z,PG.imp h λ v Y H Q ⟨d,L,S,r1,r2,r3,z⟩=>z _ H (r2.set i r1) (.refl H) r3⟩
def i4:xI:=λ ds L S Q=>ds=[]/\Q L S
def i5 (t:yP) (u:xI):xI:=λ ds L S Q=>match ds with
 | d::r=>t d L S fun L' S'=>u r L' S' Q
 | []=>False
theorem Ur:qf X [] i4:=by
 refine⟨λ _ _ _ _ _ hq z=>⟨z.1,hq _ _ z.2⟩,tf.imp Ve λ v Y H Q hu=>?_⟩;obtain⟨d,L,S,r1,r2,r3,z1,z2⟩:=hu;subst z1;simp only[zl] at r1;exact⟨r1,z2 Y H r2 (.refl H) r3⟩
theorem Us {e:Expr}{es:List Expr}{t:yP}{u:xI}(h:ve X e t) (h':qf X es u) (hs:(assignEach (e::es) X.env).map (·.2)=assign e X.env::(assignEach es X.env).map (·.2)):qf X (e::es) (i5 t u):=by
 refine⟨λ ds L S Q Q' hq z=>?_,tf.imp (Vf h.pg h'.pg hs) λ v Y H Q hu=>?_⟩
 .cases ds with
  | nil=>exact z
  | cons d r=>exact h.mo d L S _ _ (fun L' S' z=>h'.mo r L' S' _ _ hq z) z
 .obtain⟨ds,L,S,r1,r2,r3,z⟩:=hu;cases ds with
  | nil=>exact z.elim
  | cons d r=>
   simp only[zl] at r1;obtain⟨x,xs,rfl,q1,q2⟩:=r1;refine⟨x,xs,rfl,d,L,S,q1,r2,r3,h.mo d L S _ _ (fun L' S' z Y' H' g1 g2 g3=>?_) z⟩;exact⟨r,L',S',zl.ext g2 r q2,g1,g3,h'.mo r L' S' _ _ (fun L2 S2 z2=>wN.ext g2 z2) z⟩
def rR (n:Nat) (t:xI):yP:=λ d L S Q=>match d with
 | .tup ds=>ds.length=n/\t ds L S Q
 | _=>False
theorem Ut {e:Expr}{n:Nat}{t:xI}(h:PG X e (bp X.K n (fD X.K t))) (hm:Zb t):ve X e (rR n t):=by
 refine⟨λ d L S Q Q' hq z=>?_,PG.imp h λ v Y H Q hu=>?_⟩
 .cases d with
  | tup ds=>exact⟨z.1,hm ds L S _ _ hq z.2⟩
  | _=>exact z
 .obtain⟨d,L,S,r1,r2,r3,z⟩:=hu;cases d with
  | tup ds=>
   simp only[zg] at r1;obtain⟨a,xs,rfl,q1,q2⟩:=r1;exact⟨a,xs,rfl,q1,by rw[<- q2.length];exact z.1,ds,L,S,q2,r2,r3,z.2⟩
  | _=>exact z.elim
def wO (te:zr) (g:yP):yA:=λ E L S=>te L S λ x S1=>g x L S1 E.nx
theorem wO.mo {g:yP}(h:ye te) (h':nK g):tj (wO te g):=λ E E' L S hE z=>h L S _ _ (λ x S1 q=>h' x L S1 _ _ (fun L S q=>hE.nx _ _ q) q) z
theorem YN {g:yP}(h:ye te) (h':nK g) {D:Ends}{Y:St}{H:Hp}(hu:je K (wO te g) D Y H):pU (zK K te) (pQ K g) D Y H:=by
 obtain⟨L,S,r1,r2,z⟩:=hu;refine zK.go h r1 r2 z λ x S1 v H1 h1 q1 e1 p1=>?_;exact⟨x,L,S1,q1,r1.ext e1,p1,h' x L S1 _ _ (fun L S q=>wN.ext e1 q) h1⟩
theorem Ug {tg e:Expr}{g:yP}(he:PD X e te) (hg:ve X tg g) (hs:swapsWithSole [tg] e pos.line X.env=pure false) (hw:swappedStores [tg] e X.env=pure none)
  (h1:(assignEach [tg] X.env).map (·.2)=[assign tg X.env]):xT X (.Assign [tg] e pos) (wO te g):=
 ⟨wO.mo he.mo hg.mo,PS.imp (eY he.pe hg.pg hs hw h1) λ _ _ _ hu=>YN he.mo hg.mo hu⟩
theorem VX {e0:Stmt}{i:Nat}(h:PS X e0 (pU (zK X.K te) (qQ i))) (hm:ye te):xT X e0 (wO te (hName i)):=by
 refine⟨wO.mo hm λ _ _ _ _ _ hq z=>hq _ _ z,PS.imp h λ D Y H hu=>?_⟩;obtain⟨L,S,r1,r2,z⟩:=hu;refine zK.go hm r1 r2 z λ x S1 v H1 h1 q1 e1 p1=>?_;exact h1 _ H1 ((r1.ext e1).set i q1) e1 p1
end
structure pE where
 items:List D
 keep:SS->Prop
abbrev xR:=yd->SS->(pE->SS->Prop)->Prop
def kM (t:xR):Prop:=∀ L S (Q Q':pE->SS->Prop),(∀ I S',Q I S'->Q' I S')->t L S Q->t L S Q'
def nL (K:Ab) (H1:Hp) (J:It) (I:pE):Prop:=∀ (i:Nat) (H:Hp) (S:SS),Ext H1 H->zJ K H S->I.keep S->
 (∀ d,I.items[i]?=some d->J.go i H/\∀ x H',J.qt i H x H'->Ext H H'/\zJ K H' S/\zg K H' d x)/\(I.items.length<=i->J.stop i H)
def Nz (K:Ab) (H:Hp) (R:It->Hp->Prop):pE->SS->Prop:=λ I S1=>∀ J H1,Ext H H1->zJ K H1 S1->nL K H1 J I->R J H1
def we (K:Ab) (t:xR):TI:=fun Y H R=>∃ L S,yD K H L Y/\zJ K H S/\t L S (Nz K H R)
structure ud (X:Cx) (tg iter:Expr) (t:xR):Prop where
 mo:kM t
 pi:PI X tg iter (we X.K t)
theorem PI.imp {X:Cx}{tg e:Expr}{t t':TI}(h:PI X tg e t) (hi:∀ Y H Q,t' Y H Q->t Y H Q):PI X tg e t':=λ EM s Y H Q I q=>h EM s Y H Q I (hi Y H Q q)
section
variable {X:Cx}{K:Ab}{tg e:Expr}{pos:Pos}
theorem zl.at {H:Hp}{ds:List D}{xs:List V}{i:Nat}{d:D}{x:V}(r:zl K H ds xs) (h1:ds[i]?=some d) (h2:xs[i]?=some x):zg K H d x:=by
 obtain⟨y,e1,e2⟩:=r.get h1;rw[h2] at e1;cases e1;exact e2
noncomputable def vn (lo:Int) (n:Nat):List D:=(List.range n).map λ(k:Nat)=>D.int (lo+(k:Int))
theorem Wu {lo:Int}{n i:Nat}{d:D}(h:(vn lo n)[i]?=some d):i<n/\d=.int (lo+(i:Int)):=by
 unfold vn at h;rw[Ay] at h;cases q:(List.range n)[i]? with
 | none=>rw[q] at h;cases h
 | some j=>
  rw[q] at h;obtain⟨h1,h2⟩:=AL.mp q;rw[B5] at h1;rw[DH] at h2;subst h2;cases h;exact⟨h1,rfl⟩
theorem Wt (lo:Int) (n:Nat):(vn lo n).length=n:=by unfold vn;rw[AA,B5]
theorem nL.range {H1:Hp}{lo:Int}{n:Nat}:nL K H1 (kN lo n) ⟨vn lo n,λ _=>True⟩:=λ i H S _ x2 _=>by
 refine⟨λ d hd=>?_,λ hl=>by rw[show (pE.mk (vn lo n) λ _=>True).items=vn lo n from rfl,Wt] at hl;exact hl⟩;obtain⟨h1,rfl⟩:=Wu hd;refine⟨h1,λ x H' q=>?_⟩;obtain⟨rfl,rfl⟩:=q;exact⟨.refl _,x2,by simp only[zg]⟩
def iu (t:yh):xR:=fun L S R=>t L S λ ds S1=>match ds with
 | [.int j]=>(-(2 ^ 62)<=j/\j<2 ^ 62)/\R ⟨vn 0 j.toNat,λ _=>True⟩ S1
 | _=>False
variable {tA:yh}
theorem Uo (h:PI X tg e (cX (xW X.K tA))) (hm:sd tA):ud X tg e (iu tA):=by
 refine⟨fun L S Q Q' hq z=>hm L S _ _ (λ ds S1 z=>?_) z,PI.imp h fun Y H R hu=>?_⟩
 .split at z
  .exact⟨z.1,hq _ _ z.2⟩
  .exact z.elim
 .obtain⟨L,S,r1,r2,z⟩:=hu;refine xW.go hm r1 r2 z λ ds S1 xs H1 h1 q1 e1 p1=>?_;split at h1
  .obtain⟨x,rfl,q⟩:=q1.one;simp only[zg] at q;subst q;exact⟨_,rfl,h1.1.1,h1.1.2,h1.2 _ H1 e1 p1 .range⟩
  .exact h1.elim
def nj (ti:xR) (g:yP) (tb:yA):yA:=λ E L S=>ti L S λ I S1=>∃ W:Nat->yd->SS->Prop,W 0 L S1/\(∀ i L S,W i L S->I.keep S)/\
 (∀ i d L S,I.items[i]?=some d->W i L S->g d L S fun L2 S2=>tb { E with nx:=W (i+1),ct:=W (i+1),bk:=E.nx } L2 S2)/\∀ L S,W I.items.length L S->E.nx L S
theorem nj.mo {ti:xR}{g:yP}{tb:yA}(hi:kM ti) (hg:nK g) (hb:tj tb):tj (nj ti g tb):=λ E E' L S hE z=>hi L S _ _ (λ I S1 ⟨W,w0,wk,ws,wd⟩=>by
 refine⟨W,w0,wk,λ i d L S hd hw=>hg d L S _ _ (fun L2 S2 z=>hb { E with nx:=W (i+1),ct:=W (i+1),bk:=E.nx } { E' with nx:=W (i+1),ct:=W (i+1),bk:=E'.nx } L2 S2 ⟨λ _ _ q=>q,hE.rt,hE.nx,λ _ _ q=>q⟩ z) (ws i d L S hd hw),fun L S q=>hE.nx _ _ (wd L S q)⟩) z
theorem Uc {iter:Expr}{body:List Stmt}{ti:xR}{g:yP}{tb:yA}(hp:PassesOwn (model X.prog X.w) X.A X.env X.xe) (hc:X.calm=true) (hi:ud X tg iter ti) (hg:ve X tg g) (hb:wR X body tb)
  (hs:∀ x,foldedSetIterable iter X.env x=pure x):xT X (.For tg iter body [] pos) (nj ti g tb):=by
 refine⟨nj.mo hi.mo hg.mo hb.mo,PS.imp (WK hp hc hi.pi hg.pg hb.ps hs) λ D Y H hu=>?_⟩;obtain⟨L,S,r1,r2,z⟩:=hu;refine⟨L,S,r1,r2,hi.mo L S _ _ (λ I S1 hW J H1 e1 p1 rep=>?_) z⟩;obtain⟨W,w0,wk,ws,wd⟩:=hW;refine⟨λ i m Y H2=>m=I.items.length-i/\i<=I.items.length/\Ext H1 H2/\∃ L S,yD X.K H2 L Y/\zJ X.K H2 S/\W i L S,⟨_,rfl,AV _,.refl _,L,S1,r1.ext e1,p1,w0⟩,?_⟩;rintro i m Y2 H2 ⟨rfl,GQ,x2,L2,S2,q1,q2,w2⟩;obtain⟨g1,g2⟩:=rep i H2 S2 x2 q2 (wk i L2 S2 w2);by_cases hl:i<I.items.length
 .have hd:I.items[i]?=some I.items[i]:=by simp[hl]
  obtain⟨go,yl⟩:=g1 _ hd;refine .inr ⟨go,fun Y' H'=>Ext H1 H'/\∃ L S,yD X.K H' L Y'/\zJ X.K H' S/\W (i+1) L S,fun Y' H' q=>⟨_,by lia,rfl,hl,q⟩,λ x H3 hy=>?_⟩;obtain⟨x3,p3,d3⟩:=yl x H3 hy;refine⟨_,L2,S2,d3,q1.ext x3,p3,hg.mo _ L2 S2 _ _ (fun L4 S4 z4 Y4 H4 a1 a2 a3=>?_) (ws i _ L2 S2 hd w2)⟩;refine⟨L4,S4,a1,a3,hb.mo _ _ L4 S4 ⟨fun L5 S5 w5 Y5 H5 b1 b2 b3=>⟨((x2.trans x3).trans a2).trans b2,L5,S5,b1,b3,w5⟩,λ _ _ q=>wb.ext (((e1.trans x2).trans x3).trans a2) q,λ _ _ q=>wN.ext (((e1.trans x2).trans x3).trans a2) q,fun L5 S5 w5 Y5 H5 b1 b2 b3=>⟨((x2.trans x3).trans a2).trans b2,L5,S5,b1,b3,w5⟩⟩ z4⟩
 .have e:i=I.items.length:=by lia
  subst e;exact .inl ⟨g2 (Af _),wd L2 S2 w2 Y2 H2 q1 (e1.trans x2) q2⟩
abbrev tZ:=List D->SS->DK->Prop
def gA (sp:tZ):Prop:=∀ ds S (Q Q':DK),(∀ d S',Q d S'->Q' d S')->sp ds S Q->sp ds S Q'
def uE (K:Ab) (sp:tZ):Sp:=λ vs H Q _=>∃ ds S,zl K H ds vs/\zJ K H S/\sp ds S (wb K H Q)
def lM (sp:tZ) (t:yh):zr:=fun L S Q=>t L S λ ds S1=>sp ds S1 Q
theorem Tw {sp:tZ}{E:XK}{e:Expr}(h:PE X e (fM (uE X.K sp) [] E (xW X.K tA))) (hs:gA sp) (hm:sd tA):PD X e (lM sp tA):=by
 refine⟨fun L S Q Q' hq z=>hm L S _ _ (λ ds S1 z=>hs ds S1 _ _ hq z) z,PE.imp h fun Y H Q hu=>?_⟩;obtain⟨L,S,r1,r2,z⟩:=hu;refine xW.go hm r1 r2 z λ ds S1 xs H1 h1 q1 e1 p1=>?_;rw[C_];exact⟨ds,S1,q1,p1,hs ds S1 _ _ (λ d S' q=>wb.ext e1 q) h1⟩
noncomputable def tE (N:List Str) (ds:List D):yd:=ds.map some++List.replicate (N.length-ds.length) none
theorem yD.init {H:Hp}{N:List Str}{ds:List D}{vs:List V}(r:zl K H ds vs):yD K H (tE N ds) (start N vs):=by
 have hl:=r.length;refine⟨by unfold tE L2.start;simp[hl],λ i d h=>?_⟩;unfold tE at h;have hi:i<ds.length:=by
  rcases Bn i ds.length with q | q
  .exact q
  .rw[Ct (by simpa using q),DL] at h;split at h <;> cases h
 rw[Cs (by simpa using hi),Ay] at h;cases q:ds[i]? with
 | none=>rw[q] at h;cases h
 | some d'=>
  rw[q] at h;cases h;obtain⟨x,e1,e2⟩:=r.get q;refine⟨x,?_,e2⟩;unfold L2.start;rw[Cs (by simpa using by lia),Ay,e1];rfl
theorem OM {P:Program}{w:World}{K:Ab}{mg:AI}{base:Heap}{x qual:Str}{st:Stmt}{f:Addr}{fd:FuncData}{N ps:List Str}{k:Nat}{sp:tZ}(F:ue K x qual st f fd) (Sc:tm N ps (ym st))
  (len:∀ ds S Q,sp ds S Q->ds.length=ps.length)
  (Fi:∀ (Ak:Value) (A:Around) (outer:List Env) (s:Shared) (H:Hp) (E:XK),yi k (A.deeper (envOfC qual (ym st) s.heap.objs.size f Ak))->
   ∃ t,wR (wA xt P w K mg base N qual (ym st) f Ak A outer s H E).wX (wc st) t/\∀ ds S Q,sp ds S Q->t { nx:=λ _ S'=>Q .zo S',rt:=Q } (tE N ds) S):vI P w K mg base xt (k+1) f fd ps (uE K sp):=by
 refine F.ok Sc (λ vs H Q E h=>?_) λ Ak A outer s H vs Q E hr h=>?_
 .obtain⟨ds,S,r1,_,z⟩:=h;rw[<- r1.length];exact len _ _ _ z
 .obtain⟨ds,S,r1,r2,z⟩:=h;obtain⟨t,ht,hq⟩:=Fi Ak A outer s H E hr;refine⟨_,ht.ps,tE N ds,S,.init r1,r2,ht.mo { nx:=λ _ S'=>wb K H Q .zo S',rt:=wb K H Q } _ _ _ ⟨fun L S' q Y' H' _ b c=>q .zo H' (by simp only[zg]) b c,λ _ _ q=>q,λ _ _ q=>False.elim q,λ _ _ q=>False.elim q⟩ (hq ds S _ z)⟩
noncomputable def vR (pick:List (Option Nat)) (L:yd):yd:=pick.map λ o=>o.bind λ i=>(L[i]?).join
theorem yD.pick {H:Hp}{L:yd}{Y:St}(r:yD K H L Y) (pick:List (Option Nat)):yD K H (vR pick L) (vQ pick Y):=by
 refine⟨by unfold vR vQ;simp,λ i d h=>?_⟩;unfold vR at h;rw[Ay] at h;cases q:pick[i]? with
 | none=>rw[q] at h;cases h
 | some o=>
  rw[q] at h;cases o with
  | none=>simp at h
  | some j=>
   simp only[Option.map_some,Bu,Option.some.injEq] at h;have hj:L[j]?=some (some d):=by
    cases q2:L[j]? with
    | none=>rw[q2] at h;cases h
    | some o2=>rw[q2] at h;simp only[Option.join_some] at h;rw[h]
   obtain⟨v,e1,e2⟩:=r.2 j d hj;refine⟨v,?_,e2⟩;unfold vQ;rw[Ay,q];simp[e1]
def qb (L L':yd):Prop:=L.length=L'.length/\∀ (i:Nat) d,L[i]?=some (some d)->L'[i]?=some (some d)
theorem qb.rep {H:Hp}{L L':yd}{Y:St}(h:qb L L') (r:yD K H L' Y):yD K H L Y:=⟨h.1.trans r.1,λ i d q=>r.2 i d (h.2 i d q)⟩
structure pd (X:Cx) (ifs:List Expr) (t:yx):Prop where
 mo:wD t
 pf:PF X ifs (xV X.K t)
theorem PF.imp {ifs:List Expr}{t t':TT}(h:PF X ifs t) (hi:∀ Y H Q,t' Y H Q->t Y H Q):PF X ifs t':=λ EM s Y H Q I q=>h EM s Y H Q I (hi Y H Q q)
def bL:yx:=λ _ S Q=>Q true S
theorem Ux:pd X [] bL:=⟨λ _ _ _ _ hq z=>hq _ _ z,PF.imp Vn λ _ H _ ⟨_,_,_,r2,z⟩=>z H (.refl H) r2⟩
theorem Uw {c:Expr}{t:yx}(h:yQ X c t):pd X [c] t:=⟨h.mo,Vm h.pt⟩
end
end L3
namespace L2
open PySem PySem.Spec PyProof.Rows
def Om (K:Ab) (tl:TE):TI:=fun Y H R=>tl Y H λ x H1=>∃ a,x=.ref a/\(((∃ xs,zL K H1 a xs)/\R (Ze K a) H1)\/((∃ xs,zR K H1 a xs)/\R (Zd K a) H1))
theorem Va {X:Cx}{tg l:Expr}{tl:TE}(hl:PE X l tl):PI X tg l (Om X.K tl):=by
 intro EM s Y H R I h;refine zA (hl EM s Y H _ I h) λ v s1 ⟨x,H1,I1,r1,a,hx,q1⟩=>?_;subst hx;cases r1;have new:∀ b∈[s1.heap.objs.size],vH X EM H1 b:=λ b hb=>by
  obtain rfl:b=s1.heap.objs.size:=AZ.mp hb;exact I1.oP (Af _) (I1.zv.fresh (Af _))
 rcases q1 with ⟨⟨xs,hq⟩,q⟩ | ⟨⟨xs,hq⟩,q⟩
 .obtain⟨its,_,pl,_⟩:=I1.list hq;exact Lp pl.isList ⟨_,_,_,_,H1,rfl,I1.kept (t':=s1.toks) λ b o eo=>KY _ eo,YZ a _,⟨_,AJ _ rfl,rfl,rfl⟩,new,q⟩
 .obtain⟨its,_,pt,_⟩:=I1.tuple hq;exact wpAny_pyIter_tuple (show s1.heap.IsTuple a its.toArray from pt) ⟨_,_,_,_,H1,rfl,I1.kept (t':=s1.toks) λ b o eo=>KY _ eo,YW a _,⟨_,AJ _ rfl,rfl,rfl⟩,new,q⟩
theorem range_all (bs:List Bool):(List.range bs.length).all (λ i=>bs.getD i true)=bs.all id:=by
 rw[BN,B3,B3];constructor
 .intro h b hb;obtain⟨i,hi,rfl⟩:=B_.mp hb;have:=h i (AB.mpr hi);simpa [hi] using this
 .intro h i hi;have GQ:=AB.mp hi;have:=h bs[i] (B4 GQ);simpa [GQ] using this
theorem range_any (bs:List Bool):(List.range bs.length).any (λ i=>bs.getD i true)=bs.any id:=by
 rw[BN,A9,A9];constructor
 .rintro⟨i,hi,h⟩;have GQ:=AB.mp hi;exact⟨bs[i],B4 GQ,by simpa [GQ] using h⟩
 .rintro⟨b,hb,h⟩;obtain⟨i,hi,rfl⟩:=B_.mp hb;exact⟨i,AB.mpr hi,by simpa [hi] using h⟩
theorem aB {bs:List Bool}{its:Ae}(r:Vals (bs.map V.bl) its) {i:Nat}{v:Value}(h:its.toArray[i]?=some v):v=.bool (bs.getD i true):=by
 have hl:=r.length;rw[AA] at hl;have h':its[i]?=some v:=by simpa using h
 have hi:i<bs.length:=by
  rw[hl];rcases Bn i its.length with q | q
  .exact q
  .rw[DG q] at h';cases h'
 obtain⟨u,e1,e2⟩:=r.get (i:=i) (x:=.bl bs[i]) (by simp[hi]);rw[h'] at e1;cases e1;have:v=.bool bs[i]:=e2;rw[this];simp[hi]
section
variable {X:Cx}
theorem Mn (hc:X.calm=true):yy X (.builtin "all") (λ xs H Q=>∃ p,∃ bs:List Bool,xs=[.ref p]/\zL X.K H p (bs.map V.bl)/\Q (.bl (bs.all id)) H):=by
 intro EM s Y H xs us Q I r h;obtain⟨p,bs,rfl,hq,q⟩:=h;obtain⟨u,rfl,ru⟩:=vals1 r;cases ru;obtain⟨its,rv,pl,hz⟩:=I.list hq;have hl:=rv.length;rw[AA] at hl;have An:p<s.heap.objs.size:=by obtain⟨o,n,e,_⟩:=pl;exact Ap e
 refine call_all_walk (Lp pl.isList ?_);refine⟨s.heap.objs.size,_,_,_,_,_,λ i=>bs.getD i true,rfl,Walks.list (A:=X.A.in1) (I.ok.hd hc) s.heap.objs.size p (Aw An) its.toArray,⟨⟨_,AJ _ rfl,rfl,rfl⟩,pl.isList.push _⟩,λ i v s' Q' E' hv Kn=>?_,λ h' tk hk=>?_⟩
 .rw[aB rv hv];exact K9 Kn
 .have e:(List.range its.toArray.size).all (λ i=>bs.getD i true)=bs.all id:=by rw[Az,<- hl,range_all]
  rw[e];exact⟨.bl _,H,I.kept (t':=tk) λ b o eo=>hk b o (by simpa using Aw (Ap eo)) (KY _ eo),rfl,q⟩
theorem Mm (hc:X.calm=true):yy X (.builtin "any") (λ xs H Q=>∃ p,∃ bs:List Bool,xs=[.ref p]/\zL X.K H p (bs.map V.bl)/\Q (.bl (bs.any id)) H):=by
 intro EM s Y H xs us Q I r h;obtain⟨p,bs,rfl,hq,q⟩:=h;obtain⟨u,rfl,ru⟩:=vals1 r;cases ru;obtain⟨its,rv,pl,hz⟩:=I.list hq;have hl:=rv.length;rw[AA] at hl;have An:p<s.heap.objs.size:=by obtain⟨o,n,e,_⟩:=pl;exact Ap e
 refine call_any_walk (Lp pl.isList ?_);refine⟨s.heap.objs.size,_,_,_,_,_,λ i=>bs.getD i true,rfl,Walks.list (A:=X.A.in1) (I.ok.hd hc) s.heap.objs.size p (Aw An) its.toArray,⟨⟨_,AJ _ rfl,rfl,rfl⟩,pl.isList.push _⟩,λ i v s' Q' E' hv Kn=>?_,λ h' tk hk=>?_⟩
 .rw[aB rv hv];exact K9 Kn
 .have e:(List.range its.toArray.size).any (λ i=>bs.getD i true)=bs.any id:=by rw[Az,<- hl,range_any]
  rw[e];exact⟨.bl _,H,I.kept (t':=tk) λ b o eo=>hk b o (by simpa using Aw (Ap eo)) (KY _ eo),rfl,q⟩
end
end L2
namespace L3
open PySem PySem.Spec L2
open PyProof.Rows hiding St
structure Bt (mg:AI):Prop where
 len:mg "len"=none
 range:mg "range"=none
 any:mg "any"=none
 all:mg "all"=none
 sorted:mg "sorted"=none
 isinstance:mg "isinstance"=none
 bool:mg "bool"=none
 int:mg "int"=none
 str:mg "str"=none
 list:mg "list"=none
 tuple:mg "tuple"=none
 max:mg "max"=none
 min:mg "min"=none
section
variable {X:Cx}{a e:Expr}{es:List Expr}{te:zr}{pos p:Pos}
theorem qW {N':List Str}{pick:List (Option Nat)}{scope II:Scope}{N:List Str}(hE:X.env.scope=II:=by rfl) (hN:X.N=N:=by rfl) (h1:scope.kind=.function:=by rfl) (h2:scope.names.all (λ y=>decide (y.2≠.cell))=true:=by decide +kernel)
  (h3:scope.names.all (λ y=>!decide (y.2=.local)||decide (scope.names.lookup y.1=some .local))=true:=by decide +kernel)
  (h4:scope.names.all (λ y=>!decide (y.2=.free)||(decide (II.names.lookup y.1=some .cell)||decide (II.names.lookup y.1=some .free)))=true:=by decide +kernel)
  (h5:pick.length=N'.length:=by rfl) (h6:q8 N N' pick scope=true:=by decide +kernel):sC X N' pick scope:=by
 refine⟨h1,λ y hy=>?_,λ y hy hl=>?_,λ y hy hf=>?_,h5,by rw[hN];exact h6⟩
 .exact of_decide_eq_true (B3.mp h2 y hy)
 .have:=B3.mp h3 y hy;rw[K4 hl] at this;simpa using this
 .have:=B3.mp h4 y hy;rw[K4 hf] at this;rw[hE];simpa using this
theorem Uu (i:Nat) {x:Str}(hN:X.N.Nodup) (hi:X.N[i]?=some x) (hx:Loc X.env.scope x) (hf:X.fn x=true\/X.env.scope.names.lookup x=some .local):ve X (.Name x pos) (hName i):=
 Uv (Vi hN hi hx hf)
theorem jJ {k:Nat}{t:xI}{n:Nat}(h:qf X es t) (hc:X.calm=true) (hn:(assignEach es X.env).length=n) (AQ:(assignEach es X.env).findIdx? (·.1)=none):ve X (.Tuple es k pos) (rR n t):=
 Ut (Vg hc h.pg hn AQ) h.mo
theorem VW (i:Nat) {x:Str}{pos':Pos}(hN:X.N.Nodup) (he:PD X e te) (hi:X.N[i]?=some x) (hx:Loc X.env.scope x) (hs:swapsWith e (some (.Name x pos')) pos.line X.env=pure false)
  (hf:X.fn x=true\/X.env.scope.names.lookup x=some .local):xT X (.Assign [.Name x pos'] e pos) (wO te (hName i)):=
 VX (WH hN hi hx he.pe hs hf) he.mo
def iq (te:zr):xR:=fun L S R=>te L S λ x S1=>match x with
 | .tup ds=>R ⟨ds,λ _=>True⟩ S1
 | .xv ds=>R ⟨ds,λ _=>True⟩ S1
 | .ref p=>match S1 p with
  | some (.lst ds)=>R ⟨ds,λ S=>S p=some (.lst ds)⟩ S1
  | _=>False
 | _=>False
theorem Uk {tg:Expr}(h:PD X e te):ud X tg e (iq te):=by
 refine⟨fun L S Q Q' hq z=>h.mo L S _ _ (λ x S1 z=>?_) z,?_⟩
 .cases x with
  | ref p=>
   dsimp only at z ⊢;split at z
   .exact hq _ _ z
   .exact z.elim
  | xv ds=>exact hq _ _ z
  | tup ds=>exact hq _ _ z
  | _=>exact z
 .refine PI.imp (Va h.pe) fun Y H R hu=>?_
  obtain⟨L,S,r1,r2,z⟩:=hu;refine zK.go h.mo r1 r2 z λ x S1 v H1 h1 q1 e1 p1=>?_;cases x with
  | tup ds=>
   simp only[zg] at q1;obtain⟨a,xs,rfl,g1,g2⟩:=q1;refine⟨a,rfl,.inr ⟨⟨xs,g1⟩,h1 _ H1 e1 p1 λ i H2 S2 x1 x2 _=>⟨λ d hd=>?_,λ hl=>⟨xs,x1.mC g1,by rw[<- g2.length];exact hl⟩⟩⟩⟩;obtain⟨y,hy,_⟩:=g2.get hd;refine⟨⟨xs,y,x1.mC g1,hy⟩,λ x H' q=>?_⟩;obtain⟨rfl,q⟩:=q;exact⟨.refl _,x2,(zl.ext x1 ds g2).at hd (q xs (x1.mC g1))⟩
  | ref p=>
   dsimp only at h1;split at h1
   .rename_i ds e2;simp only[zg] at q1;subst q1;obtain⟨xs0,g1,_⟩:=p1 _ _ e2;refine⟨p,rfl,.inl ⟨⟨xs0,zL.of g1⟩,h1 _ H1 e1 p1 λ i H2 S2 x1 x2 hk=>?_⟩⟩;obtain⟨xs,g3,g4⟩:=x2 _ _ hk;refine⟨λ d hd=>?_,λ hl=>⟨xs,zL.of g3,by rw[<- g4.length];exact hl⟩⟩;obtain⟨y,hy,_⟩:=g4.get hd;refine⟨⟨xs,y,zL.of g3,hy⟩,λ x H' q=>?_⟩;obtain⟨rfl,q⟩:=q;exact⟨.refl _,x2,g4.at hd (q xs (zL.of g3))⟩
   .exact h1.elim
  | xv ds=>
   simp only[zg] at q1;obtain⟨a,xs,rfl,g1,g2⟩:=q1;refine⟨a,rfl,.inl ⟨⟨xs,g1.sq⟩,h1 _ H1 e1 p1 λ i H2 S2 x1 x2 _=>⟨λ d hd=>?_,λ hl=>⟨xs,(x1.mD g1).sq,by rw[<- g2.length];exact hl⟩⟩⟩⟩;obtain⟨y,hy,_⟩:=g2.get hd;refine⟨⟨xs,y,(x1.mD g1).sq,hy⟩,λ x H' q=>?_⟩;obtain⟨rfl,q⟩:=q;exact⟨.refl _,x2,(zl.ext x1 ds g2).at hd (q xs (x1.mD g1).sq)⟩
  | _=>exact h1.elim
end
end L3
namespace L4
open PySem PySem.W PyProof.Rows
noncomputable def yt {α:Type}(n:Nat) (lt:Nat->Nat->Bool):KasT α->(α->Prop)->Prop
 | .ret a,Q=>Q a
 | .ask i j k,Q=>i<n/\j<n/\yt n lt (k (lt i j)) Q
theorem yt.mono {α:Type}{n:Nat}{lt:Nat->Nat->Bool}{Q Q':α->Prop}(hq:∀ a,Q a->Q' a):∀ {t:KasT α},yt n lt t Q->yt n lt t Q'
 | .ret _,h=>hq _ h
 | .ask _ _ _,h=>⟨h.1,h.2.1,yt.mono hq h.2.2⟩
theorem yt.bind {α β:Type}{n:Nat}{lt:Nat->Nat->Bool}{f:α->KasT β}{Q:β->Prop}:∀ {t:KasT α},yt n lt t (λ a=>yt n lt (f a) Q)->yt n lt (t.bind f) Q
 | .ret _,h=>h
 | .ask _ _ _,h=>⟨h.1,h.2.1,yt.bind h.2.2⟩
section
variable {n:Nat}{lt:Nat->Nat->Bool}
def Le (lt:Nat->Nat->Bool) (a b:Nat):Prop:=lt b a=false
structure Ord (lt:Nat->Nat->Bool):Prop where
 tr:∀ a b c,Le lt a b->Le lt b c->Le lt a c
 as:∀ a b,lt a b=true->Le lt a b
theorem Ord.refl (o:Ord lt) (a:Nat):Le lt a a:=by
 cases h:lt a a with
 | false=>exact h
 | true=>exact o.as a a h
def xg (n:Nat) (p:Array Nat):Prop:=p.Perm (List.range n).toArray
theorem xg.size {p:Array Nat}(h:xg n p):p.size=n:=by rw[Array.Perm.size_eq h];simp
theorem xg.below {p:Array Nat}(h:xg n p) {i:Nat}(hi:i<n):p.getD i 0<n:=by
 have hs:=h.size;have hm:p.getD i 0∈p:=by
  rw[DF,Bh (by lia)];exact Array.getElem_mem (by lia)
 have:p.getD i 0∈(List.range n).toArray:=(Array.Perm.mem_iff h).mp hm;simpa using this
theorem oJ {p q:Array Nat}{i j:Nat}(h:p[i]?=q[j]?):p.getD i 0=q.getD j 0:=by rw[DF,DF,h]
def vd (lt:Nat->Nat->Bool) (p:Array Nat) (k:Nat):Prop:=∀ i j,i<=j->j<k->Le lt (p.getD i 0) (p.getD j 0)
def t8 (lt:Nat->Nat->Bool) (p:Array Nat) (k:Nat):Prop:=∀ i j,i<=j->j<k->Le lt (p.getD j 0) (p.getD i 0)
theorem vd.next (o:Ord lt) {p:Array Nat}{k:Nat}(h:vd lt p k) (hk:1<=k) (hl:Le lt (p.getD (k-1) 0) (p.getD k 0)):vd lt p (k+1):=λ i j A5 hj=>by
 by_cases EB:j<k
 .exact h i j A5 EB
 .have e:j=k:=by lia
  subst e;by_cases hi:i=j
  .subst hi;exact o.refl _
  .exact o.tr _ _ _ (h i (j-1) (by lia) (by lia)) hl
theorem t8.next (o:Ord lt) {p:Array Nat}{k:Nat}(h:t8 lt p k) (hk:1<=k) (hl:Le lt (p.getD k 0) (p.getD (k-1) 0)):t8 lt p (k+1):=λ i j A5 hj=>by
 by_cases EB:j<k
 .exact h i j A5 EB
 .have e:j=k:=by lia
  subst e;by_cases hi:i=j
  .subst hi;exact o.refl _
  .exact o.tr _ _ _ hl (h i (j-1) (by lia) (by lia))
theorem gi (o:Ord lt) {p:Array Nat}(hp:xg n p):∀ (f a:Nat),1<=a->a+f<=n->vd lt p a->
  yt n lt (kas_asc p f a) λ m=>a<=m/\m<=a+f/\vd lt p m/\(m=a+f\/lt (p.getD m 0) (p.getD (m-1) 0)=true)
 | 0,a,_,_,hs=>⟨Af _,Af _,hs,.inl rfl⟩
 | f+1,a,h1,h2,hs=>by
  refine⟨hp.below (by lia),hp.below (by lia),?_⟩;cases c:lt (p.getD a 0) (p.getD (a-1) 0) with
  | true=>exact⟨Af _,by lia,hs,.inr c⟩
  | false=>
   refine yt.mono ?_ (gi o hp f (a+1) (by lia) (by lia) (hs.next o h1 c));rintro m ⟨g1,g2,g3,g4⟩;exact⟨by lia,by lia,g3,g4.imp (λ e=>by lia) id⟩
theorem og {p:Array Nat}(hp:xg n p) (i j:Nat):xg n (kas_rev p i j):=Array.Perm.trans (mirror_perm _ _ _ _) hp
theorem oh {p:Array Nat}(hp:xg n p) {i j:Nat}(hj:j<=n) (k:Nat):(kas_rev p i j).getD k 0=if i<=k/\k<j then p.getD (i+j-1-k) 0 else p.getD k 0:=by
 have e:=getElem?_mirror_all (xs:=p) (i:=i) (j:=j) (by rw[hp.size];exact hj) k;split
 .rename_i h;rw[if_pos h] at e;exact oJ e
 .rename_i h;rw[if_neg h] at e;exact oJ e
theorem rev_eq (o:Ord lt) {p:Array Nat}(hp:xg n p) {i j:Nat}(hj:j<=n) (he:∀ a b,i<=a->a<j->i<=b->b<j->Le lt (p.getD a 0) (p.getD b 0)) (k:Nat):
  Le lt ((kas_rev p i j).getD k 0) (p.getD k 0)/\Le lt (p.getD k 0) ((kas_rev p i j).getD k 0):=by
 rw[oh hp hj];split
 .rename_i h;exact⟨he _ _ (by lia) (by lia) h.1 h.2,he _ _ h.1 h.2 (by lia) (by lia)⟩
 .exact⟨o.refl _,o.refl _⟩
theorem t8.of_eq (o:Ord lt) {p q:Array Nat}{k:Nat}(h:t8 lt p k) (e:∀ k,Le lt (q.getD k 0) (p.getD k 0)/\Le lt (p.getD k 0) (q.getD k 0)):t8 lt q k:=λ i j A5 hj=>
 o.tr _ _ _ (e j).1 (o.tr _ _ _ (h i j A5 hj) (e i).2)
def gT (lt:Nat->Nat->Bool) (p:Array Nat) (m q:Nat):Prop:=∀ a b,m-(q+1)<=a->a<m->m-(q+1)<=b->b<m->Le lt (p.getD a 0) (p.getD b 0)
theorem lH (o:Ord lt):∀ (f:Nat) (p:Array Nat) (m q:Nat),xg n p->1<=m->m+f<=n->t8 lt p m->q+1<=m->gT lt p m q->
  yt n lt (kas_desc f p m q) λ r=>xg n r.1/\m<=r.2.1/\r.2.1<=m+f/\t8 lt r.1 r.2.1/\r.2.2+1<=r.2.1/\gT lt r.1 r.2.1 r.2.2
 | 0,p,m,q,hp,_,_,hd,hq,hb=>⟨hp,Af _,Af _,hd,hq,hb⟩
 | f+1,p,m,q,hp,h1,h2,hd,hq,hb=>by
  have one:∀ p':Array Nat,gT lt p' (m+1) 0:=λ p' a b a1 a2 b1 b2=>by
   have:a=b:=by lia
   subst this;exact o.refl _
  refine⟨hp.below (by lia),hp.below (by lia),?_⟩;cases c:lt (p.getD m 0) (p.getD (m-1) 0) with
  | true=>
   dsimp only;rw[if_pos rfl];have hl:=o.as _ _ c;by_cases h0:q>0
   .rw[if_pos h0];have e:=rev_eq o hp (i:=m-(q+1)) (j:=m) (by lia) hb;have G3:=og hp (m-(q+1)) m;refine yt.mono ?_ (lH o f _ (m+1) 0 G3 (by lia) (by lia) ((hd.of_eq o e).next o h1 (o.tr _ _ _ (e m).1 (o.tr _ _ _ hl (e (m-1)).2))) (by lia) (one _));rintro r ⟨a1,a2,a3,a4⟩;exact⟨a1,by lia,by lia,a4⟩
   .rw[if_neg h0];refine yt.mono ?_ (lH o f _ (m+1) 0 hp (by lia) (by lia) (hd.next o h1 hl) (by lia) (one _));rintro r ⟨a1,a2,a3,a4⟩;exact⟨a1,by lia,by lia,a4⟩
  | false=>
   dsimp only;rw[if_neg BP];refine⟨hp.below (by lia),hp.below (by lia),?_⟩;cases d:lt (p.getD (m-1) 0) (p.getD m 0) with
   | true=>exact⟨hp,Af _,(by show m<=m+(f+1);lia),hd,hq,hb⟩
   | false=>
    dsimp only;rw[if_neg BP];refine yt.mono ?_ (lH o f _ (m+1) (q+1) hp (by lia) (by lia) (hd.next o h1 d) (by lia) λ a b a1 a2 b1 b2=>?_)
    .rintro r ⟨a1,a2,a3,a4⟩;exact⟨a1,by lia,by lia,a4⟩
    .by_cases ha:a=m
     .by_cases HZ:b=m
      .subst ha;subst HZ;exact o.refl _
      .subst ha;exact o.tr _ _ _ d (hb (a-1) b (by lia) (by lia) (by lia) (by lia))
     .by_cases HZ:b=m
      .subst HZ;exact o.tr _ _ _ (hb a (b-1) (by lia) (by lia) (by lia) (by lia)) c
      .exact hb a b (by lia) (by lia) (by lia) (by lia)
theorem fK (o:Ord lt) {p:Array Nat}{m:Nat}(hp:xg n p) (h1:1<=m) (h2:m<=n) (hd:t8 lt p m):yt n lt (kas_tail3 m n p) λ r=>xg n r.2/\r.1<=n/\vd lt r.2 r.1:=by
 refine yt.bind (yt.mono ?_ (gi o (og hp 0 m) (n-m) m h1 (by lia) λ i j A5 hj=>?_))
 .rintro k ⟨a1,a2,a3,_⟩;exact⟨og hp 0 m,by lia,a3⟩
 .rw[oh hp h2,oh hp h2,if_pos ⟨AV _,by lia⟩,if_pos ⟨AV _,hj⟩];exact hd _ _ (by lia) (by lia)
theorem bQ (o:Ord lt) {p:Array Nat}{m:Nat}(hp:xg n p) (h1:1<=m) (h2:m<n) (hd:t8 lt p m) (hl:lt (p.getD m 0) (p.getD (m-1) 0)=true):yt n lt (kas_descPart m n p) λ r=>xg n r.2/\r.1<=n/\vd lt r.2 r.1:=by
 refine yt.bind (yt.mono ?_ (lH o (n-(m+1)) p (m+1) 0 hp (by lia) (by lia) (hd.next o h1 (o.as _ _ hl)) (by lia) λ a b a1 a2 b1 b2=>?_))
 .rintro⟨p',m',q'⟩ ⟨a1,a2,a3,a4,a5,a6⟩;dsimp only at a1 a2 a3 a4 a5 a6 ⊢;by_cases h0:q'>0
  .rw[if_pos h0];exact fK o (og a1 _ _) (by lia) (by lia) (a4.of_eq o (rev_eq o a1 (i:=m'-(q' + 1)) (j:=m') (by lia) a6))
  .rw[if_neg h0];exact fK o a1 (by lia) (by lia) a4
 .have:a=b:=by lia
  subst this;exact o.refl _
theorem NF (o:Ord lt) {p:Array Nat}(hp:xg n p) (h1:1<=n):yt n lt (kas_count n p) λ r=>xg n r.2/\r.1<=n/\vd lt r.2 r.1:=by
 refine yt.bind (yt.mono ?_ (gi o hp (n-1) 1 (Af _) (by lia) λ i j A5 hj=>?_))
 .rintro m ⟨a1,a2,a3,a4⟩;by_cases hm:m=n
  .rw[if_pos (by simp[hm])];exact⟨hp,by lia,a3⟩
  .rw[if_neg (by simp[hm])];have hl:lt (p.getD m 0) (p.getD (m-1) 0)=true:=a4.resolve_left (by lia);by_cases h2:m>1
   .rw[if_pos h2];refine⟨hp.below (by lia),hp.below (by lia),?_⟩;cases c:lt (p.getD 0 0) (p.getD (m-1) 0) with
    | true=>exact⟨hp,by lia,a3⟩
    | false=>
     dsimp only;rw[if_neg BP];have all:∀ a b,0<=a->a<m->0<=b->b<m->Le lt (p.getD a 0) (p.getD b 0):=λ a b _ ha _ hb=>
      o.tr _ _ _ (a3 a (m-1) (by lia) (by lia)) (o.tr _ _ _ c (a3 0 b (by lia) hb))
     have e:=rev_eq o hp (i:=0) (j:=m) (by lia) all;refine bQ o (og hp 0 m) (by lia) (by lia) (λ i j A5 hj=>o.tr _ _ _ (e j).1 (o.tr _ _ _ (all _ _ (AV _) hj (AV _) (by lia)) (e i).2)) ?_;rw[oh hp (by lia),oh hp (by lia),if_neg (by lia),if_pos (by lia)];cases q:lt (p.getD m 0) (p.getD (0+m-1-(m-1)) 0) with
     | true=>rfl
     | false=>
      have:=o.tr _ _ _ (all (m-1) (0+m-1-(m-1)) (AV _) (by lia) (AV _) (by lia)) q;unfold Le at this;rw[this] at hl;cases hl
   .rw[if_neg h2];have e:m=1:=by lia
    subst e;refine bQ o hp (Af _) (by lia) (λ i j A5 hj=>?_) hl;have:i=j:=by lia
    subst this;exact o.refl _
 .have:i=j:=by lia
  subst this;exact o.refl _
theorem jA {p:Array Nat}{k:Nat}(hp:xg n p) (hk:k<n) (hs:vd lt p k) (o:Ord lt):∀ (f l r:Nat),r-l<=f->l<=r->r<=k->(∀ i,i<l->Le lt (p.getD i 0) (p.getD k 0))->(∀ i,r<=i->i<k->lt (p.getD k 0) (p.getD i 0)=true)->
  yt n lt (kas_place p k f l r) λ m=>m<=k/\(∀ i,i<m->Le lt (p.getD i 0) (p.getD k 0))/\(∀ i,m<=i->i<k->lt (p.getD k 0) (p.getD i 0)=true)
 | 0,l,r,h0,h1,h2,ha,hb=>by
  have:l=r:=by lia
  subst this;exact⟨h2,ha,hb⟩
 | f+1,l,r,h0,h1,h2,ha,hb=>by
  unfold kas_place;by_cases B7:l≥r
  .rw[if_pos B7];have:l=r:=by lia
   subst this;exact⟨h2,ha,hb⟩
  .rw[if_neg B7];refine⟨hp.below hk,hp.below (by lia),?_⟩;cases c:lt (p.getD k 0) (p.getD ((l+r)/2) 0) with
   | true=>
    dsimp only;rw[if_pos rfl];refine jA hp hk hs o f l ((l+r)/2) (by lia) (by lia) (by lia) ha λ i hi DU=>?_;cases q:lt (p.getD k 0) (p.getD i 0) with
    | true=>rfl
    | false=>
     have:=o.tr _ _ _ (hs ((l+r)/2) i hi DU) q;unfold Le at this;rw[this] at c;cases c
   | false=>
    dsimp only;rw[if_neg BP];refine jA hp hk hs o f ((l+r)/2+1) r (by lia) (by lia) h2 (λ i hi=>?_) hb;exact o.tr _ _ _ (hs i ((l+r)/2) (by lia) (by lia)) c
theorem aL (o:Ord lt):∀ (f:Nat) (p:Array Nat) (k:Nat),xg n p->k+f=n->vd lt p k->yt n lt (kas_bin f p k) λ r=>xg n r/\vd lt r n
 | 0,p,k,hp,h1,hs=>by
  have:k=n:=by lia
  subst this;exact⟨hp,hs⟩
 | f+1,p,k,hp,h1,hs=>by
  refine yt.bind (yt.mono ?_ (jA hp (by lia) hs o k 0 k (by lia) (AV _) (Af _) (λ i hi=>absurd hi (Nat.not_lt_zero _)) λ i hi DU=>absurd DU (by lia)));rintro l ⟨a1,a2,a3⟩;refine aL o f _ (k+1) (Array.Perm.trans (bubble_perm _ _ _) hp) (by lia) λ i j A5 hj=>?_;have ev:∀ x,(bubble p k (k-l)).getD x 0=if x=l then p.getD k 0 else if l<x/\x<=k then p.getD (x-1) 0 else p.getD x 0:=λ x=>by
   have e:=getElem?_bubble (xs:=p) (src:=k) (by rw[hp.size];lia) (k-l) (by lia) x;rw[show k-(k-l)=l by lia] at e;split
   .rename_i h;rw[if_pos h] at e;exact oJ e
   .rename_i h;rw[if_neg h] at e;split
    .rename_i h';rw[if_pos h'] at e;exact oJ e
    .rename_i h';rw[if_neg h'] at e;exact oJ e
  rw[ev i,ev j];by_cases hi:i=l
  .rw[if_pos hi];by_cases G4:j=l
   .rw[if_pos G4];exact o.refl _
   .rw[if_neg G4,if_pos ⟨by lia,by lia⟩];exact o.as _ _ (a3 (j-1) (by lia) (by lia))
  .rw[if_neg hi];by_cases G4:j=l
   .rw[if_pos G4,if_neg (by lia)];exact a2 i (by lia)
   .rw[if_neg G4];by_cases hi2:l<i/\i<=k
    .rw[if_pos hi2,if_pos ⟨by lia,by lia⟩];exact hs _ _ (by lia) (by lia)
    .rw[if_neg hi2];by_cases hj2:l<j/\j<=k
     .rw[if_pos hj2];exact hs _ _ (by lia) (by lia)
     .rw[if_neg hj2];exact hs _ _ A5 (by lia)
theorem XI (o:Ord lt) (h1:1<=n):yt n lt (kas_sort n) λ r=>xg n r/\vd lt r n:=by
 have hp:xg n (List.range n).toArray:=Array.Perm.refl _;refine yt.bind (yt.mono ?_ (NF o hp h1));rintro⟨m,p⟩ ⟨a1,a2,a3⟩;dsimp only at a1 a2 a3 ⊢;by_cases hm:m<n
 .rw[if_pos hm];refine aL o _ p (max m 1) a1 (by lia) ?_;by_cases h0:m=0
  .subst h0;intro i j A5 hj;have:i=j:=by lia
   subst this;exact o.refl _
  .rw[show max m 1=m by lia];exact a3
 .rw[if_neg hm];have:m=n:=by lia
  subst this;exact⟨a1,a3⟩
end
end L4
namespace L4
open PySem PySem.W PySem.Calls PyProof.Rows
section
variable {prog:Program}{w:World}{A:Around}{E:Ad}{s:Shared}
def Core (prog:Program) (w:World) (A:Around) (E:Ad) (vs:Ae) (Out:Array Value->Prop) (s6:Shared):Prop:=
 wpAny (model prog w) A (keyKind' vs.toArray) (fun κ s'=>s'=s6/\wpAny (model prog w) A ((sortRuns').run (SortSt.mk' κ (vs.toArray.zip vs.toArray) #[] 7 none))
  (λ r HC=>HC=s6/\failedOf r.2=none/\Out ((arrOf r.2).map (·.2))/\(arrOf r.2).size=vs.length) E s') E s6
theorem j_ {a:Addr}{vs:Ae}{n:Nat}{P:PySem.Fin->Shared->Prop}{Out:Array Value->Prop}(ho:s.heap.get? a=some (seqObj "list" vs.toArray n)) (hz:vs.length<=sizeLine)
  (core:2<=vs.length->∀ s6:Shared,(∀ b o,b≠a->s.heap.get? b=some o->s6.heap.get? b=some o)->Core prog w A E vs Out s6) (short:vs.length<2->Out vs.toArray)
  (fin:∀ out:Array Value,Out out->out.size=vs.length->P (.done (.ret .none)) { s with heap:=sortedHeap s.heap a vs out }):
  wpAny (model prog w) A (Builtin.«list.sort» ⟨[.ref a],[]⟩) P E s:=by
 have ha:a<s.heap.objs.size:=Ap ho;obtain⟨e1,g1⟩:∃ e1,(s.heap.update a (Obj.mapSeq λ _=>#[])).get? a=some (seqObj "list" #[] e1):=⟨_,get?_update_seq ho (λ _=>#[])⟩
 have JK:vs.toArray.size<=sizeLine:=by rw[Az];exact hz
 have g6:(((s.heap.update a (Obj.mapSeq λ _=>#[])).push (seqObj "tuple" vs.toArray 0)).push (seqObj "list" #[] 0)).get? a=some (seqObj "list" #[] e1):=KY _ (KY _ g1);have keep:∀ b o,b≠a->s.heap.get? b=some o->(((s.heap.update a (Obj.mapSeq λ _=>#[])).push (seqObj "tuple" vs.toArray 0)).push (seqObj "list" #[] 0)).get? b=some o:=
  λ b o hb e=>KY _ (KY _ (by rw[Heap.get?_update_ne _ _ _ _ hb];exact e))
 rw[list_sort_plain];refine JY (listItems_at ho rfl (JY (listUpdate_at ho rfl (JY (seqEpoch_at g1 rfl (JY (wpAny_newTuple (JY (wpAny_newList (K0 ?_))) (by simpa using hz))))) JK (AV _))));by_cases h2:vs.toArray.size<2
 .rw[if_pos h2,if_pos h2];have e2:(arrOf (SortSt.mk' general' (vs.toArray.zip vs.toArray) #[] 7 none)).map (·.2)=vs.toArray:=by
   show (vs.toArray.zip vs.toArray).map (·.2)=vs.toArray;apply Array.ext (by simp);intro i h1 h2;simp
  refine JY (Ac ?_);dsimp only;rw[StateT.run_pure];refine JY (Ac ?_);dsimp only;refine JY (seqEpoch_at g6 rfl (JY (listUpdate_at g6 rfl ?_ (AV _) ?_)))
  .simp only[bne_self_eq_false,Be,if_false];have q:=fin _ (e2▸short (by simpa using h2)) (by rw[e2];simp);exact Ac q
  .show (((arrOf (SortSt.mk' general' (vs.toArray.zip vs.toArray) #[] 7 none)).map (·.2))).size<=sizeLine+1;rw[e2];lia
 .rw[if_neg h2,if_neg h2];have KC:2<=vs.length:=by simpa using h2
  refine JY (K3 (core KC _ keep) (fun κ s7 ⟨hs,h7⟩=>?_) λ _ _ z=>z);subst hs;refine JY (K3 h7 (λ r s8 ⟨hs,hf,Eo,hsz⟩=>?_) λ _ _ z=>z);subst hs;obtain⟨⟨⟩,st⟩:=r;refine JY (seqEpoch_at g6 rfl (JY (listUpdate_at g6 rfl ?_ (AV _) ?_)))
  .have G_:failedOf st=none:=hf;rw[G_];simp only[bne_self_eq_false,Be,if_false];exact Ac (fin _ Eo (by rw[C5];exact hsz))
  .show ((arrOf st).map (·.2)).size<=sizeLine+1;rw[C5];have:(arrOf st).size=vs.length:=hsz
   lia
theorem XH {l:Addr}{vs:Ae}{Q:Ad}{Out:Array Value->Prop}(hl:s.heap.IsList l vs.toArray) (hz:vs.length<=sizeLine)
  (core:2<=vs.length->∀ s6:Shared,(∀ b o,s.heap.get? b=some o->s6.heap.get? b=some o)->Core prog w A.in1.in1 E vs Out s6) (short:vs.length<2->Out vs.toArray)
  (fin:∀ out:Array Value,Out out->out.size=vs.length->Q (.ref (s.heap.objs.size+1)) { s with heap:=sortedAll s.heap vs out }):
  wpAny (model prog w) A (call (.builtin "sorted") [.ref l]) Q E s:=by
 have hsz:((s.heap.push (seqObj "list" #[] 0)).update s.heap.objs.size (Obj.mapSeq (·++vs.toArray))).objs.size=s.heap.objs.size+1:=by
  rw[Heap.size_update,size_push']
 have HS:(((s.heap.push (seqObj "list" #[] 0)).update s.heap.objs.size (Obj.mapSeq (·++vs.toArray))).push (seqObj "list" vs.toArray 0)).get? (s.heap.objs.size+1)=some (seqObj "list" vs.toArray 0):=hsz▸AJ _ rfl;have keep:∀ b o,s.heap.get? b=some o->(((s.heap.push (seqObj "list" #[] 0)).update s.heap.objs.size (Obj.mapSeq (·++vs.toArray))).push (seqObj "list" vs.toArray 0)).get? b=some o:=λ b o q=>
  KY _ (by rw[Heap.get?_update_ne _ _ _ _ (Aw (Ap q))];exact KY _ q)
 refine Calls.call_function_entry kind_sorted plain_sorted entry_sorted (args_sorted1 _) ?_;unfold Builtin.«sorted»;refine JY (m:=checkCount "sorted" 1 1 _) (Ac (JY (collect_list hl (JY (wpAny_newList ?_ hz)) hz)));show wpAny _ _ _ _ _ { s with heap:=((s.heap.push (seqObj "list" #[] 0)).update s.heap.objs.size (Obj.mapSeq (·++vs.toArray))).push (seqObj "list" vs.toArray 0) };rw[hsz];refine JY (K0 (K2 slot_list_sort ⟨_,HS,rfl⟩ entry_list_sort (j_ HS hz (λ h2 s6 k=>core h2 s6 λ b o q=>k b o ?_ (keep b o q)) short λ out h1 h2=>⟨_,rfl,?_⟩) (args_list_sort _)))
 .exact Aw (BI (Ap q))
 .exact Ac ⟨_,rfl,fin out h1 h2⟩
end
end L4
namespace L4
open PySem PySem.W PySem.Calls PyProof.Rows L2
theorem ic:∀ a b:List Int,HT.lexLt a b=true->HT.lexLt b a=false
 | [],[],h=>by cases h
 | [],_::_,_=>rfl
 | _::_,[],h=>by cases h
 | x::a,y::b,h=>by
  rw[HT.tP] at h ⊢;by_cases e:x=y
  .subst e;rw[if_pos rfl] at h ⊢;exact ic a b h
  .rw[if_neg e] at h;rw[if_neg (Ne.symm e)];have:=of_decide_eq_true h;exact KZ (by lia)
theorem ig:∀ a b:List Int,HT.lexLt a b=false->HT.lexLt b a=false->a=b
 | [],[],_,_=>rfl
 | [],_::_,h,_=>by cases h
 | _::_,[],_,h=>by cases h
 | x::a,y::b,h,h'=>by
  rw[HT.tP] at h h';by_cases e:x=y
  .subst e;rw[if_pos rfl] at h h';rw[ig a b h h']
  .rw[if_neg e] at h;rw[if_neg (Ne.symm e)] at h';have h1:=of_decide_eq_false h;have h2:=of_decide_eq_false h'
   lia
theorem ib:∀ a b c:List Int,HT.lexLt b a=false->HT.lexLt c b=false->HT.lexLt c a=false
 | [],[],[],_,_=>rfl
 | [],[],_::_,_,h=>h
 | [],_::_,[],_,h=>by cases h
 | [],_::_,_::_,_,_=>rfl
 | _::_,[],_,h,_=>by cases h
 | _::_,_::_,[],_,h=>by cases h
 | x::a,y::b,z::c,h,h'=>by
  rw[HT.tP] at h h' ⊢;by_cases e1:y=x
  .subst e1;rw[if_pos rfl] at h;by_cases e2:z=y
   .subst e2;rw[if_pos rfl] at h' ⊢;exact ib a b c h h'
   .rw[if_neg e2] at h' ⊢;exact h'
  .rw[if_neg e1] at h;have h1:=of_decide_eq_false h;by_cases e2:z=y
   .subst e2;rw[if_neg e1];exact h
   .rw[if_neg e2] at h';have h2:=of_decide_eq_false h';rw[if_neg (by lia)];exact KZ (by lia)
theorem jI {α:Type}{r:α->α->Prop}(an:∀ a b,r a b->r b a->a=b):∀ {l₁ l₂:List α},l₁.Perm l₂->l₁.Pairwise r->l₂.Pairwise r->l₁=l₂
 | [],l₂,h,_,_=>(List.nil_perm.mp h).symm
 | a::l₁,[],h,_,_=>absurd (List.perm_nil.mp h) (by simp)
 | a::l₁,b::l₂,h,h1,h2=>by
  have CN:a=b:=by
   have ha:a∈b::l₂:=h.mem_iff.mp Am;have hb:b∈a::l₁:=h.mem_iff.mpr Am;rcases Ai.mp ha with e | ha
   .exact e
   .rcases Ai.mp hb with e | hb
    .exact e.symm
    .exact an _ _ (List.rel_of_pairwise_cons h1 hb) (List.rel_of_pairwise_cons h2 ha)
  subst CN;rw[jI an (List.Perm.cons_inv h) (Bg.mp h1).2 (Bg.mp h2).2]
def yT (rows:List (List Int)):List (List Int):=rows.mergeSort λ a b=>!HT.lexLt b a
theorem uh (rows:List (List Int)):(yT rows).Perm rows:=List.mergeSort_perm _ _
theorem pX (rows:List (List Int)):(yT rows).Pairwise λ a b=>HT.lexLt b a=false:=by
 have:=List.pairwise_mergeSort (le:=λ a b:List Int=>!HT.lexLt b a) (λ a b c h1 h2=>by simp at h1 h2 ⊢;exact ib a b c h1 h2)
  (λ a b=>by
   cases h:HT.lexLt b a with
   | false=>simp
   | true=>simp[ic b a h]) rows
 exact this.imp λ h=>by simpa using h
theorem jt {rows out:List (List Int)}(hp:out.Perm rows) (hs:out.Pairwise λ a b=>HT.lexLt b a=false):out=yT rows:=
 jI (λ a b h1 h2=>ig a b h2 h1) (hp.trans (uh rows).symm) hs (pX rows)
def p_ (rows:List (List Int)) (i j:Nat):Bool:=HT.lexLt (rows.getD i []) (rows.getD j [])
theorem Wj (rows:List (List Int)):Ord (p_ rows):=⟨λ _ _ _ h1 h2=>ib _ _ _ h1 h2,λ _ _ h=>ic _ _ h⟩
section
variable {prog:Program}{w:World}{A:Around}{E:Ad}{s:Shared}{Q:Bool->Shared->Prop}
theorem cz {b:Bool}:∀ (ns ms:List Int) (us ws:Ae) (i:Nat),IntsAre us ns->IntsAre ws ms->Q (HT.lexLt ns ms) s->KatLex prog w A b (decide (ns.length<ms.length)) Q (us.zip ws) i s
 | [],[],_,_,_,.nil,.nil,h=>kat_nil (by simpa [HT.lexLt] using h)
 | [],_::_,_,_,_,.nil,.cons _ _ _,h=>kat_nil (by simpa [HT.lexLt] using h)
 | _::_,[],_,_,_,.cons _ _ _,.nil,h=>kat_nil (by simpa [HT.lexLt] using h)
 | n::ns,m::ms,_,_,i,.cons _ t hu,.cons _ u hw,h=>by
  rw[HT.tP] at h;refine kat_cons (SeqAt.EqAt.int_int n t m u prog w _ _ (kat_go (λ e=>kat_yes ?_) λ e=>kat_no ?_))
  .have e':n=m:=by simpa using e
   rw[if_pos e'] at h;rw[show decide ((n::ns).length<(m::ms).length)=decide (ns.length<ms.length) by simp];exact cz ns ms _ _ (i+1) hu hw h
  .have e':¬ n=m:=by simpa using e
   rw[if_neg e'] at h;cases b&&i == 0 with
   | true=>exact kat_lt_int h
   | false=>exact kat_one _ _ (lt_int h)
def t_ (h:Heap):List Value->List (List Int)->Prop:=Paired λ v r=>r≠[]/\∃ b o its n,v=.ref b/\h.get? b=some o/\o.cls=.type "tuple"/\o.data=.seq its n/\IntsAre its.toList r
theorem t_.b7 {h:Heap}:∀ {vs:Ae}{rows:List (List Int)},t_ h vs rows->∃ fs,KatTups h vs fs/\fs.length=vs.length/\∀ v∈fs,∃ n t,v=Value.int n t
 | _,_,.nil=>⟨[],KatTups.nil,rfl,λ _ hv=>absurd hv (by simp)⟩
 | _,_,.cons ⟨Ao,b,o,its,n,hv,ho,hc,hd,hi⟩ r=>by
  obtain⟨fs,h1,h2,h3⟩:=t_.b7 r;subst hv;obtain⟨its⟩:=its;cases hi with
  | nil=>exact absurd rfl Ao
  | cons k t _=>exact⟨.int k t::fs,KatTups.cons ho hc hd rfl h1,by simp[h2],λ v hv=>(Ai.mp hv).elim (λ e=>⟨k,t,e⟩) (h3 v)⟩
theorem Paired.at' {α β:Type}{F:α->β->Prop}:∀ {l₁:List α}{l₂:List β}{i:Nat},Paired F l₁ l₂->i<l₁.length->∀ (d:α) (e:β),F (l₁.getD i d) (l₂.getD i e)
 | _,_,_,.nil,h,_,_=>absurd h (by simp)
 | _,_,0,.cons r _,_,_,_=>r
 | _,_,i+1,.cons _ t,h,d,e=>by simpa using Paired.at' (i:=i) t (by simpa using h) d e
theorem t_.ask {vs:Ae}{rows:List (List Int)}{b:Bool}(r:t_ s.heap vs rows) {i j:Nat}(hi:i<vs.length) (hj:j<vs.length) {C:Bool->Shared->Prop}(h:C (p_ rows i j) s):kas_ask prog w A (tuples' b) vs i j C s:=by
 obtain⟨_,b1,o1,its1,n1,e1,g1,_,d1,q1⟩:=Paired.at' r hi Value.none [];obtain⟨_,b2,o2,Fp,n2,e2,g2,_,d2,q2⟩:=Paired.at' r hj Value.none [];unfold kas_ask;rw[e1,e2];refine kat_lt g1 d1 g2 d2 ?_;have l1:=q1.length;have l2:=q2.length;rw[Bs] at l1 l2;rw[l1,l2];exact cz _ _ _ _ 0 q1 q2 h
theorem fk {α:Type}{n:Nat}{lt:Nat->Nat->Bool}{cmp:Nat->Nat->(Bool->Shared->Prop)->Shared->Prop}{Q:α->Shared->Prop}(hc:∀ i j C,i<n->j<n->C (lt i j) s->cmp i j C s):∀ {t:KasT α},yt n lt t (λ a=>Q a s)->t.kasWp cmp Q s
 | .ret _,h=>h
 | .ask i j _,h=>hc i j _ h.1 h.2.1 (fk hc h.2.2)
def nH (vs:Ae) (rows:List (List Int)) (out:Ar):Prop:=
 ∃ idx:List Nat,idx.Perm (List.range vs.length)/\out.toList=idx.map (λ i=>vs.getD i Value.none)/\(idx.map λ i=>rows.getD i []).Pairwise λ a b=>HT.lexLt b a=false
theorem XD {rows:List (List Int)}{p:Array Nat}{n:Nat}(hn:p.size=n) (h:vd (p_ rows) p n):(p.toList.map λ i=>rows.getD i []).Pairwise λ a b=>HT.lexLt b a=false:=by
 rw[Bx,CC];intro i j hi hj A5;have:=h i j (BQ A5) (by rw[<- hn];simpa using hj);simp only[Bs] at hi hj;unfold Le p_ at this;simpa [DF,hi,hj] using this
theorem iV {vs:Ae}{rows:List (List Int)}(r:t_ s.heap vs rows) (h2:2<=vs.length) (GB:vs.length<64):Core prog w A E vs (nH vs rows) s:=by
 obtain⟨fs,t,hl,hf⟩:=r.b7;unfold Core;refine kat_kind (T:=.type "int") t (by lia) (λ v hv=>?_) rfl ⟨rfl,?_⟩
 .obtain⟨n,t,rfl⟩:=hf v hv;exact Looks.of_pure rfl
 .refine kat_run (ks:=vs) (Q:=λ st HC=>HC=s/\failedOf st=none/\nH vs rows ((arrOf st).map (·.2))/\(arrOf st).size=vs.length) (G:=λ p HC=>HC=s/\xg vs.length p/\vd (p_ rows) p vs.length) rfl h2 GB (λ p st s' hs ha EE hg=>?_) ?_
  .obtain⟨h1,h3,h4⟩:=hg;refine⟨h1,EE,⟨p.toList,?_,?_,XD hs h4⟩,by rw[ha,C5];exact hs⟩
   .have:=Array.Perm.toList h3;simpa using this
   .rw[kat_snds rfl ha]
  .exact fk (λ i j C hi hj hC=>r.ask hi hj hC) (yt.mono (λ p hp=>⟨rfl,hp⟩) (XI (Wj rows) (by lia)))
end
section
variable {X:Cx}
theorem NY:yy X (.builtin "sorted") (λ xs H Q=>∃ p ys,∃ rows:List (List Int),xs=[.ref p]/\zL X.K H p ys/\Paired (λ v r=>r≠[]/\∃ b,v=V.ref b/\zR X.K H b (r.map V.int)) ys rows/\rows.length<64/\
  ∀ (l:Addr) (idx:List Nat),H l=none->idx.Perm (List.range ys.length)->(idx.map λ i=>rows.getD i []).Pairwise (λ a b=>HT.lexLt b a=false)->Q (.ref l) (upd H l (.lst (idx.map λ i=>ys.getD i .zo)))):=by
 intro EM s Y H xs us Q I r h;obtain⟨p,ys,rows,rfl,hq,hr,GB,q⟩:=h;obtain⟨u,rfl,ru⟩:=vals1 r;cases ru;obtain⟨its,rv,pl,hz⟩:=I.list hq;have hl:=rv.length;have B7:ys.length=rows.length:=Paired.length hr;have FJ:∀ h6:Heap,(∀ b o,s.heap.get? b=some o->h6.get? b=some o)->t_ h6 its rows:=λ h6 k=>by
  clear q hz hl B7 GB hq pl r
  induction hr generalizing its with
  | nil=>cases rv;exact .nil
  | cons g t ih=>
   cases rv with
   | cons r1 r2=>
    refine .cons ?_ (ih _ r2);obtain⟨Ao,b,rfl,hb⟩:=g;cases r1;obtain⟨Fp,Hc,⟨o,e,hc,n,hd⟩,_⟩:=I.tuple hb;exact⟨Ao,b,o,_,n,rfl,k _ _ e,hc,hd,by simpa using intsAre_of Hc⟩
 refine XH (Out:=nH its rows) pl.isList (by rw[<- hl];exact hz) (λ h2 s6 k=>iV (FJ _ k) h2 (by lia)) (λ h1=>?_) λ out ho hs=>?_
 .refine⟨List.range its.length,.refl _,?_,?_⟩
  .refine BO (by simp) λ i h1 h2=>?_;simp at h1;simp[h1]
  .rw[Bx,CC];intro i j hi hj A5;simp at hi hj
   lia
 .obtain⟨idx,g1,g2,g3⟩:=ho;obtain⟨e,ho⟩:=sortedAll_at s.heap its out;have Bw:H (s.heap.objs.size+1)=none:=I.zv.fresh (C4 _);have H_:idx.Perm (List.range ys.length):=by rw[hl];exact g1
  refine⟨.ref (s.heap.objs.size+1),_,I.laid (t':=s.toks) (o:=.lst (idx.map λ i=>ys.getD i .zo)) (λ b o q=>sortedAll_old q) (C4 _) ?_,rfl,q _ idx Bw H_ g3⟩;refine⟨by rw[AA,H_.length_eq,B5];exact hz,out.toList,e,?_,by simpa using ho⟩;rw[g2];have An:∀ i∈idx,i<ys.length:=λ i hi=>by simpa using H_.mem_iff.mp hi
  clear g1 H_ g2 g3 q
  induction idx with
  | nil=>exact .nil
  | cons i idx ih=>
   refine .cons ?_ (ih λ j hj=>An j (Av _ hj));have hi:=An i Am;obtain⟨u,e1,e2⟩:=rv.get (i:=i) (x:=ys[i]) (by simp[hi]);have e3:its.getD i Value.none=u:=by simp[e1]
   have e4:ys.getD i .zo=ys[i]:=by simp[hi]
   show RelV (ys.getD i .zo) (its.getD i Value.none);rw[e3,e4];exact e2
end
end L4
namespace L2
open PySem PySem.Spec PyProof.Rows
noncomputable def wx (ty T:String):Bool:=ty == T||(ty == "bool"&&T == "int")
def my (ty T:String):Bool:=PySem.W.kitMeta T&&decide ((fastBuiltinMro ty).map (λ l=>l.contains (Value.type T))=some (wx ty T))
theorem YT:(["NoneType","bool","int","str","tuple","list","dict"].all λ ty=>["int","bool","tuple","list","str"].all λ T=>my ty T)=true:=by decide +kernel
theorem Py {K:Ab}{ty T:String}(h:my ty T=true):PySem.W.kitOne K (.type ty) (.type T)=some (wx ty T):=by
 unfold my at h;rw[Bc] at h;unfold PySem.W.kitOne;split
 .rename_i e;have e':ty=T:=by have:=eq_of_beq e;injection this
  subst e';simp[wx]
 .show (if PySem.W.kitMeta T=true then PySem.W.subIn K (.type ty) (.type T) else none)=_;rw[if_pos h.1];exact of_decide_eq_true h.2
noncomputable def aV (K:Ab) (H:Hp):V->String->Prop
 | .zo,t=>t="NoneType"
 | .bl _,t=>t="bool"
 | .int _,t=>t="int"
 | .str _,t=>t="str"
 | .ref a,t=>(t="tuple"/\∃ xs,zR K H a xs)\/(t="list"/\∃ xs,zL K H a xs)\/(t="dict"/\∃ Aa,H a=some (.dK Aa))
 | _,_=>False
theorem Ml {X:Cx}:yy X (.builtin "isinstance") (λ xs H Q=>∃ x T ty,xs=[x,.ty T]/\aV X.K H x ty/\my ty T=true/\Q (.bl (wx ty T)) H):=by
 intro EM s Y H xs us Q I r h;obtain⟨x,T,ty,rfl,hx,hT,q⟩:=h;obtain⟨u,c,rfl,ru,rc⟩:=vals2 r;cases (show c=Value.type T from rc);have e:PySem.W.kitOne X.K (.type ty) (.type T)=some (wx ty T):=Py hT;have fin:∀ tk,EP X EM Y Q (.bool (wx ty T)) { s with toks:=tk }:=λ tk=>⟨.bl _,H,I.tok tk,rfl,q⟩;cases x with
 | zo=>cases (show u=Value.none from ru);cases (show ty=_ from hx);exact PySem.W.kia_one PySem.W.kitx_none I.vx True.intro e (λ z=>nomatch z) fin
 | bl y=>cases (show u=Value.bool y from ru);cases (show ty=_ from hx);exact PySem.W.kia_one PySem.W.kitx_bool I.vx True.intro e (λ z=>nomatch z) fin
 | int i=>obtain⟨t,rfl⟩:=(show ∃ t,u=Value.int i t from ru);cases (show ty=_ from hx);exact PySem.W.kia_one PySem.W.kitx_int I.vx True.intro e (λ z=>nomatch z) fin
 | str y=>obtain⟨t,rfl⟩:=(show ∃ t,u=Value.str y t from ru);cases (show ty=_ from hx);exact PySem.W.kia_one PySem.W.kitx_str I.vx True.intro e (λ z=>nomatch z) fin
 | ref a=>
  cases (show u=Value.ref a from ru);rcases hx with ⟨rfl,ys,hq⟩ | ⟨rfl,ys,hq⟩ | ⟨rfl,Aa,hq⟩
  .obtain⟨its,_,⟨o,h1,h2,_⟩,_⟩:=I.tuple hq;exact PySem.W.kia_one PySem.W.kitx_tuple I.vx ⟨o,h1,h2⟩ e (λ z=>nomatch z) fin
  .obtain⟨its,_,⟨o,n,h1,h2,_⟩,_⟩:=I.list hq;exact PySem.W.kia_one PySem.W.kitx_list I.vx ⟨o,h1,h2⟩ e (λ z=>nomatch z) fin
  .obtain⟨_,_,vs,_,p⟩:=(show yJ X.prog X.w H s.heap a (.dK Aa) from I.zv a _ hq)
   obtain⟨o,es,ep,h1,h2,_⟩:=p;exact PySem.W.kia_one PySem.W.kitx_dict I.vx ⟨o,h1,h2.1⟩ e (λ z=>nomatch z) fin
 | _=>exact hx.elim
end L2
namespace L3
open PySem PySem.Spec L2
open PyProof.Rows hiding St
section
variable {X:Cx}{K:Ab}{a b e:Expr}{es:List Expr}{te:zr}{tA:yh}{pos p q:Pos}
theorem UR (hm:X.mg "len"=none) (ha:yR X (e::es) tA) (hg:Gl X "len") (he:starEach (e::es) X.env=(false,eval e X.env)::starEach es X.env) (Aq:(backTo pos (starEach es X.env)).any (·.1)=false):PD X (.Call (.Name "len" p) (e::es) [] pos) (xl vX tA):=
 uk (uI (Mi.or Mh) hg hm PySem.boot_len ha.pa (by decide) (by decide) he Aq) vX.mo vX.fits ha.mo
theorem UQ (hm:X.mg "list"=none) (ha:yR X (e::es) tA) (hg:Gl X "list") (he:starEach (e::es) X.env=(false,eval e X.env)::starEach es X.env) (Aq:(backTo pos (starEach es X.env)).any (·.1)=false):PD X (.Call (.Name "list" p) (e::es) [] pos) (xl vW tA):=
 uk (qA Mf hg hm PyProof.Rows.boot_list ha.pa (by decide) (by decide) he Aq) vW.mo vW.fits ha.mo
theorem U1 (hm:X.mg "tuple"=none) (ha:yR X (e::es) tA) (hg:Gl X "tuple") (he:starEach (e::es) X.env=(false,eval e X.env)::starEach es X.env) (Aq:(backTo pos (starEach es X.env)).any (·.1)=false):PD X (.Call (.Name "tuple" p) (e::es) [] pos) (xl vV tA):=
 uk (qA NU hg hm PyProof.Rows.boot_tuple ha.pa (by decide) (by decide) he Aq) vV.mo vV.fits ha.mo
abbrev bA:xn:=v8 λ i j=>.int (if j>i then j else i)
abbrev b9:xn:=v8 λ i j=>.int (if j<i then j else i)
theorem UJ (hm:X.mg "max"=none) (ha:yR X (e::es) tA) (hc:X.calm=true) (hg:Gl X "max") (he:starEach (e::es) X.env=(false,eval e X.env)::starEach es X.env) (Aq:(backTo pos (starEach es X.env)).any (·.1)=false):PD X (.Call (.Name "max" p) (e::es) [] pos) (xl bA tA):=
 uk (uI (Me hc) hg hm boot_max ha.pa (by decide) (by decide) he Aq) v8.mo (v8.fits λ _ _ _=>by simp only[zg]) ha.mo
theorem UI (hm:X.mg "min"=none) (ha:yR X (e::es) tA) (hc:X.calm=true) (hg:Gl X "min") (he:starEach (e::es) X.env=(false,eval e X.env)::starEach es X.env) (Aq:(backTo pos (starEach es X.env)).any (·.1)=false):PD X (.Call (.Name "min" p) (e::es) [] pos) (xl b9 tA):=
 uk (uI (Md hc) hg hm boot_min ha.pa (by decide) (by decide) he Aq) v8.mo (v8.fits λ _ _ _=>by simp only[zg]) ha.mo
noncomputable def xM (r:List Int):D:=.tup (r.map D.int)
theorem pZ {H:Hp}:∀ {rows:List (List Int)}{ys:List V},zl K H (rows.map xM) ys->(∀ r∈rows,r≠[])->Paired (λ v r=>r≠[]/\∃ b,v=V.ref b/\zR K H b (r.map V.int)) ys rows
 | [],ys,h,_=>by simp only[A_,zl] at h;subst h;exact .nil
 | r::rows,ys,h,hn=>by
  rw[Au] at h;simp only[zl,xM,zg] at h;obtain⟨x,Jy,rfl,⟨a,xs,rfl,g1,g2⟩,h3⟩:=h;rw[g2.ints] at g1;exact .cons ⟨hn r Am,a,rfl,g1⟩ (pZ h3 λ r' hr=>hn r' (Av _ hr))
theorem dY {α:Type}{rows:List α}{d:α}{idx:List Nat}(h:idx.Perm (List.range rows.length)):(idx.map λ i=>rows.getD i d).Perm rows:=by
 refine (h.map _).trans ?_;have:(List.range rows.length).map (λ i=>rows.getD i d)=rows:=by
  refine BO (by simp) λ i h1 h2=>?_;simp[h2]
 rw[this]
theorem zl.perm {H:Hp}{rows:List (List Int)}{ys:List V}(h:zl K H (rows.map xM) ys):∀ {idx:List Nat},(∀ i∈idx,i<rows.length)->zl K H ((idx.map λ i=>rows.getD i []).map xM) (idx.map λ i=>ys.getD i .zo)
 | [],_=>.nil
 | i::idx,hi=>by
  have h1:=hi i Am;obtain⟨x,e1,e2⟩:=h.get (i:=i) (d:=xM rows[i]) (by simp[h1]);refine .cons ?_ (zl.perm h λ j hj=>hi j (Av _ hj));have e3:ys.getD i .zo=x:=by simp[e1]
  have e4:rows.getD i []=rows[i]:=by simp[h1]
  show zg K H (xM (rows.getD i [])) (ys.getD i .zo);rw[e3,e4];exact e2
theorem Um {tg:Expr}(hm:X.mg "range"=none) (ha:yR X [a] tA) (hg:Gl X "range") (hs:starEach [a] X.env=[(false,eval a X.env)]):ud X tg (.Call (.Name "range" p) [a] [] pos) (iu tA):=Uo (Vc hg hm ha.pa hs) ha.mo
noncomputable def sG (d:D) (S:SS):Option String:=match d with
 | .zo=>some "NoneType"
 | .bl _=>some "bool"
 | .int _=>some "int"
 | .str _=>some "str"
 | .tup _=>some "tuple"
 | .xv _=>some "list"
 | .ref p=>match S p with
  | some (.lst _)=>some "list"
  | some (.z_ _)=>some "dict"
  | none=>none
 | .err _ _ _=>none
def qV (T:String) (te:zr):zr:=fun L S Q=>te L S λ x S1=>match sG x S1 with
 | some ty=>Q (.bl (wx ty T)) S1
 | none=>False
theorem sG.ok {H:Hp}{d:D}{v:V}{S:SS}{ty:String}(r:zg K H d v) (p:zJ K H S) (h:sG d S=some ty):aV K H v ty/\ty∈["NoneType","bool","int","str","tuple","list","dict"]:=by
 cases d with
 | err _ _ _=>cases h
 | tup ds=>
  simp only[zg] at r;obtain⟨a,xs,rfl,g1,_⟩:=r;cases h;exact⟨.inl ⟨rfl,xs,g1⟩,by simp⟩
 | xv ds=>
  simp only[zg] at r;obtain⟨a,xs,rfl,g1,_⟩:=r;cases h;exact⟨.inr (.inl ⟨rfl,xs,g1.sq⟩),by simp⟩
 | ref a=>
  simp only[zg] at r;subst r;unfold sG at h;dsimp only at h;split at h
  .rename_i e;cases h;obtain⟨xs,g1,_⟩:=p _ _ e;exact⟨.inr (.inl ⟨rfl,xs,zL.of g1⟩),by simp⟩
  .rename_i e;cases h;obtain⟨xs,g1,_⟩:=p _ _ e;exact⟨.inr (.inr ⟨rfl,xs,g1⟩),by simp⟩
  .cases h
 | _=>simp only[zg] at r;subst r;cases h;exact⟨rfl,by simp⟩
theorem mQ {T:String}{x:Str}(hT:T∈["int","bool","tuple","list","str"]) (hm:X.mg "isinstance"=none) (HG:X.mg x=none) (hv:bootBuiltins x=some (.type T)) (GW:Gl X x) (hn:x≠"__name__") (hd:(x == ("__debug__":Str))=false) (he:PD X e te) (hg:Gl X "isinstance")
  (h1:starEach (e::[.Name x q]) X.env=(false,eval e X.env)::starEach [.Name x q] X.env) (h2:(backTo pos (starEach [.Name x q] X.env)).any (·.1)=false) (h3:starEach [.Name x q] X.env=(false,eval (.Name x q) X.env)::starEach [] X.env):
  PD X (.Call (.Name "isinstance" p) [e,.Name x q] [] pos) (qV T te):=by
 refine⟨fun L S Q Q' hq z=>he.mo L S _ _ (λ y S1 z=>?_) z,PE.imp (uI Ml hg hm boot_isinstance (rJ he.pe (rJ (VA (v:=.ty T) GW HG hv rfl hn hd) qC h3) h1) (by decide) (by decide) h1 h2) fun Y H Q hu=>?_⟩
 .split at z
  .exact hq _ _ z
  .exact z
 .obtain⟨L,S,r1,r2,z⟩:=hu;refine zK.go he.mo r1 r2 z λ y S1 v H1 z1 q1 e1 p1=>?_;split at z1
  .rename_i ty ht;obtain⟨g1,g2⟩:=sG.ok q1 p1 ht;refine⟨v,T,ty,rfl,g1,?_,z1 _ H1 (by simp only[zg]) e1 p1⟩;exact B3.mp (B3.mp YT ty g2) T hT
  .exact z1.elim
theorem UY (T:Bt X.mg) (he:PD X e te) (hg:Gl X "isinstance") (GW:Gl X "bool") (h1:starEach (e::[.Name "bool" q]) X.env=(false,eval e X.env)::starEach [.Name "bool" q] X.env) (h2:(backTo pos (starEach [.Name "bool" q] X.env)).any (·.1)=false) (h3:starEach [.Name "bool" q] X.env=(false,eval (.Name "bool" q) X.env)::starEach [] X.env):
  PD X (.Call (.Name "isinstance" p) [e,.Name "bool" q] [] pos) (qV "bool" te):=mQ (by simp) T.isinstance T.bool PyProof.Rows.boot_bool GW (by decide) (by decide) he hg h1 h2 h3
theorem UX (T:Bt X.mg) (he:PD X e te) (hg:Gl X "isinstance") (GW:Gl X "int") (h1:starEach (e::[.Name "int" q]) X.env=(false,eval e X.env)::starEach [.Name "int" q] X.env) (h2:(backTo pos (starEach [.Name "int" q] X.env)).any (·.1)=false) (h3:starEach [.Name "int" q] X.env=(false,eval (.Name "int" q) X.env)::starEach [] X.env):
  PD X (.Call (.Name "isinstance" p) [e,.Name "int" q] [] pos) (qV "int" te):=mQ (by simp) T.isinstance T.int PyProof.Rows.boot_int GW (by decide) (by decide) he hg h1 h2 h3
theorem UU (T:Bt X.mg) (he:PD X e te) (hg:Gl X "isinstance") (GW:Gl X "tuple") (h1:starEach (e::[.Name "tuple" q]) X.env=(false,eval e X.env)::starEach [.Name "tuple" q] X.env) (h2:(backTo pos (starEach [.Name "tuple" q] X.env)).any (·.1)=false) (h3:starEach [.Name "tuple" q] X.env=(false,eval (.Name "tuple" q) X.env)::starEach [] X.env):
  PD X (.Call (.Name "isinstance" p) [e,.Name "tuple" q] [] pos) (qV "tuple" te):=mQ (by simp) T.isinstance T.tuple PyProof.Rows.boot_tuple GW (by decide) (by decide) he hg h1 h2 h3
theorem UL {o:Expr}{to:zr}{apos Al:Pos}(ho:PD X o to) (he:PD X e te)
  (GO:attributeBase o "append" X.env (eval o X.env)=eval o X.env)
  (AR:((backTo Al (starEach [e] X.env)).all (λ x=>!x.1)&&(backToKw Al (keywordEach [] X.env)).all (λ x=>x.1.isSome)
   && decide ([e].length+([]:List Keyword).length+(if ([]:List Keyword).isEmpty then 0 else 1)<30))=true)
  (GK:(apos.endLine == Al.line)=true) (hs:starEach [e] X.env=(false,eval e X.env)::starEach [] X.env) (Gm:(backTo Al (starEach [] X.env)).any (·.1)=false):
  PD X (.Call (.Attribute o "append" apos) [e] [] Al) (ra to te):=
 Tz (o:=o) (e:=e) (dh PySem.F.plainAttrs_list PySem.F.slot_list_append PySem.F.type_list_append dX ho.pe (rJ he.pe qC hs) GO AR GK hs Gm) ho.mo he.mo
structure FD (P:Program) (w:World) (K:Ab) (mg:AI) (base:Heap) (x:Str) (k:Nat) (ps:List Str) (sp:tZ):Prop where
 ex:∃ (f:Addr) (fd:FuncData),vI P w K mg base xt k f fd ps (uE K sp)/\mg x=some (.ref f)/\PySem.W.keepIn K (.ref f)=true/\Binds K fd ps []
 mo:gA sp
theorem Tv {x:Str}{k:Nat}{ps:List Str}{sp:tZ}(F:FD X.prog X.w X.K X.mg X.base x k ps sp) (hr:yi k X.A) (ha:yR X (e::es) tA) (hg:Gl X x) (Cj:(x == ("__debug__":Str))=false)
  (he:starEach (e::es) X.env=(false,eval e X.env)::starEach es X.env) (Aq:(backTo pos (starEach es X.env)).any (·.1)=false):PD X (.Call (.Name x p) (e::es) [] pos) (lM sp tA):=by
 obtain⟨⟨f,fd,h1,h2,h3,h4⟩,hm⟩:=F;exact Tw (E:=E0) (V9 h1 hr hg h2 h3 h4 .nil T7 ha.pa Cj he Aq) hm ha.mo
end
theorem Nd {S:SS}{p:Addr}{ds:List D}{Q:DK}(e:S p=some (.lst ds)) (h:Q (.tup ds) S):vV [.ref p] S Q:=by
 unfold vV;dsimp only;rw[e];exact h
theorem Nf {S:SS}{d:D}{ds:List D}{Q:DK}(e:zO d S=some ds) (h:∀ p,S p=none->Q (.ref p) (ups S p (.lst ds))):vW [d] S Q:=by
 unfold vW;dsimp only;rw[e];exact h
theorem Ng {S:SS}{d:D}{ds:List D}{Q:DK}(e:zO d S=some ds) (h:Q (.int ds.length) S):vX [d] S Q:=by
 unfold vX;dsimp only;rw[e];exact h
theorem Xe {S:SS}{p:Addr}{ds:List D}{Q:Bool->SS->Prop}(e:S p=some (.lst ds)) (h:Q (!ds.isEmpty) S):vj (.ref p) S Q:=by
 unfold vj;dsimp only;rw[e];exact h
theorem Nj {S:SS}{p:Addr}{ds:List D}{i:Int}{d:D}{Q:DK}(e:S p=some (.lst ds)) (e2:L2.zB ds i=some d) (h:Q d S):xZ (.ref p) (.int i) S Q:=by
 unfold xZ;dsimp only;rw[e];dsimp only;rw[e2];exact h
theorem Nh {S:SS}{ds:List D}{i:Int}{d:D}{Q:DK}(e2:L2.zB ds i=some d) (h:Q d S):xZ (.tup ds) (.int i) S Q:=by
 unfold xZ;dsimp only;rw[e2];exact h
theorem Ni {S:SS}{ds:List D}{i:Int}{d:D}{Q:DK}(e2:L2.zB ds i=some d) (h:Q d S):xZ (.xv ds) (.int i) S Q:=by
 unfold xZ;dsimp only;rw[e2];exact h
inductive T where
 | zo | bl (b:Bool) | int (i:Int) | str (x:Str) | tup (ts:List T) | lst (ts:List T) | yN | err (c f:Str) (t:T)
mutual
noncomputable def eqT:T->T->Bool
 | .zo,.zo=>true
 | .bl a,.bl b=>a == b
 | .bl a,.int b=>(if a then 1 else 0) == b
 | .int a,.bl b=>a == (if b then 1 else 0)
 | .int a,.int b=>a == b
 | .str a,.str b=>a == b
 | .tup a,.tup b=>yV a b
 | .lst a,.lst b=>yV a b
 | .yN,.yN=>true
 | .err a b t,.err c d u=>a == c&&(b == d&&eqT t u)
 | _,_=>false
noncomputable def yV:List T->List T->Bool
 | [],[]=>true
 | a::as,b::bs=>eqT a b&&yV as bs
 | _,_=>false
end
mutual
noncomputable def dep:T->Nat
 | .tup ts=>1+yW ts
 | .lst ts=>1+yW ts
 | .yN=>cLine
 | .err _ _ _=>cLine
 | _=>0
noncomputable def yW:List T->Nat
 | []=>0
 | t::ts=>max (dep t) (yW ts)
end
noncomputable def jM:List T->Bool
 | []=>true
 | .int _::ts=>jM ts
 | _=>false
theorem So (ns:List Int):jM (ns.map T.int)=true:=by
 induction ns with
 | nil=>rfl
 | cons n ns ih=>exact ih
mutual
noncomputable def Sn (S:SS):T->D->Prop
 | .zo,d=>d=.zo
 | .bl b,d=>d=.bl b
 | .int i,d=>d=.int i
 | .str x,d=>d=.str x
 | .tup ts,d=>∃ ds,d=.tup ds/\zj S ts ds
 | .lst ts,d=>∃ ds,((d=.xv ds/\jM ts=true)\/∃ a,d=.ref a/\S a=some (.lst ds))/\zj S ts ds
 | .yN,d=>∃ a Aa,(d=.ref a/\Aa=[])/\S a=some (.z_ Aa)
 | .err c f t,d=>∃ x,d=.err c f x/\Sn S t x
noncomputable def zj (S:SS):List T->List D->Prop
 | [],ds=>ds=[]
 | t::ts,ds=>∃ c cs,ds=c::cs/\Sn S t c/\zj S ts cs
end
mutual
theorem iQ:∀ t:T,eqT t t=true
 | .zo=>by simp[eqT]
 | .bl b=>by simp[eqT]
 | .int i=>by simp[eqT]
 | .str x=>by simp[eqT]
 | .tup ts=>by simp only[eqT];exact lA ts
 | .lst ts=>by simp only[eqT];exact lA ts
 | .yN=>by simp[eqT]
 | .err _ _ t=>by simp[eqT,iQ t]
theorem lA:∀ ts:List T,yV ts ts=true
 | []=>by simp[yV]
 | t::ts=>by simp only[yV,iQ t,lA ts,DE]
end
theorem iP:∀ ts us:List T,yV ts us=((List.range (min ts.length us.length)).all (λ j=>eqT (ts.getD j .zo) (us.getD j .zo))&&ts.length == us.length)
 | [],[]=>by simp[yV]
 | [],_::_=>by simp[yV]
 | _::_,[]=>by simp[yV]
 | t::ts,u::us=>by
  simp only[yV,iP ts us,A4];rw[show min (ts.length+1) (us.length+1)=min ts.length us.length+1 by lia,C3,List.all_cons,List.all_map];have:(ts.length+1 == us.length+1)=(ts.length == us.length):=by rw[BN];simp
  rw[this,Bool.and_assoc];rfl
theorem zj.length {S:SS}:∀ {ts:List T}{ds:List D},zj S ts ds->ts.length=ds.length
 | [],ds,h=>by simp only[zj] at h;subst h;rfl
 | t::ts,ds,h=>by
  simp only[zj] at h;obtain⟨c,cs,rfl,_,h2⟩:=h;simp[zj.length h2]
section
variable {X:Cx}{EM:Ag}{Y:St}{H:Hp}{s:Shared}{S:SS}
theorem cH (I:Inv X EM Y H s) {a:Addr}{xs ys:List V}(h1:zR X.K H a xs) (h2:zL X.K H a ys):False:=by
 obtain⟨_,_,⟨o,e,c,_⟩,_⟩:=I.tuple h1;obtain⟨_,_,⟨o',n,e',c',_⟩,_⟩:=I.list h2;rw[e] at e';cases e';rw[c] at c'
 injection c' with q
 exact absurd q (by decide)
theorem Sn.uM (p:zJ X.K H S) {ts:List T}{d:D}{x:V}(h:Sn S (.lst ts) d) (r:zg X.K H d x):∃ a xs ds,x=.ref a/\zL X.K H a xs/\zl X.K H ds xs/\zj S ts ds:=by
 simp only[Sn] at h;obtain⟨ds,⟨h,_⟩ | ⟨a,h,e⟩,h2⟩:=h
 .subst h;simp only[zg] at r;obtain⟨a,xs,rfl,g1,g2⟩:=r;exact⟨a,xs,ds,rfl,g1.sq,g2,h2⟩
 .subst h;simp only[zg] at r;obtain⟨xs,g1,g2⟩:=p _ _ e;exact⟨a,xs,ds,r,zL.of g1,g2,h2⟩
theorem Sn.uF {ts:List T}{d:D}{x:V}(h:Sn S (.tup ts) d) (r:zg X.K H d x):∃ a xs ds,x=.ref a/\zR X.K H a xs/\zl X.K H ds xs/\zj S ts ds:=by
 simp only[Sn] at h;obtain⟨ds,rfl,h2⟩:=h;simp only[zg] at r;obtain⟨a,xs,rfl,g1,g2⟩:=r;exact⟨a,xs,ds,rfl,g1,g2,h2⟩
theorem Sn.sZ (p:zJ X.K H S) {d:D}{x:V}(h:Sn S .yN d) (r:zg X.K H d x):∃ a vs,x=.ref a/\H a=some (.dK vs):=by
 simp only[Sn] at h;obtain⟨a,Aa,⟨rfl,_⟩,e⟩:=h;simp only[zg] at r;obtain⟨xs,g1,g2⟩:=p _ _ e;exact⟨a,xs,r,g1⟩
theorem cO (I:Inv X EM Y H s) {a:Addr}{vs:List (Key×V)}(h:H a=some (.dK vs)):∃ o,s.heap.get? a=some o/\o.cls=.type "dict":=by
 obtain⟨_,_,_,_,o,_,_,e,c⟩:=(show yJ X.prog X.w H s.heap a (.dK vs) from I.zv a _ h)
 exact⟨o,e,c.1.1⟩
theorem cK (I:Inv X EM Y H s) {a:Addr}{xs:List V}{vs:List (Key×V)}(h1:zR X.K H a xs) (h2:H a=some (.dK vs)):False:=by
 obtain⟨_,_,⟨o,e,c,_⟩,_⟩:=I.tuple h1;obtain⟨o',e',c'⟩:=cO I h2;rw[e] at e';cases e';rw[c] at c'
 injection c' with q
 exact absurd q (by decide)
theorem cN (I:Inv X EM Y H s) {a:Addr}{xs:List V}{vs:List (Key×V)}(h1:zL X.K H a xs) (h2:H a=some (.dK vs)):False:=by
 obtain⟨_,_,⟨o,n,e,c,_⟩,_⟩:=I.list h1;obtain⟨o',e',c'⟩:=cO I h2;rw[e] at e';cases e';rw[c] at c'
 injection c' with q
 exact absurd q (by decide)
theorem Sn.flat {t:T}{d:D}{x:V}(h:Sn S t d) (r:zg X.K H d x):match t with
  | .zo=>x=.zo
  | .bl b=>x=.bl b
  | .int i=>x=.int i
  | .str y=>x=.str y
  | _=>True:=by
 cases t <;> first
  | trivial
  | (simp only[Sn] at h;subst h;simpa only [zg] using r)
theorem Sn.tV {c f:Str}{t:T}{d:D}{x:V}(h:Sn S (.err c f t) d) (r:zg X.K H d x):∃ e C dx w y,x=.ref e/\(mj X.K c C/\H e=some (sy e C dx)/\H dx=some (.xd [(f,w)]))/\Sn S t y/\zg X.K H y w:=by
 simp only[Sn] at h;obtain⟨y,rfl,h⟩:=h;simp only[zg] at r;obtain⟨e,C,dx,w,r1,r2,r3⟩:=r;exact⟨e,C,dx,w,y,r1,r2,h,r3⟩
theorem lq (I:Inv X EM Y H s) {e C dx:Addr}(h:H e=some (sy e C dx)):∃ oe vs,s.heap.get? e=some oe/\oe.cls=.ref C/\oe.dict=some dx/\oe.data=.fields vs:=(show yJ X.prog X.w H s.heap e (sy e C dx) from I.zv e _ h).1
theorem cJ (I:Inv X EM Y H s) {a C dx:Addr}{xs:List V}(h1:zR X.K H a xs) (h2:H a=some (sy a C dx)):False:=by
 obtain⟨_,_,⟨o,e,c,_⟩,_⟩:=I.tuple h1;obtain⟨o',_,e',c',_⟩:=lq I h2;rw[e] at e';cases e';rw[c] at c';cases c'
theorem cM (I:Inv X EM Y H s) {a C dx:Addr}{xs:List V}(h1:zL X.K H a xs) (h2:H a=some (sy a C dx)):False:=by
 obtain⟨_,_,⟨o,n,e,c,_⟩,_⟩:=I.list h1;obtain⟨o',_,e',c',_⟩:=lq I h2;rw[e] at e';cases e';rw[c] at c';cases c'
theorem cP (I:Inv X EM Y H s) {a C dx:Addr}{vs:List (Key×V)}(h1:H a=some (.dK vs)) (h2:H a=some (sy a C dx)):False:=by
 rw[h1] at h2;cases h2
theorem Oc (I:Inv X EM Y H s) {e C dx C' KP:Addr}(h1:H e=some (sy e C dx)) (h2:H e=some (sy e C' KP)):C=C'/\dx=KP:=by
 obtain⟨o,_,e1,c1,d1,_⟩:=lq I h1;obtain⟨o',_,e2,c2,d2,_⟩:=lq I h2;rw[e1] at e2;cases e2;rw[c1] at c2;rw[d1] at d2;cases c2;cases d2;exact⟨rfl,rfl⟩
theorem mj.inj {K:Ab}{c c':Str}{C:Addr}(h1:mj K c C) (h2:mj K c' C):c=c':=by
 obtain⟨_,_,_,⟨⟨⟨_,_,_,_,_,_,_,_,_,_,_,_,a⟩,_⟩,_,_,_,_⟩⟩:=h1;obtain⟨_,_,_,⟨⟨⟨_,_,_,_,_,_,_,_,_,_,_,_,b⟩,_⟩,_,_,_,_⟩⟩:=h2;rw[a] at b;cases b;rfl
mutual
theorem mx (I:Inv X EM Y H s) (p:zJ X.K H S):∀ (t u:T) {d e:D}{x:V},Sn S t d->Sn S u e->zg X.K H d x->zg X.K H e x->t=u
 | .tup ts,u,d,e,x,h1,h2,r1,r2=>by
  obtain⟨a,xs,ds,rfl,g1,g2,g3⟩:=h1.uF r1;cases u with
  | yN=>obtain⟨_,_,q,g⟩:=h2.sZ p r2;cases q;exact (cK I g1 g).elim
  | err _ _ _=>obtain⟨_,_,_,_,_,q,g,_⟩:=h2.tV r2;cases q;exact (cJ I g1 g.2.1).elim
  | tup us=>
   obtain⟨a',Fg,Hz,q,k1,k2,k3⟩:=h2.uF r2;cases q;have:=I.jh g1 k1;subst this;rw[jf I p ts us g3 k3 g2 k2]
  | lst us=>
   obtain⟨a',Fg,Hz,q,k1,k2,k3⟩:=h2.uM p r2;cases q;exact (cH I g1 k1).elim
  | _=>exact nomatch h2.flat r2
 | .lst ts,u,d,e,x,h1,h2,r1,r2=>by
  obtain⟨a,xs,ds,rfl,g1,g2,g3⟩:=h1.uM p r1;cases u with
  | yN=>obtain⟨_,_,q,g⟩:=h2.sZ p r2;cases q;exact (cN I g1 g).elim
  | err _ _ _=>obtain⟨_,_,_,_,_,q,g,_⟩:=h2.tV r2;cases q;exact (cM I g1 g.2.1).elim
  | lst us=>
   obtain⟨a',Fg,Hz,q,k1,k2,k3⟩:=h2.uM p r2;cases q;have:=I.ia g1 k1;subst this;rw[jf I p ts us g3 k3 g2 k2]
  | tup us=>
   obtain⟨a',Fg,Hz,q,k1,k2,k3⟩:=h2.uF r2;cases q;exact (cH I k1 g1).elim
  | _=>exact nomatch h2.flat r2
 | .zo,u,d,e,x,h1,h2,r1,r2=>by
  have q:=h1.flat r1;subst q;cases u with
  | yN=>obtain⟨_,_,q,g⟩:=h2.sZ p r2;cases q
  | err _ _ _=>obtain⟨_,_,_,_,_,q,_⟩:=h2.tV r2;cases q
  | zo=>rfl
  | tup us=>obtain⟨_,_,_,q,_⟩:=h2.uF r2;cases q
  | lst us=>obtain⟨_,_,_,q,_⟩:=h2.uM p r2;cases q
  | _=>exact nomatch h2.flat r2
 | .bl b,u,d,e,x,h1,h2,r1,r2=>by
  have q:=h1.flat r1;subst q;cases u with
  | yN=>obtain⟨_,_,q,g⟩:=h2.sZ p r2;cases q
  | err _ _ _=>obtain⟨_,_,_,_,_,q,_⟩:=h2.tV r2;cases q
  | bl _=>have q:=h2.flat r2;cases q;rfl
  | tup us=>obtain⟨_,_,_,q,_⟩:=h2.uF r2;cases q
  | lst us=>obtain⟨_,_,_,q,_⟩:=h2.uM p r2;cases q
  | _=>exact nomatch h2.flat r2
 | .int b,u,d,e,x,h1,h2,r1,r2=>by
  have q:=h1.flat r1;subst q;cases u with
  | yN=>obtain⟨_,_,q,g⟩:=h2.sZ p r2;cases q
  | err _ _ _=>obtain⟨_,_,_,_,_,q,_⟩:=h2.tV r2;cases q
  | int _=>have q:=h2.flat r2;cases q;rfl
  | tup us=>obtain⟨_,_,_,q,_⟩:=h2.uF r2;cases q
  | lst us=>obtain⟨_,_,_,q,_⟩:=h2.uM p r2;cases q
  | _=>exact nomatch h2.flat r2
 | .str b,u,d,e,x,h1,h2,r1,r2=>by
  have q:=h1.flat r1;subst q;cases u with
  | yN=>obtain⟨_,_,q,g⟩:=h2.sZ p r2;cases q
  | err _ _ _=>obtain⟨_,_,_,_,_,q,_⟩:=h2.tV r2;cases q
  | str _=>have q:=h2.flat r2;cases q;rfl
  | tup us=>obtain⟨_,_,_,q,_⟩:=h2.uF r2;cases q
  | lst us=>obtain⟨_,_,_,q,_⟩:=h2.uM p r2;cases q
  | _=>exact nomatch h2.flat r2
 | .err c f t,u,d,e,x,h1,h2,r1,r2=>by
  obtain⟨a,C,dx,w,y,rfl,⟨g1,g2,g3⟩,g4,g5⟩:=h1.tV r1;cases u with
  | err c' f' t'=>
   obtain⟨a',C',KP,w',y',q,⟨k1,k2,k3⟩,k4,k5⟩:=h2.tV r2;cases q;obtain⟨rfl,rfl⟩:=Oc I g2 k2;rw[g3] at k3;cases k3;cases g1.inj k1;rw[mx I p t t' g4 k4 g5 k5]
  | yN=>obtain⟨_,_,q,g⟩:=h2.sZ p r2;cases q;exact (cP I g g2).elim
  | tup us=>obtain⟨_,_,_,q,k1,_⟩:=h2.uF r2;cases q;exact (cJ I k1 g2).elim
  | lst us=>obtain⟨_,_,_,q,k1,_⟩:=h2.uM p r2;cases q;exact (cM I k1 g2).elim
  | _=>exact nomatch h2.flat r2
 | .yN,u,d,e,x,h1,h2,r1,r2=>by
  obtain⟨a,vs,rfl,g⟩:=h1.sZ p r1;cases u with
  | yN=>rfl
  | err _ _ _=>obtain⟨_,_,_,_,_,q,g',_⟩:=h2.tV r2;cases q;exact (cP I g g'.2.1).elim
  | tup us=>obtain⟨_,_,_,q,g1,_⟩:=h2.uF r2;cases q;exact (cK I g1 g).elim
  | lst us=>obtain⟨_,_,_,q,g1,_⟩:=h2.uM p r2;cases q;exact (cN I g1 g).elim
  | _=>exact nomatch h2.flat r2
theorem jf (I:Inv X EM Y H s) (p:zJ X.K H S):∀ (ts us:List T) {ds es:List D}{xs:List V},zj S ts ds->zj S us es->zl X.K H ds xs->zl X.K H es xs->ts=us
 | [],us,ds,es,xs,h1,h2,r1,r2=>by
  have e:=h1.length.trans (r1.length.trans (r2.length.symm.trans h2.length.symm));cases us with
  | nil=>rfl
  | cons _ _=>simp at e
 | t::ts,[],ds,es,xs,h1,h2,r1,r2=>by
  have e:=h1.length.trans (r1.length.trans (r2.length.symm.trans h2.length.symm));simp at e
 | t::ts,u::us,ds,es,xs,h1,h2,r1,r2=>by
  simp only[zj] at h1 h2;obtain⟨c,cs,rfl,a1,a2⟩:=h1;obtain⟨c',cs',rfl,b1,b2⟩:=h2;simp only[zl] at r1 r2;obtain⟨y,ys,rfl,g1,g2⟩:=r1;obtain⟨y',Jy,q,k1,k2⟩:=r2;cases q;rw[mx I p t u a1 b1 g1 k1,jf I p ts us a2 b2 g2 k2]
end
theorem zj.get {ts:List T}{ds:List D}(h:zj S ts ds):∀ {j:Nat},j<ts.length->∃ c,ds[j]?=some c/\Sn S (ts.getD j .zo) c:=by
 induction ts generalizing ds with
 | nil=>intro j hj;simp at hj
 | cons t ts ih=>
  intro j hj;simp only[zj] at h;obtain⟨c,cs,rfl,h1,h2⟩:=h;cases j with
  | zero=>exact⟨c,rfl,h1⟩
  | succ j=>
   obtain⟨c',e,h3⟩:=ih h2 (j:=j) (by simpa using hj);exact⟨c',by simpa using e,by simpa using h3⟩
theorem lI:∀ {ts:List T}{j:Nat},j<ts.length->dep (ts.getD j .zo)<=yW ts
 | [],j,h=>by simp at h
 | t::ts,0,_=>by simp only[yW,List.getD_cons_zero];lia
 | t::ts,j+1,h=>by
  have:=lI (ts:=ts) (j:=j) (by simpa using h);simp only[yW,List.getD_cons_succ];lia
inductive qc (K:Ab) (H:Hp) (S:SS) (s:Shared):T->Value->Prop
 | zo:qc K H S s .zo .none
 | bl {b:Bool}:qc K H S s (.bl b) (.bool b)
 | int {i:Int}{k:Tok}:qc K H S s (.int i) (.int i k)
 | str {i:Str}{k:Tok}:qc K H S s (.str i) (.str i k)
 | tup {ts:List T}{ds:List D}{xs:List V}{us:Ae}{l:Addr}(g:zj S ts ds) (r:zl K H ds xs) (v:Vals xs us) (h:s.heap.IsTuple l us.toArray):qc K H S s (.tup ts) (.ref l)
 | lst {ts:List T}{ds:List D}{xs:List V}{us:Ae}{l:Addr}(g:zj S ts ds) (r:zl K H ds xs) (v:Vals xs us) (h:s.heap.IsList l us.toArray):qc K H S s (.lst ts) (.ref l)
theorem eh (I:Inv X EM Y H s) (p:zJ X.K H S) {t:T}{d:D}{x:V}{a:Value}(h:Sn S t d) (r:zg X.K H d x) (v:RelV x a) (z:dep t<cLine):qc X.K H S s t a:=by
 cases t with
 | zo=>have q:=h.flat r;subst q;cases v;exact .zo
 | bl _=>have q:=h.flat r;subst q;cases v;exact .bl
 | int _=>have q:=h.flat r;subst q;obtain⟨_,rfl⟩:=v;exact .int
 | str _=>have q:=h.flat r;subst q;obtain⟨_,rfl⟩:=v;exact .str
 | tup _=>obtain⟨l,xs,ds,rfl,g,r,q⟩:=h.uF r;cases v;obtain⟨_,w,i,_⟩:=I.tuple g;exact .tup q r w i
 | lst _=>obtain⟨l,xs,ds,rfl,g,r,q⟩:=h.uM p r;cases v;obtain⟨_,w,i,_⟩:=I.list g;exact .lst q r w i.isList
 | _=>simp only[dep] at z;lia
abbrev J3 (A:Around) (s:Shared) (a b:Value) (k:Bool):Prop:=SeqAt.EqAt A s a b k/\SeqAt.RcAt A s a b k/\SeqAt.RcNeAt A s a b (!k)
theorem M8 (I:Inv X EM Y H s) (p:zJ X.K H S):∀ (n:Nat) (t u:T) {A:Around}{d e:D}{x y:V}{a b:Value},dep t<n->A.units+dep t<cLine->A.units+dep u<cLine->Sn S t d->Sn S u e->zg X.K H d x->zg X.K H e y->RelV x a->RelV y b->J3 A s a b (eqT t u):=by
 intro n
 induction n with
 | zero=>intros;lia
 | succ n ih=>
  intro t u A d e x y a b hn hu HR h1 h2 r1 r2 v1 v2;have hq:a=b->t=u:=λ z=>by subst z;have:=v1.inj v2;subst this;exact mx I p t u h1 h2 r1 r2
  have c1:=eh I p h1 r1 v1 (by lia);have c2:=eh I p h2 r2 v2 (by lia);clear h1 h2 r1 r2 v1 v2;have hA:A.units<cLine:=by lia
  have el:∀ {ts us:List T}{ds Hz:List D}{xs Fg:List V}{is IE:Ae},1+yW ts<n+1->A.units+(1+yW ts)<cLine->A.units+(1+yW us)<cLine->zj S ts ds->zj S us Hz->zl X.K H ds xs->zl X.K H Hz Fg->Vals xs is->Vals Fg IE->is.toArray.size=ts.length/\IE.toArray.size=us.length/\
    ∀ (j:Nat) (h1:j<is.toArray.size) (h2:j<IE.toArray.size),SeqAt.EqAt A.in1 s is.toArray[j] IE.toArray[j] (eqT (ts.getD j .zo) (us.getD j .zo)):=by
   intro ts us ds Hz xs Fg is IE a1 a2 a3 g1 g2 r1 r2 v1 v2;have e1:is.toArray.size=ts.length:=by rw[Az,<- v1.length,<- r1.length,<- g1.length]
   have e2:IE.toArray.size=us.length:=by rw[Az,<- v2.length,<- r2.length,<- g2.length]
   refine⟨e1,e2,λ j h1 h2=>?_⟩;obtain⟨_,k1,s1⟩:=g1.get (e1▸h1);obtain⟨_,k2,s2⟩:=g2.get (e2▸h2);obtain⟨_,f1,q1⟩:=r1.get k1;obtain⟨_,f2,q2⟩:=r2.get k2;obtain⟨w1,o1,m1⟩:=v1.get f1;obtain⟨w2,o2,m2⟩:=v2.get f2;have y1:=lI (e1▸h1);have y2:=lI (e2▸h2);obtain⟨_,z1⟩:=AL.mp o1;obtain⟨_,z2⟩:=AL.mp o2;rw[List.getElem_toArray,List.getElem_toArray,z1,z2];exact (ih _ _ (A:=A.in1) (by lia) (by show A.units+1+_<_;lia) (by show A.units+1+_<_;lia) s1 s2 q1 q2 m1 m2).1
  have en:∀ {l l':Addr}{ts us:List T},(Value.ref l=.ref l'->ts=us)->SeqAt.RcAt A s (.ref l) (.ref l') (yV ts us)/\SeqAt.RcNeAt A s (.ref l) (.ref l') (!yV ts us)->J3 A s (.ref l) (.ref l') (yV ts us):=λ{l l' ts us} h q=>by
   refine⟨?_,q⟩;by_cases z:l=l'
   .subst z;rw[h rfl,lA];exact .same _
   .exact .of_refs z q.1
  cases c1 <;> cases c2 <;> simp only[eqT,CT,CU]
  .exact⟨.same _,.none_none,.none_none⟩
  .exact⟨.none_bool _,.none_bool _,.none_bool _⟩
  .exact⟨.none_int _ _,.none_int _ _,.none_int _ _⟩
  .exact⟨.none_str _ _,.none_str _ _,.none_str _ _⟩
  .exact⟨.none_tuple ‹_› hA,.none_tuple ‹_› hA,.none_tuple ‹_› hA⟩
  .exact⟨.none_list ‹_› hA,.none_list ‹_› hA,.none_list ‹_› hA⟩
  .exact⟨.bool_none _,.bool_none _,.bool_none _⟩
  .exact⟨.bool_bool _ _,.bool_bool _ _,.bool_bool _ _⟩
  .exact⟨.bool_int _ _ _,.bool_int _ _ _,.bool_int _ _ _⟩
  .exact⟨.bool_str _ _ _,.bool_str _ _ _,.bool_str _ _ _⟩
  .exact⟨.bool_tuple _ ‹_› hA,.bool_tuple _ ‹_› hA,.bool_tuple _ ‹_› hA⟩
  .exact⟨.bool_list _ ‹_› hA,.bool_list _ ‹_› hA,.bool_list _ ‹_› hA⟩
  .exact⟨.int_none _ _,.int_none _ _,.int_none _ _⟩
  .exact⟨.int_bool _ _ _,.int_bool _ _ _,.int_bool _ _ _⟩
  .exact⟨.int_int _ _ _ _,.int_int _ _ _ _,.int_int _ _ _ _⟩
  .exact⟨.int_str _ _ _ _,.int_str _ _ _ _,.int_str _ _ _ _⟩
  .exact⟨.int_tuple _ _ ‹_› hA,.int_tuple _ _ ‹_› hA,.int_tuple _ _ ‹_› hA⟩
  .exact⟨.int_list _ _ ‹_› hA,.int_list _ _ ‹_› hA,.int_list _ _ ‹_› hA⟩
  .exact⟨.str_none _ _,.str_none _ _,.str_none _ _⟩
  .exact⟨.str_bool _ _ _,.str_bool _ _ _,.str_bool _ _ _⟩
  .exact⟨.str_int _ _ _ _,.str_int _ _ _ _,.str_int _ _ _ _⟩
  .exact⟨.str_str _ _ _ _,.str_str _ _ _ _,.str_str _ _ _ _⟩
  .exact⟨.str_tuple _ _ ‹_› hA,.str_tuple _ _ ‹_› hA,.str_tuple _ _ ‹_› hA⟩
  .exact⟨.str_list _ _ ‹_› hA,.str_list _ _ ‹_› hA,.str_list _ _ ‹_› hA⟩
  .exact⟨.tuple_none ‹_› hA,.tuple_none ‹_› hA,.tuple_none ‹_› hA⟩
  .exact⟨.tuple_bool _ ‹_› hA,.tuple_bool _ ‹_› hA,.tuple_bool _ ‹_› hA⟩
  .exact⟨.tuple_int _ _ ‹_› hA,.tuple_int _ _ ‹_› hA,.tuple_int _ _ ‹_› hA⟩
  .exact⟨.tuple_str _ _ ‹_› hA,.tuple_str _ _ ‹_› hA,.tuple_str _ _ ‹_› hA⟩
  .rename_i g1 r1 v1 k1 _ _ _ _ _ g2 r2 v2 k2;simp only[dep] at hn hu HR;obtain⟨e1,e2,q⟩:=el hn hu HR g1 g2 r1 r2 v1 v2;refine en (λ z=>by cases hq z;rfl) ?_;rw[iP,<- e1,<- e2];exact⟨.tuples k1 k2 hA q,.tuples k1 k2 hA q⟩
  .exact⟨.tuple_list ‹_› ‹_› hA,.tuple_list ‹_› ‹_› hA,.tuple_list ‹_› ‹_› hA⟩
  .exact⟨.list_none ‹_› hA,.list_none ‹_› hA,.list_none ‹_› hA⟩
  .exact⟨.list_bool _ ‹_› hA,.list_bool _ ‹_› hA,.list_bool _ ‹_› hA⟩
  .exact⟨.list_int _ _ ‹_› hA,.list_int _ _ ‹_› hA,.list_int _ _ ‹_› hA⟩
  .exact⟨.list_str _ _ ‹_› hA,.list_str _ _ ‹_› hA,.list_str _ _ ‹_› hA⟩
  .exact⟨.list_tuple ‹_› ‹_› hA,.list_tuple ‹_› ‹_› hA,.list_tuple ‹_› ‹_› hA⟩
  .rename_i i1 _ g1 r1 v1 k1 _ _ _ i2 _ g2 r2 v2 k2;simp only[dep] at hn hu HR;obtain⟨e1,e2,q⟩:=el hn hu HR g1 g2 r1 r2 v1 v2;refine en (λ z=>by cases hq z;rfl) ?_;rw[iP,<- e1,<- e2];by_cases z:i1.toArray.size=i2.toArray.size
   .rw[<- z,Nat.min_self,beq_self_eq_true,Bool.and_true];exact⟨.lists k1 k2 z hA q,.lists k1 k2 z hA q⟩
   .rw[beq_eq_false_iff_ne.mpr z,CQ];have z':=bne_iff_ne.mpr z;exact⟨.lists_lengths k1 k2 z' hA,.lists_lengths k1 k2 z' hA⟩
theorem gp (I:Inv X EM Y H s) (p:zJ X.K H S) (t u:T) {A:Around}{d e:D}{x y:V}{a b:Value}(hu:A.units+dep t<cLine) (HR:A.units+dep u<cLine) (h1:Sn S t d) (h2:Sn S u e) (r1:zg X.K H d x) (r2:zg X.K H e y) (v1:RelV x a) (v2:RelV y b):J3 A s a b (eqT t u):=M8 I p _ t u (Cu _) hu HR h1 h2 r1 r2 v1 v2
end
def j8 (K:Ab) (neg:Bool):R2:=λ x y H Q=>∃ S d e t u,zg K H d x/\zg K H e y/\zJ K H S/\Sn S t d/\Sn S u e/\dep t<=60/\dep u<=60/\Q (.bl (cond neg (!eqT t u) (eqT t u))) H
def vc (neg:Bool):y6:=λ x y S Q=>∃ t u,Sn S t x/\Sn S u y/\dep t<=60/\dep u<=60/\Q (.bl (cond neg (!eqT t u) (eqT t u))) S
theorem vc.mo {neg:Bool}:xh (vc neg):=λ _ _ _ _ _ hq ⟨t,u,a,b,c,d,h⟩=>⟨t,u,a,b,c,d,hq _ _ h⟩
theorem vc.fits {K:Ab}{neg:Bool}:yS K (vc neg) (j8 K neg):=λ x y d e H S Q h1 h2 h3 ⟨t,u,a,b,c,c',h⟩=>⟨S,d,e,t,u,h1,h2,h3,a,b,c,c',h _ H (by simp only[zg]) (.refl H) h3⟩
section
variable {X:Cx}{a b:Expr}{ta tb:zr}{pos:Pos}
theorem du (hu:X.A.units+64<cLine):zV X (compareOp .Eq) (j8 X.K false):=by
 intro EM s Y H x y v u Q I rx ry h;obtain⟨S,d,e,t,u',a1,a2,a3,a4,a5,a6,a7,q⟩:=h;exact (gp I a3 t u' (A:=X.A) (by lia) (by lia) a4 a5 a1 a2 rx ry).2.1 X.prog X.w X.xe _ ⟨.bl _,H,I,rfl,q⟩
theorem TL (hu:X.A.units+64<cLine):zV X (compareOp .NotEq) (j8 X.K true):=by
 intro EM s Y H x y v u Q I rx ry h;obtain⟨S,d,e,t,u',a1,a2,a3,a4,a5,a6,a7,q⟩:=h;exact (gp I a3 t u' (A:=X.A) (by lia) (by lia) a4 a5 a1 a2 rx ry).2.2 X.prog X.w X.xe _ ⟨.bl _,H,I,rfl,q⟩
theorem Tn {k:Nat}(hr:yi k X.A) (ha:PD X a ta) (hb:PD X b tb):PD X (.Compare a [.Eq] [b] pos) (yf (vc false) ta tb):=ot (du hr.units) vc.fits vc.mo ha hb (um _)
theorem VQ {k:Nat}(hr:yi k X.A) (ha:PD X a ta) (hb:PD X b tb):yQ X (.Compare a [.Eq] [b] pos) (w9 (yf (vc false) ta tb)):=tK (du hr.units) vc.fits vc.mo ha hb (um _)
theorem VI {k:Nat}(hr:yi k X.A) (ha:PD X a ta) (hb:PD X b tb):yQ X (.Compare a [.NotEq] [b] pos) (w9 (yf (vc true) ta tb)):=tK (TL hr.units) vc.fits vc.mo ha hb (um _)
def j7 (K:Ab) (neg:Bool):R2:=λ x y H Q=>∃ S d e u ts ds,zg K H d x/\zg K H e y/\zJ K H S/\Sn S u d/\zO e S=some ds/\zj S ts ds/\dep u<=60/\yW ts<=60/\Q (.bl (cond neg (!(ts.any λ t=>eqT t u)) (ts.any λ t=>eqT t u))) H
def vb (neg:Bool):y6:=λ x y S Q=>∃ u ts ds,Sn S u x/\zO y S=some ds/\zj S ts ds/\dep u<=60/\yW ts<=60/\Q (.bl (cond neg (!(ts.any λ t=>eqT t u)) (ts.any λ t=>eqT t u))) S
theorem vb.mo {neg:Bool}:xh (vb neg):=λ _ _ _ _ _ hq ⟨u,ts,ds,a,b,c,d,e,h⟩=>⟨u,ts,ds,a,b,c,d,e,hq _ _ h⟩
theorem vb.fits {K:Ab}{neg:Bool}:yS K (vb neg) (j7 K neg):=λ x y d e H S Q h1 h2 h3 ⟨u,ts,ds,a,b,c,c',c2,h⟩=>⟨S,d,e,u,ts,ds,h1,h2,h3,a,b,c,c',c2,h _ H (by simp only[zg]) (.refl H) h3⟩
open Classical in
def wB (its:Ae) (ts:List T) (u:T) (v:Value):Bool:=if h:∃ j,its[j]?=some v then eqT (ts.getD (Classical.choose h) .zo) u else false
theorem gj {EM:Ag}{Y:St}{H:Hp}{s:Shared}{S:SS}(I:Inv X EM Y H s) (p:zJ X.K H S) {ts:List T}{ds:List D}{xs:List V}{its:Ae}(h1:zj S ts ds) (h2:zl X.K H ds xs) (h3:Vals xs its) (u:T) {j:Nat}{v:Value}(hj:its[j]?=some v):
  wB its ts u v=eqT (ts.getD j .zo) u:=by
 have h:∃ j,its[j]?=some v:=⟨j,hj⟩
 unfold wB;rw[dif_pos h];have hc:=Classical.choose_spec h;have lt:∀ i,its[i]?=some v->i<ts.length:=λ i hi=>by
  rw[h1.length,h2.length,h3.length];exact (AL.mp hi).1
 obtain⟨c1,e1,s1⟩:=h1.get (lt _ hc);obtain⟨c2,e2,s2⟩:=h1.get (lt _ hj);obtain⟨x1,f1,r1⟩:=h2.get e1;obtain⟨x2,f2,r2⟩:=h2.get e2;obtain⟨v1,g1,q1⟩:=h3.get f1;obtain⟨v2,g2,q2⟩:=h3.get f2;rw[hc] at g1;cases g1;rw[hj] at g2;cases g2;have hx:=q1.inj q2;subst hx;rw[mx I p _ _ s1 s2 r1 r2]
theorem kA {EM:Ag}{Y:St}{H:Hp}{s:Shared}{S:SS}(I:Inv X EM Y H s) (p:zJ X.K H S) {ts:List T}{ds:List D}{xs:List V}{its:Ae}(h1:zj S ts ds) (h2:zl X.K H ds xs) (h3:Vals xs its) (u:T):its.any (wB its ts u)=ts.any λ t=>eqT t u:=by
 have hl:ts.length=its.length:=by rw[h1.length,h2.length,h3.length]
 rw[BN,A9,A9];constructor
 .rintro⟨v,hv,h⟩;obtain⟨j,hj,rfl⟩:=B_.mp hv;rw[gj I p h1 h2 h3 u (j:=j) (by simp[hj])] at h;have G4:j<ts.length:=by lia
  exact⟨ts[j],B4 G4,by simpa [G4] using h⟩
 .rintro⟨t,ht,h⟩;obtain⟨j,hj,rfl⟩:=B_.mp ht;have G4:j<its.length:=by lia
  exact⟨its[j],B4 G4,by rw[gj I p h1 h2 h3 u (j:=j) (by simp[G4])];simpa [hj] using h⟩
theorem kB {EM:Ag}{Y:St}{H:Hp}{s:Shared}{S:SS}(I:Inv X EM Y H s) (p:zJ X.K H S) {ts:List T}{ds:List D}{xs:List V}{its:Ae}(h1:zj S ts ds) (h2:zl X.K H ds xs) (h3:Vals xs its) {u:T}{d:D}{x:V}{v:Value}(hu:Sn S u d) (hd:zg X.K H d x) (hx:RelV x v) {A:Around}(b1:A.units+yW ts<cLine) (b2:A.units+dep u<cLine) {y:Value}(hy:y∈its):
  SeqAt.EqAt A s y v (wB its ts u y):=by
 obtain⟨j,hj,rfl⟩:=B_.mp hy;have hjt:j<ts.length:=by rw[h1.length,h2.length,h3.length];exact hj
 rw[gj I p h1 h2 h3 u (j:=j) (by simp[hj])];obtain⟨c1,e1,s1⟩:=h1.get hjt;obtain⟨x1,f1,r1⟩:=h2.get e1;obtain⟨v1,g1,q1⟩:=h3.get f1;have:its[j]=v1:=by
  have:=AL.mp g1;exact this.2
 rw[this];have:=lI hjt;exact (gp I p _ u (A:=A) (by lia) b2 s1 hu r1 hd q1 hx).1
theorem dr (hu:X.A.units+64<cLine):zV X (compareOp .In) (j7 X.K false):=by
 intro EM s Y H x y v w Q I rx ry h;obtain⟨S,d,e,u,ts,ds,a1,a2,a3,a4,a5,a6,a7,a8,q⟩:=h;obtain⟨l,xs,rfl,g1,g2⟩:=zO.sq a2 a3 a5;cases ry;rcases g1 with g1 | g1
 .obtain⟨its,w1,pl,_⟩:=I.list g1;refine SeqAt.in_listAt (wB its ts u) pl.isList (λ y hy=>kB I a3 a6 g2 w1 a4 a1 rx (A:=X.A.in1) (by show X.A.units+1+_<_;lia) (by show X.A.units+1+_<_;lia) (by simpa using hy)) ⟨.bl _,H,I,rfl,?_⟩;rw[show its.toArray.any (wB its ts u)=its.any (wB its ts u) by simp,kA I a3 a6 g2 w1];exact q
 .obtain⟨its,w1,pt,_⟩:=I.tuple g1;refine SeqAt.in_tupleAt (wB its ts u) pt (λ y hy=>kB I a3 a6 g2 w1 a4 a1 rx (A:=X.A.in1) (by show X.A.units+1+_<_;lia) (by show X.A.units+1+_<_;lia) (by simpa using hy)) ⟨.bl _,H,I,rfl,?_⟩;rw[show its.toArray.any (wB its ts u)=its.any (wB its ts u) by simp,kA I a3 a6 g2 w1];exact q
theorem TJ (hu:X.A.units+64<cLine):zV X (compareOp .NotIn) (j7 X.K true):=by
 intro EM s Y H x y v w Q I rx ry h;obtain⟨S,d,e,u,ts,ds,a1,a2,a3,a4,a5,a6,a7,a8,q⟩:=h;obtain⟨l,xs,rfl,g1,g2⟩:=zO.sq a2 a3 a5;cases ry;rcases g1 with g1 | g1
 .obtain⟨its,w1,pl,_⟩:=I.list g1;refine SeqAt.notIn_listAt (wB its ts u) pl.isList (λ y hy=>kB I a3 a6 g2 w1 a4 a1 rx (A:=X.A.in1) (by show X.A.units+1+_<_;lia) (by show X.A.units+1+_<_;lia) (by simpa using hy)) ⟨.bl _,H,I,rfl,?_⟩;rw[show its.toArray.any (wB its ts u)=its.any (wB its ts u) by simp,kA I a3 a6 g2 w1];exact q
 .obtain⟨its,w1,pt,_⟩:=I.tuple g1;refine SeqAt.notIn_tupleAt (wB its ts u) pt (λ y hy=>kB I a3 a6 g2 w1 a4 a1 rx (A:=X.A.in1) (by show X.A.units+1+_<_;lia) (by show X.A.units+1+_<_;lia) (by simpa using hy)) ⟨.bl _,H,I,rfl,?_⟩;rw[show its.toArray.any (wB its ts u)=its.any (wB its ts u) by simp,kA I a3 a6 g2 w1];exact q
theorem Ta {k:Nat}(hr:yi k X.A) (ha:PD X a ta) (hb:PD X b tb) (hm:behindInMarks .In b=false):PD X (.Compare a [.In] [b] pos) (yf (vb false) ta tb):=ot (dr hr.units) vb.fits vb.mo ha hb hm
theorem VO {k:Nat}(hr:yi k X.A) (ha:PD X a ta) (hb:PD X b tb) (hm:behindInMarks .In b=false):yQ X (.Compare a [.In] [b] pos) (w9 (yf (vb false) ta tb)):=tK (dr hr.units) vb.fits vb.mo ha hb hm
theorem VG {k:Nat}(hr:yi k X.A) (ha:PD X a ta) (hb:PD X b tb) (hm:behindInMarks .NotIn b=false):yQ X (.Compare a [.NotIn] [b] pos) (w9 (yf (vb true) ta tb)):=tK (TJ hr.units) vb.fits vb.mo ha hb hm
end
end L3
namespace L2
open PySem PySem.Spec PyProof.Rows
section
variable {κ:Type}[DecidableEq κ]
noncomputable def xU (Aa:List (κ × V)) (k:κ):Option V:=(Aa.find? λ kv=>decide (kv.1=k)).map (·.2)
noncomputable def putK (Aa:List (κ × V)) (k:κ) (v:V):List (κ × V):=
 if (Aa.any λ kv=>decide (kv.1=k))=true then Aa.map (λ kv=>if kv.1=k then (kv.1,v) else kv) else Aa++[(k,v)]
theorem jc {p:κ × V}{r:List (κ × V)}{k:κ}(e:p.1=k):xU (p::r) k=some p.2:=by simp[xU,Cq,e]
theorem jd {p:κ × V}{r:List (κ × V)}{k:κ}(e:¬ p.1=k):xU (p::r) k=xU r k:=by simp[xU,Cq,e]
theorem f7 (k:κ):∀ Aa:List (κ × V),(Aa.any λ kv=>decide (kv.1=k))=(xU Aa k).isSome
 | []=>rfl
 | p::r=>by
  rw[BH];by_cases e:p.1=k
  .simp only[jc e,K4 e,Bool.true_or,Option.isSome_some]
  .rw[jd e,KZ e,Bool.false_or];exact f7 k r
theorem cm (Aa:List (κ × V)) (k:κ) (v:V):(putK Aa k v).length<=Aa.length+1:=by
 unfold putK;split
 .rw[AA];lia
 .rw[Cv,A4,C8];lia
theorem ua.PX {o:Option V}{u:Option Value}(r:ua o u):o.isSome=u.isSome:=by
 cases o with
 | none=>cases u with
  | none=>rfl
  | some _=>exact (show False from r).elim
 | some _=>cases u with
  | none=>exact (show False from r).elim
  | some _=>rfl
theorem ua.getD {o:Option V}{u:Option Value}{d:V}{d':Value}(r:ua o u) (rd:RelV d d'):RelV (o.getD d) (u.getD d'):=by
 cases o with
 | none=>cases u with
  | none=>exact rd
  | some _=>exact (show False from r).elim
 | some _=>cases u with
  | none=>exact (show False from r).elim
  | some _=>exact r
theorem KV.val {Aa:List (κ × V)}{vs:List (κ × Value)}(r:KV Aa vs) (k:κ):ua (xU Aa k) (valueAt vs k):=by
 unfold KV at r
 induction r with
 | nil=>exact True.intro
 | @cons p q ps qs h t ih=>
  obtain⟨h1,h2⟩:=h;by_cases e:p.1=k
  .have e':q.1=k:=h1.symm.trans e;have b:valueAt (q::qs) k=some q.2:=by simp[valueAt,Cq,e']
   rw[jc e,b];exact h2
  .have e':¬ q.1=k:=λ z=>e (h1.trans z);have b:valueAt (q::qs) k=valueAt qs k:=by simp[valueAt,Cq,e']
   rw[jd e,b];exact ih
theorem KV.any {Aa:List (κ × V)}{vs:List (κ × Value)}(r:KV Aa vs) (k:κ):(Aa.any λ kv=>decide (kv.1=k))=vs.any λ kv=>decide (kv.1=k):=by
 unfold KV at r
 induction r with
 | nil=>rfl
 | cons h t ih=>rw[BH,BH,ih,h.1]
theorem KV.uH {Aa:List (κ × V)}{vs:List (κ × Value)}(r:KV Aa vs) (k:κ) {y:V}{u:Value}(ry:RelV y u):
  KV (Aa.map λ kv=>if kv.1=k then (kv.1,y) else kv) (vs.map λ kv=>if kv.1=k then (kv.1,u) else kv):=by
 unfold KV at r ⊢
 induction r with
 | nil=>exact .nil
 | @cons p q ps qs h t ih=>
  rw[Au,Au];refine .cons ?_ ih;obtain⟨h1,h2⟩:=h;by_cases e:p.1=k
  .rw[if_pos e,if_pos (h1.symm.trans e)];exact⟨h1,ry⟩
  .rw[if_neg e,if_neg (λ z=>e (h1.trans z))];exact⟨h1,h2⟩
theorem KV.put {Aa:List (κ × V)}{vs:List (κ × Value)}(r:KV Aa vs) (k:κ) {y:V}{u:Value}(ry:RelV y u):KV (putK Aa k y) (stored vs k u):=by
 unfold putK stored;rw[r.any k];by_cases e:(vs.any λ kv=>decide (kv.1=k))=true
 .rw[if_pos e,if_pos e];exact r.uH k ry
 .rw[if_neg e,if_neg e];exact Paired.snoc r ⟨rfl,ry⟩
theorem KV.length {Aa:List (κ × V)}{vs:List (κ × Value)}(r:KV Aa vs):Aa.length=vs.length:=Paired.length r
end
theorem lj {P:Program}{w:World}{k:Key}{u:Value}(r:RelV (kV k) u):(wu P w).is k u=true:=by
 cases k with
 | inl i=>obtain⟨t,e⟩:=(show ∃ t,u=Value.int i t from r);subst e;exact QX P w i t
 | inr x=>obtain⟨t,e⟩:=(show ∃ t,u=Value.str x t from r);subst e;exact QW P w x t
theorem cC {P:Program}{w:World}:∀ {ks:List Key}{us:Ae},Vals (ks.map kV) us->ItemsAre (wu P w) ks us
 | [],_,r=>by rw[A_] at r;cases r;exact .nil
 | k::ks,_,r=>by
  rw[Au] at r;cases r with
  | cons h t=>exact .cons (lj h) (cC t)
abbrev KT (H:Hp):List (List Key×V)->List (List Key×Addr×Value)->Prop:=Paired λ p q=>p.1=q.1/\H q.2.1=some (.tup (p.1.map kV))/\RelV p.2 q.2.2
theorem KT.val {H:Hp}{Aa:List (List Key×V)}{xs:List (List Key×Addr×Value)}(r:KT H Aa xs) (k:List Key):ua (xU Aa k) ((atKey xs k).map (·.2)):=by
 induction r with
 | nil=>exact True.intro
 | @cons p q ps qs h t ih=>
  obtain⟨h1,_,h2⟩:=h;by_cases e:p.1=k
  .have e':q.1=k:=h1.symm.trans e;have b:atKey (q::qs) k=some q.2:=by simp[atKey,Cq,e']
   rw[jc e,b];exact h2
  .have e':¬ q.1=k:=λ z=>e (h1.trans z);have b:atKey (q::qs) k=atKey qs k:=by simp[atKey,Cq,e']
   rw[jd e,b];exact ih
theorem KT.uH {H:Hp}{Aa:List (List Key×V)}{xs:List (List Key×Addr×Value)}(r:KT H Aa xs) (k:List Key) {y:V}{u:Value}(ry:RelV y u):
  KT H (Aa.map λ kv=>if kv.1=k then (kv.1,y) else kv) (xs.map (putAt k u)):=by
 induction r with
 | nil=>exact .nil
 | @cons p q ps qs h t ih=>
  rw[Au,Au];refine .cons ?_ ih;obtain⟨h1,h2,h3⟩:=h;unfold putAt;by_cases e:p.1=k
  .rw[if_pos e,if_pos (h1.symm.trans e)];exact⟨h1,h2,ry⟩
  .rw[if_neg e,if_neg (λ z=>e (h1.trans z))];exact⟨h1,h2,h3⟩
theorem KT.put {H:Hp}{Aa:List (List Key×V)}{xs:List (List Key×Addr×Value)}(r:KT H Aa xs) (k:List Key) {b:Addr}{y:V}{u:Value}(hb:H b=some (.tup (k.map kV))) (ry:RelV y u):
  KT H (putK Aa k y) (storedH xs k b u):=by
 have e:(Aa.any λ kv=>decide (kv.1=k))=(atKey xs k).isSome:=by
  rw[f7,(r.val k).PX,Option.isSome_map]
 unfold putK storedH;rw[e];by_cases q:(atKey xs k).isSome=true
 .rw[if_pos q,if_pos q];exact r.uH k ry
 .rw[if_neg q,if_neg q];exact Paired.snoc r ⟨rfl,hb,ry⟩
theorem KT.keeps {H H':Hp}{Aa:List (List Key×V)}{xs:List (List Key×Addr×Value)}(r:KT H Aa xs) (ht:∀ b ys,H b=some (.tup ys)->H' b=some (.tup ys)):KT H' Aa xs:=
 Paired.mX r λ _ _ z=>⟨z.1,ht _ _ z.2.1,z.2.2⟩
section
variable {P:Program}{w:World}{H:Hp}{h:Heap}{a:Addr}
theorem eJ {u:HO}(ok:yG P w H h) (e:Rd H a u):yJ P w H h a u:=e.ok ok
theorem qT {Aa:List (Key×V)}(ok:yG P w H h) (e:Rd H a (.dK Aa)):Aa.length<=sizeLine/\(a == sysModules)=false/\∃ vs,KV Aa vs/\h.DictOf (wu P w) a vs:=
 show yJ P w H h a (.dK Aa) from eJ ok e
theorem N0 {Aa:List (Key×V)}(ok:yG P w H h) (e:H a=some (.dK Aa)):Aa.length<=sizeLine/\(a == sysModules)=false/\∃ vs,KV Aa vs/\h.DictOf (wu P w) a vs:=qT ok (.inl e)
theorem lh {ks:List Key}(ok:yG P w H h) (e:H a=some (.tup (ks.map kV))):(tupleKind (wu P w)).is h ks a:=by
 obtain⟨_,its,r,o,h1,h2,n,h3⟩:=(show yJ P w H h a (.tup (ks.map kV)) from ok a _ e)
 exact⟨o,its.toArray,n,h1,h2,h3,by simpa using cC r⟩
theorem oZ {Aa:List (List Key×V)}(ok:yG P w H h) (e:Rd H a (.dT Aa)):Aa.length<=sizeLine/\(a == sysModules)=false/\
  ∃ xs,KT H Aa xs/\h.DictOfH (tupleKind (wu P w)) a xs:=by
 obtain⟨z,y,xs,r,o,es,ep,h1,h2,h3,h4,h5⟩:=(show yJ P w H h a (.dT Aa) from eJ ok e)
 refine⟨z,y,xs,r,o,es,ep,h1,h2,h3,h4,λ x hx=>?_,h5⟩;have all:∀ {l:List (List Key×V)}{m:List (List Key×Addr×Value)},KT H l m->∀ x∈m,(tupleKind (wu P w)).is h x.1 x.2.1:=by
  intro l m q
  induction q with
  | nil=>intro x hx;exact nomatch hx
  | @cons p q ps qs hq t ih=>
   intro x hx;rcases Ai.mp hx with e | hx
   .subst e;exact lh ok (by rw[<- hq.1];exact hq.2.1)
   .exact ih x hx
 exact all r x hx
theorem Nv {Aa:List (List Key×V)}(ok:yG P w H h) (e:H a=some (.dT Aa)):Aa.length<=sizeLine/\(a == sysModules)=false/\
  ∃ xs,KT H Aa xs/\h.DictOfH (tupleKind (wu P w)) a xs:=oZ ok (.inl e)
end
def sA (H:Hp) (a:Addr) (y:V) (r:Option V):Prop:=
 (∃ Aa k,Rd H a (.dK Aa)/\y=kV k/\r=xU Aa k)\/∃ Aa k b,Rd H a (.dT Aa)/\y=.ref b/\H b=some (.tup (k.map kV))/\r=xU Aa k
def mm (H:Hp) (a:Addr) (y v:V) (H':Hp):Prop:=
 (∃ Aa k,H a=some (.dK Aa)/\y=kV k/\Aa.length<sizeLine/\H'=upd H a (.dK (putK Aa k v)))\/
 ∃ Aa k b,H a=some (.dT Aa)/\y=.ref b/\H b=some (.tup (k.map kV))/\Aa.length<sizeLine/\H'=upd H a (.dT (putK Aa k v))
theorem sA.k {H:Hp}{a:Addr}{Aa:List (Key×V)}{k:Key}(e:H a=some (.dK Aa)):sA H a (kV k) (xU Aa k):=.inl ⟨Aa,k,.inl e,rfl,rfl⟩
theorem mm.k {H:Hp}{a:Addr}{Aa:List (Key×V)}{k:Key}{v:V}(e:H a=some (.dK Aa)) (hl:Aa.length<sizeLine):mm H a (kV k) v (upd H a (.dK (putK Aa k v))):=.inl ⟨Aa,k,e,rfl,hl,rfl⟩
section
variable {X:Cx}{EM:Ag}{Y:St}{H:Hp}{s:Shared}{a:Addr}{y v:V}{u r:Value}{o:Option V}{A:Around}{E:Ad}
theorem Inv.big (I:Inv X EM Y H s):sysModules<s.heap.objs.size:=by
 have h:mainGlobals<s.heap.objs.size:=(I.mod.glob.keeps I.bk).lt;exact C7 (by decide) h
theorem N8 {Q:Ad}(hu:A.units+1<cLine) (I:Inv X EM Y H s) (g:sA H a y (some v)) (ry:RelV y u) (h:∀ w' s',Inv X EM Y H s'->RelV v w'->Q w' s'):
  wpAny (model X.prog X.w) A (getItem (.ref a) u) Q E s:=by
 rcases g with ⟨Aa,k,e,ey,l⟩ | ⟨Aa,k,b,e,ey,eb,l⟩
 .subst ey;obtain⟨z,hd,vs,rel,dd⟩:=qT I.zv e;obtain⟨w',hw,Hg⟩:=ua.some_of (v:=v) (o:=valueAt vs k) (by rw[l];exact rel.val k);exact wpAny_getItem_of (lj ry) dd.mapOf hw (h w' _ (I.tok _) Hg)
 .subst ey;cases (show u=Value.ref b from ry);obtain⟨z,hd,xs,rel,dd⟩:=oZ I.zv e;obtain⟨w',hw,Hg⟩:=ua.some_of (v:=v) (o:=(atKey xs k).map (·.2)) (by rw[l];exact rel.val k);obtain⟨p,hp,qN⟩:=AE.mp hw;refine wpAny_getItem_heap (tupleKind_room_in1 hu) (lh I.zv eb) dd hp ?_;rw[qN];exact h w' _ (I.tok _) Hg
theorem bR {h':Heap}{t':Nat}{ob:HO}(I:Inv X EM Y H s) (mu:nJ (H a)) (hs:Heap.SameBut a s.heap h') (he:∃ q,h'.get? a=some q) (new:yJ X.prog X.w (upd H a ob) h' a ob):
  Inv X EM Y (upd H a ob) { s with heap:=h',toks:=t' }:=
 I.write (x:=a) (e:=a) mu (.inl rfl) (λ b q hb z=>(hs.2 b hb).trans z) he new
theorem N1 {P:Program}{w:World}{H':Hp}{h':Heap}{Aa:List (Key×V)}{vs:List (Key×Value)}(z:Aa.length<=sizeLine) (hd:(a == sysModules)=false) (rel:KV Aa vs) (dd:h'.DictOf (wu P w) a vs):
  yJ P w H' h' a (.dK Aa):=⟨z,hd,vs,rel,dd⟩
theorem N6 {H':Hp}{Q:Unit->Shared->Prop}(hu:A.units+1<cLine) (I:Inv X EM Y H s) (g:mm H a y v H') (ry:RelV y u) (rv:RelV v r) (h:∀ s',Inv X EM Y H' s'->Q () s'):
  wpAny (model X.prog X.w) A (setItem (.ref a) u r) Q E s:=by
 rcases g with ⟨Aa,k,e,ey,l,eH⟩ | ⟨Aa,k,b,e,ey,eb,l,eH⟩
 .subst ey eH;obtain⟨z,hd,vs,rel,dd⟩:=N0 I.zv e;have hz:vs.length<=sizeLine:=by rw[<- rel.length];exact z
  have hl:(putK Aa k v).length<=sizeLine:=by have:=cm Aa k v;lia
  refine wpAny_setItem_pairs (hsz:=hz) (lj ry) dd λ h' JV hs=>h _ ?_;have he:∃ q,h'.get? a=some q:=let ⟨q,_,_,hq,_⟩:=JV;⟨q,hq⟩
  exact bR I (by rw[e];exact True.intro) hs he (N1 hl hd (rel.put k rv) JV)
 .subst ey eH;cases (show u=Value.ref b from ry);obtain⟨z,hd,xs,rel,dd⟩:=Nv I.zv e;have hz:xs.length<=sizeLine:=by rw[<- Paired.length rel];exact z
  have hl:(putK Aa k v).length<=sizeLine:=by have:=cm Aa k v;lia
  refine wpAny_setItem_heap (hsz:=hz) (tupleKind_room_in1 hu) (lh I.zv eb) dd λ h' JV hs=>h _ ?_;obtain⟨q,es,ep,hq,h2,h3,h4,_,h5⟩:=JV;refine bR I (by rw[e];exact True.intro) hs ⟨q,hq⟩ ⟨hl,hd,_,(rel.put k eb rv).keeps λ c ys ec=>?_,q,es,ep,hq,h2,h3,h4,h5⟩;rw[yj (tN ec e (λ z=>nomatch z))];exact ec
end
section
variable {X:Cx}{EM:Ag}{Y:St}{H:Hp}{s:Shared}{a:Addr}{Aa:List (Key×V)}{A:Around}{E:Ad}
theorem N7 {Q:Ad}(I:Inv X EM Y H s) (e:Rd H a (.dK Aa)) (h:∀ t s',Inv X EM Y H s'->Q (.int Aa.length t) s'):wpAny (model X.prog X.w) A (call (.builtin "len") [.ref a]) Q E s:=by
 obtain⟨z,hd,vs,rel,dd⟩:=qT I.zv e;refine call_len_dict hd dd (by rw[<- rel.length];rw[sizeLine_eq] at z;lia) ?_;rw[<- rel.length];exact h _ _ (I.tok _)
end
def gz (i:Expr):Prop:=∀ ov iv,subscripted i false ov iv=operate [ov,iv] (getItem ov iv)
theorem X6 {prog:Program}{w:World}{A:Around}{E:Ad}{s:Shared}{env:Env}{value slice:Expr}{pos:Pos}{T id:String}{Q:Ad}
  (hl:typeLookup (.type T) "__getitem__"=pure (some (.builtin id))) (hs:gz slice)
  (h:wpAny (model prog w) A (eval value env) (λ o s₁=>wpAny (model prog w) A (eval slice env) (λ i s₂=>s₂.TypeIs o T/\wpAny (model prog w) A (getItem o i) Q E s₂) E s₁) E s):
  wpAny (model prog w) A (eval (.Subscript value slice pos) env) Q E s:=by
 refine Subscript_ (K3 h (λ o s₁ h₁=>K3 h₁ (λ i s₂ h₂=>?_) λ _ _ x=>x) λ _ _ x=>x);obtain⟨hT,h₂⟩:=h₂;unfold subscriptTail;refine JY ?_;rw[getitemInPython_of_ne hT.not_modules];refine JY (wpAny_specialOf hT hl ?_);have fin:wpAny (model prog w) A (subscripted slice false o i) (λ r s₃=>wpAny (model prog w) A (letTemporaryGo value o r >>= λ _=>pure r) Q E s₃) E s₂:=by
  rw[hs o i];exact wpAny_operating (K3 h₂ (λ r s₃ h₃=>JY (wpAny_letTemporaryGo (Ac h₃))) λ _ _ x=>x)
 first
  | exact Ac (JY fin)
  | exact JY (Ac (JY fin))
  | exact JY fin
theorem N3 {X:Cx}{EM:Ag}{Y:St}{H:Hp}{s:Shared}{a:Addr}{y:V}{o:Option V}(I:Inv X EM Y H s) (g:sA H a y o):s.TypeIs (.ref a) "dict":=by
 rcases g with ⟨Aa,k,e,_,_⟩ | ⟨Aa,k,b,e,_,_,_⟩
 .obtain⟨_,_,vs,_,dd⟩:=qT I.zv e;exact dd.typeIs
 .obtain⟨_,_,xs,_,dd⟩:=oZ I.zv e;exact dd.typeIs
def X3 (td ty:TE):TE:=fun Y H Q=>td Y H λ x H1=>ty Y H1 λ y H2=>∃ a v,x=.ref a/\sA H2 a y (some v)/\Q v H2
def Wf (td ty tv:TE):TS:=λ D Y H=>tv Y H λ v H1=>td Y H1 λ x H2=>ty Y H2 λ y H3=>∃ a H4,x=.ref a/\mm H3 a y v H4/\D.nx Y H4
section
variable {X:Cx}{o i value:Expr}{pos pos':Pos}{td ty tv:TE}
theorem V6 (hu:X.A.units+1<cLine) (ho:PE X o td) (hi:PE X i ty) (hs:gz i):PE X (.Subscript o i pos) (X3 td ty):=by
 intro EM s Y H Q I h;refine X6 PySem.F.slot_dict_getitem.lookup hs (zA (ho EM s Y H _ I h) λ u s1 ⟨x,H1,I1,rx,q1⟩=>zA (hi EM s1 Y H1 _ I1 q1) λ iv s2 ⟨y,H2,I2,ry,a,v,ex,g,q2⟩=>?_);subst ex;obtain rfl:u=Value.ref a:=rx;exact⟨N3 I2 g,N8 hu I2 g ry λ w' s3 I3 Hg=>⟨v,H2,I3,Hg,q2⟩⟩
theorem WN (hu:X.A.units+1<cLine) (ho:PE X o td) (hi:PE X i ty) (hv:PE X value tv) (hs:swapsWith value (some (.Subscript o i pos')) pos.line X.env=pure false):
  PS X (.Assign [.Subscript o i pos'] value pos) (Wf td ty tv):=by
 intro EM s Y H D I h;refine wpAny_Assign_Subscript (zA (hv EM s Y H _ I h) λ r s1 ⟨v,H1,I1,rv,q1⟩=>zA (ho EM s1 Y H1 _ I1 q1) λ u s2 ⟨x,H2,I2,rx,q2⟩=>zA (hi EM s2 Y H2 _ I2 q2) λ iv s3 ⟨y,H3,I3,ry,a,H4,ex,g,q3⟩=>?_) hs;subst ex;obtain rfl:u=Value.ref a:=rx;exact N6 hu I3 g ry rv λ s4 I4=>⟨Y,H4,I4,q3⟩
end
theorem N2 {P:Program}{w:World}{H:Hp}(h:Heap) (hb:sysModules<h.objs.size):yJ P w H (h.push { cls:=.type "dict",data:=.dict #[] }) h.objs.size (.dK []):=
 ⟨AV _,beq_eq_false_iff_ne.mpr (Ne.symm (Aw hb)),[],.nil,Heap.DictOf.new h⟩
def X0:TE:=λ _ H Q=>∀ p,H p=none->Q (.ref p) (upd H p (.dK []))
section
variable {X:Cx}{pos:Pos}
theorem V4:PE X (.Dict [] [] pos) X0:=λ EM s Y H Q I h=>
 wpAny_Dict_empty ⟨.ref s.heap.objs.size,_,I.laid (a:=s.heap.objs.size) (o:=.dK []) (t':=s.toks) (λ _ _ q=>KY _ q) (Af _) (N2 s.heap I.big),rfl,h _ (I.zv.fresh (Af _))⟩
end
structure M2 (X:Cx) (o:Expr) (m:Str) (apos:Pos) (e f:Expr) (Al:Pos):Prop where
 base:attributeBase o m X.env (eval o X.env)=eval o X.env
 oS:((backTo Al (starEach [e,f] X.env)).all (λ x=>!x.1)&&(backToKw Al (keywordEach [] X.env)).all (λ x=>x.1.isSome)
  && decide (([e,f]:List Expr).length+([]:List Keyword).length+(if ([]:List Keyword).isEmpty then 0 else 1)<30))=true
 line:(apos.endLine == Al.line)=true
 trees:backTo Al (starEach [e,f] X.env)=[(false,eval e X.env),(false,eval f X.env)]
def Zg (H:Hp) (a:Addr):Prop:=(∃ Aa,Rd H a (.dK Aa))\/∃ Aa,Rd H a (.dT Aa)
theorem P_ {X:Cx}{EM:Ag}{Y:St}{H:Hp}{s:Shared}{a:Addr}(I:Inv X EM Y H s) (d:Zg H a):
  s.TypeIs (.ref a) "dict"/\(∀ b,Value.ref a=.ref b->∃ ob,s.heap.get? b=some ob/\ob.dict=none)/\(a == sysModules)=false:=by
 rcases d with ⟨Aa,e⟩ | ⟨Aa,e⟩
 .obtain⟨_,hd,vs,_,dd⟩:=qT I.zv e;refine⟨dd.typeIs,λ b q=>?_,hd⟩;cases q;obtain⟨ob,_,_,h1,h2,_⟩:=dd;exact⟨ob,h1,h2.2.1⟩
 .obtain⟨_,hd,xs,_,dd⟩:=oZ I.zv e;refine⟨dd.typeIs,λ b q=>?_,hd⟩;cases q;obtain⟨ob,_,_,h1,h2,_⟩:=dd;exact⟨ob,h1,h2.2.1⟩
section
variable {X:Cx}{EM:Ag}{Y:St}{H:Hp}{s:Shared}{a:Addr}{y d:V}{u r:Value}{o:Option V}{A:Around}{E:Ad}
theorem N9 {Q:Ad}(hu:A.units+1<cLine) (I:Inv X EM Y H s) (g:sA H a y o) (ry:RelV y u) (rd:RelV d r) (h:∀ w' s',Inv X EM Y H s'->RelV (o.getD d) w'->Q w' s'):
  wpAny (model X.prog X.w) A (call (.builtin "dict.get") [.ref a,u,r]) Q E s:=by
 rcases g with ⟨Aa,k,e,ey,l⟩ | ⟨Aa,k,b,e,ey,eb,l⟩
 .subst ey;obtain⟨z,hd,vs,rel,dd⟩:=qT I.zv e;refine call_meetsIn PySem.F.slot_dict_get dd.typeIs PySem.F.entry_dict_get (PySem.F.args_dict_get_3 _ _ _) (meets_dict_get_default (wu X.prog X.w) a (lj ry) hd r) ⟨_,dd.mapOf,h _ _ (I.tok _) ?_⟩;rw[l];exact (rel.val k).getD rd
 .subst ey;cases (show u=Value.ref b from ry);obtain⟨z,hd,xs,rel,dd⟩:=oZ I.zv e;refine call_meetsIn PySem.F.slot_dict_get dd.typeIs PySem.F.entry_dict_get (PySem.F.args_dict_get_3 _ _ _) (meetsH_dict_get_default (tupleKind (wu X.prog X.w)) a b hd r) ⟨tupleKind_room_in1 hu,k,xs,lh I.zv eb,dd,h _ _ (I.tok _) ?_⟩;rw[l];exact (rel.val k).getD rd
end
def X2 (td ty tx:TE):TE:=fun Y H Q=>td Y H λ x H1=>∃ a,x=.ref a/\Zg H1 a/\ty Y H1 λ y H2=>tx Y H2 λ z H3=>∃ o,sA H3 a y o/\Q (o.getD z) H3
section
variable {X:Cx}{o e f:Expr}{apos Al:Pos}{td ty tx:TE}
theorem V5 (hu:X.A.units+1<cLine) (ho:PE X o td) (he:PE X e ty) (hf:PE X f tx) (m:M2 X o "get" apos e f Al):PE X (.Call (.Attribute o "get" apos) [e,f] [] Al) (X2 td ty tx):=by
 intro EM s Y H Q I h;refine wpAny_Call_method m.base m.oS m.line PySem.F.plainAttrs_dict PySem.F.slot_dict_get PySem.F.type_dict_get (zA (ho EM s Y H _ I h) λ u s1 ⟨x,H1,I1,rx,a,ex,d,q1⟩=>?_);subst ex;obtain rfl:u=Value.ref a:=rx;obtain⟨t1,t2,_⟩:=P_ I1 d;refine⟨t1,t2,?_⟩;rw[m.trees];refine Calls.callWith_builtin rfl (Calls.evalArgs_plain (Calls.spliced_cons (zA (he EM s1 Y H1 _ I1 q1) λ iv s2 ⟨y,H2,I2,ry,q2⟩=>
  Calls.spliced_cons (zA (hf EM s2 Y H2 _ I2 q2) λ fv s3 ⟨z,H3,I3,rz,ov,g,q3⟩=>Calls.spliced_nil ?_))))
 exact N9 hu I3 g ry rz λ w' s4 I4 Hg=>⟨_,H3,I4,Hg,q3⟩
end
end L2
namespace L3
open PySem PySem.Spec L2
open PyProof.Rows hiding St
noncomputable def vM (Aa:List (Key×D)) (k:Key):Option D:=(Aa.find? λ kv=>decide (kv.1=k)).map (·.2)
noncomputable def putD (Aa:List (Key×D)) (k:Key) (v:D):List (Key×D):=
 if (Aa.any λ kv=>decide (kv.1=k))=true then Aa.map (λ kv=>if kv.1=k then (kv.1,v) else kv) else Aa++[(k,v)]
section
variable {K:Ab}{H:Hp}
theorem yI.val:∀ {Aa:List (Key×D)}{vs:List (Key×V)},yI K H Aa vs->∀ k,(vM Aa k=none/\xU vs k=none)\/∃ d v,vM Aa k=some d/\xU vs k=some v/\zg K H d v
 | _,_,.nil,k=>.inl ⟨rfl,rfl⟩
 | (a,d)::Aa,(b,v)::vs,.cons ⟨e,r⟩ t,k=>by
  have e':a=b:=e;subst e';by_cases h:a=k
  .subst h;exact .inr ⟨d,v,by simp[vM],by simp[xU],r⟩
  .rcases yI.val t k with ⟨h1,h2⟩ | ⟨d',v',h1,h2,h3⟩
   .exact .inl ⟨by simpa [vM,h] using h1,by simpa [xU,h] using h2⟩
   .exact .inr ⟨d',v',by simpa [vM,h] using h1,by simpa [xU,h] using h2,h3⟩
theorem yI.any {Aa:List (Key×D)}{vs:List (Key×V)}(h:yI K H Aa vs) (k:Key):(Aa.any λ kv=>decide (kv.1=k))=vs.any λ kv=>decide (kv.1=k):=by
 induction h with
 | nil=>rfl
 | cons r _ ih=>rw[BH,BH,ih,r.1]
theorem yI.len {Aa:List (Key×D)}{vs:List (Key×V)}(h:yI K H Aa vs):Aa.length=vs.length:=Paired.length h
theorem yI.uH {k:Key}{d:D}{v:V}(r:zg K H d v):∀ {Aa:List (Key×D)}{vs:List (Key×V)},yI K H Aa vs->yI K H (Aa.map λ kv=>if kv.1=k then (kv.1,d) else kv) (vs.map λ kv=>if kv.1=k then (kv.1,v) else kv)
 | _,_,.nil=>.nil
 | (a1,a2)::_,(b1,b2)::_,.cons ⟨e,q⟩ t=>by
  have e':a1=b1:=e;subst e';refine .cons ?_ (yI.uH r t);by_cases hk:a1=k
  .simp[hk,r]
  .simpa [hk] using q
theorem yI.snoc {k:Key}{d:D}{v:V}(r:zg K H d v):∀ {Aa:List (Key×D)}{vs:List (Key×V)},yI K H Aa vs->yI K H (Aa++[(k,d)]) (vs++[(k,v)])
 | _,_,.nil=>.cons ⟨rfl,r⟩ .nil
 | _,_,.cons q t=>.cons q (yI.snoc r t)
theorem yI.put {Aa:List (Key×D)}{vs:List (Key×V)}(h:yI K H Aa vs) (k:Key) {d:D}{v:V}(r:zg K H d v):yI K H (putD Aa k d) (putK vs k v):=by
 unfold putD putK;rw[h.any k];split
 .exact yI.uH r h
 .exact yI.snoc r h
end
section
variable {X:Cx}{o i e f v:Expr}{td ty tx tv:zr}{pos pos' apos Al:Pos}
def ae:zr:=λ _ S Q=>∀ p,S p=none->Q (.ref p) (ups S p (.z_ []))
theorem Tr:PD X (.Dict [] [] pos) ae:=by
 refine⟨λ _ _ _ _ hq z p hp=>hq _ _ (z p hp),PE.imp V4 fun Y H Q hu p hp=>?_⟩;obtain⟨L,S,r1,r2,z⟩:=hu;exact z p (r2.none hp) _ _ (by simp only[zg]) (.new hp _) (r2.ups (.new hp _) ⟨[],yz,.nil⟩)
def ah (td ty:zr):zr:=fun L S Q=>td L S λ x S1=>ty L S1 λ y S2=>∃ p Aa k d,x=.ref p/\y=.int k/\S2 p=some (.z_ Aa)/\vM Aa (.inl k)=some d/\Q d S2
theorem Tq {k:Nat}(hr:yi k X.A) (ho:PD X o td) (hi:PD X i ty) (hs:gz i):PD X (.Subscript o i pos) (ah td ty):=by
 refine⟨fun L S Q Q' hq z=>ho.mo L S _ _ (λ x S1 z=>hi.mo L S1 _ _ (λ y S2 ⟨p,Aa,k,d,a,b,c,e,h⟩=>⟨p,Aa,k,d,a,b,c,e,hq _ _ h⟩) z) z,PE.imp (V6 (i0 hr) ho.pe hi.pe hs) fun Y H Q hu=>?_⟩;obtain⟨L,S,r1,r2,z⟩:=hu;refine zK.go ho.mo r1 r2 z λ x S1 w H1 h1 q1 e1 p1=>?_;refine zK.go hi.mo (r1.ext e1) p1 h1 λ y S2 w2 H2 h2 q2 e2 p2=>?_;obtain⟨p,Aa,k,d,rfl,rfl,c1,c2,h⟩:=h2;simp only[zg] at q1 q2;subst q1 q2;obtain⟨vs,g1,g2⟩:=p2 _ _ c1;rcases yI.val g2 (.inl k) with ⟨n1,_⟩ | ⟨d',v',n1,n2,n3⟩
 .rw[c2] at n1;cases n1
 .rw[c2] at n1;cases n1;exact⟨p,v',rfl,n2▸sA.k (k:=Sum.inl k) g1,h v' H2 n3 (e1.trans e2) p2⟩
def ag (td ty tx:zr):zr:=fun L S Q=>td L S λ x S1=>∃ p,x=.ref p/\(∃ Aa,S1 p=some (.z_ Aa))/\ty L S1 λ y S2=>tx L S2 λ z S3=>∃ k Aa,y=.int k/\S3 p=some (.z_ Aa)/\Q ((vM Aa (.inl k)).getD z) S3
theorem Ts {k:Nat}(hr:yi k X.A) (ho:PD X o td) (he:PD X e ty) (hf:PD X f tx) (m:M2 X o "get" apos e f Al):PD X (.Call (.Attribute o "get" apos) [e,f] [] Al) (ag td ty tx):=by
 refine⟨fun L S Q Q' hq z=>ho.mo L S _ _ (λ x S1 ⟨p,a,b,z⟩=>⟨p,a,b,he.mo L S1 _ _ (λ y S2 z=>hf.mo L S2 _ _ (λ w S3 ⟨k,Aa,a,b,h⟩=>⟨k,Aa,a,b,hq _ _ h⟩) z) z⟩) z,PE.imp (V5 (i0 hr) ho.pe he.pe hf.pe m) fun Y H Q hu=>?_⟩;obtain⟨L,S,r1,r2,z⟩:=hu;refine zK.go ho.mo r1 r2 z λ x S1 w H1 h1 q1 e1 p1=>?_;obtain⟨p,rfl,⟨kvs0,c0⟩,h1⟩:=h1;simp only[zg] at q1;subst q1;obtain⟨vs0,g0,_⟩:=p1 _ _ c0;refine⟨p,rfl,.inl ⟨vs0,.inl g0⟩,?_⟩;refine zK.go he.mo (r1.ext e1) p1 h1 λ y S2 w2 H2 h2 q2 e2 p2=>?_;refine zK.go hf.mo ((r1.ext e1).ext e2) p2 h2 λ y3 S3 w3 H3 h3 q3 e3 p3=>?_;obtain⟨k,Aa,rfl,c1,h⟩:=h3;simp only[zg] at q2;subst q2;obtain⟨vs,g1,g2⟩:=p3 _ _ c1;refine⟨xU vs (.inl k),sA.k (k:=Sum.inl k) g1,?_⟩;rcases yI.val g2 (.inl k) with ⟨n1,n2⟩ | ⟨d',v',n1,n2,n3⟩
 .rw[n1] at h;rw[n2];exact h _ H3 q3 ((e1.trans e2).trans e3) p3
 .rw[n1] at h;rw[n2];exact h _ H3 n3 ((e1.trans e2).trans e3) p3
def af (td ty tv:zr):yA:=λ E L S=>tv L S λ v S1=>td L S1 λ x S2=>ty L S2 λ y S3=>∃ p Aa k,x=.ref p/\y=.int k/\S3 p=some (.z_ Aa)/\Aa.length<sizeLine/\E.nx L (ups S3 p (.z_ (putD Aa (.inl k) v)))
theorem Ext.dK {H:Hp}{p:Addr}{Aa:List (Key×V)}(h:H p=some (.dK Aa)) (o:HO):Ext H (upd H p o):=
 ⟨λ b ys q=>by rw[yj (tN q h (by intro z;cases z))];exact q,λ b ob u q=>by rw[yj (tN q h (by intro z;cases z))];exact q,λ b u q=>by rw[yj (tN q h (by intro z;cases z))];exact q,λ b u q=>by rw[yj (tN q h (by intro z;cases z))];exact q⟩
theorem Ue {k:Nat}(hr:yi k X.A) (ho:PD X o td) (hi:PD X i ty) (hv:PD X v tv) (hs:swapsWith v (some (.Subscript o i pos')) pos.line X.env=pure false):xT X (.Assign [.Subscript o i pos'] v pos) (af td ty tv):=by
 refine⟨λ E E' L S hE z=>hv.mo L S _ _ (λ w S1 z=>ho.mo L S1 _ _ (λ x S2 z=>hi.mo L S2 _ _ (λ y S3 ⟨p,Aa,k,a,b,c,d,h⟩=>⟨p,Aa,k,a,b,c,d,hE.nx _ _ h⟩) z) z) z,PS.imp (WN (i0 hr) ho.pe hi.pe hv.pe hs) λ D Y H hu=>?_⟩;obtain⟨L,S,r1,r2,z⟩:=hu;refine zK.go hv.mo r1 r2 z λ w S1 w1 H1 h1 q1 e1 p1=>?_;refine zK.go ho.mo (r1.ext e1) p1 h1 λ x S2 w2 H2 h2 q2 e2 p2=>?_;refine zK.go hi.mo ((r1.ext e1).ext e2) p2 h2 λ y S3 w3 H3 h3 q3 e3 p3=>?_;obtain⟨p,Aa,k,rfl,rfl,c1,c2,h⟩:=h3;simp only[zg] at q2 q3;subst q2 q3;obtain⟨vs,g1,g2⟩:=p3 _ _ c1;have e4:Ext H3 (upd H3 p (.dK (putK vs (.inl k) w1))):=.dK g1 _;refine⟨p,_,rfl,mm.k (k:=Sum.inl k) g1 (by rw[<- g2.len];exact c2),?_⟩;exact h Y _ ((((r1.ext e1).ext e2).ext e3).ext e4) (((e1.trans e2).trans e3).trans e4) (p3.ups e4 ⟨_,yz,(yI.put g2 _ (zg.ext (e2.trans e3) w q1)).ext e4⟩)
theorem Mj:yy X (.builtin "len") (λ xs H Q=>∃ p Aa,xs=[.ref p]/\H p=some (.dK Aa)/\Q (.int Aa.length) H):=by
 intro EM s Y H xs us Q I r h;obtain⟨p,Aa,rfl,e,q⟩:=h;obtain⟨u,rfl,ru⟩:=vals1 r;cases ru;exact N7 I (.inl e) λ t s' I'=>⟨.int _,H,I',⟨_,rfl⟩,q⟩
def bB:xn:=λ ds S Q=>∃ p Aa,ds=[.ref p]/\S p=some (.z_ Aa)/\Q (.int Aa.length) S
theorem Tp {es:List Expr}{tA:yh}{p:Pos}(hm:X.mg "len"=none) (ha:yR X (e::es) tA) (hg:Gl X "len") (he:starEach (e::es) X.env=(false,eval e X.env)::starEach es X.env) (Aq:(backTo pos (starEach es X.env)).any (·.1)=false):PD X (.Call (.Name "len" p) (e::es) [] pos) (xl bB tA):=
 uk (uI Mj hg hm PySem.boot_len ha.pa (by decide) (by decide) he Aq) (λ _ _ _ _ hq ⟨p,Aa,a,b,h⟩=>⟨p,Aa,a,b,hq _ _ h⟩) (λ xs ds H S Q h0 h2 ⟨p,Aa,a,b,h⟩=>by
  subst a;obtain⟨x,rfl,h1⟩:=h0.one;simp only[zg] at h1;subst h1;obtain⟨vs,g1,g2⟩:=h2 _ _ b;refine⟨p,vs,rfl,g1,?_⟩;rw[<- g2.len];exact h _ H (by simp only[zg]) (.refl H) h2) ha.mo
end
end L3
namespace L3
open PySem L2
section
variable {S S':SS}
mutual
theorem Sn.sx (h:Sx S S'):∀ (t:T) {d:D},Sn S t d->Sn S' t d
 | .zo,d,q=>by simpa only [Sn] using q
 | .bl b,d,q=>by simpa only [Sn] using q
 | .int i,d,q=>by simpa only [Sn] using q
 | .str x,d,q=>by simpa only [Sn] using q
 | .tup ts,d,q=>by
  simp only[Sn] at q ⊢;obtain⟨ds,q1,q2⟩:=q;exact⟨ds,q1,zj.sx h ts q2⟩
 | .lst ts,d,q=>by
  simp only[Sn] at q ⊢;obtain⟨ds,q1,q2⟩:=q;refine⟨ds,?_,zj.sx h ts q2⟩;rcases q1 with q1 | ⟨a,q1,q3⟩
  .exact .inl q1
  .exact .inr ⟨a,q1,h _ _ q3⟩
 | .err _ _ t,d,q=>by
  simp only[Sn] at q ⊢;obtain⟨x,q1,q2⟩:=q;exact⟨x,q1,Sn.sx h t q2⟩
 | .yN,d,q=>by
  simp only[Sn] at q ⊢;obtain⟨a,Aa,q1,q2⟩:=q;exact⟨a,Aa,q1,h _ _ q2⟩
theorem zj.sx (h:Sx S S'):∀ (ts:List T) {ds:List D},zj S ts ds->zj S' ts ds
 | [],ds,q=>by simpa only [zj] using q
 | t::ts,ds,q=>by
  simp only[zj] at q ⊢;obtain⟨c,cs,q1,q2,q3⟩:=q;exact⟨c,cs,q1,Sn.sx h t q2,zj.sx h ts q3⟩
end
theorem zj.nil:zj S [] []:=by simp only[zj]
theorem zj.cons {t:T}{ts:List T}{d:D}{ds:List D}(h:Sn S t d) (h':zj S ts ds):zj S (t::ts) (d::ds):=by
 simp only[zj];exact⟨d,ds,rfl,h,h'⟩
theorem zj.append:∀ {ts us:List T}{ds es:List D},zj S ts ds->zj S us es->zj S (ts++us) (ds++es)
 | [],us,ds,es,h,h'=>by simp only[zj] at h;subst h;simpa using h'
 | t::ts,us,ds,es,h,h'=>by
  simp only[zj] at h;obtain⟨c,cs,rfl,h1,h2⟩:=h;exact zj.cons h1 (zj.append h2 h')
theorem zj.iD:∀ {ts:List T}{ds:List D}{i:Nat}{t:T},zj S ts ds->ts[i]?=some t->∃ d,ds[i]?=some d/\Sn S t d
 | [],_,i,t,_,e=>by simp at e
 | u::ts,ds,i,t,h,e=>by
  simp only[zj] at h;obtain⟨c,cs,rfl,h1,h2⟩:=h;cases i with
  | zero=>simp at e;subst e;exact⟨c,rfl,h1⟩
  | succ i=>
   obtain⟨y,e1,e2⟩:=zj.iD (i:=i) h2 (by simpa using e);exact⟨y,by simpa using e1,e2⟩
theorem zj.iH:∀ {ts:List T}{ds:List D}{i:Nat}{d:D},zj S ts ds->ds[i]?=some d->∃ t,ts[i]?=some t/\Sn S t d
 | [],ds,i,t,h,e=>by simp only[zj] at h;subst h;simp at e
 | u::ts,ds,i,t,h,e=>by
  simp only[zj] at h;obtain⟨c,cs,rfl,h1,h2⟩:=h;cases i with
  | zero=>simp at e;subst e;exact⟨u,rfl,h1⟩
  | succ i=>
   obtain⟨y,e1,e2⟩:=zj.iH (i:=i) h2 (by simpa using e);exact⟨y,by simpa using e1,e2⟩
theorem zj.len {ts:List T}{ds:List D}(h:zj S ts ds):ds.length=ts.length:=(L3.zj.length h).symm
theorem zj.at {ts:List T}{ds:List D}{i:Int}{t:T}(h:zj S ts ds) (e:L2.zB ts i=some t):∃ d,L2.zB ds i=some d/\Sn S t d:=by
 unfold L2.zB at e ⊢;rw[h.len];cases q:L2.xF ts.length i with
 | none=>rw[q] at e;cases e
 | some j=>
  rw[q] at e;exact h.iD e
theorem zj.ej:∀ {ts:List T}{ds:List D}{t:T}{d:D}(i:Nat),zj S ts ds->Sn S t d->zj S (ts.set i t) (ds.set i d)
 | [],ds,t,d,i,h,_=>by simp only[zj] at h;subst h;simpa using zj.nil
 | u::ts,ds,t,d,0,h,hd=>by
  simp only[zj] at h;obtain⟨c,cs,rfl,h1,h2⟩:=h;exact zj.cons hd h2
 | u::ts,ds,t,d,i+1,h,hd=>by
  simp only[zj] at h;obtain⟨c,cs,rfl,h1,h2⟩:=h;exact zj.cons h1 (zj.ej i h2 hd)
theorem zj.take':∀ {ts:List T}{ds:List D}(n:Nat),zj S ts ds->zj S (ts.take n) (ds.take n)
 | ts,ds,0,h=>by simpa using zj.nil
 | [],ds,n+1,h=>by simp only[zj] at h;subst h;simpa using zj.nil
 | t::ts,ds,n+1,h=>by
  simp only[zj] at h;obtain⟨c,cs,rfl,h1,h2⟩:=h;exact zj.cons h1 (zj.take' n h2)
theorem zj.drop':∀ {ts:List T}{ds:List D}(n:Nat),zj S ts ds->zj S (ts.drop n) (ds.drop n)
 | ts,ds,0,h=>h
 | [],ds,n+1,h=>by simp only[zj] at h;subst h;simpa using zj.nil
 | t::ts,ds,n+1,h=>by
  simp only[zj] at h;obtain⟨c,cs,rfl,h1,h2⟩:=h;exact zj.drop' n h2
theorem zj.empty {ts:List T}{ds:List D}(h:zj S ts ds):ds.isEmpty=ts.isEmpty:=by
 have:=h.len;cases ds <;> cases ts <;> simp_all
theorem zj.aF:∀ {bs:List Bool}{ds:List D},zj S (bs.map T.bl) ds->ds=bs.map D.bl
 | [],ds,h=>by simpa only [A_,zj] using h
 | b::bs,ds,h=>by
  rw[Au] at h;simp only[zj,Sn] at h;obtain⟨c,cs,rfl,rfl,h3⟩:=h;rw[zj.aF h3];rfl
end
end L3
namespace L5
open PySem L2 L3
noncomputable def zQ (S:SS) (Z:Addr->Prop):SS:=open Classical in λ a=>if Z a then none else S a
section
variable {S S':SS}{Z Z':Addr->Prop}{a p:Addr}
theorem vT (h:¬ Z a):zQ S Z a=S a:=if_neg h
theorem i3 (h:Z a):zQ S Z a=none:=if_pos h
theorem uN {o:O}(h:zQ S Z a=some o):¬ Z a/\S a=some o:=by
 by_cases z:Z a
 .rw[i3 z] at h;cases h
 .rw[vT z] at h;exact⟨z,h⟩
theorem ly (S:SS) (Z:Addr->Prop):Sx (zQ S Z) S:=λ _ _ h=>(uN h).2
theorem wz (h:Sx S S'):Sx (zQ S Z) (zQ S' Z):=λ b o q=>by
 obtain⟨q1,q2⟩:=uN q;rw[vT q1];exact h _ _ q2
theorem uO (h:∀ a,Z' a->Z a):Sx (zQ S Z) (zQ S Z'):=λ b o q=>by
 obtain⟨q1,q2⟩:=uN q;rw[vT (λ z=>q1 (h _ z))];exact q2
theorem qO (h:Sx S S') (hp:S p=none):Sx (zQ S Z) (zQ S' λ a=>Z a\/a=p):=λ b o q=>by
 obtain⟨q1,q2⟩:=uN q;rw[vT]
 .exact h _ _ q2
 .rintro (z | z)
  .exact q1 z
  .subst z;rw[hp] at q2;cases q2
theorem Ot {o:O}(h:Z p):zQ (ups S p o) Z=zQ S Z:=by
 funext b;by_cases z:Z b
 .rw[i3 z,i3 z]
 .rw[vT z,vT z,t9 (λ e=>z (by rw[e];exact h))]
end
inductive C where
 | lst (ts:List T) | z_ (Aa:List (Key×T))
noncomputable def yu (S:SS):List (Key×T)->List (Key×D)->Prop
 | [],l=>l=[]
 | (k,t)::r,l=>∃ d m,l=(k,d)::m/\Sn S t d/\yu S r m
theorem yu.sx {S S':SS}(h:Sx S S'):∀ {a:List (Key×T)}{b:List (Key×D)},yu S a b->yu S' a b
 | [],_,q=>q
 | (k,t)::r,_,q=>by
  obtain⟨d,m,q1,q2,q3⟩:=q;exact⟨d,m,q1,Sn.sx h t q2,yu.sx h q3⟩
noncomputable def u_ (S:SS):C->O->Prop
 | .lst ts,.lst ds=>zj S ts ds
 | .z_ a,.z_ b=>yu S a b
 | _,_=>False
theorem u_.sx {S S':SS}(h:Sx S S'):∀ {c:C}{o:O},u_ S c o->u_ S' c o
 | .lst ts,.lst ds,q=>zj.sx h ts q
 | .z_ a,.z_ b,q=>yu.sx h q
inductive W where
 | im (t:T) | own (c:C)
abbrev Ev:=List (Option W)
structure ER (S:SS) (Z:Addr->Prop) (L:yd) (J:Ev):Prop where
 zd:∀ a,Z a->S a≠none
 im:∀ (i:Nat) t,J[i]?=some (some (.im t))->∃ d,L[i]?=some (some d)/\Sn (zQ S Z) t d
 ow:∀ (i:Nat) c,J[i]?=some (some (.own c))->∃ p o,L[i]?=some (some (.ref p))/\S p=some o/\u_ (zQ S Z) c o/\Z p
def Vw (S:SS) (Z:Addr->Prop) (y:T) (d:D):Prop:=Sn (zQ S Z) y d\/∃ ts p ds,y=.lst ts/\d=.ref p/\S p=some (.lst ds)/\zj (zQ S Z) ts ds/\Z p
abbrev Rk:=SS->SS->(Addr->Prop)->T->D->Prop
def aW:Rk:=λ _ S' Z y d=>Vw S' Z y d
def yC:Rk:=λ _ S' Z y d=>Sn (zQ S' Z) y d
def zC:Rk:=λ S S' Z y d=>Sn (zQ S' Z) y d/\∀ ts,y=.lst ts->∃ p ds,d=.ref p/\S p=none/\S' p=some (.lst ds)/\zj (zQ S' λ a=>Z a\/a=p) ts ds
class Cl (R:Rk):Prop where
 cl:∀ {S S1 S':SS}{Z:Addr->Prop}{y:T}{d:D},Sx S S1->R S1 S' Z y d->R S S' Z y d
 of:∀ {S S':SS}{Z:Addr->Prop}{y:T}{d:D},(∀ ts,y≠.lst ts)->Sn (zQ S' Z) y d->R S S' Z y d
instance:Cl aW:=⟨λ _ h=>h,λ _ h=>.inl h⟩
instance:Cl yC:=⟨λ _ h=>h,λ _ h=>h⟩
instance:Cl zC:=⟨λ s h=>⟨h.1,λ ts e=>by
 obtain⟨p,ds,h1,h2,h3⟩:=h.2 ts e;exact⟨p,ds,h1,s.none h2,h3⟩⟩,λ n h=>⟨h,λ ts e=>absurd e (n ts)⟩⟩
section
variable {S S':SS}{Z:Addr->Prop}{L:yd}{J:Ev}{y:T}{d:D}
theorem ER.grow (h:ER S Z L J) (s:Sx S S'):ER S' Z L J:=
 ⟨λ a z q=>h.zd a z (s.none q),λ i t e=>by
  obtain⟨d,h1,h2⟩:=h.im i t e;exact⟨d,h1,Sn.sx (wz s) t h2⟩,λ i ts e=>by
  obtain⟨p,ds,h1,h2,h3,h4⟩:=h.ow i ts e;exact⟨p,ds,h1,s _ _ h2,u_.sx (wz s) h3,h4⟩⟩
theorem Vw.grow (h:Vw S Z y d) (s:Sx S S'):Vw S' Z y d:=by
 rcases h with h | ⟨ts,p,ds,h1,h2,h3,h4,h5⟩
 .exact .inl (Sn.sx (wz s) y h)
 .exact .inr ⟨ts,p,ds,h1,h2,s _ _ h3,zj.sx (wz s) ts h4,h5⟩
theorem Vw.sn (h:Vw S Z y d):Sn S y d:=by
 rcases h with h | ⟨ts,p,ds,rfl,rfl,h3,h4,_⟩
 .exact Sn.sx (ly S Z) y h
 .simp only[Sn];exact⟨ds,.inr ⟨p,rfl,h3⟩,zj.sx (ly S Z) ts h4⟩
theorem Vw.zo (h:Vw S Z .zo d):d=.zo:=by
 rcases h with h | ⟨_,_,_,h,_⟩
 .simpa only [Sn] using h
 .cases h
theorem Vw.bl {b:Bool}(h:Vw S Z (.bl b) d):d=.bl b:=by
 rcases h with h | ⟨_,_,_,h,_⟩
 .simpa only [Sn] using h
 .cases h
theorem Vw.int {b:Int}(h:Vw S Z (.int b) d):d=.int b:=by
 rcases h with h | ⟨_,_,_,h,_⟩
 .simpa only [Sn] using h
 .cases h
theorem Vw.str {b:Str}(h:Vw S Z (.str b) d):d=.str b:=by
 rcases h with h | ⟨_,_,_,h,_⟩
 .simpa only [Sn] using h
 .cases h
theorem Vw.tup {ts:List T}(h:Vw S Z (.tup ts) d):∃ ds,d=.tup ds/\zj (zQ S Z) ts ds:=by
 rcases h with h | ⟨_,_,_,h,_⟩
 .simpa only [Sn] using h
 .cases h
theorem Vw.lst {ts:List T}(h:Vw S Z (.lst ts) d):∃ ds,(d=.xv ds\/∃ a,d=.ref a/\S a=some (.lst ds))/\zj (zQ S Z) ts ds:=by
 rcases h with h | ⟨us,p,ds,h1,h2,h3,h4,_⟩
 .simp only[Sn] at h;obtain⟨ds,h1,h2⟩:=h;refine⟨ds,?_,h2⟩;rcases h1 with h1 | ⟨a,h1,h3⟩
  .exact .inl h1.1
  .exact .inr ⟨a,h1,(uN h3).2⟩
 .cases h1;exact⟨ds,.inr ⟨p,h2,h3⟩,h4⟩
noncomputable def xi:T->Option (List T)
 | .tup ts=>some ts
 | .lst ts=>some ts
 | _=>none
@[simp] theorem Wb (ts:List T):xi (.tup ts)=some ts:=rfl
@[simp] theorem ez (ts:List T):xi (.lst ts)=some ts:=rfl
theorem Vw.seq {ts:List T}(h:Vw S Z y d) (e:xi y=some ts):∃ ds,zO d S=some ds/\zj (zQ S Z) ts ds:=by
 cases y with
 | tup us=>cases e;obtain⟨ds,rfl,h2⟩:=h.tup;exact⟨ds,rfl,h2⟩
 | lst us=>
  cases e;obtain⟨ds,h1 | ⟨a,rfl,h1⟩,h2⟩:=h.lst
  .subst h1;exact⟨ds,rfl,h2⟩
  .exact⟨ds,by unfold zO;dsimp only;rw[h1],h2⟩
 | _=>cases e
theorem Vw.yN (h:Vw S Z .yN d):∃ a Aa,(d=.ref a/\Aa=[])/\S a=some (.z_ Aa):=by
 rcases h with h | ⟨_,_,_,h,_⟩
 .simp only[Sn] at h;obtain⟨a,Aa,h1,h2⟩:=h;exact⟨a,Aa,h1,(uN h2).2⟩
 .cases h
theorem fX:Sn S .zo .zo:=by simp only[Sn]
theorem wF {b:Bool}:Sn S (.bl b) (.bl b):=by simp only[Sn]
theorem xB {i:Int}:Sn S (.int i) (.int i):=by simp only[Sn]
theorem fW {x:Str}:Sn S (.str x) (.str x):=by simp only[Sn]
theorem rG {ts:List T}{ds:List D}(h:zj S ts ds):Sn S (.tup ts) (.tup ds):=by simp only[Sn];exact⟨ds,rfl,h⟩
theorem tI {ts:List T}{ds:List D}{p:Addr}(hz:∀ a,Z a->S a≠none) (hp:S p=none) (h:zj (zQ S Z) ts ds):zC S (ups S p (.lst ds)) Z (.lst ts) (.ref p):=by
 have nz:¬ Z p:=λ z=>hz p z hp;have s:Sx S (ups S p (.lst ds)):=.new hp _;refine⟨?_,λ us e=>?_⟩
 .simp only[Sn];exact⟨ds,.inr ⟨p,rfl,by rw[vT nz,sE]⟩,zj.sx (wz s) ts h⟩
 .cases e;exact⟨p,ds,rfl,hp,sE,zj.sx (qO s hp) ts h⟩
end
def xo (R:Rk) (f:Ev->Option T) (t:zr):Prop:=∀ S Z L J y Q,ER S Z L J->f J=some y->(∀ d S',Sx S S'->R S S' Z y d->Q d S')->t L S Q
abbrev vf:=xo yC
abbrev yp:=xo aW
abbrev xp:=xo zC
theorem xo.imp {R R':Rk}{f:Ev->Option T}{t:zr}(h:xo R f t) (i:∀ S S' Z y d,R S S' Z y d->R' S S' Z y d):xo R' f t:=λ S Z L J y Q hE e hq=>h S Z L J y Q hE e λ d S' s r=>hq d S' s (i _ _ _ _ _ r)
theorem xo.er {f:Ev->Option T}{t:zr}(h:vf f t):yp f t:=h.imp λ _ _ _ _ _ r=>.inl r
theorem xo.fe {f:Ev->Option T}{t:zr}(h:xp f t):vf f t:=h.imp λ _ _ _ _ _ r=>r.1
theorem xo.fr {f:Ev->Option T}{t:zr}(h:xp f t):yp f t:=h.fe.er
@[simp] noncomputable def zk (i:Nat):Ev->Option T:=fun J=>match J[i]? with
 | some (some (.im t))=>some t
 | _=>none
@[simp] noncomputable def zc (i:Nat):Ev->Option T:=fun J=>match J[i]? with
 | some (some (.im t))=>some t
 | some (some (.own (.lst ts)))=>some (.lst ts)
 | _=>none
@[simp] noncomputable def cS (t:T):Ev->Option T:=λ _=>some t
@[simp] abbrev cI (i:Int):Ev->Option T:=cS (.int i)
theorem dA (i:Nat):vf (zk i) (yw i):=λ S Z L J y Q hE e hq=>by
 unfold zk at e;split at e
 .rename_i t h;cases e;obtain⟨d,h1,h2⟩:=hE.im i _ h;unfold yw;rw[h1];exact hq d S (.refl S) h2
 .cases e
theorem Rv (i:Nat):yp (zc i) (yw i):=λ S Z L J y Q hE e hq=>by
 unfold zc at e;split at e
 .rename_i t h;cases e;obtain⟨d,h1,h2⟩:=hE.im i _ h;unfold yw;rw[h1];exact hq d S (.refl S) (.inl h2)
 .rename_i ts h;cases e;obtain⟨p,o,h1,h2,h3,h4⟩:=hE.ow i _ h;unfold yw;rw[h1];cases o with
  | z_ _=>exact h3.elim
  | lst ds=>exact hq _ S (.refl S) (.inr ⟨ts,p,ds,rfl,rfl,h2,h3,h4⟩)
 .cases e
theorem Qk (i:Int):xp (cS (.int i)) (dC (.int i)):=λ S Z L J y Q hE e hq=>by cases e;exact hq _ S (.refl S) (Cl.of (λ _=>nofun) xB)
theorem Q5 (i:Bool):xp (cS (.bl i)) (dC (.bl i)):=λ S Z L J y Q hE e hq=>by cases e;exact hq _ S (.refl S) (Cl.of (λ _=>nofun) wF)
theorem R3 (i:Str):xp (cS (.str i)) (dC (.str i)):=λ S Z L J y Q hE e hq=>by cases e;exact hq _ S (.refl S) (Cl.of (λ _=>nofun) fW)
theorem RD:xp (cS .zo) (dC .zo):=λ S Z L J y Q hE e hq=>by cases e;exact hq _ S (.refl S) (Cl.of (λ _=>nofun) fX)
@[simp] noncomputable def zb (f:T->T->Option T) (fa fb:Ev->Option T):Ev->Option T:=fun J=>(fa J).bind λ x=>(fb J).bind λ y=>f x y
def Good2 (R:Rk) (f:T->T->Option T) (g:y6):Prop:=∀ S Z x y z d e Q,(∀ a,Z a->S a≠none)->Vw S Z x d->Vw S Z y e->f x y=some z->(∀ c S',Sx S S'->R S S' Z z c->Q c S')->g d e S Q
theorem tM {R:Rk} [Cl R] {f:T->T->Option T}{g:y6}{fa fb:Ev->Option T}{ta tb:zr}(hg:Good2 R f g) (ha:yp fa ta) (hb:yp fb tb):xo R (zb f fa fb) (yf g ta tb):=λ S Z L J y Q hE e hq=>by
 unfold zb at e;obtain⟨x,e1,e⟩:=Aj.mp e;obtain⟨z,e2,e⟩:=Aj.mp e;refine ha S Z L J x _ hE e1 λ d S1 s1 r1=>?_;refine hb S1 Z L J z _ (hE.grow s1) e2 λ d2 S2 s2 r2=>?_;exact hg S2 Z x z y d d2 Q ((hE.grow (s1.trans s2)).zd) (Vw.grow r1 s2) r2 e λ c S' s r=>hq c S' ((s1.trans s2).trans s) (Cl.cl (s1.trans s2) r)
@[simp] noncomputable def i2 (g:Int->Int->T):T->T->Option T
 | .int i,.int j=>some (g i j)
 | _,_=>none
instance {i j:Int}:Decidable (vL i j):=by unfold vL;infer_instance
instance {i j:Int}:Decidable (xA i j):=by unfold xA;infer_instance
instance {i j:Int}:Decidable (rC i j):=by unfold rC;infer_instance
@[simp] noncomputable def rQ (C:Int->Int->Prop) [∀ i j,Decidable (C i j)] (g:Int->Int->T):T->T->Option T
 | .int i,.int j=>if C i j then some (g i j) else none
 | _,_=>none
theorem l4 {g:Int->Int->T}{g':Int->Int->D}(h:∀ i j S,Sn S (g i j) (g' i j)) (n:∀ i j ts,g i j≠.lst ts):Good2 zC (i2 g) (yM g'):=λ S Z x y z d e Q hz hx hy ef hq=>by
 unfold i2 at ef;split at ef
 .cases ef;cases hx.int;cases hy.int;exact hq _ S (.refl S) (Cl.of (n _ _) (h _ _ _))
 .cases ef
theorem oI {C:Int->Int->Prop} [∀ i j,Decidable (C i j)] {g:Int->Int->T}{g':Int->Int->D}(h:∀ i j S,Sn S (g i j) (g' i j)) (n:∀ i j ts,g i j≠.lst ts):Good2 zC (rQ C g) (fI C g'):=λ S Z x y z d e Q hz hx hy ef hq=>by
 unfold rQ at ef;split at ef
 .split at ef
  .rename_i hh;cases ef;cases hx.int;cases hy.int;exact⟨hh,hq _ S (.refl S) (Cl.of (n _ _) (h _ _ _))⟩
  .cases ef
 .cases ef
@[simp] def wW:T->T->Option T:=i2 λ i j=>.int (i-j)
@[simp] def zS:T->T->Option T:=rQ (λ _ j=>0<j) λ i j=>.int (i%j)
@[simp] def w6:T->T->Option T:=rQ xA λ i j=>.int (i/j)
@[simp] def xx:T->T->Option T:=rQ rC λ i j=>.int (i ^ j.toNat)
@[simp] def tQ:T->T->Option T:=i2 λ i j=>.bl (decide (i<=j))
@[simp] def cZ:T->T->Option T:=i2 λ i j=>.bl (decide (j<i))
@[simp] def oK:T->T->Option T:=i2 λ i j=>.bl (decide (j<=i))
section
variable {fa fb:Ev->Option T}{ta tb:zr}
theorem R0 (ha:yp fa ta) (hb:yp fb tb):xp (zb wW fa fb) (yf (yM λ i j=>.int (i-j)) ta tb):=tM (l4 (λ _ _ _=>xB) λ _ _ _=>nofun) ha hb
theorem RK (ha:yp fa ta) (hb:yp fb tb):xp (zb zS fa fb) (yf (fI (λ _ j=>0<j) λ i j=>.int (i%j)) ta tb):=tM (oI (λ _ _ _=>xB) λ _ _ _=>nofun) ha hb
theorem Qp (ha:yp fa ta) (hb:yp fb tb):xp (zb w6 fa fb) (yf (fI xA λ i j=>.int (i/j)) ta tb):=tM (oI (λ _ _ _=>xB) λ _ _ _=>nofun) ha hb
theorem R7 (ha:yp fa ta) (hb:yp fb tb):xp (zb xx fa fb) (yf (fI rC λ i j=>.int (i ^ j.toNat)) ta tb):=tM (oI (λ _ _ _=>xB) λ _ _ _=>nofun) ha hb
end
def zq (neg:Bool):T->T->Option T:=λ x y=>if dep x<=60/\dep y<=60 then some (.bl (cond neg (!eqT x y) (eqT x y))) else none
def xq (neg:Bool):T->T->Option T:=λ x y=>match xi y with
 | some ts=>if dep x<=60/\yW ts<=60 then some (.bl (cond neg (!(ts.any λ t=>eqT t x)) (ts.any λ t=>eqT t x))) else none
 | none=>none
theorem OC {neg:Bool}:Good2 zC (zq neg) (vc neg):=λ S Z x y z d e Q hz hx hy ef hq=>by
 unfold zq at ef;split at ef
 .rename_i h;cases ef;exact⟨x,y,hx.sn,hy.sn,h.1,h.2,hq _ S (.refl S) (Cl.of (λ _=>nofun) wF)⟩
 .cases ef
theorem OB {neg:Bool}:Good2 zC (xq neg) (vb neg):=λ S Z x y z d e Q hz hx hy ef hq=>by
 unfold xq at ef;split at ef
 .rename_i ts ht;split at ef
  .rename_i h;cases ef;obtain⟨ds,h1,h2⟩:=hy.seq ht;exact⟨x,ts,ds,hx.sn,h1,zj.sx (ly S Z) ts h2,h.1,h.2,hq _ S (.refl S) (Cl.of (λ _=>nofun) wF)⟩
  .cases ef
 .cases ef
@[simp] def zf:T->T->Option T:=λ x y=>match xi x,y with
 | some ts,.int i=>L2.zB ts i
 | _,_=>none
theorem ba:Good2 yC zf xZ:=λ S Z x y z d e Q hz hx hy ef hq=>by
 unfold zf at ef;split at ef
 .rename_i ts i ht;cases hy.int;obtain⟨ds,h1,h2⟩:=hx.seq ht;obtain⟨c,h3,h4⟩:=h2.at ef;unfold zO at h1;split at h1
  .cases h1;exact Nh h3 (hq c S (.refl S) h4)
  .cases h1;exact Ni h3 (hq c S (.refl S) h4)
  .split at h1
   .rename_i q;cases h1;exact Nj q h3 (hq c S (.refl S) h4)
   .cases h1
  .cases h1
 .cases ef
@[simp] noncomputable def yb:T->T->Option T
 | .int i,.int j=>some (.int (i+j))
 | .str i,.str j=>if i.length+j.length<=sizeLine then some (.str (i++j)) else none
 | .lst ts,.lst us=>if ts.length+us.length<=sizeLine then some (.lst (ts++us)) else none
 | .tup ts,.tup us=>if ts.length+us.length<=sizeLine then some (.tup (ts++us)) else none
 | _,_=>none
def vY:y6:=λ x y S Q=>match x,y with
 | .int i,.int j=>Q (.int (i+j)) S
 | .str i,.str j=>i.length+j.length<=sizeLine/\Q (.str (i++j)) S
 | .tup ds,.tup es=>ds.length+es.length<=sizeLine/\Q (.tup (ds++es)) S
 | .zo,_=>False
 | .bl _,_=>False
 | .int _,_=>False
 | .str _,_=>False
 | .tup _,_=>False
 | x,y=>match zO x S,zO y S with
  | some ds,some es=>(∀ ts,y≠.tup ts)/\ds.length+es.length<=sizeLine/\∀ r,S r=none->Q (.ref r) (ups S r (.lst (ds++es)))
  | _,_=>False
theorem good_add:Good2 zC yb vY:=λ S Z x y z d e Q hz hx hy ef hq=>by
 unfold yb at ef;split at ef
 .cases ef;cases hx.int;cases hy.int;exact hq _ S (.refl S) (Cl.of (λ _=>nofun) xB)
 .split at ef
  .rename_i h;cases ef;cases hx.str;cases hy.str;exact⟨h,hq _ S (.refl S) (Cl.of (λ _=>nofun) fW)⟩
  .cases ef
 .split at ef
  .rename_i h;cases ef;obtain⟨ds,h1,h2⟩:=hx.seq rfl;obtain⟨es,h3,h4⟩:=hy.seq rfl;have nt:∀ ts,e≠.tup ts:=by
    obtain⟨_,q | ⟨_,q,_⟩,_⟩:=hy.lst <;> subst q <;> exact λ _=>nofun
   have key:(∀ ts,e≠.tup ts)/\ds.length+es.length<=sizeLine/\∀ r,S r=none->Q (.ref r) (ups S r (.lst (ds++es))):=
    ⟨nt,by rw[h2.len,h4.len];exact h,λ r hr=>hq _ _ (.new hr _) (tI hz hr (h2.append h4))⟩
   obtain⟨_,q | ⟨a,q,_⟩,_⟩:=hx.lst
   .subst q;unfold vY;dsimp only;rw[h1,h3];exact key
   .subst q;unfold vY;dsimp only;rw[h1,h3];exact key
  .cases ef
 .split at ef
  .rename_i h;cases ef;obtain⟨ds,rfl,h2⟩:=hx.tup;obtain⟨es,rfl,h4⟩:=hy.tup;exact⟨by rw[h2.len,h4.len];exact h,hq _ S (.refl S) (Cl.of (λ _=>nofun) (rG (h2.append h4)))⟩
  .cases ef
 .cases ef
def wU (f:Ev->Option Bool) (t:yx):Prop:=∀ S Z L J y Q,ER S Z L J->f J=some y->(∀ S',Sx S S'->Q y S')->t L S Q
@[simp] noncomputable def zP (f:Ev->Option T):Ev->Option Bool:=fun J=>(f J).bind λ x=>match x with
 | .bl b=>some b
 | _=>none
@[simp] noncomputable def sH:T->Option Bool
 | .zo=>some false
 | .bl b=>some b
 | .int i=>some (i != 0)
 | .str x=>if x.length<=sizeLine then some ((x.length:Int) != 0) else none
 | .tup ts=>some (!ts.isEmpty)
 | .lst ts=>some (!ts.isEmpty)
 | .yN=>none
 | .err _ _ _=>none
@[simp] def y4 (f:Ev->Option T):Ev->Option Bool:=fun J=>(f J).bind sH
@[simp] noncomputable def lC (f g:Ev->Option Bool):Ev->Option Bool:=fun J=>(f J).bind λ b=>if b=true then g J else some false
@[simp] noncomputable def sX (f g:Ev->Option Bool):Ev->Option Bool:=fun J=>(f J).bind λ b=>if b=true then some true else g J
@[simp] noncomputable def xr (f:Ev->Option Bool):Ev->Option Bool:=fun J=>(f J).map (!·)
section
variable {f g:Ev->Option T}{t u:zr}{fb gb:Ev->Option Bool}{tb ub:yx}{R:Rk}
theorem Rx (h:yp f t):wU (zP f) (w9 t):=λ S Z L J y Q hE e hq=>by
 obtain⟨x,e1,e2⟩:=Aj.mp e;refine h S Z L J x _ hE e1 λ d S1 s1 r1=>?_;split at e2
 .cases e2;cases Vw.bl r1;exact hq S1 s1
 .cases e2
theorem Rz (h:yp f t):wU (y4 f) (bM t):=λ S Z L J y Q hE e hq=>by
 obtain⟨x,e1,e2⟩:=Aj.mp e;refine h S Z L J x _ hE e1 λ d S1 s1 r1=>?_;cases x with
 | zo=>cases Vw.zo r1;cases e2;exact hq S1 s1
 | bl b=>cases Vw.bl r1;cases e2;exact hq S1 s1
 | int b=>cases Vw.int r1;cases e2;exact hq S1 s1
 | str b=>
  cases Vw.str r1;simp only[sH] at e2;split at e2
  .rename_i hh;cases e2;exact⟨hh,hq S1 s1⟩
  .cases e2
 | tup ts=>
  obtain⟨ds,rfl,h2⟩:=Vw.tup r1;cases e2;show Q (!ds.isEmpty) S1;rw[h2.empty];exact hq S1 s1
 | lst ts=>
  obtain⟨ds,rfl | ⟨a,rfl,h1⟩,h2⟩:=Vw.lst r1
  .cases e2;show Q (!ds.isEmpty) S1;rw[h2.empty];exact hq S1 s1
  .cases e2;refine Xe h1 ?_;rw[h2.empty];exact hq S1 s1
 | _=>cases e2
theorem Qt (h:wU fb tb) (h':wU gb ub):wU (lC fb gb) (oY tb ub):=λ S Z L J y Q hE e hq=>by
 obtain⟨b,e1,e2⟩:=Aj.mp e;refine h S Z L J b _ hE e1 λ S1 s1=>?_;split at e2
 .rename_i hb;rw[if_pos hb];exact h' S1 Z L J y _ (hE.grow s1) e2 λ S2 s2=>hq S2 (s1.trans s2)
 .rename_i hb;rw[if_neg hb];cases e2;exact hq S1 s1
theorem Qq (h:wU fb tb) (h':wU gb ub):wU (sX fb gb) (oW tb ub):=λ S Z L J y Q hE e hq=>by
 obtain⟨b,e1,e2⟩:=Aj.mp e;refine h S Z L J b _ hE e1 λ S1 s1=>?_;split at e2
 .rename_i hb;rw[if_pos hb];cases e2;exact hq S1 s1
 .rename_i hb;rw[if_neg hb];exact h' S1 Z L J y _ (hE.grow s1) e2 λ S2 s2=>hq S2 (s1.trans s2)
theorem Qr (h:wU fb tb):wU (xr fb) (oX tb):=λ S Z L J y Q hE e hq=>by
 unfold xr at e;obtain⟨b,e1,rfl⟩:=AE.mp e;exact h S Z L J b _ hE e1 λ S1 s1=>hq S1 s1
@[simp] noncomputable def vE (f g:Ev->Option T):Ev->Option T:=fun J=>(f J).bind λ x=>match x with
 | .bl k=>if k=true then g J else some (.bl false)
 | _=>none
@[simp] noncomputable def dE (f:Ev->Option T):Ev->Option T:=fun J=>(f J).bind λ x=>match x with
 | .bl k=>some (.bl (!k))
 | _=>none
@[simp] noncomputable def cW (c:Ev->Option Bool) (f g:Ev->Option T):Ev->Option T:=fun J=>(c J).bind λ b=>if b=true then f J else g J
theorem QD [Cl R] (h:yp f t) (h':xo R g u):xo R (vE f g) (nk t u):=λ S Z L J y Q hE e hq=>by
 obtain⟨x,e1,e2⟩:=Aj.mp e;refine h S Z L J x _ hE e1 λ d S1 s1 r1=>?_;split at e2
 .cases Vw.bl r1;split at e2
  .rename_i hb;dsimp only;rw[if_pos hb];exact h' S1 Z L J y _ (hE.grow s1) e2 λ d S2 s2 r2=>hq d S2 (s1.trans s2) (Cl.cl s1 r2)
  .rename_i hb;dsimp only;rw[if_neg hb];cases e2;exact hq _ S1 s1 (Cl.of (λ _=>nofun) wF)
 .cases e2
theorem RC [Cl R] (h:yp f t):xo R (dE f) (nh t):=λ S Z L J y Q hE e hq=>by
 obtain⟨x,e1,e2⟩:=Aj.mp e;refine h S Z L J x _ hE e1 λ d S1 s1 r1=>?_;split at e2
 .cases Vw.bl r1;cases e2;exact hq _ S1 s1 (Cl.of (λ _=>nofun) wF)
 .cases e2
theorem Qm [Cl R] (hc:wU fb tb) (h:xo R f t) (h':xo R g u):xo R (cW fb f g) (ni tb t u):=λ S Z L J y Q hE e hq=>by
 obtain⟨b,e1,e2⟩:=Aj.mp e;refine hc S Z L J b _ hE e1 λ S1 s1=>?_;split at e2
 .rename_i hb;rw[if_pos hb];exact h S1 Z L J y _ (hE.grow s1) e2 λ d S2 s2 r2=>hq d S2 (s1.trans s2) (Cl.cl s1 r2)
 .rename_i hb;rw[if_neg hb];exact h' S1 Z L J y _ (hE.grow s1) e2 λ d S2 s2 r2=>hq d S2 (s1.trans s2) (Cl.cl s1 r2)
end
noncomputable def q_ (S:SS) (Z:Addr->Prop):List T->List D->Prop
 | [],ds=>ds=[]
 | t::ts,ds=>∃ c cs,ds=c::cs/\Vw S Z t c/\q_ S Z ts cs
def rm (f:Ev->Option (List T)) (t:yh):Prop:=∀ S Z L J ys Q,ER S Z L J->f J=some ys->(∀ ds S',Sx S S'->q_ S' Z ys ds->Q ds S')->t L S Q
def ph (f:Ev->Option (List T)) (t:yh):Prop:=∀ S Z L J ys Q,ER S Z L J->f J=some ys->(∀ ds S',Sx S S'->zj (zQ S' Z) ys ds->Q ds S')->t L S Q
@[simp] noncomputable def ze:Ev->Option (List T):=λ _=>some []
@[simp] noncomputable def za (f:Ev->Option T) (g:Ev->Option (List T)):Ev->Option (List T):=fun J=>(f J).bind λ x=>(g J).bind λ xs=>some (x::xs)
section
variable {f:Ev->Option T}{g:Ev->Option (List T)}{t:zr}{u:yh}
theorem Rl:rm ze lK:=λ S Z L J y Q hE e hq=>by cases e;exact hq [] S (.refl S) rfl
theorem Ri:ph ze lK:=λ S Z L J y Q hE e hq=>by cases e;exact hq [] S (.refl S) .nil
theorem Rm (h:yp f t) (h':rm g u):rm (za f g) (rS t u):=λ S Z L J y Q hE e hq=>by
 obtain⟨x,e1,e0⟩:=Aj.mp e;obtain⟨xs,e2,e3⟩:=Aj.mp e0;cases e3;refine h S Z L J x _ hE e1 λ d S1 s1 r1=>?_;refine h' S1 Z L J xs _ (hE.grow s1) e2 λ ds S2 s2 r2=>?_;exact hq _ S2 (s1.trans s2) ⟨d,ds,rfl,Vw.grow r1 s2,r2⟩
theorem Rj (h:vf f t) (h':ph g u):ph (za f g) (rS t u):=λ S Z L J y Q hE e hq=>by
 obtain⟨x,e1,e0⟩:=Aj.mp e;obtain⟨xs,e2,e3⟩:=Aj.mp e0;cases e3;refine h S Z L J x _ hE e1 λ d S1 s1 r1=>?_;refine h' S1 Z L J xs _ (hE.grow s1) e2 λ ds S2 s2 r2=>?_;exact hq _ S2 (s1.trans s2) (.cons (Sn.sx (wz s2) x r1) r2)
@[simp] noncomputable def tupS (g:Ev->Option (List T)):Ev->Option T:=fun J=>(g J).bind λ xs=>if xs.length<=sizeLine then some (.tup xs) else none
@[simp] noncomputable def xc (g:Ev->Option (List T)):Ev->Option T:=fun J=>(g J).bind λ xs=>if xs.length<=sizeLine then some (.lst xs) else none
theorem Rw (h:ph g u):xp (tupS g) (bS u):=λ S Z L J y Q hE e hq=>by
 obtain⟨xs,e1,e2⟩:=Aj.mp e;split at e2
 .rename_i hl;cases e2;refine h S Z L J xs _ hE e1 λ ds S1 s1 r1=>⟨by rw[r1.len];exact hl,hq _ S1 s1 (Cl.of (λ _=>nofun) (rG r1))⟩
 .cases e2
theorem RM (h:ph g u):xp (xc g) (bZ u):=λ S Z L J y Q hE e hq=>by
 obtain⟨xs,e1,e2⟩:=Aj.mp e;split at e2
 .rename_i hl;cases e2;refine h S Z L J xs _ hE e1 λ ds S1 s1 r1=>⟨by rw[r1.len];exact hl,λ p hp=>hq _ _ (s1.trans (.new hp _)) (Cl.cl s1 (tI (hE.grow s1).zd hp r1))⟩
 .cases e2
end
@[simp] noncomputable def zi (F:List T->Option T) (g:Ev->Option (List T)):Ev->Option T:=fun J=>(g J).bind F
def vi (R:Rk) (F:List T->Option T) (f:xn):Prop:=∀ S Z ys z ds Q,(∀ a,Z a->S a≠none)->q_ S Z ys ds->F ys=some z->(∀ c S',Sx S S'->R S S' Z z c->Q c S')->f ds S Q
theorem Qy {R:Rk} [Cl R] {F:List T->Option T}{f:xn}{g:Ev->Option (List T)}{u:yh}(hf:vi R F f) (h:rm g u):xo R (zi F g) (xl f u):=λ S Z L J y Q hE e hq=>by
 obtain⟨xs,e1,e2⟩:=Aj.mp e;refine h S Z L J xs _ hE e1 λ ds S1 s1 r1=>?_;exact hf S1 Z xs y ds Q (hE.grow s1).zd r1 e2 λ c S' s r=>hq c S' (s1.trans s) (Cl.cl s1 r)
@[simp] noncomputable def zN:List T->Option T
 | [.str z]=>if z.length<=sizeLine then some (.int z.length) else none
 | [y]=>(xi y).map λ ts=>.int ts.length
 | _=>none
theorem wV {S:SS}{Z:Addr->Prop}{y:T}{ds:List D}(h:q_ S Z [y] ds):∃ d,ds=[d]/\Vw S Z y d:=by
 obtain⟨c,cs,rfl,h1,h2⟩:=h;cases h2;exact⟨c,rfl,h1⟩
theorem fx {S:SS}{Z:Addr->Prop}{y z:T}{ds:List D}(h:q_ S Z [y,z] ds):∃ d e,ds=[d,e]/\Vw S Z y d/\Vw S Z z e:=by
 obtain⟨c,cs,rfl,h1,c2,cs2,rfl,h2,h3⟩:=h;cases h3;exact⟨c,c2,rfl,h1,h2⟩
theorem O9:vi zC zN vX:=λ S Z ys z ds Q hz hv e hq=>by
 unfold zN at e;split at e
 .obtain⟨d,rfl,h1⟩:=wV hv;split at e
  .rename_i hl;cases e;cases h1.str;exact⟨hl,hq _ S (.refl S) (Cl.of (λ _=>nofun) xB)⟩
  .cases e
 .obtain⟨d,rfl,h1⟩:=wV hv;obtain⟨ts,e1,rfl⟩:=AE.mp e;obtain⟨es,h2,h3⟩:=h1.seq e1;refine Ng h2 ?_;rw[h3.len];exact hq _ S (.refl S) (Cl.of (λ _=>nofun) xB)
 .cases e
@[simp] noncomputable def listS:List T->Option T
 | [y]=>(xi y).map .lst
 | _=>none
theorem O8:vi zC listS vW:=λ S Z ys z ds Q hz hv e hq=>by
 unfold listS at e;split at e
 .obtain⟨d,rfl,h1⟩:=wV hv;obtain⟨ts,e1,rfl⟩:=AE.mp e;obtain⟨es,h2,h3⟩:=h1.seq e1;exact Nf h2 λ p hp=>hq _ _ (.new hp _) (tI hz hp h3)
 .cases e
@[simp] noncomputable def wg:List T->Option T
 | [y]=>(xi y).map .tup
 | _=>none
theorem O0:vi zC wg vV:=λ S Z ys z ds Q hz hv e hq=>by
 unfold wg at e;split at e
 .rename_i y;obtain⟨d,rfl,h1⟩:=wV hv;obtain⟨ts,e1,rfl⟩:=AE.mp e;obtain⟨es,h2,h3⟩:=h1.seq e1;have k:Q (.tup es) S:=hq _ S (.refl S) (Cl.of (λ _=>nofun) (rG h3));unfold zO at h2;split at h2
  .cases h2;exact k
  .cases h2;exact k
  .split at h2
   .rename_i q;cases h2;exact Nd q k
   .cases h2
  .cases h2
 .cases e
@[simp] noncomputable def qL (g:Int->Int->Int):List T->Option T
 | [.int i,.int j]=>some (.int (g i j))
 | _=>none
theorem bc {g:Int->Int->Int}:vi zC (qL g) (v8 λ i j=>.int (g i j)):=λ S Z ys z ds Q hz hv e hq=>by
 unfold qL at e;split at e
 .obtain⟨d,d',rfl,h1,h2⟩:=fx hv;cases e;cases h1.int;cases h2.int;exact hq _ S (.refl S) (Cl.of (λ _=>nofun) xB)
 .cases e
@[simp] def rK:List T->Option T:=qL λ i j=>if j>i then j else i
@[simp] def vt:List T->Option T:=qL λ i j=>if j<i then j else i
noncomputable def wQ:List T->Option (List Bool)
 | []=>some []
 | .bl b::ts=>(wQ ts).map (b::·)
 | _::_=>none
theorem aD:∀ {ts:List T}{bs:List Bool},wQ ts=some bs->ts=bs.map T.bl
 | [],bs,h=>by cases h;rfl
 | .bl b::ts,bs,h=>by
  unfold wQ at h;obtain⟨cs,h1,rfl⟩:=AE.mp h;rw[Au,<- aD h1]
 | .zo::ts,bs,h=>by cases h
 | .int _::ts,bs,h=>by cases h
 | .str _::ts,bs,h=>by cases h
 | .tup _::ts,bs,h=>by cases h
 | .lst _::ts,bs,h=>by cases h
theorem aE (bs:List Bool):wQ (bs.map T.bl)=some bs:=by
 induction bs with
 | nil=>rfl
 | cons b bs ih=>rw[Au];unfold wQ;rw[ih];rfl
@[simp] noncomputable def vB (g:List Bool->Bool):List T->Option T
 | [.lst ts]=>(wQ ts).map λ bs=>.bl (g bs)
 | _=>none
def v9 (g:List Bool->Bool):xn:=λ ds S Q=>match ds with
 | [.tup _]=>False
 | [d]=>∃ bs:List Bool,zO d S=some (bs.map D.bl)/\Q (.bl (g bs)) S
 | _=>False
theorem OD {g:List Bool->Bool}:vi zC (vB g) (v9 g):=λ S Z ys z ds Q hz hv e hq=>by
 unfold vB at e;split at e
 .obtain⟨d,rfl,h1⟩:=wV hv;obtain⟨bs,e1,rfl⟩:=AE.mp e;cases aD e1;obtain⟨es,h2,h3⟩:=h1.seq rfl;cases h3.aF;have key:∃ bs:List Bool,zO d S=some (bs.map D.bl)/\Q (.bl (g bs)) S:=⟨bs,h2,hq _ S (.refl S) (Cl.of (λ _=>nofun) wF)⟩
  obtain⟨_,q | ⟨a,q,_⟩,_⟩:=h1.lst
  .subst q;exact key
  .subst q;exact key
 .cases e
structure FR (S0:SS) (Z0:Addr->Prop) (S:SS) (Z:Addr->Prop) (L:yd) (J:Ev):Prop where
 er:ER S Z L J
 len:L.length=J.length
 sx:Sx S0 S
 z0:∀ a,Z0 a->S0 a≠none
 zz:∀ a,Z0 a->Z a
 zn:∀ a,Z a->Z0 a\/S0 a=none
 fr:∀ (i:Nat) ts p,J[i]?=some (some (.own ts))->L[i]?=some (some (.ref p))->S0 p=none
 dj:∀ (i j:Nat) ts us p,i≠j->J[i]?=some (some (.own ts))->J[j]?=some (some (.own us))->L[i]?=some (some (.ref p))->L[j]?=some (some (.ref p))->False
theorem yE {α:Type}{l:List α}{i j:Nat}{a b:α}(h:(l.set i a)[j]?=some b):(i=j/\i<l.length/\b=a)\/(i≠j/\l[j]?=some b):=by
 rw[C6] at h;by_cases e:i=j
 .subst e;rw[if_pos rfl] at h;by_cases hl:i<l.length
  .rw[if_pos hl] at h;cases h;exact .inl ⟨rfl,hl,rfl⟩
  .rw[if_neg hl] at h;cases h
 .rw[if_neg e] at h;exact .inr ⟨e,h⟩
theorem wM {α:Type}{l:List α}{i j:Nat}{a:α}(h:i≠j):(l.set i a)[j]?=l[j]?:=by rw[C6,if_neg h]
theorem qP {α:Type}{l:List α}{i:Nat}{a:α}(h:i<l.length):(l.set i a)[i]?=some a:=by rw[C6,if_pos rfl,if_pos h]
section
variable {S0 S S':SS}{Z0 Z:Addr->Prop}{L:yd}{J:Ev}{y:T}{d:D}
theorem FR.grow (h:FR S0 Z0 S Z L J) (s:Sx S S'):FR S0 Z0 S' Z L J:=⟨h.er.grow s,h.len,h.sx.trans s,h.z0,h.zz,h.zn,h.fr,h.dj⟩
theorem FR.pY (h:FR S0 Z0 S Z L J) (i:Nat) (r:Sn (zQ S Z) y d):FR S0 Z0 S Z (L.set i (some d)) (J.set i (some (.im y))):=by
 refine⟨⟨h.er.zd,λ j t e=>?_,λ j ts e=>?_⟩,by simp[h.len],h.sx,h.z0,h.zz,h.zn,λ j ts p e e'=>?_,λ j k ts us p n e1 e2 e3 e4=>?_⟩
 .rcases yE e with ⟨rfl,hl,e⟩ | ⟨n,e⟩
  .cases e;exact⟨d,qP (by rw[h.len];exact hl),r⟩
  .rw[wM n];exact h.er.im j t e
 .rcases yE e with ⟨rfl,hl,e⟩ | ⟨n,e⟩
  .cases e
  .rw[wM n];exact h.er.ow j ts e
 .rcases yE e with ⟨rfl,hl,e⟩ | ⟨n,e⟩
  .cases e
  .rw[wM n] at e';exact h.fr j ts p e e'
 .rcases yE e1 with ⟨rfl,hl,e⟩ | ⟨n1,e1⟩
  .cases e
  rcases yE e2 with ⟨rfl,hl,e⟩ | ⟨n2,e2⟩
  .cases e
  rw[wM n1] at e3;rw[wM n2] at e4;exact h.dj j k ts us p n e1 e2 e3 e4
theorem FR.ei {ts:C}{ds:O}{p:Addr}(h:FR S0 Z0 S Z L J) (s:Sx S S') (i:Nat) (hp:S p=none) (hd:S' p=some ds) (r:u_ (zQ S' λ a=>Z a\/a=p) ts ds):
  FR S0 Z0 S' (λ a=>Z a\/a=p) (L.set i (some (.ref p))) (J.set i (some (.own ts))):=by
 have np:∀ (j:Nat) us q,J[j]?=some (some (.own us))->L[j]?=some (some (.ref q))->q≠p:=λ j us q e e' z=>by
  subst z;obtain⟨p',Hz,h1,h2,_⟩:=h.er.ow j us e;rw[e'] at h1;cases h1;rw[hp] at h2;cases h2
 refine⟨⟨λ a z=>?_,λ j t e=>?_,λ j us e=>?_⟩,by simp[h.len],h.sx.trans s,h.z0,λ a z=>.inl (h.zz a z),λ a z=>z.elim (h.zn a) (λ q=>.inr (by subst q;exact h.sx.none hp)),λ j us q e e'=>?_,λ j k us vs q n e1 e2 e3 e4=>?_⟩
 .rcases z with z | rfl
  .exact λ q=>h.er.zd a z (s.none q)
  .rw[hd];nofun
 .rcases yE e with ⟨rfl,hl,e⟩ | ⟨n,e⟩
  .cases e
  .rw[wM n];obtain⟨d,h1,h2⟩:=h.er.im j t e;exact⟨d,h1,Sn.sx (qO s hp) t h2⟩
 .rcases yE e with ⟨rfl,hl,e⟩ | ⟨n,e⟩
  .cases e;exact⟨p,ds,qP (by rw[h.len];exact hl),hd,r,.inr rfl⟩
  .rw[wM n];obtain⟨q,es,h1,h2,h3,h4⟩:=h.er.ow j us e;exact⟨q,es,h1,s _ _ h2,u_.sx (qO s hp) h3,.inl h4⟩
 .rcases yE e with ⟨rfl,hl,e⟩ | ⟨n,e⟩
  .rw[qP (by rw[h.len];exact hl)] at e';cases e';exact h.sx.none hp
  .rw[wM n] at e';exact h.fr j us q e e'
 .rcases yE e1 with ⟨rfl,hl,e⟩ | ⟨n1,e1⟩
  .rcases yE e2 with ⟨rfl,_,_⟩ | ⟨n2,e2⟩
   .exact n rfl
   .rw[qP (by rw[h.len];exact hl)] at e3;cases e3;rw[wM n2] at e4;exact np k vs p e2 e4 rfl
  .rcases yE e2 with ⟨rfl,hl,_⟩ | ⟨n2,e2⟩
   .rw[qP (by rw[h.len];exact hl)] at e4;cases e4;rw[wM n1] at e3;exact np j us p e1 e3 rfl
   .rw[wM n1] at e3;rw[wM n2] at e4;exact h.dj j k us vs q n e1 e2 e3 e4
theorem FR.forget (h:FR S0 Z0 S Z L J) (i:Nat):FR S0 Z0 S Z L (J.set i none):=by
 refine⟨⟨h.er.zd,λ j t e=>?_,λ j ts e=>?_⟩,by simp[h.len],h.sx,h.z0,h.zz,h.zn,λ j ts p e e'=>?_,λ j k ts us p n e1 e2 e3 e4=>?_⟩
 .rcases yE e with ⟨rfl,hl,e⟩ | ⟨n,e⟩
  .cases e
  .exact h.er.im j t e
 .rcases yE e with ⟨rfl,hl,e⟩ | ⟨n,e⟩
  .cases e
  .exact h.er.ow j ts e
 .rcases yE e with ⟨rfl,hl,e⟩ | ⟨n,e⟩
  .cases e
  .exact h.fr j ts p e e'
 .rcases yE e1 with ⟨rfl,hl,e⟩ | ⟨n1,e1⟩
  .cases e
  rcases yE e2 with ⟨rfl,hl,e⟩ | ⟨n2,e2⟩
  .cases e
  exact h.dj j k ts us p n e1 e2 e3 e4
@[simp] noncomputable def yq (is:List Nat) (J:Ev):Ev:=is.foldl (fun J i=>J.set i none) J
theorem FR.yq:∀ (is:List Nat) {J:Ev},FR S0 Z0 S Z L J->FR S0 Z0 S Z L (yq is J)
 | [],_,h=>h
 | i::is,_,h=>FR.yq is (h.forget i)
theorem FR.freeze {ts:List T}{p:Addr}(h:FR S0 Z0 S Z L J) (i:Nat) (e:J[i]?=some (some (.own (.lst ts)))) (ed:L[i]?=some (some (.ref p))):
  FR S0 Z0 S (λ a=>Z a/\a≠p) L (J.set i (some (.im (.lst ts))))/\Sn (zQ S λ a=>Z a/\a≠p) (.lst ts) (.ref p):=by
 obtain⟨p',o,h1,h2,h3,h4⟩:=h.er.ow i _ e;rw[ed] at h1;cases h1;obtain⟨ds,rfl⟩:∃ ds,o=.lst ds:=by
  cases o with
  | lst ds=>exact⟨ds,rfl⟩
  | z_ _=>exact h3.elim
 replace h3:zj (zQ S Z) ts ds:=h3;have hS:Sn (zQ S λ a=>Z a/\a≠p) (.lst ts) (.ref p):=by
  simp only[Sn];exact⟨ds,.inr ⟨p,rfl,by rw[vT (λ z=>z.2 rfl)];exact h2⟩,zj.sx (uO λ a z=>z.1) ts h3⟩
 refine⟨?_,hS⟩;refine⟨⟨λ a z=>h.er.zd a z.1,λ j t e'=>?_,λ j us e'=>?_⟩,by simp[h.len],h.sx,h.z0,λ a z=>⟨h.zz a z,λ q=>?_⟩,λ a z=>h.zn a z.1,λ j us q e' Jt=>?_,λ j k us vs q n e1 e2 e3 e4=>?_⟩
 .rcases yE e' with ⟨rfl,hl,e'⟩ | ⟨n,e'⟩
  .cases e';exact⟨_,ed,hS⟩
  .obtain⟨d,g1,g2⟩:=h.er.im j t e';exact⟨d,g1,Sn.sx (uO λ a z=>z.1) t g2⟩
 .rcases yE e' with ⟨rfl,hl,e'⟩ | ⟨n,e'⟩
  .cases e'
  .obtain⟨q,es,g1,g2,g3,g4⟩:=h.er.ow j us e';exact⟨q,es,g1,g2,u_.sx (uO λ a z=>z.1) g3,g4,λ z=>by subst z;exact h.dj i j _ us q n e e' ed g1⟩
 .subst q;exact h.z0 a z (h.fr i _ a e ed)
 .rcases yE e' with ⟨rfl,hl,e'⟩ | ⟨n,e'⟩
  .cases e'
  .exact h.fr j us q e' Jt
 .rcases yE e1 with ⟨rfl,hl,e⟩ | ⟨n1,e1⟩
  .cases e
  rcases yE e2 with ⟨rfl,hl,e⟩ | ⟨n2,e2⟩
  .cases e
  exact h.dj j k us vs q n e1 e2 e3 e4
theorem FR.mut {ts us:C}{es:O}{p:Addr}(h:FR S0 Z0 S Z L J) (i:Nat) (e:J[i]?=some (some (.own ts))) (ed:L[i]?=some (some (.ref p))) (r:u_ (zQ S Z) us es):
  FR S0 Z0 (ups S p es) Z L (J.set i (some (.own us))):=by
 obtain⟨p',ds,h1,h2,h3,h4⟩:=h.er.ow i ts e;rw[ed] at h1;cases h1;have hh:zQ (ups S p es) Z=zQ S Z:=Ot h4;have hpn:=h.fr i ts p e ed;refine⟨⟨λ a z=>?_,λ j t e'=>?_,λ j vs e'=>?_⟩,by simp[h.len],λ b o q=>?_,h.z0,h.zz,h.zn,λ j vs q e' Jt=>?_,λ j k vs ws q n e1 e2 e3 e4=>?_⟩
 .by_cases hp:a=p
  .subst hp;rw[sE];nofun
  .rw[t9 hp];exact h.er.zd a z
 .rw[hh];rcases yE e' with ⟨rfl,hl,e'⟩ | ⟨n,e'⟩
  .cases e'
  .exact h.er.im j t e'
 .rw[hh];rcases yE e' with ⟨rfl,hl,e'⟩ | ⟨n,e'⟩
  .cases e';exact⟨p,es,ed,sE,r,h4⟩
  .obtain⟨q,F6,g1,g2,g3,g4⟩:=h.er.ow j vs e';refine⟨q,F6,g1,?_,g3,g4⟩;rw[t9 (λ z=>by subst z;exact h.dj i j ts vs q n e e' ed g1)];exact g2
 .rw[t9 (λ z=>by subst z;rw[hpn] at q;cases q)];exact h.sx b o q
 .rcases yE e' with ⟨rfl,hl,_⟩ | ⟨n,e'⟩
  .rw[ed] at Jt;cases Jt;exact hpn
  .exact h.fr j vs q e' Jt
 .rcases yE e1 with ⟨rfl,hl,_⟩ | ⟨n1,e1⟩
  .rcases yE e2 with ⟨rfl,hl,_⟩ | ⟨n2,e2⟩
   .exact n rfl
   .exact h.dj _ k ts ws q n e e2 e3 e4
  .rcases yE e2 with ⟨rfl,hl,_⟩ | ⟨n2,e2⟩
   .exact h.dj j _ vs ts q n e1 e e3 e4
   .exact h.dj j k vs ws q n e1 e2 e3 e4
noncomputable def j0 (S0 S:SS) (Z:Addr->Prop):SS:=open Classical in λ a=>if S0 a=none/\Z a then none else S a
theorem mL {a:Addr}(h:¬ (S0 a=none/\Z a)):j0 S0 S Z a=S a:=if_neg h
theorem jz {a:Addr}(h:S0 a=none/\Z a):j0 S0 S Z a=none:=if_pos h
theorem FR.rebase (h:FR S0 Z0 S Z L J):∃ S1,Sx S0 S1/\FR S1 Z0 S Z L J/\Sx (zQ S Z) S1:=by
 refine⟨j0 S0 S Z,λ b o q=>?_,⟨h.er,h.len,λ b o q=>?_,λ a z=>?_,h.zz,λ a z=>?_,λ i ts p e ed=>?_,h.dj⟩,λ b o q=>?_⟩
 .rw[mL (λ z=>by rw[z.1] at q;cases q)];exact h.sx _ _ q
 .by_cases w:S0 b=none/\Z b
  .rw[jz w] at q;cases q
  .rw[mL w] at q;exact q
 .rw[mL (λ q=>h.z0 a z q.1)];exact h.er.zd a (h.zz a z)
 .rcases h.zn a z with w | w
  .exact .inl w
  .exact .inr (jz ⟨w,z⟩)
 .obtain⟨p',ds,h1,h2,h3,h4⟩:=h.er.ow i ts e;rw[ed] at h1;cases h1;exact jz ⟨h.fr i ts p e ed,h4⟩
 .obtain⟨q1,q2⟩:=uN q;rw[mL (λ z=>q1 z.2)];exact q2
theorem FR.back {S1:SS}(h:FR S1 Z0 S Z L J) (s:Sx S0 S1) (z0:∀ a,Z0 a->S0 a≠none):FR S0 Z0 S Z L J:=⟨h.er,h.len,s.trans h.sx,z0,h.zz,λ a z=>(h.zn a z).imp id s.none,λ i ts p e ed=>s.none (h.fr i ts p e ed),h.dj⟩
theorem FR.Wc {S1:SS}{Z1:Addr->Prop}(h:FR S0 Z0 S Z L J) (b:Sx (zQ S1 Z1) S0) (zz:∀ a,Z0 a->Z1 a):Sx (zQ S1 Z1) (zQ S Z):=λ a o q=>by
 have q0:=b _ _ q;obtain⟨q1,q2⟩:=uN q;rw[vT]
 .exact h.sx _ _ q0
 .intro z;rcases h.zn a z with w | w
  .exact q1 (zz a w)
  .rw[w] at q0;cases q0
end
inductive Out where
 | nx (J:Ev) | rt (t:T) | bk (J:Ev) | ct (J:Ev)
abbrev Sm:=Ev->Option Out
def MH (R:Rk) (S0:SS) (Z0:Addr->Prop) (o:Out) (E:rA):Prop:=match o with
 | .nx J=>∀ S Z L,FR S0 Z0 S Z L J->E.nx L S
 | .bk J=>∀ S Z L,FR S0 Z0 S Z L J->E.bk L S
 | .ct J=>∀ S Z L,FR S0 Z0 S Z L J->E.ct L S
 | .rt y=>∀ d S,Sx S0 S->R S0 S Z0 y d->E.rt d S
def yn (R:Rk) (g:Sm) (t:yA):Prop:=∀ S0 Z0 S Z L J o E,FR S0 Z0 S Z L J->g J=some o->MH R S0 Z0 o E->t E L S
class Lo (R:Rk):Prop extends Cl R where
 lo:∀ {S0 S S':SS}{Z0 Z:Addr->Prop}{y:T}{d:D},Sx S0 S->(∀ a,Z0 a->Z a)->R S S' Z y d->R S0 S' Z0 y d
instance:Lo yC:=⟨λ _ z h=>Sn.sx (uO z) _ h⟩
instance:Lo zC:=⟨λ s z h=>⟨Sn.sx (uO z) _ h.1,λ ts e=>by
 obtain⟨p,ds,h1,h2,h3,h4⟩:=h.2 ts e;exact⟨p,ds,h1,s.none h2,h3,zj.sx (uO λ a q=>q.imp (z a) id) ts h4⟩⟩⟩
@[simp] noncomputable def zp (g h:Sm):Sm:=fun J=>(g J).bind λ o=>match o with
 | .nx J'=>h J'
 | o=>some o
@[simp] noncomputable def zY:Sm:=fun J=>some (.nx J)
@[simp] noncomputable def zH (i:Nat) (f:Ev->Option T):Sm:=fun J=>(f J).map λ y=>.nx (J.set i (some (.im y)))
@[simp] noncomputable def vD (i:Nat) (f:Ev->Option T):Sm:=fun J=>(f J).bind λ y=>match y with
 | .lst ts=>some (.nx (J.set i (some (.own (.lst ts)))))
 | y=>some (.nx (J.set i (some (.im y))))
@[simp] noncomputable def lD (f:Ev->Option T):Sm:=fun J=>(f J).map λ _=>.nx J
@[simp] noncomputable def retS (f:Ev->Option T):Sm:=fun J=>(f J).map .rt
@[simp] noncomputable def rH (i:Nat):Sm:=fun J=>match J[i]? with
 | some (some (.own (.lst ts)))=>some (.rt (.lst ts))
 | _=>none
@[simp] noncomputable def zX (c:Ev->Option Bool) (g h:Sm):Sm:=fun J=>(c J).bind λ b=>if b=true then g J else h J
@[simp] noncomputable def iI (i:Nat) (J:Ev):Ev:=match J[i]? with
 | some (some (.own (.lst ts)))=>J.set i (some (.im (.lst ts)))
 | _=>J
@[simp] def oO (i:Nat) (g:Sm):Sm:=fun J=>g (iI i J)
section
variable {R:Rk}{g h:Sm}{t u:yA}{f:Ev->Option T}{te:zr}
theorem Sv (hg:yn R g t) (hh:yn R h u):yn R (zp g h) (ng t u):=λ S0 Z0 S Z L J o E F e P=>by
 obtain⟨o1,e1,e2⟩:=Aj.mp e;refine hg S0 Z0 S Z L J o1 { E with nx:=u E } F e1 ?_;cases o1 with
 | nx J1=>exact λ S1 Z1 L1 F1=>hh S0 Z0 S1 Z1 L1 J1 o E F1 e2 P
 | rt y=>cases e2;exact P
 | bk y=>cases e2;exact P
 | ct y=>cases e2;exact P
theorem Su:yn R zY bV:=λ S0 Z0 S Z L J o E F e P=>by cases e;exact P S Z L F
theorem SJ (i:Nat) (hf:vf f te):yn R (zH i f) (wO te (hName i)):=λ S0 Z0 S Z L J o E F e P=>by
 obtain⟨y,e1,rfl⟩:=AE.mp e;exact hf S Z L J y _ F.er e1 λ d S1 s1 r1=>P S1 Z _ ((F.grow s1).pY i r1)
theorem SH (i:Nat) (hf:xp f te):yn R (vD i f) (wO te (hName i)):=λ S0 Z0 S Z L J o E F e P=>by
 obtain⟨y,e1,e2⟩:=Aj.mp e;refine hf S Z L J y _ F.er e1 λ d S1 s1 r1=>?_;cases y with
 | lst ts=>
  cases e2;obtain⟨p,ds,rfl,h1,h2,h3⟩:=r1.2 ts rfl;exact P S1 _ _ (F.ei (ts:=.lst ts) (ds:=.lst ds) s1 i h1 h2 h3)
 | _=>cases e2;exact P S1 Z _ ((F.grow s1).pY i r1.1)
theorem SE (hf:yp f te):yn R (lD f) (lL te):=λ S0 Z0 S Z L J o E F e P=>by
 obtain⟨y,e1,rfl⟩:=AE.mp e;exact hf S Z L J y _ F.er e1 λ d S1 s1 r1=>P S1 Z _ (F.grow s1)
theorem Sy [Lo R] (hf:xo R f te):yn R (retS f) (iU te):=λ S0 Z0 S Z L J o E F e P=>by
 obtain⟨y,e1,rfl⟩:=AE.mp e;exact hf S Z L J y _ F.er e1 λ d S1 s1 r1=>P d S1 (F.sx.trans s1) (Lo.lo F.sx F.zz r1)
theorem d5 (i:Nat):yn zC (rH i) (iU (yw i)):=λ S0 Z0 S Z L J o E F e P=>by
 unfold rH at e;split at e
 .rename_i ts h;cases e;obtain⟨p,ob,h1,h2,h3,h4⟩:=F.er.ow i _ h;obtain⟨ds,rfl⟩:∃ ds,ob=.lst ds:=by
   cases ob with
   | lst ds=>exact⟨ds,rfl⟩
   | z_ _=>exact h3.elim
  replace h3:zj (zQ S Z) ts ds:=h3;have hn:=F.fr i _ p h h1;have nz:¬ Z0 p:=λ z=>F.z0 p z hn;show yw i L S E.rt;unfold yw;rw[h1];refine P _ S F.sx ⟨?_,λ us e=>?_⟩
  .simp only[Sn];exact⟨ds,.inr ⟨p,rfl,by rw[vT nz];exact h2⟩,zj.sx (uO F.zz) ts h3⟩
  .cases e;exact⟨p,ds,rfl,hn,h2,zj.sx (uO λ a q=>q.elim (F.zz a) λ q=>q▸h4) ts h3⟩
 .cases e
theorem yn.fv (h:yn zC g t):yn yC g t:=λ S0 Z0 S Z L J o E F e P=>by
 refine h S0 Z0 S Z L J o E F e ?_;cases o with
 | rt y=>exact λ d S s r=>P d S s r.1
 | _=>exact P
theorem S8 {c:Ev->Option Bool}{tc:yx}(hc:wU c tc) (hg:yn R g t) (hh:yn R h u):yn R (zX c g h) (aa tc t u):=λ S0 Z0 S Z L J o E F e P=>by
 obtain⟨b,e1,e2⟩:=Aj.mp e;refine hc S Z L J b _ F.er e1 λ S1 s1=>?_;split at e2
 .rename_i hb;rw[if_pos hb];exact hg S0 Z0 S1 Z L J o E (F.grow s1) e2 P
 .rename_i hb;rw[if_neg hb];exact hh S0 Z0 S1 Z L J o E (F.grow s1) e2 P
theorem FR.fz {S0 S:SS}{Z0 Z:Addr->Prop}{L:yd}{J:Ev}(F:FR S0 Z0 S Z L J) (i:Nat):∃ Z',FR S0 Z0 S Z' L (iI i J):=by
 unfold iI;split
 .rename_i ts h;obtain⟨p,ds,h1,_⟩:=F.er.ow i _ h;exact⟨_,(F.freeze i h h1).1⟩
 .exact⟨Z,F⟩
theorem S9 (i:Nat) (hg:yn R g t):yn R (oO i g) t:=λ S0 Z0 S Z L J o E F e P=>by
 obtain⟨Z',F'⟩:=F.fz i;exact hg S0 Z0 S Z' L _ o E F' e P
def nI (g:T->Ev->Option Ev) (t:yP):Prop:=∀ S0 Z0 S Z L J J' y d Q,FR S0 Z0 S Z L J->Sn (zQ S Z) y d->g y J=some J'->(∀ L',FR S0 Z0 S Z L' J'->Q L' S)->t d L S Q
def kH (g:List T->Ev->Option Ev) (t:xI):Prop:=∀ S0 Z0 S Z L J J' ys ds Q,FR S0 Z0 S Z L J->zj (zQ S Z) ys ds->g ys J=some J'->(∀ L',FR S0 Z0 S Z L' J'->Q L' S)->t ds L S Q
@[simp] noncomputable def zt (i:Nat):T->Ev->Option Ev:=λ y J=>some (J.set i (some (.im y)))
@[simp] noncomputable def wY:List T->Ev->Option Ev
 | [],J=>some J
 | _::_,_=>none
@[simp] noncomputable def y9 (g:T->Ev->Option Ev) (h:List T->Ev->Option Ev):List T->Ev->Option Ev
 | y::ys,J=>(g y J).bind fun J'=>h ys J'
 | [],_=>none
@[simp] noncomputable def wj (n:Nat) (g:List T->Ev->Option Ev):T->Ev->Option Ev
 | .tup ys,J=>if ys.length=n then g ys J else none
 | _,_=>none
theorem S_ (i:Nat):nI (zt i) (hName i):=λ S0 Z0 S Z L J J' y d Q F r e hq=>by cases e;exact hq _ (F.pY i r)
theorem SW:kH wY i4:=λ S0 Z0 S Z L J J' ys ds Q F r e hq=>by
 cases ys with
 | nil=>simp only[zj] at r;subst r;cases e;exact⟨rfl,hq _ F⟩
 | cons _ _=>cases e
theorem SX {g:T->Ev->Option Ev}{h:List T->Ev->Option Ev}{t:yP}{u:xI}(hg:nI g t) (hh:kH h u):kH (y9 g h) (i5 t u):=λ S0 Z0 S Z L J J' ys ds Q F r e hq=>by
 cases ys with
 | nil=>cases e
 | cons y ys=>
  simp only[zj] at r;obtain⟨c,cs,rfl,r1,r2⟩:=r;obtain⟨J1,e1,e2⟩:=Aj.mp e;exact hg S0 Z0 S Z L J J1 y c _ F r1 e1 fun L1 F1=>hh S0 Z0 S Z L1 J1 J' ys cs Q F1 r2 e2 hq
theorem SY {n:Nat}{g:List T->Ev->Option Ev}{t:xI}(hg:kH g t):nI (wj n g) (rR n t):=λ S0 Z0 S Z L J J' y d Q F r e hq=>by
 cases y with
 | tup ys=>
  simp only[Sn] at r;obtain⟨ds,rfl,r⟩:=r;simp only[wj] at e;split at e
  .rename_i hl;exact⟨by rw[r.len];exact hl,hg S0 Z0 S Z L J J' ys ds Q F r e hq⟩
  .cases e
 | _=>cases e
@[simp] noncomputable def jj (f:Ev->Option T) (g:T->Ev->Option Ev):Sm:=fun J=>(f J).bind λ y=>(g y J).map .nx
theorem Ss {g:T->Ev->Option Ev}{tg:yP}(hf:vf f te) (hg:nI g tg):yn R (jj f g) (wO te tg):=λ S0 Z0 S Z L J o E F e P=>by
 obtain⟨y,e1,e2⟩:=Aj.mp e;obtain⟨J',e3,rfl⟩:=AE.mp e2;exact hf S Z L J y _ F.er e1 λ d S1 s1 r1=>hg S0 Z0 S1 Z L J J' y d _ (F.grow s1) r1 e3 fun L' F'=>P S1 Z L' F'
def rj (free:Bool) (f:Ev->Option (List T)) (ti:xR):Prop:=∀ S Z L J ts Q,ER S Z L J->f J=some ts->(∀ I S',Sx S S'->zj (zQ S' Z) ts I.items->(∀ IC,Sx (if free=true then zQ S' Z else S') IC->I.keep IC)->Q I S')->ti L S Q
@[simp] def yk (f:Ev->Option T):Ev->Option (List T):=fun J=>(f J).bind xi
theorem SN {f:Ev->Option T}{te:zr}(hf:yp f te):rj false (yk f) (iq te):=λ S Z L J ts Q hE e hq=>by
 obtain⟨y,e1,e2⟩:=Aj.mp e;refine hf S Z L J y _ hE e1 λ d S1 s1 r1=>?_;cases y with
 | tup us=>
  cases e2;obtain⟨ds,rfl,h2⟩:=Vw.tup r1;exact hq _ S1 s1 h2 λ _ _=>trivial
 | lst us=>
  cases e2;obtain⟨ds,rfl | ⟨a,rfl,h1⟩,h2⟩:=Vw.lst r1
  .exact hq _ S1 s1 h2 λ _ _=>trivial
  .dsimp only;rw[h1];exact hq ⟨ds,_⟩ S1 s1 h2 λ IC s=>s _ _ h1
 | _=>cases e2
theorem SO {f:Ev->Option T}{te:zr}(hf:vf f te):rj true (yk f) (iq te):=λ S Z L J ts Q hE e hq=>by
 obtain⟨y,e1,e2⟩:=Aj.mp e;refine hf S Z L J y _ hE e1 λ d S1 s1 r1=>?_;cases y with
 | tup us=>
  cases e2;obtain⟨ds,rfl,h2⟩:=Vw.tup (.inl r1);exact hq _ S1 s1 h2 λ _ _=>trivial
 | lst us=>
  cases e2;have r2:=r1;unfold yC at r2;simp only[Sn] at r2;obtain⟨ds,⟨rfl,_⟩ | ⟨a,rfl,h1⟩,h2⟩:=r2
  .exact hq _ S1 s1 h2 λ _ _=>trivial
  .dsimp only;rw[(uN h1).2];exact hq ⟨ds,_⟩ S1 s1 h2 λ IC s=>s _ _ h1
 | _=>cases e2
noncomputable def rangeT (lo:Int) (n:Nat):List T:=(List.range n).map λ(k:Nat)=>T.int (lo+(k:Int))
theorem fU {S:SS}(lo:Int) (n:Nat):zj S (rangeT lo n) (vn lo n):=by
 unfold rangeT vn
 induction List.range n with
 | nil=>exact .nil
 | cons k l ih=>exact .cons xB ih
noncomputable def inR (j:Int):Bool:=decide (-100000000<=j)&&decide (j<=100000000)
theorem cV {j:Int}:inR j=true↔-100000000<=j/\j<=100000000:=by simp[inR]
theorem Oj {j:Int}(h:inR j=true):-(2 ^ 62)<=j/\j<2 ^ 62:=by have:=cV.mp h;lia
noncomputable def xw:List T->Option (List T)
 | [.int j]=>if inR j=true then some (rangeT 0 j.toNat) else none
 | _=>none
@[simp] noncomputable def yL (F:List T->Option (List T)) (g:Ev->Option (List T)):Ev->Option (List T):=fun J=>(g J).bind F
theorem SU {b:Bool}{g:Ev->Option (List T)}{tA:yh}(h:rm g tA):rj b (yL xw g) (iu tA):=λ S Z L J ts Q hE e hq=>by
 obtain⟨ys,e1,e2⟩:=Aj.mp e;refine h S Z L J ys _ hE e1 λ ds S1 s1 r1=>?_;unfold xw at e2;split at e2
 .split at e2
  .rename_i hc;cases e2;obtain⟨d,rfl,h1⟩:=wV r1;cases h1.int;exact⟨Oj hc,hq _ S1 s1 (fU _ _) λ _ _=>trivial⟩
  .cases e2
 .cases e2
noncomputable def x8 (is:List Nat) (g:T->Ev->Option Ev) (b:Sm):List T->Ev->Option Out
 | [],J=>some (.nx (yq is J))
 | y::ys,J=>(g y (yq is J)).bind fun J1=>(b J1).bind λ o=>match o with
  | .nx J2=>x8 is g b ys J2
  | .ct J2=>x8 is g b ys J2
  | .bk J2=>some (.nx (yq is J2))
  | .rt t=>some (.rt t)
@[simp] def xY (is:List Nat) (f:Ev->Option (List T)) (g:T->Ev->Option Ev) (b:Sm):Sm:=fun J=>(f J).bind λ ts=>x8 is g b ts J
theorem SA {is:List Nat}{fi:Ev->Option (List T)}{ti:xR}{g:T->Ev->Option Ev}{tg:yP}{b:Sm}{tb:yA} [Lo R] (hi:rj true fi ti) (hg:nI g tg) (hb:yn R b tb):yn R (xY is fi g b) (nj ti tg tb):=λ S0 Z0 S Z L J o E F e P=>by
 obtain⟨ts,e1,e2⟩:=Aj.mp e;refine hi S Z L J ts _ F.er e1 λ I S1 s1 r1 hk=>?_;rw[if_pos rfl] at hk;obtain⟨SB,b1,FB,b2⟩:=(F.grow s1).rebase;have lo:∀ S' d y,R SB S' Z0 y d->R S0 S' Z0 y d:=λ S' d y r=>Lo.lo b1 (λ _ z=>z) r;have zz:=F.zz;refine⟨λ i L' S'=>∃ Z' J',FR SB Z0 S' Z' L' J'/\x8 is g b (ts.drop i) J'=some o,⟨Z,J,FB,e2⟩,λ i L' S' ⟨Z',J',F',_⟩=>hk S' (b2.trans F'.sx),λ i d L' S' hd ⟨Z',J',F',e'⟩=>?_,fun L' S' ⟨Z',J',F',e'⟩=>?_⟩
 .obtain⟨y,hy,r2⟩:=r1.iH hd;have An:=(AL.mp hy).1;have EH:ts.drop i=y::ts.drop (i+1):=by
   rw[D9 An,(AL.mp hy).2]
  rw[EH] at e';unfold x8 at e';obtain⟨J1,g1,e'⟩:=Aj.mp e';obtain⟨o1,g2,e'⟩:=Aj.mp e';refine hg SB Z0 S' Z' L' _ J1 y d _ (F'.yq is) (Sn.sx (F'.Wc b2 zz) y r2) g1 fun L2 F2=>?_
  refine hb SB Z0 S' Z' L2 J1 o1 _ F2 g2 ?_;cases o1 with
  | nx J2=>exact λ S3 Z3 L3 F3=>⟨Z3,J2,F3,e'⟩
  | ct J2=>exact λ S3 Z3 L3 F3=>⟨Z3,J2,F3,e'⟩
  | bk J2=>cases e';exact λ S3 Z3 L3 F3=>P S3 Z3 L3 ((F3.yq is).back b1 F.z0)
  | rt y=>cases e';exact λ d S3 s3 r3=>P d S3 (b1.trans s3) (lo _ _ _ r3)
 .rw[show I.items.length=ts.length from r1.len,List.drop_length] at e';unfold x8 at e';cases e';exact P S' Z' L' ((F'.yq is).back b1 F.z0)
end
@[simp] noncomputable def xQ (i:Nat) (f:Ev->Option T):Sm:=fun J=>match J[i]? with
 | some (some (.own (.lst ts)))=>(f J).bind λ y=>if ts.length<sizeLine then some (.nx (J.set i (some (.own (.lst (ts++[y])))))) else none
 | _=>none
section
variable {R:Rk}{f:Ev->Option T}{te:zr}
theorem SK (i:Nat) (hf:vf f te):yn R (xQ i f) (lL (ra (yw i) te)):=λ S0 Z0 S Z L J o E F e P=>by
 unfold xQ at e;split at e
 .rename_i ts h;obtain⟨y,e1,e2⟩:=Aj.mp e;split at e2
  .rename_i hl;cases e2;obtain⟨p,ob,h1,h2,h3,h4⟩:=F.er.ow i _ h;obtain⟨ds,rfl⟩:∃ ds,ob=.lst ds:=by
    cases ob with
    | lst ds=>exact⟨ds,rfl⟩
    | z_ _=>exact h3.elim
   replace h3:zj (zQ S Z) ts ds:=h3;show ra (yw i) te L S _;unfold ra yw;rw[h1];refine⟨⟨ds,h2⟩,hf S Z L J y _ F.er e1 λ d S1 s1 r1=>?_⟩;dsimp only;rw[s1 _ _ h2];have F1:=F.grow s1;refine⟨by rw[h3.len];exact hl,P _ Z L (F1.mut (us:=.lst (ts++[y])) (es:=.lst (ds++[d])) i h h1 ((zj.sx (wz s1) ts h3).append (.cons r1 .nil)))⟩
  .cases e2
 .cases e
end
def uz (pick:List (Option Nat)) (ti:xR) (g:yP) (tc:yx) (te:zr):zr:=fun L S Q=>ti L S λ I S1=>I.items.length<=sizeLine/\(∀ S,Sx S1 S->I.keep S)/\∀ p,S1 p=none->∃ W:Nat->SS->List D->Prop,W 0 S1 []/\
 (∀ i S S' acc,(∀ b o,b≠p->S b=some o->S' b=some o)->W i S acc->W i S' acc)/\
 (∀ i d S acc,I.items[i]?=some d->Sx S1 S->S p=some (.lst acc)->W i S acc->g d (vR pick L) S fun L2 S2=>qb (vR pick L) L2/\tc L2 S2 λ b S3=>if b=true then te L2 S3 λ y S4=>Sx S S4/\W (i+1) S4 (acc++[y]) else Sx S S3/\W (i+1) S3 acc)/\
 ∀ S2 acc,Sx S1 S2->S2 p=some (.lst acc)->W I.items.length S2 acc->Q (.ref p) S2
@[simp] noncomputable def oq (pick:List (Option Nat)) (J:Ev):Ev:=pick.map λ o=>o.bind λ i=>(J[i]?).join
noncomputable def rV (h:T->Option (Option T)):List T->Option (List T)
 | []=>some []
 | y::ys=>(h y).bind λ o=>(rV h ys).map λ zs=>match o with
  | some z=>z::zs
  | none=>zs
@[simp] def wK (pick:List (Option Nat)) (g:T->Ev->Option Ev) (c:Ev->Option Bool) (f:Ev->Option T) (J:Ev) (y:T):Option (Option T):=
 (g y (oq pick J)).bind fun J2=>(c J2).bind λ b=>if b=true then (f J2).map some else some none
def yg (pick:List (Option Nat)) (it:Ev->Option (List T)) (g:T->Ev->Option Ev) (c:Ev->Option Bool) (f:Ev->Option T):Ev->Option T:=fun J=>(it J).bind λ ts=>if ts.length<=sizeLine then (rV (wK pick g c f J) ts).map .lst else none
@[simp] noncomputable def xm:Ev->Option Bool:=λ _=>some true
theorem Ry:wU xm bL:=λ S Z L J y Q hE e hq=>by cases e;exact hq S (.refl S)
def kK (pick:List (Option Nat)) (g:T->Ev->Option Ev) (t:yP):Prop:=∀ B S Z L J J' y d Q,(∀ i:Nat,pick[i]?=some none->B[i]?=some none)->qb B L->L.length=J.length->ER S Z L J->Sn (zQ S Z) y d->g y J=some J'->
 (∀ L',ER S Z L' J'->qb B L'->L'.length=J'.length->Q L' S)->t d L S Q
def kJ (pick:List (Option Nat)) (g:List T->Ev->Option Ev) (t:xI):Prop:=∀ B S Z L J J' y d Q,(∀ i:Nat,pick[i]?=some none->B[i]?=some none)->qb B L->L.length=J.length->ER S Z L J->zj (zQ S Z) y d->g y J=some J'->
 (∀ L',ER S Z L' J'->qb B L'->L'.length=J'.length->Q L' S)->t d L S Q
theorem ER.pY {S:SS}{Z:Addr->Prop}{L:yd}{J:Ev}{y:T}{d:D}(h:ER S Z L J) (hl:L.length=J.length) (i:Nat) (r:Sn (zQ S Z) y d):ER S Z (L.set i (some d)) (J.set i (some (.im y))):=by
 refine⟨h.zd,λ j t e=>?_,λ j ts e=>?_⟩
 .rcases yE e with ⟨rfl,GN,e⟩ | ⟨n,e⟩
  .cases e;exact⟨d,qP (by rw[hl];exact GN),r⟩
  .rw[wM n];exact h.im j t e
 .rcases yE e with ⟨rfl,GN,e⟩ | ⟨n,e⟩
  .cases e
  .rw[wM n];exact h.ow j ts e
variable {pick:List (Option Nat)}
theorem Rf (i:Nat) (hi:pick[i]?=some none:=by rfl):kK pick (zt i) (hName i):=λ B S Z L J J' y d Q hB hs hl hE r e hq=>by
 cases e;refine hq _ (hE.pY hl i r) ⟨by rw[DJ];exact hs.1,λ j c q=>?_⟩ (by simp[hl]);by_cases hj:i=j
 .subst hj;rw[hB i hi] at q;cases q
 .rw[wM hj];exact hs.2 j c q
theorem Ra:kJ pick wY i4:=λ B S Z L J J' y d Q hB hs hl hE r e hq=>by
 cases y with
 | nil=>simp only[zj] at r;subst r;cases e;exact⟨rfl,hq _ hE hs hl⟩
 | cons _ _=>cases e
theorem Rb {g:T->Ev->Option Ev}{h:List T->Ev->Option Ev}{t:yP}{u:xI}(hg:kK pick g t) (hh:kJ pick h u):kJ pick (y9 g h) (i5 t u):=λ B S Z L J J' y d Q hB hs hl hE r e hq=>by
 cases y with
 | nil=>cases e
 | cons y ys=>
  simp only[zj] at r;obtain⟨c,cs,rfl,r1,r2⟩:=r;obtain⟨J1,e1,e2⟩:=Aj.mp e;exact hg B S Z L J J1 y c _ hB hs hl hE r1 e1 fun L1 E1 s1 l1=>hh B S Z L1 J1 J' ys cs Q hB s1 l1 E1 r2 e2 hq
theorem Rc {n:Nat}{g:List T->Ev->Option Ev}{t:xI}(hg:kJ pick g t):kK pick (wj n g) (rR n t):=λ B S Z L J J' y d Q hB hs hl hE r e hq=>by
 cases y with
 | tup ys=>
  simp only[Sn] at r;obtain⟨ds,rfl,r⟩:=r;simp only[wj] at e;split at e
  .rename_i hn;exact⟨by rw[r.len];exact hn,hg B S Z L J J' ys ds Q hB hs hl hE r e hq⟩
  .cases e
 | _=>cases e
theorem da {J:Ev}{i:Nat}{w:W}(h:(oq pick J)[i]?=some (some w)):∃ j:Nat,pick[i]?=some (some j)/\J[j]?=some (some w):=by
 unfold oq at h;rw[Ay] at h;cases q:pick[i]? with
 | none=>rw[q] at h;cases h
 | some o=>
  rw[q] at h;cases o with
  | none=>simp at h
  | some j=>
   simp only[Option.map_some,Bu,Option.some.injEq] at h;refine⟨j,rfl,?_⟩;cases q2:J[j]? with
   | none=>rw[q2] at h;cases h
   | some o2=>rw[q2] at h;simp only[Option.join_some] at h;rw[h]
theorem de {L:yd}{i j:Nat}{d:D}(h:pick[i]?=some (some j)) (h':L[j]?=some (some d)):(vR pick L)[i]?=some (some d):=by
 unfold vR;rw[Ay,h];simp[h']
theorem ER.WZ {S:SS}{Z:Addr->Prop}{L:yd}{J:Ev}(h:ER S Z L J):ER S Z (vR pick L) (oq pick J):=by
 refine⟨h.zd,λ i t e=>?_,λ i ts e=>?_⟩
 .obtain⟨j,h1,h2⟩:=da e;obtain⟨d,h3,h4⟩:=h.im j t h2;exact⟨d,de h1 h3,h4⟩
 .obtain⟨j,h1,h2⟩:=da e;obtain⟨p,ds,h3,h4⟩:=h.ow j ts h2;exact⟨p,ds,de h1 h3,h4⟩
theorem ER.hide {S S':SS}{Z:Addr->Prop}{L:yd}{J:Ev}{p:Addr}(h:ER S Z L J) (s:Sx S S') (hp:S p=none) (G3:S' p≠none):ER S' (λ a=>Z a\/a=p) L J:=by
 refine⟨λ a z q=>?_,λ i t e=>?_,λ i ts e=>?_⟩
 .rcases z with z | rfl
  .exact h.zd a z (s.none q)
  .exact G3 q
 .obtain⟨d,h1,h2⟩:=h.im i t e;exact⟨d,h1,Sn.sx (qO s hp) t h2⟩
 .obtain⟨q,ds,h1,h2,h3,h4⟩:=h.ow i ts e;exact⟨q,ds,h1,s _ _ h2,u_.sx (qO s hp) h3,.inl h4⟩
theorem RP {it:Ev->Option (List T)}{ti:xR}{g:T->Ev->Option Ev}{tg:yP}{c:Ev->Option Bool}{tc:yx}{f:Ev->Option T}{te:zr}{b:Bool}(hi:rj b it ti) (hg:kK pick g tg) (hc:wU c tc) (hf:vf f te):
  xp (yg pick it g c f) (uz pick ti tg tc te):=λ S Z L J y Q hE e hq=>by
 obtain⟨ts,e1,e2⟩:=Aj.mp e;split at e2
 case isFalse=>cases e2
 rename_i hlen;obtain⟨zs,e3,rfl⟩:=AE.mp e2;refine hi S Z L J ts _ hE e1 λ I S1 s1 r1 hk=>⟨by rw[r1.len];exact hlen,λ S' s'=>hk S' ?_,λ p hp=>?_⟩
 .cases b
  .exact s'
  .exact (ly _ _).trans s'
 have E1:=hE.grow s1;have nz:¬ Z p:=λ z=>E1.zd p z hp;refine⟨λ i S' acc=>∃ us ws,zj (zQ S' λ a=>Z a\/a=p) us acc/\rV (wK pick g c f J) (ts.drop i)=some ws/\zs=us++ws,⟨[],zs,.nil,e3,rfl⟩,λ i S' IC acc hh ⟨us,ws,h1,h2⟩=>⟨us,ws,zj.sx (λ a o q=>?_) us h1,h2⟩,λ i d S2 acc hd s2 AY ⟨us,ws,h1,h2,h3⟩=>?_,λ S2 acc s2 AY ⟨us,ws,h1,h2,h3⟩=>?_⟩
 .obtain⟨q1,q2⟩:=uN q;rw[vT q1];exact hh a o (λ z=>q1 (.inr z)) q2
 .obtain⟨x,hx,rx⟩:=r1.iH hd;have An:=(AL.mp hx).1;have EH:ts.drop i=x::ts.drop (i+1):=by rw[D9 An,(AL.mp hx).2]
  rw[EH] at h2;unfold rV at h2;obtain⟨o,o1,h2⟩:=Aj.mp h2;obtain⟨Ff,o2,rfl⟩:=AE.mp h2;have E2:=(E1.hide s2 hp (by rw[AY];nofun)).WZ (pick:=pick);unfold wK at o1;obtain⟨J2,g1,o1⟩:=Aj.mp o1;obtain⟨bb,g2,o1⟩:=Aj.mp o1;refine hg (vR pick L) S2 _ _ _ J2 x d _ (λ j hj=>?_) ⟨rfl,λ _ _ q=>q⟩ (by unfold vR oq;simp) E2 (Sn.sx (qO s2 hp) x rx) g1 fun L2 E3 l3 _=>⟨l3,?_⟩
  .unfold vR;rw[Ay,hj];rfl
  refine hc S2 _ L2 J2 bb _ E3 g2 λ S3 s3=>?_;split at o1
  .rename_i hb;rw[if_pos hb];obtain⟨z,g3,rfl⟩:=AE.mp o1;refine hf S3 _ L2 J2 z _ (E3.grow s3) g3 λ dz S4 s4 r4=>⟨s3.trans s4,us++[z],Ff,?_,o2,by rw[h3];simp⟩;exact (zj.sx (wz (s3.trans s4)) us h1).append (.cons r4 .nil)
  .rename_i hb;rw[if_neg hb];cases o1;exact⟨s3,us,Ff,zj.sx (wz s3) us h1,o2,h3⟩
 .rw[show I.items.length=ts.length from r1.len,List.drop_length] at h2;cases h2;rw[C_] at h3;subst h3;refine hq _ S2 (s1.trans s2) ⟨?_,λ vs e=>?_⟩
  .simp only[Sn];exact⟨acc,.inr ⟨p,rfl,by rw[vT nz];exact AY⟩,zj.sx (uO λ a z=>.inl z) zs h1⟩
  .cases e;exact⟨p,acc,rfl,s1.none hp,AY,h1⟩
class Sr (R:Rk):Prop extends Lo R where
 sn:∀ {S S':SS}{Z:Addr->Prop}{y:T}{d:D},R S S' Z y d->Sn (zQ S' Z) y d
instance:Sr yC:=⟨λ h=>h⟩
instance:Sr zC:=⟨λ h=>h.1⟩
def zF (R:Rk) (F:List T->Option T):tZ:=λ ds S Q=>∃ Z ys y,(∀ a,Z a->S a≠none)/\zj (zQ S Z) ys ds/\F ys=some y/\∀ d S',Sx S S'->R S S' Z y d->Q d S'
theorem zF.mo {R:Rk}{F:List T->Option T}:gA (zF R F):=λ _ _ _ _ hq ⟨Z,ys,y,h1,h2,h3,h4⟩=>⟨Z,ys,y,h1,h2,h3,λ d S' s r=>hq _ _ (h4 d S' s r)⟩
theorem jN {R:Rk} [Lo R] {F:List T->Option T}{g:Ev->Option (List T)}{u:yh}(h:ph g u):xo R (zi F g) (lM (zF R F) u):=λ S Z L J y Q hE e hq=>by
 obtain⟨xs,e1,e2⟩:=Aj.mp e;refine h S Z L J xs _ hE e1 λ ds S1 s1 r1=>?_;exact⟨Z,xs,y,(hE.grow s1).zd,r1,e2,λ d S' s r=>hq d S' (s1.trans s) (Cl.cl s1 r)⟩
@[simp] noncomputable def qv (N:List Str) (ys:List T):Ev:=ys.map (λ y=>some (.im y))++List.replicate (N.length-ys.length) none
@[simp] noncomputable def dn:Option Out->Option T
 | some (.rt y)=>some y
 | some (.nx _)=>some .zo
 | _=>none
@[simp] def zI (N:List Str) (n:Nat) (g:Sm):List T->Option T:=λ ys=>if ys.length=n then dn (g (qv N ys)) else none
theorem zF.len {R:Rk}{N:List Str}{n:Nat}{g:Sm}{ds:List D}{S:SS}{Q:DK}(hs:zF R (zI N n g) ds S Q):ds.length=n:=by
 obtain⟨Z,ys,y,hz,r,e,hq⟩:=hs;unfold zI at e;split at e
 .rename_i h;rw[r.len];exact h
 .cases e
theorem XB {N:List Str}{ds:List D}{i:Nat}{d:D}(h:ds[i]?=some d):(tE N ds)[i]?=some (some d):=by
 have hi:=(AL.mp h).1;unfold tE;rw[Cs (by simpa using hi),Ay,h];rfl
theorem m9 {N:List Str}{ys:List T}{i:Nat}{w:W}(h:(qv N ys)[i]?=some (some w)):∃ y,ys[i]?=some y/\w=.im y:=by
 unfold qv at h;have hi:i<ys.length:=by
  rcases Bn i ys.length with q | q
  .exact q
  .rw[Ct (by simpa using q),DL] at h;split at h <;> cases h
 rw[Cs (by simpa using hi),Ay] at h;cases q:ys[i]? with
 | none=>rw[q] at h;cases h
 | some y=>rw[q] at h;cases h;exact⟨y,rfl,rfl⟩
theorem Mw {R:Rk} [Lo R] {N:List Str}{n:Nat}{g:Sm}{t:yA}(h:yn R g t) {ds:List D}{S:SS}{Q:DK}(hs:zF R (zI N n g) ds S Q):t { nx:=λ _ S'=>Q .zo S',rt:=Q } (tE N ds) S:=by
 obtain⟨Z,ys,y,hz,r,e,hq⟩:=hs;unfold zI at e;split at e
 case isFalse=>cases e
 obtain⟨o,e1,e2⟩:∃ o,g (qv N ys)=some o/\dn (some o)=some y:=by
  cases q:g (qv N ys) with
  | none=>rw[q] at e;cases e
  | some o=>exact⟨o,rfl,by rw[<- q];exact e⟩
 refine h S Z S Z _ _ o _ ⟨⟨hz,λ i t e=>?_,λ i ts e=>?_⟩,?_,.refl S,hz,λ _ z=>z,λ _ z=>.inl z,λ i ts p e _=>?_,λ i j ts us p _ e _ _ _=>?_⟩ e1 ?_
 .obtain⟨y',h1,h2⟩:=m9 e;cases h2;obtain⟨d,h3,h4⟩:=r.iD h1;exact⟨d,XB h3,h4⟩
 .obtain⟨y',h1,h2⟩:=m9 e;cases h2
 .unfold tE qv;have:=r.len;simp[this]
 .obtain⟨y',h1,h2⟩:=m9 e;cases h2
 .obtain⟨y',h1,h2⟩:=m9 e;cases h2
 .cases o with
  | rt y'=>cases e2;exact λ d S' s r=>hq d S' s r
  | nx J'=>
   cases e2;exact λ S' Z' L' F=>hq .zo S' F.sx (Cl.of (λ _=>nofun) fX)
  | _=>cases e2
noncomputable def xb (Aa:List (Key×T)) (k:Key):Option T:=(Aa.find? λ kv=>decide (kv.1=k)).map (·.2)
noncomputable def vO (Aa:List (Key×T)) (k:Key) (v:T):List (Key×T):=
 if (Aa.any λ kv=>decide (kv.1=k))=true then Aa.map (λ kv=>if kv.1=k then (kv.1,v) else kv) else Aa++[(k,v)]
section
variable {S:SS}
theorem yu.len:∀ {a:List (Key×T)}{b:List (Key×D)},yu S a b->b.length=a.length
 | [],_,h=>by cases h;rfl
 | (k,t)::r,_,h=>by
  obtain⟨d,m,rfl,_,h2⟩:=h;simp[yu.len h2]
theorem yu.val:∀ {a:List (Key×T)}{b:List (Key×D)}(k:Key),yu S a b->(xb a k=none/\vM b k=none)\/∃ t d,xb a k=some t/\vM b k=some d/\Sn S t d
 | [],_,k,h=>by cases h;exact .inl ⟨rfl,rfl⟩
 | (j,t)::r,_,k,h=>by
  obtain⟨d,m,rfl,h1,h2⟩:=h;by_cases e:j=k
  .subst e;exact .inr ⟨t,d,by simp[xb],by simp[vM],h1⟩
  .rcases yu.val k h2 with ⟨g1,g2⟩ | ⟨t',d',g1,g2,g3⟩
   .exact .inl ⟨by simpa [xb,e] using g1,by simpa [vM,e] using g2⟩
   .exact .inr ⟨t',d',by simpa [xb,e] using g1,by simpa [vM,e] using g2,g3⟩
theorem yu.any:∀ {a:List (Key×T)}{b:List (Key×D)}(k:Key),yu S a b->(b.any λ kv=>decide (kv.1=k))=a.any λ kv=>decide (kv.1=k)
 | [],_,k,h=>by cases h;rfl
 | (j,t)::r,_,k,h=>by
  obtain⟨d,m,rfl,h1,h2⟩:=h;rw[BH,BH,yu.any k h2]
theorem yu.uH {k:Key}{t:T}{d:D}(r:Sn S t d):∀ {a:List (Key×T)}{b:List (Key×D)},yu S a b->yu S (a.map λ kv=>if kv.1=k then (kv.1,t) else kv) (b.map λ kv=>if kv.1=k then (kv.1,d) else kv)
 | [],_,h=>by cases h;rfl
 | (j,u)::a,_,h=>by
  obtain⟨e,m,rfl,h1,h2⟩:=h;rw[Au,Au];by_cases q:j=k
  .rw[if_pos q,if_pos q];exact⟨d,_,rfl,r,yu.uH r h2⟩
  .rw[if_neg q,if_neg q];exact⟨e,_,rfl,h1,yu.uH r h2⟩
theorem yu.snoc {k:Key}{t:T}{d:D}(r:Sn S t d):∀ {a:List (Key×T)}{b:List (Key×D)},yu S a b->yu S (a++[(k,t)]) (b++[(k,d)])
 | [],_,h=>by cases h;exact⟨d,[],rfl,r,rfl⟩
 | (j,u)::a,_,h=>by
  obtain⟨e,m,rfl,h1,h2⟩:=h;exact⟨e,_,rfl,h1,yu.snoc r h2⟩
theorem yu.put {a:List (Key×T)}{b:List (Key×D)}(h:yu S a b) (k:Key) {t:T}{d:D}(r:Sn S t d):yu S (vO a k t) (putD b k d):=by
 unfold vO putD;rw[h.any k];split
 .exact yu.uH r h
 .exact yu.snoc r h
end
@[simp] noncomputable def bO (i:Nat):Sm:=fun J=>some (.nx (J.set i (some (.own (.z_ [])))))
@[simp] def iT (i:Nat) (f:Ev->Option T):Ev->Option T:=fun J=>(f J).bind λ y=>match J[i]?,y with
 | some (some (.own (.z_ Aa))),.int k=>xb Aa (.inl k)
 | _,_=>none
@[simp] def bP (i:Nat) (f g:Ev->Option T):Ev->Option T:=fun J=>(f J).bind λ y=>(g J).bind λ z=>match J[i]?,y with
 | some (some (.own (.z_ Aa))),.int k=>some ((xb Aa (.inl k)).getD z)
 | _,_=>none
@[simp] def bN (i:Nat) (f v:Ev->Option T):Sm:=fun J=>(v J).bind λ z=>(f J).bind λ y=>match J[i]?,y with
 | some (some (.own (.z_ Aa))),.int k=>if Aa.length<sizeLine then some (.nx (J.set i (some (.own (.z_ (vO Aa (.inl k) z)))))) else none
 | _,_=>none
@[simp] noncomputable def iR (i:Nat):Ev->Option T:=fun J=>match J[i]? with
 | some (some (.own (.z_ Aa)))=>some (.int Aa.length)
 | _=>none
theorem mR {S:SS}{Z:Addr->Prop}{L:yd}{J:Ev}(hE:ER S Z L J) {i:Nat}{Aa:List (Key×T)}(h:J[i]?=some (some (.own (.z_ Aa)))):∃ p b,L[i]?=some (some (.ref p))/\S p=some (.z_ b)/\yu (zQ S Z) Aa b:=by
 obtain⟨p,o,h1,h2,h3,_⟩:=hE.ow i _ h;cases o with
 | z_ b=>exact⟨p,b,h1,h2,h3⟩
 | lst _=>exact h3.elim
section
variable {R:Rk}{f g v:Ev->Option T}{ty tx tv:zr}
theorem SG (i:Nat):yn R (bO i) (wO ae (hName i)):=λ S0 Z0 S Z L J o E F e P=>by
 cases e;intro p hp;exact P _ _ _ (F.ei (ts:=.z_ []) (ds:=.z_ []) (.new hp _) i hp sE rfl)
theorem dB (i:Nat) (hf:yp f ty):vf (iT i f) (ah (yw i) ty):=λ S Z L J y Q hE e hq=>by
 obtain⟨x,e1,e2⟩:=Aj.mp e;split at e2
 .rename_i Aa k h;obtain⟨p,b,h1,h2,h3⟩:=mR hE h;show yw i L S _;unfold yw;rw[h1];refine hf S Z L J _ _ hE e1 λ d S1 s1 r1=>?_;cases Vw.int r1;rcases (yu.sx (wz s1) h3).val (.inl k) with ⟨g1,_⟩ | ⟨t,d,g1,g2,g3⟩
  .rw[g1] at e2;cases e2
  .rw[g1] at e2;cases e2;exact⟨p,b,k,d,rfl,rfl,s1 _ _ h2,g2,hq d S1 s1 g3⟩
 .cases e2
theorem dD (i:Nat) (hf:yp f ty) (hg:vf g tx):vf (bP i f g) (ag (yw i) ty tx):=λ S Z L J y Q hE e hq=>by
 obtain⟨x,e1,e⟩:=Aj.mp e;obtain⟨z,e2,e3⟩:=Aj.mp e;split at e3
 .rename_i Aa k h;cases e3;obtain⟨p,b,h1,h2,h3⟩:=mR hE h;show yw i L S _;unfold yw;rw[h1];refine⟨p,rfl,⟨b,h2⟩,hf S Z L J _ _ hE e1 λ d S1 s1 r1=>?_⟩;cases Vw.int r1;refine hg S1 Z L J z _ (hE.grow s1) e2 λ dz S2 s2 r2=>⟨k,b,rfl,(s1.trans s2) _ _ h2,?_⟩;rcases (yu.sx (wz (s1.trans s2)) h3).val (.inl k) with ⟨g1,g2⟩ | ⟨t,d,g1,g2,g3⟩
  .rw[g2];rw[g1] at hq;exact hq _ S2 (s1.trans s2) r2
  .rw[g2];rw[g1] at hq;exact hq _ S2 (s1.trans s2) g3
 .cases e3
theorem SF (i:Nat) (hf:yp f ty) (hv:vf v tv):yn R (bN i f v) (af (yw i) ty tv):=λ S0 Z0 S Z L J o E F e P=>by
 obtain⟨z,e1,e⟩:=Aj.mp e;obtain⟨x,e2,e3⟩:=Aj.mp e;split at e3
 .rename_i Aa k h;split at e3
  .rename_i hl;cases e3;refine hv S Z L J z _ F.er e1 λ dz S1 s1 r1=>?_;have F1:=F.grow s1;obtain⟨p,b,h1,h2,h3⟩:=mR F1.er h;show yw i L S1 _;unfold yw;rw[h1];refine hf S1 Z L J _ _ F1.er e2 λ d S2 s2 r2=>?_;cases Vw.int r2;have h4:=yu.sx (wz s2) h3;exact⟨p,b,k,rfl,rfl,s2 _ _ h2,by rw[h4.len];exact hl,P _ Z L ((F1.grow s2).mut (us:=.z_ (vO Aa (.inl k) z)) (es:=.z_ (putD b (.inl k) dz)) i h h1 (h4.put _ (Sn.sx (wz s2) z r1)))⟩
  .cases e3
 .cases e3
theorem Qu (i:Nat):xp (iR i) (xl bB (rS (yw i) lK)):=λ S Z L J y Q hE e hq=>by
 unfold iR at e;split at e
 .rename_i Aa h;cases e;obtain⟨p,b,h1,h2,h3⟩:=mR hE h;show yw i L S _;unfold yw;rw[h1];refine⟨p,b,rfl,h2,?_⟩;rw[h3.len];exact hq _ S (.refl S) (Cl.of (λ _=>nofun) xB)
 .cases e
end
@[simp] noncomputable def o3 (f:Ev->Option T):Ev->Option T:=fun J=>(f J).bind λ x=>match x with
 | .int i=>some (.int (-i))
 | _=>none
def bX (ta:zr):zr:=fun L S Q=>ta L S λ x S1=>match x with
 | .int i=>Q (.int (-i)) S1
 | _=>False
theorem RI {f:Ev->Option T}{te:zr}(h:yp f te):xp (o3 f) (bX te):=λ S Z L J y Q hE e hq=>by
 obtain⟨x,e1,e2⟩:=Aj.mp e;refine h S Z L J x _ hE e1 λ d S1 s1 r1=>?_;split at e2
 .cases Vw.int r1;cases e2;exact hq _ S1 s1 (Cl.of (λ _=>nofun) xB)
 .cases e2
theorem O6:vi zC rK bA:=bc
theorem O5:vi zC vt b9:=bc
noncomputable def vS:List T->Option (List Int)
 | []=>some []
 | .int i::ts=>(vS ts).map (i::·)
 | _::_=>none
noncomputable def vk:List T->Option (List (List Int))
 | []=>some []
 | .tup r::ts=>(vS r).bind λ x=>(vk ts).map (x::·)
 | _::_=>none
noncomputable def zx (r:List Int):T:=.tup (r.map T.int)
theorem oG:∀ {ts:List T}{is:List Int},vS ts=some is->ts=is.map T.int
 | [],is,h=>by cases h;rfl
 | .int b::ts,is,h=>by
  unfold vS at h;obtain⟨cs,h1,rfl⟩:=AE.mp h;rw[Au,<- oG h1]
 | .zo::ts,bs,h=>by cases h
 | .bl _::ts,bs,h=>by cases h
 | .str _::ts,bs,h=>by cases h
 | .tup _::ts,bs,h=>by cases h
 | .lst _::ts,bs,h=>by cases h
theorem jw:∀ {ts:List T}{rs:List (List Int)},vk ts=some rs->ts=rs.map zx
 | [],is,h=>by cases h;rfl
 | .tup r::ts,is,h=>by
  unfold vk at h;obtain⟨x,h1,h⟩:=Aj.mp h;obtain⟨cs,h2,rfl⟩:=AE.mp h;rw[Au,<- jw h2,oG h1];rfl
 | .zo::ts,bs,h=>by cases h
 | .bl _::ts,bs,h=>by cases h
 | .str _::ts,bs,h=>by cases h
 | .int _::ts,bs,h=>by cases h
 | .lst _::ts,bs,h=>by cases h
theorem iz (is:List Int):vS (is.map T.int)=some is:=by
 induction is with
 | nil=>rfl
 | cons b bs ih=>rw[Au];unfold vS;rw[ih];rfl
theorem mK (rs:List (List Int)):vk (rs.map zx)=some rs:=by
 induction rs with
 | nil=>rfl
 | cons b bs ih=>
  show vk (.tup (b.map T.int)::bs.map zx)=_;unfold vk;rw[iz,ih];rfl
theorem tH {S:SS}:∀ {is:List Int}{ds:List D},zj S (is.map T.int) ds↔ds=is.map D.int
 | [],ds=>by simp only[A_,zj]
 | i::is,ds=>by
  rw[Au];simp only[zj,Sn];constructor
  .rintro⟨c,cs,rfl,rfl,h⟩;rw[tH.mp h];rfl
  .rintro rfl;exact⟨.int i,_,rfl,rfl,tH.mpr rfl⟩
theorem qw {S:SS}:∀ {rs:List (List Int)}{ds:List D},zj S (rs.map zx) ds↔ds=rs.map xM
 | [],ds=>by simp only[A_,zj]
 | r::rs,ds=>by
  rw[Au];simp only[zj,zx,Sn];constructor
  .rintro⟨c,cs,rfl,⟨es,rfl,h1⟩,h⟩;rw[qw.mp h,tH.mp h1];rfl
  .rintro rfl;exact⟨xM r,_,rfl,⟨_,rfl,tH.mpr rfl⟩,qw.mpr rfl⟩
@[simp] noncomputable def jg:T->Option String
 | .zo=>some "NoneType"
 | .bl _=>some "bool"
 | .int _=>some "int"
 | .str _=>some "str"
 | .tup _=>some "tuple"
 | .lst _=>some "list"
 | .yN=>some "dict"
 | .err _ _ _=>none
@[simp] def FK (ty:String) (f:Ev->Option T):Ev->Option T:=fun J=>(f J).bind λ x=>(jg x).map λ t=>.bl (wx t ty)
theorem Vw.err {S:SS}{Z:Addr->Prop}{c f:Str}{t:T}{d:D}(h:Vw S Z (.err c f t) d):∃ x,d=.err c f x/\Sn (zQ S Z) t x:=by
 rcases h with h | ⟨_,_,_,h,_⟩
 .simpa only [Sn] using h
 .cases h
theorem Ql {ty:String}{f:Ev->Option T}{te:zr}(hf:yp f te):xp (FK ty f) (qV ty te):=λ S Z L J y Q hE e hq=>by
 obtain⟨x,e1,e2⟩:=Aj.mp e;obtain⟨n,e3,rfl⟩:=AE.mp e2;refine hf S Z L J x _ hE e1 λ d S1 s1 r1=>?_;have key:sG d S1=some n:=by
  rw[<- e3];cases x with
  | zo=>cases Vw.zo r1;rfl
  | bl _=>cases Vw.bl r1;rfl
  | int _=>cases Vw.int r1;rfl
  | str _=>cases Vw.str r1;rfl
  | tup _=>obtain⟨ds,rfl,_⟩:=Vw.tup r1;rfl
  | lst _=>
   obtain⟨ds,rfl | ⟨a,rfl,h1⟩,h2⟩:=Vw.lst r1
   .rfl
   .unfold sG;dsimp only;rw[h1];rfl
  | yN=>
   obtain⟨a,Aa,⟨rfl,_⟩,h1⟩:=Vw.yN r1;unfold sG;dsimp only;rw[h1];rfl
  | err _ _ _=>cases e3
 rw[key];exact hq _ S1 s1 (Cl.of (λ _=>nofun) wF)
@[simp] noncomputable def isNone:T->Bool
 | .zo=>true
 | _=>false
noncomputable def qJ:D->Bool
 | .zo=>true
 | _=>false
noncomputable def zm (p:Int×Int):T:=.tup [.int p.1,.int p.2]
noncomputable def xu (ns:List Int):T:=.lst (ns.map .int)
@[simp] theorem zaa:sizeLine=16777216:=rfl
theorem Pg {n:Nat}(h:n<=10000):n<=sizeLine:=Br h (by decide)
theorem xG {α:Type}{xs:List α}{k:Nat}{x:α}(h:xs[k]?=some x):L2.zB xs (k:Int)=some x:=by
 unfold L2.zB L2.xF;have hk:=(AL.mp h).1;rw[if_pos (by lia),if_pos (by lia)];simpa using h
@[simp] theorem h_ {α:Type}{xs:List α}{x:α}:L2.zB (xs++[x]) (-1)=some x:=by
 unfold L2.zB L2.xF;rw[if_neg (by lia),if_pos (by simp;lia)];have:(-1+((xs++[x]).length:Int)).toNat=xs.length:=by simp;lia
 rw[Bu,this];simp
@[simp] theorem zap {α:Type}{x:α}{xs:List α}:L2.zB (x::xs) 0=some x:=xG (k:=0) rfl
@[simp] theorem zao {α:Type}{x y:α}{xs:List α}:L2.zB (x::y::xs) 1=some y:=xG (k:=1) rfl
@[simp] theorem zan {α:Type}{x y z:α}{xs:List α}:L2.zB (x::y::z::xs) 2=some z:=xG (k:=2) rfl
@[simp] theorem zam {α:Type}{x y z w:α}{xs:List α}:L2.zB (x::y::z::w::xs) 3=some w:=xG (k:=3) rfl
theorem iW {α:Type}(enc:α->T) (g:α->Option T) (h:T->Option (Option T)):∀ (xs:List α),(∀ x∈xs,h (enc x)=some (g x))->rV h (xs.map enc)=some (xs.filterMap g)
 | [],_=>rfl
 | x::xs,hh=>by
  rw[Au];unfold rV;rw[hh x Am,iW enc g h xs λ y hy=>hh y (Av _ hy)];cases q:g x <;> simp[q]
theorem NH {α:Type}(enc:α->T) (g:α->T) (h:T->Option (Option T)) (xs:List α) (hh:∀ x∈xs,h (enc x)=some (some (g x))):rV h (xs.map enc)=some (xs.map g):=by
 rw[iW enc (λ x=>some (g x)) h xs hh];simp
theorem xj {α:Type}(enc:α->T) (h:α->T) {pick:List (Option Nat)}{it:Ev->Option (List T)}{g:T->Ev->Option Ev}{c:Ev->Option Bool}{f:Ev->Option T}{J:Ev}(xs:List α) (hi:it J=some (xs.map enc)) (hl:xs.length<=16777216)
  (hh:∀ x∈xs,wK pick g c f J (enc x)=some (some (h x))):yg pick it g c f J=some (.lst (xs.map h)):=by
 unfold yg;rw[hi,Bu,if_pos (by rw[AA];exact hl),NH enc h _ xs hh];rfl
theorem sQ {α:Type}(enc:α->T) (h:α->Option T) {pick:List (Option Nat)}{it:Ev->Option (List T)}{g:T->Ev->Option Ev}{c:Ev->Option Bool}{f:Ev->Option T}{J:Ev}(xs:List α) (hi:it J=some (xs.map enc)) (hl:xs.length<=16777216)
  (hh:∀ x∈xs,wK pick g c f J (enc x)=some (h x)):yg pick it g c f J=some (.lst (xs.filterMap h)):=by
 unfold yg;rw[hi,Bu,if_pos (by rw[AA];exact hl),iW enc h _ xs hh];rfl
section
variable {α:Type}{is:List Nat}{g:T->Ev->Option Ev}{b:Sm}
noncomputable def turn (g:T->Ev->Option Ev) (b:Sm) (y:T) (J:Ev):Option Out:=(g y J).bind b
theorem jZ (y:T) (ys:List T) (J:Ev):x8 is g b (y::ys) J=(turn g b y (yq is J)).bind λ o=>match o with
  | .nx J2=>x8 is g b ys J2
  | .ct J2=>x8 is g b ys J2
  | .bk J2=>some (.nx (yq is J2))
  | .rt t=>some (.rt t):=by
 unfold turn;rw[x8];cases g y (yq is J) <;> rfl
theorem mZ (enc:α->T) (test:α->Bool) (v:T) (J0:Ev):∀ (xs:List α) (J:Ev),yq is J=J0->(∀ x∈xs,∃ J',yq is J'=J0/\turn g b (enc x) J0=some (if test x=true then .rt v else .nx J'))->x8 is g b (xs.map enc) J=some (if xs.any test=true then .rt v else .nx J0)
 | [],J,h,_=>by rw[A_,x8,h];rfl
 | x::xs,J,h,hs=>by
  obtain⟨J',h1,h2⟩:=hs x Am;rw[Au,jZ,h,h2,BH];cases q:test x with
  | true=>simp
  | false=>
   have ih:=mZ enc test v J0 xs J' h1 λ y hy=>hs y (Av _ hy);simpa using ih
theorem d_ (enc:α->T) (I:List α->Ev->Prop):∀ (xs:List α) (pre:List α) (J:Ev),I pre (yq is J)->
  (∀ p x q,pre++xs=p++x::q->∀ J,I p J->∃ J',turn g b (enc x) J=some (.nx J')/\I (p++[x]) (yq is J'))->∃ J',x8 is g b (xs.map enc) J=some (.nx J')/\I (pre++xs) J'
 | [],pre,J,h,_=>⟨yq is J,by rw[A_,x8],by simpa using h⟩
 | x::xs,pre,J,h,hs=>by
  obtain⟨J',h1,h2⟩:=hs pre x xs rfl _ h;rw[Au,jZ,h1];have ih:=d_ enc I xs (pre++[x]) J' h2 λ p y q e=>hs p y q (by rw[<- e];simp);simpa using ih
theorem ur (enc:α->T) (I:List α->Ev->Prop) (xs:List α) (J:Ev) (h:I [] (yq is J))
  (hs:∀ p x q,xs=p++x::q->∀ J,I p J->∃ J',turn g b (enc x) J=some (.nx J')/\I (p++[x]) (yq is J')):∃ J',x8 is g b (xs.map enc) J=some (.nx J')/\I xs J':=d_ enc I xs [] J h hs
end
theorem ui (n:Nat) (h:n<=100000):xw [.int (n:Int)]=some ((List.range n).map λ(k:Nat)=>T.int (0+(k:Int))):=by
 show (if inR (n:Int)=true then some (rangeT 0 (n:Int).toNat) else none)=_;rw[if_pos (cV.mpr ⟨by lia,by lia⟩)];rfl
theorem rE (a:Key) (b:T) (Aa:List (Key×T)) (j:Key):xb ((a,b)::Aa) j=if a=j then some b else xb Aa j:=by
 by_cases h:a=j <;> simp[xb,h]
theorem fA (k j:Key) (d:T):∀ Aa:List (Key×T),xb (Aa.map λ kv=>if kv.1=k then (kv.1,d) else kv) j=(xb Aa j).map λ x=>if j=k then d else x
 | []=>rfl
 | (a,b)::Aa=>by
  have ih:=fA k j d Aa;rw[Au];by_cases hk:a=k
  .rw[if_pos hk,rE,rE,ih];by_cases hj:a=j
   .subst hj;subst hk;simp
   .rw[if_neg hj,if_neg hj]
  .rw[if_neg hk,rE,rE,ih];by_cases hj:a=j
   .subst hj;simp[hk]
   .rw[if_neg hj,if_neg hj]
theorem f9 (k j:Key) (d:T):∀ Aa:List (Key×T),(∀ kv∈Aa,¬ kv.1=k)->xb (Aa++[(k,d)]) j=if j=k then some d else xb Aa j
 | [],_=>by
  show xb [(k,d)] j=_;rw[rE];by_cases h:j=k
  .subst h;simp
  .rw[if_neg h,if_neg (λ z=>h z.symm)]
 | (a,b)::Aa,hn=>by
  have ih:=f9 k j d Aa λ kv Ez=>hn kv (Av _ Ez);have ha:¬ a=k:=hn (a,b) Am;show xb ((a,b)::(Aa++[(k,d)])) j=_;rw[rE,rE,ih];by_cases hj:a=j
  .subst hj;simp[ha]
  .rw[if_neg hj,if_neg hj]
theorem aQ (Aa:List (Key×T)) (k:Key):(Aa.any λ kv=>decide (kv.1=k))=(xb Aa k).isSome:=by
 unfold xb;rw[Option.isSome_map,BN,A9,List.find?_isSome]
theorem mr (Aa:List (Key×T)) (k j:Key) (d:T):xb (vO Aa k d) j=if j=k then some d else xb Aa j:=by
 unfold vO;split
 .rename_i h;rw[aQ] at h;rw[fA];by_cases hj:j=k
  .subst hj;obtain⟨x,hx⟩:=DM.mp h;simp[hx]
  .simp[hj]
 .rename_i h;exact f9 k j d Aa λ kv Ez z=>h (A9.mpr ⟨kv,Ez,K4 z⟩)
theorem cn (Aa:List (Key×T)) (k:Key) (d:T):(vO Aa k d).length=if (xb Aa k).isSome=true then Aa.length else Aa.length+1:=by
 have e:=aQ Aa k;unfold vO;rw[e];split <;> simp
noncomputable def vm (p:Int×Int):List Int:=[p.1,p.2]
def tG (ps:List (Int×Int)):List (Int×Int):=(L4.yT (ps.map vm)).map λ r=>(r.getD 0 0,r.getD 1 0)
theorem fS (ps:List (Int×Int)):(tG ps).map vm=L4.yT (ps.map vm):=by
 unfold tG;rw[AF]
 conv=>rhs;rw[<- List.map_id (L4.yT (ps.map vm))]
 refine CB λ r hr=>?_;obtain⟨p,_,rfl⟩:=Ah.mp ((L4.uh _).mem_iff.mp hr);rfl
theorem ju (ps:List (Int×Int)):(tG ps).Perm ps:=by
 have h:=L4.uh (ps.map vm);have:(tG ps).Perm ((ps.map vm).map λ r=>(r.getD 0 0,r.getD 1 0)):=h.map _
 rwa [AF,show ((λ r:List Int=>(r.getD 0 0,r.getD 1 0)) ∘ vm)=id from rfl,List.map_id] at this
def qG (p q:Int×Int):Prop:=p.1<q.1\/(p.1=q.1/\p.2<=q.2)
theorem fR (ps:List (Int×Int)):(tG ps).Pairwise qG:=by
 have h:=L4.pX (ps.map vm);rw[<- fS,Bx] at h;refine h.imp λ{p q} CJ=>?_;unfold vm at CJ;rw[HT.tP,HT.tP] at CJ;unfold qG;by_cases e:q.1=p.1
 .rw[if_pos e] at CJ;by_cases e2:q.2=p.2
  .lia
  .rw[if_neg e2] at CJ;have:=of_decide_eq_false CJ
   lia
 .rw[if_neg e] at CJ;have:=of_decide_eq_false CJ
  lia
theorem Wi (ps:List (Int×Int)):vk (ps.map zm)=some (ps.map vm):=by
 have:=mK (ps.map vm)
 rwa [AF,show zx ∘ vm=zm from rfl] at this
noncomputable def yU (q p:Int×Int):Bool:=decide (p.1<=q.1)&&decide (p.2<=q.2)
def ya (ps:List (Int×Int)) (q:Int×Int):Bool:=ps.any (yU q)
theorem yO {ps:List (Int×Int)}{q:Int×Int}:ya ps q=true↔∃ p∈ps,p.1<=q.1/\p.2<=q.2:=by
 unfold ya yU;simp[A9]
theorem NC {ps qs:List (Int×Int)}(h:ps.Perm qs) (q:Int×Int):ya ps q=ya qs q:=by
 rw[BN,yO,yO];exact⟨λ⟨p,h1,h2⟩=>⟨p,h.mem_iff.mp h1,h2⟩,λ⟨p,h1,h2⟩=>⟨p,h.mem_iff.mpr h1,h2⟩⟩
theorem ND (ps qs:List (Int×Int)) (q:Int×Int):ya (ps++qs) q=(ya ps q||ya qs q):=by
 unfold ya;rw[List.any_append]
def y_ (ps:List (Int×Int)):Prop:=ps.Pairwise λ p q=>p.1<q.1/\q.2<p.2
theorem y_.eq:∀ {ps qs:List (Int×Int)},y_ ps->y_ qs->(∀ q,ya ps q=ya qs q)->ps=qs
 | [],[],_,_,_=>rfl
 | [],q::qs,_,_,h=>by
  have:=h q;rw[show ya [] q=false from rfl] at this;have h2:ya (q::qs) q=true:=yO.mpr ⟨q,Am,Ax _,Ax _⟩;rw[h2] at this;cases this
 | p::ps,[],_,_,h=>by
  have:=h p;rw[show ya [] p=false from rfl] at this;have h2:ya (p::ps) p=true:=yO.mpr ⟨p,Am,Ax _,Ax _⟩;rw[h2] at this;cases this
 | p::ps,q::qs,hp,hq,h=>by
  have JM:=Bg.mp hp;have JL:=Bg.mp hq;have a1:∃ r∈q::qs,r.1<=p.1/\r.2<=p.2:=yO.mp (by rw[<- h];exact yO.mpr ⟨p,Am,Ax _,Ax _⟩);have a2:∃ r∈p::ps,r.1<=q.1/\r.2<=q.2:=yO.mp (by rw[h];exact yO.mpr ⟨q,Am,Ax _,Ax _⟩);obtain⟨r,hr,r1,r2⟩:=a1;obtain⟨u,hu,u1,u2⟩:=a2;have qr:q.1<=r.1:=by
   rcases Ai.mp hr with e | e
   .subst e;exact Ax _
   .exact Int.le_of_lt (JL.1 r e).1
  have pu:p.1<=u.1:=by
   rcases Ai.mp hu with e | e
   .subst e;exact Ax _
   .exact Int.le_of_lt (JM.1 u e).1
  have e1:p.1=q.1:=by lia
  have er:r=q:=by
   rcases Ai.mp hr with e | e
   .exact e
   .have:=(JL.1 r e).1;lia
  have eu:u=p:=by
   rcases Ai.mp hu with e | e
   .exact e
   .have:=(JM.1 u e).1;lia
  subst er eu;have e2:u.2=r.2:=by lia
  have epq:u=r:=Prod.ext e1 e2;subst epq;rw[y_.eq JM.2 JL.2 λ x=>?_];have hx:=h x;unfold ya at hx ⊢;rw[BH,BH] at hx;cases g:yU x u with
  | false=>rw[g] at hx;simpa using hx
  | true=>
   have gx:u.1<=x.1/\u.2<=x.2:=by simpa [yU] using g
   have key:∀ {l:List (Int×Int)},(∀ v∈l,u.1<v.1/\v.2<u.2)->l.any (yU x)=l.any (yU (x.1,u.2-1)):=by
    intro l hl;rw[BN,A9,A9];constructor
    .rintro⟨v,hv,hg⟩;have:=hl v hv;have hg':v.1<=x.1/\v.2<=x.2:=by simpa [yU] using hg
     exact⟨v,hv,by simp[yU];lia⟩
    .rintro⟨v,hv,hg⟩;have:=hl v hv;have hg':v.1<=x.1/\v.2<=u.2-1:=by simpa [yU] using hg
     exact⟨v,hv,by simp[yU];lia⟩
   rw[key JM.1,key JL.1];have hy:=h (x.1,u.2-1);unfold ya at hy;rw[BH,BH] at hy;have gn:yU (x.1,u.2-1) u=false:=by
    unfold yU;rw[show decide (u.2<=(x.1,u.2-1).2)=false from KZ (by show ¬ u.2<=u.2-1;lia),CQ]
   rw[gn] at hy;simpa using hy
noncomputable def uX (l:Option Int) (x:Int):Bool:=match l with
 | none=>true
 | some m=>decide (x<m)
noncomputable def y8:List (Int×Int)->Option Int->List (Int×Int)
 | [],_=>[]
 | p::ps,l=>if uX l p.2=true then p::y8 ps (some p.2) else y8 ps l
def wJ (ps:List (Int×Int)):List (Int×Int):=y8 (tG ps) none
theorem oH:∀ (ps:List (Int×Int)) (l:Option Int) (q:Int×Int),q∈y8 ps l->q∈ps/\∀ m,l=some m->q.2<m
 | [],l,q,h=>by simp[y8] at h
 | p::ps,l,q,h=>by
  unfold y8 at h;split at h
  .rename_i c;have hm:∀ m,l=some m->p.2<m:=λ m e=>by subst e;simpa [uX] using c
   rcases Ai.mp h with e | e
   .subst e;exact⟨Am,hm⟩
   .obtain⟨h1,h2⟩:=oH ps _ q e;exact⟨Av _ h1,λ m e=>by have:=h2 _ rfl;have:=hm m e;lia⟩
  .obtain⟨h1,h2⟩:=oH ps _ q h;exact⟨Av _ h1,h2⟩
theorem i6:∀ (ps:List (Int×Int)) (l:Option Int),ps.Pairwise qG->y_ (y8 ps l)
 | [],l,_=>by simp[y8,y_]
 | p::ps,l,h=>by
  have h1:=Bg.mp h;unfold y8;split
  .refine Bg.mpr ⟨λ q hq=>?_,i6 ps _ h1.2⟩;obtain⟨g1,g2⟩:=oH ps _ q hq;have:=h1.1 q g1;have:=g2 _ rfl;unfold qG at *
   lia
  .exact i6 ps _ h1.2
theorem i7:∀ (ps:List (Int×Int)) (l:Option Int),ps.Pairwise qG->∀ p∈ps,(∃ q∈y8 ps l,q.1<=p.1/\q.2<=p.2)\/∃ m,l=some m/\m<=p.2
 | [],l,_,p,hp=>by cases hp
 | r::ps,l,h,p,hp=>by
  have h1:=Bg.mp h;unfold y8;split
  .rename_i c;rcases Ai.mp hp with e | e
   .subst e;exact .inl ⟨p,Am,Ax _,Ax _⟩
   .rcases i7 ps (some r.2) h1.2 p e with ⟨q,q1,q2⟩ | ⟨m,e1,e2⟩
    .exact .inl ⟨q,Av _ q1,q2⟩
    .cases e1;have:=h1.1 p e;unfold qG at this;exact .inl ⟨r,Am,by lia,e2⟩
  .rename_i c;rcases Ai.mp hp with e | e
   .subst e;cases l with
    | none=>simp[uX] at c
    | some m=>exact .inr ⟨m,rfl,by simpa [uX] using c⟩
   .exact i7 ps l h1.2 p e
theorem lg (ps:List (Int×Int)):y_ (wJ ps):=i6 _ _ (fR ps)
theorem Pm {ps:List (Int×Int)}{q:Int×Int}(h:q∈wJ ps):q∈ps:=(ju ps).mem_iff.mp (oH _ _ q h).1
theorem oA (ps:List (Int×Int)) (q:Int×Int):ya (wJ ps) q=ya ps q:=by
 rw[<- NC (ju ps) q,BN,yO,yO];constructor
 .rintro⟨p,h1,h2⟩;exact⟨p,(oH _ _ p h1).1,h2⟩
 .rintro⟨p,h1,h2⟩;rcases i7 (tG ps) none (fR ps) p h1 with ⟨r,r1,r2⟩ | ⟨m,e,_⟩
  .exact⟨r,r1,by lia,by lia⟩
  .cases e
end L5
namespace L2
open PySem PySem.Spec PyProof.Rows
section
variable {X:Cx}
def eV (K:Ab):R2:=λ x y H Q=>∃ l b xs zs,x=.ref l/\y=.ref b/\zL K H l xs/\zL K H b zs/\xs.length+zs.length<=sizeLine/\∀ p,H p=none->Q (.ref p) (upd H p (.lst (xs++zs)))
theorem Si:zV X (binaryOp .Add) (eV X.K):=by
 intro EM s Y H x y v u Q I rx ry h;obtain⟨l,b,xs,zs,rfl,rfl,hH,hB,hz,q⟩:=h;cases rx;cases ry;obtain⟨its,r,p1,_⟩:=I.list hH;obtain⟨Fp,r2,p2,_⟩:=I.list hB;obtain⟨⟨cls,dd,data,sl⟩,ho,hc,n,hd⟩:=p1.isList;obtain⟨⟨IB,HA,data2,Hv⟩,G8,F5,n2,hd2⟩:=p2.isList;simp only at hc hd F5 hd2;subst hc hd F5 hd2;have e:its.toArray++Fp.toArray=(its++Fp).toArray:=by simp
 refine concat_meets ⟨_,ho,rfl⟩ ⟨_,G8,rfl⟩ noFill_list_add seq_list_add PySem.F.slot_list_add PySem.F.entry_list_add (PySem.F.args_list_add_2 _ _) (list_addW l b its.toArray Fp.toArray n n2 dd HA sl Hv (by rw[Az,Az,<- r.length,<- r2.length];exact hz)) ⟨ho,G8,?_⟩;rw[e];exact⟨.ref _,_,I.Pe (t':=s.toks) (r.append r2) (by rw[Cv];lia),rfl,q _ I.fresh⟩
def eT (K:Ab):R2:=λ x y H Q=>∃ a b ys,x=.ref a/\y=.ref b/\zR K H a []/\zR K H b ys/\Q (.ref b) H
theorem Sg:zV X (binaryOp .Add) (eT X.K):=by
 intro EM s Y H x y v u Q I rx ry h;obtain⟨l,b,ys,rfl,rfl,hH,hB,q⟩:=h;cases rx;cases ry;obtain⟨its,r,p1,_⟩:=I.tuple hH;obtain⟨Fp,r2,p2,_⟩:=I.tuple hB;obtain⟨⟨cls,dd,data,sl⟩,ho,hc,n,hd⟩:=id p1;obtain⟨⟨IB,HA,data2,Hv⟩,G8,F5,n2,hd2⟩:=id p2;simp only at hc hd F5 hd2;subst hc hd F5 hd2;exact concat_meets ⟨_,ho,rfl⟩ ⟨_,G8,rfl⟩ noFill_tuple_add seq_tuple_add PySem.F.slot_tuple_add PySem.F.entry_tuple_add (PySem.F.args_tuple_add_2 _ _)
   (tuple_addW0 l b its.toArray Fp.toArray n n2 dd HA sl Hv (by cases r;rfl)) ⟨ho,G8,⟨.ref b,H,I,rfl,q⟩⟩
end
end L2
namespace L5
open PySem PySem.Spec L2 L3
open PyProof.Rows hiding St
section
variable {X:Cx}{K:Ab}{a b c e:Expr}{es:List Expr}{ta tb tc te:zr}{tA:yh}{pos p:Pos}
theorem vY.mo:xh vY:=λ x y S Q Q' hq h=>by
 cases x with
 | int i=>cases y <;> first | exact hq _ _ h | exact h
 | str i=>cases y <;> first | exact⟨h.1,hq _ _ h.2⟩ | exact h
 | tup i=>cases y <;> first | exact⟨h.1,hq _ _ h.2⟩ | exact h
 | xv ds=>
  unfold vY at h ⊢;dsimp only at h ⊢;split at h
  .exact⟨h.1,h.2.1,λ r hr=>hq _ _ (h.2.2 r hr)⟩
  .exact h.elim
 | ref q=>
  unfold vY at h ⊢;dsimp only at h ⊢;split at h
  .exact⟨h.1,h.2.1,λ r hr=>hq _ _ (h.2.2 r hr)⟩
  .exact h.elim
 | _=>exact h
theorem sJ {H:Hp}{S:SS}{d:D}{v:V}{ds:List D}(r:zg K H d v) (p:zJ K H S) (e:zO d S=some ds) (n:∀ ts,d≠.tup ts):∃ a xs,v=.ref a/\zL K H a xs/\zl K H ds xs:=by
 unfold zO at e;split at e
 .exact absurd rfl (n _)
 .cases e;simp only[zg] at r;obtain⟨a,xs,h1,h2,h3⟩:=r;exact⟨a,xs,h1,h2.sq,h3⟩
 .split at e
  .rename_i q;cases e;simp only[zg] at r;subst r;obtain⟨xs,h1,h2⟩:=p _ _ q;exact⟨_,xs,rfl,zL.of h1,h2⟩
  .cases e
 .cases e
abbrev eX (K:Ab):R2:=λ x y H Q=>wH (λ i j=>.int (i+j)) x y H Q\/((∃ i j,x=.str i/\y=.str j/\i.length+j.length<=sizeLine/\Q (.str (i++j)) H)\/(eV K x y H Q\/(eT K x y H Q\/eU K x y H Q)))
theorem vY.fits:yS K vY (eX K):=λ x y d e H S Q h1 h2 h3 h=>by
 have lst:(∀ ts,d≠.tup ts)->(match zO d S,zO e S with
  | some ds,some es=>(∀ ts,e≠.tup ts)/\ds.length+es.length<=sizeLine/\∀ r,S r=none->wb K H Q (.ref r) (ups S r (.lst (ds++es)))
  | _,_=>False)->eX K x y H Q:=λ n h=>by
  split at h
  .rename_i ds es q1 q2;obtain⟨a,xs,rfl,g1,g2⟩:=sJ h1 h3 q1 n;obtain⟨b,ys,rfl,g3,g4⟩:=sJ h2 h3 q2 h.1;refine .inr (.inr (.inl ⟨a,b,xs,ys,rfl,rfl,g1,g3,by rw[<- g2.length,<- g4.length];exact h.2.1,λ p hp=>?_⟩));exact h.2.2 p (h3.none hp) _ _ (by simp only[zg]) (.new hp _) (h3.ups (.new hp _) ⟨_,yz,zl.ext (.new hp _) _ (g2.append g4)⟩)
  .exact h.elim
 cases d with
 | int i=>
  cases e with
  | int j=>
   simp only[zg] at h1 h2;exact .inl ⟨_,_,h1,h2,h _ H (by simp only[zg]) (.refl H) h3⟩
  | _=>exact h.elim
 | str i=>
  cases e with
  | str j=>
   simp only[zg] at h1 h2;exact .inr (.inl ⟨_,_,h1,h2,h.1,h.2 _ H (by simp only[zg]) (.refl H) h3⟩)
  | _=>exact h.elim
 | tup ds=>
  cases e with
  | tup es=>
   have Jr:=h1;have KC:=h2;simp only[zg] at h1 h2;obtain⟨a,xs,rfl,g1,g2⟩:=h1;obtain⟨b,ys,rfl,g3,g4⟩:=h2;have hl:=g2.length;have GN:=g4.length;by_cases hx:xs=[]
   .subst hx;have:ds=[]:=by cases ds <;> simp_all
    subst this;exact .inr (.inr (.inr (.inl ⟨a,b,ys,rfl,rfl,g1,g3,h.2 _ H KC (.refl H) h3⟩)))
   .refine .inr (.inr (.inr (.inr ⟨a,b,xs,ys,rfl,rfl,g1,g3,hx,by rw[<- hl,<- GN];exact h.1,λ hy=>?_,λ hy p hp=>?_⟩)))
    .subst hy;have:es=[]:=by cases es <;> simp_all
     subst this;refine h.2 _ H ?_ (.refl H) h3;rw[C_];exact Jr
    .refine h.2 _ _ ?_ (.new hp _) (h3.new hp);simp only[zg];exact⟨p,_,rfl,zR.of yz,zl.ext (.new hp _) _ (g2.append g4)⟩
  | _=>exact h.elim
 | xv ds=>exact lst (λ _=>nofun) h
 | ref q=>exact lst (λ _=>nofun) h
 | _=>exact h.elim
theorem T5 (ha:PD X a ta) (hb:PD X b tb):PD X (.BinOp a .Add b pos) (yf vY ta tb):=sN (Sk.or (Sj.or (Si.or (Sg.or Sh)))) vY.fits vY.mo ha hb
theorem v9.mo {g:List Bool->Bool}:vh (v9 g):=λ ds S Q Q' hq h=>by
 unfold v9 at h ⊢;split at h
 .exact h.elim
 .obtain⟨bs,h1,h2⟩:=h;exact⟨bs,h1,hq _ _ h2⟩
 .exact h.elim
theorem v9.fits {g:List Bool->Bool}:uf K (v9 g) (λ xs H Q=>∃ p,∃ bs:List Bool,xs=[.ref p]/\zL K H p (bs.map V.bl)/\Q (.bl (g bs)) H):=λ xs ds H S Q h0 h2 h=>by
 unfold v9 at h;split at h
 .exact h.elim
 .rename_i d hn;obtain⟨x,hx,h1⟩:=h0.one;subst hx;obtain⟨bs,e,h⟩:=h;obtain⟨a,ys,rfl,g1,g2⟩:=sJ h1 h2 e (λ ts z=>hn ts z);rw[g2.bools] at g1;exact⟨a,bs,rfl,g1,h _ H (by simp only[zg]) (.refl H) h2⟩
 .exact h.elim
theorem T4 (hm:X.mg "all"=none) (ha:yR X (e::es) tA) (hc:X.calm=true) (hg:Gl X "all") (he:starEach (e::es) X.env=(false,eval e X.env)::starEach es X.env) (Aq:(backTo pos (starEach es X.env)).any (·.1)=false):PD X (.Call (.Name "all" p) (e::es) [] pos) (xl (v9 λ bs=>bs.all id) tA):=
 uk (uI (Mn hc) hg hm boot_all ha.pa (by decide) (by decide) he Aq) v9.mo v9.fits ha.mo
theorem T2 (hm:X.mg "any"=none) (ha:yR X (e::es) tA) (hc:X.calm=true) (hg:Gl X "any") (he:starEach (e::es) X.env=(false,eval e X.env)::starEach es X.env) (Aq:(backTo pos (starEach es X.env)).any (·.1)=false):PD X (.Call (.Name "any" p) (e::es) [] pos) (xl (v9 λ bs=>bs.any id) tA):=
 uk (uI (Mm hc) hg hm boot_any ha.pa (by decide) (by decide) he Aq) v9.mo v9.fits ha.mo
theorem cD {H:Hp}{d:D}{v:V}(r:zg K H d v):decide (v=.zo)=qJ d:=by
 cases d with
 | tup _=>simp only[zg] at r;obtain⟨a,xs,rfl,_⟩:=r;rfl
 | xv _=>simp only[zg] at r;obtain⟨a,xs,rfl,_⟩:=r;rfl
 | err _ _ _=>simp only[zg] at r;obtain⟨a,_,_,_,rfl,_⟩:=r;rfl
 | _=>simp only[zg] at r;subst r;rfl
theorem UD (ha:PD X a ta):PD X (.UnaryOp .USub a pos) (bX ta):=by
 refine⟨fun L S Q Q' hq h=>ha.mo L S _ _ (λ x S1 z=>by
  cases x <;> first
   | exact hq _ _ z
   | exact z) h,PE.imp (Vq YQ ha.pe) fun Y H Q hu=>?_⟩
 obtain⟨L,S,r1,r2,h⟩:=hu;refine zK.go ha.mo r1 r2 h λ x S1 v H1 h1 q1 e1 p1=>?_;cases x with
 | int i=>simp only[zg] at q1;exact⟨i,q1,h1 _ H1 (by simp only[zg]) e1 p1⟩
 | _=>exact h1.elim
section
variable {N':List Str}{pick:List (Option Nat)}{scope:Scope}{tg elt iter:Expr}{ifs:List Expr}{ti:xR}{g:yP}{GR:yx}
theorem uz.mo (hi:kM ti):ye (uz pick ti g GR te):=fun L S Q Q' hq z=>hi L S _ _ (λ I S1 ⟨h1,h2,h3⟩=>⟨h1,h2,λ p hp=>by
 obtain⟨W,w0,w1,w2,w3⟩:=h3 p hp;exact⟨W,w0,w1,w2,λ S2 acc a b c=>hq _ _ (w3 S2 acc a b c)⟩⟩) z
theorem fB (hi:kM ti) (hg:nK g) (hc:wD GR) (he:ye te) {Y:St}{H:Hp}{Q:VK}(hu:zK K (uz pick ti g GR te) Y H Q):jm pick (we K ti) (pQ K g) (xV K GR) (zK K te) Y H Q:=by
 obtain⟨L,S,r1,r2,z⟩:=hu;refine⟨L,S,r1,r2,hi L S _ _ (λ I S1 hF J H1 e1 p1 rep D hD=>?_) z⟩;obtain⟨hlen,hk,hF⟩:=hF;have Kv:S1 D=none:=p1.none hD;obtain⟨W,w0,wm,IJ,JW⟩:=hF D Kv;refine⟨λ i m Y H2=>m=I.items.length-i/\i<=I.items.length/\Ext H1 H2/\yD K H2 (vR pick L) Y/\∃ S2 acc,zJ K H2 S2/\Sx S1 S2/\S2 D=some (.lst acc)/\acc.length<=i/\W i S2 acc,⟨_,rfl,AV _,.new hD _,((r1.ext e1).pick pick).ext (.new hD _),ups S1 D (.lst []),[],?_,.new Kv _,sE,Af _,?_⟩,?_⟩
 .exact p1.ups (.new hD _) ⟨[],yz,.nil⟩
 .exact wm 0 S1 _ [] (λ b o hb q=>by rw[t9 hb];exact q) w0
 rintro i m Y2 H2 ⟨rfl,GQ,x2,q1,S2,acc,q2,sx,JQ,AY,hW⟩;obtain⟨g1,g2⟩:=rep i H2 S2 x2 q2 (hk S2 sx);by_cases hl:i<I.items.length
 .have hd:I.items[i]?=some I.items[i]:=by simp[hl]
  obtain⟨go,yl⟩:=g1 _ hd;refine .inr ⟨go,λ x H3 hy=>?_⟩;obtain⟨x3,p3,d3⟩:=yl x H3 hy;refine⟨_,_,S2,d3,q1.ext x3,p3,hg _ _ S2 _ _ (fun L4 S4 z4 Y4 H4 a1 a2 a3=>?_) (IJ i _ S2 acc hd sx JQ hW)⟩;obtain⟨hle,z4⟩:=z4;refine xV.go hc a1 a3 z4 λ b S5 H5 z5 x5 p5=>wL (λ z5=>?_) (λ z5=>?_) z5
  .refine zK.go he (a1.ext x5) p5 z5 λ y S6 v H6 z6 q6 x6 p6=>?_;obtain⟨s6,hW6⟩:=z6;obtain⟨ys,h6,r6⟩:=p6 _ _ (s6 _ _ JQ);have e6:Ext H6 (upd H6 D (.lst (ys++[v]))):=.lst h6 _;have hlen2:ys.length<=i:=by rw[<- r6.length];exact AY
   refine⟨ys,I.items.length-(i+1),h6,by lia,by lia,rfl,hl,((((x2.trans x3).trans a2).trans x5).trans x6).trans e6,hle.rep ((a1.ext (x5.trans x6)).ext e6),ups S6 D (.lst (acc++[y])),acc++[y],?_,λ b o hb=>?_,sE,by simp;lia,?_⟩
   .exact p6.ups e6 ⟨_,yz,zl.ext e6 _ (r6.snoc q6)⟩
   .rw[t9 (by intro q;subst q;rw[Kv] at hb;cases hb)];exact s6 _ _ (sx _ _ hb)
   .exact wm _ S6 _ _ (λ b o hb q=>by rw[t9 hb];exact q) hW6
  .obtain⟨s5,hW5⟩:=z5;exact⟨I.items.length-(i+1),by lia,rfl,hl,((x2.trans x3).trans a2).trans x5,hle.rep (a1.ext x5),S5,acc,p5,sx.trans s5,s5 _ _ JQ,by lia,hW5⟩
 .have e:i=I.items.length:=by lia
  subst e;exact .inl ⟨g2 (Af _),JW S2 acc sx JQ hW _ H2 (by simp only[zg]) (e1.trans x2) q2⟩
theorem UM (Sc:sC X N' pick scope) (hc:X.calm=true) (hi:ud X tg iter ti) (hg:∀ cl C s H fp,ve (yo X N' scope cl C s H fp) tg g) (hf:∀ cl C s H fp,pd (yo X N' scope cl C s H fp) ifs GR) (he:∀ cl C s H fp,PD (yo X N' scope cl C s H fp) elt te)
  (hs:∀ x,foldedSetIterable iter X.env x=pure x):
  PD X (.ListComp elt [⟨tg,iter,ifs,0⟩] scope pos) (uz pick ti g GR te):=
 ⟨uz.mo hi.mo,λ EM s Y H Q I hu=>V0 (g:=pQ X.K g) (tc:=xV X.K GR) (te:=zK X.K te) Sc hc hi.pi (λ cl C s H fp=>(hg cl C s H fp).pg) (λ cl C s H fp=>(hf cl C s H fp).pf) (λ cl C s H fp=>(he cl C s H fp).pe) hs EM s Y H Q I (fB hi.mo (hg [] 0 s H []).mo (hf [] 0 s H []).mo (he [] 0 s H []).mo hu)⟩
theorem V_ {i:Nat}{y:Str}{py Bb:Pos}(Sc:sC X N' pick scope) (hc:X.calm=true) (hi:ud X tg iter ti) (hg:∀ cl C s H fp,ve (yo X N' scope cl C s H fp) tg g) (hf:∀ cl C s H fp,pd (yo X N' scope cl C s H fp) ifs GR) (he:∀ cl C s H fp,PD (yo X N' scope cl C s H fp) elt te)
  (hN:X.N.Nodup) (hy:X.N[i]?=some y) (hx:Loc X.env.scope y)
  (Cb:swapsWith (.ListComp elt [⟨tg,iter,ifs,0⟩] scope pos) (some (.Name y py)) Bb.line X.env=pure true)
  (Ci:X.fn y=true\/X.env.scope.names.lookup y=some .local)
  (hs:∀ x,foldedSetIterable iter X.env x=pure x):
  xT X (.Assign [.Name y py] (.ListComp elt [⟨tg,iter,ifs,0⟩] scope pos) Bb) (wO (uz pick ti g GR te) (hName i)):=by
 refine⟨wO.mo (uz.mo hi.mo) λ _ _ _ _ _ hq z=>hq _ _ z,λ EM s Y H D I hu=>WG (g:=pQ X.K g) (tc:=xV X.K GR) (te:=zK X.K te) Sc hc hi.pi (λ cl C s H fp=>(hg cl C s H fp).pg) (λ cl C s H fp=>(hf cl C s H fp).pf) (λ cl C s H fp=>(he cl C s H fp).pe) hN hy hx Cb Ci hs EM s Y H D I ?_⟩;obtain⟨L,S,r1,r2,z⟩:=hu;refine fB hi.mo (hg [] 0 s H []).mo (hf [] 0 s H []).mo (he [] 0 s H []).mo ⟨L,S,r1,r2,uz.mo hi.mo L S _ _ (λ x S1 z v H1 q1 e1 p1=>?_) z⟩;exact z _ H1 ((r1.ext e1).set i q1) e1 p1
end
end
section
variable {P:Program}{w:World}{K:Ab}{mg:AI}{base:Heap}{f:Addr}{fd:FuncData}
theorem bx {R:Rk} [Lo R] {x:Str}{st:Stmt}{N ps:List Str}{k n:Nat}{g:Sm}(F:ue K x x st f fd) (Sc:tm N ps (ym st)) (hn:n=ps.length)
  (Fi:∀ (Ak:Value) (A:Around) (outer:List Env) (s:Shared) (H:Hp) (E:XK),yi k (A.deeper (envOfC x (ym st) s.heap.objs.size f Ak))->
   ∃ t,wR (wA xt P w K mg base N x (ym st) f Ak A outer s H E).wX (wc st) t/\yn R g t):vI P w K mg base xt (k+1) f fd ps (uE K (zF R (zI N n g))):=
 OM F Sc (λ ds S Q h=>by rw[h.len,hn]) λ Ak A outer s H E hr=>by
  obtain⟨t,h1,h2⟩:=Fi Ak A outer s H E hr;exact⟨t,h1,λ ds S Q h=>Mw h2 h⟩
theorem Nc {R:Rk} [Lo R] {x:Str}{st:Stmt}{N ps:List Str}{k n:Nat}{g:Sm}(F:ue K x x st f fd) (hm:mg x=some (.ref f)) (Sc:tm N ps (ym st)) (hn:n=ps.length)
  (hb:∀ (kV doc pm:Value) (an:Option Addr) (Ak ct:Value) (us:Ae),us.length=ps.length->bindArgs (PySem.W.fnOf x x (uV st) (wc st) (ym st) .none kV doc pm an Ak ct) ⟨us,[]⟩=pure (ps.zip us))
  (Fi:∀ (Ak:Value) (A:Around) (outer:List Env) (s:Shared) (H:Hp) (E:XK),yi k (A.deeper (envOfC x (ym st) s.heap.objs.size f Ak))->
   ∃ t,wR (wA xt P w K mg base N x (ym st) f Ak A outer s H E).wX (wc st) t/\yn R g t):FD P w K mg base x (k+1) ps (zF R (zI N n g)):=
 ⟨⟨f,fd,bx F Sc hn Fi,hm,F.kp,F.binds hb⟩,zF.mo⟩
theorem Px {R:Rk} [Sr R] {F:List T->Option T}(hF:∀ ns:List Int,ns.length<=63->F [.lst (ns.map T.int)]=some (.bl true)) {H:Hp}{a:Addr}{ns:List Int}{E:XK}(hO:kG H) (hS:zL K H a (ns.map V.int)) (hl:ns.length<=63):uE K (zF R F) [.ref a] H (λ v _=>v=.bl true) E:=by
 have hFz:pb K H a (ns.map V.int):=by
  rcases hS with (h | h) | h
  .rcases hO a with z | ⟨o,xs,z⟩
   .rw[h] at z;cases z
   .rw[h] at z;cases z
  .exact .inl h
  .exact .inr h
 refine⟨[.xv (ns.map D.int)],λ _=>none,.cons ?_ .nil,(λ a o z=>nomatch z),λ _=>False,[.lst (ns.map T.int)],.bl true,nofun,.cons ?_ .nil,hF ns hl,λ d S' s r v H' rv _ _=>?_⟩
 .simp only[zg];exact⟨a,_,rfl,hFz,zl.jP ns⟩
 .simp only[Sn];exact⟨_,.inl ⟨rfl,So ns⟩,tH.mpr rfl⟩
 .have:=Sr.sn r;simp only[Sn] at this;subst this;simpa only [zg] using rv
end
end L5
namespace ST
open PySem PySem.SetTable
def u7 (xs:List Nat):Prop:=xs.Pairwise (· < ·)
theorem iE {xs:Array Nat}{m d:Nat}(h:m<xs.size):xs.getD m d=xs[m]:=by simp[Array.getD,h]
theorem hZ (xs:Array Nat) (j:Nat) (hr:u7 xs.toList):∀ (f lo hi:Nat),hi-lo<=f->lo<=hi->hi<=xs.size->(∀ i (h:i<xs.size),i<lo->xs[i]<j)->(∀ i (h:i<xs.size),hi<=i->j<=xs[i])->
  below.go xs j f lo hi<=xs.size/\(∀ i (h:i<xs.size),i<below.go xs j f lo hi->xs[i]<j)/\∀ i (h:i<xs.size),below.go xs j f lo hi<=i->j<=xs[i]
 | 0,lo,hi,h1,h2,h3,h4,h5=>by
  unfold below.go;have:lo=hi:=by lia
  subst this;exact⟨h3,h4,h5⟩
 | f+1,lo,hi,h1,h2,h3,h4,h5=>by
  unfold below.go;have wo:∀ i k (hi:i<xs.size) (hk:k<xs.size),i<=k->xs[i]<=xs[k]:=λ i k hi hk DU=>by
   rcases Bn i k with q | q
   .have r:=CC.mp hr i k (by simpa using hi) (by simpa using hk) q;rw[CA,CA] at r;exact BQ r
   .have:i=k:=by lia
    subst this;exact Af _
  by_cases hl:lo<hi
  .rw[if_pos hl];dsimp only;have hm:(lo+hi)/2<xs.size:=by lia
   rw[iE hm];by_cases c:xs[(lo+hi)/2]<j
   .rw[if_pos c];refine hZ xs j hr f _ hi (by lia) (by lia) h3 (λ i GQ An=>?_) h5;have:=wo i ((lo+hi)/2) GQ hm (by lia)
    lia
   .rw[if_neg c];refine hZ xs j hr f lo _ (by lia) (by lia) (by lia) h4 (λ i GQ hge=>?_);have:=wo ((lo+hi)/2) i hm GQ hge
    lia
  .rw[if_neg hl];have:lo=hi:=by lia
   subst this;exact⟨h3,h4,h5⟩
theorem ku {xs:Array Nat}{j:Nat}(hr:u7 xs.toList):below xs j<=xs.size/\(∀ i (h:i<xs.size),i<below xs j->xs[i]<j)/\∀ i (h:i<xs.size),below xs j<=i->j<=xs[i]:=
 hZ xs j hr xs.size 0 xs.size (by lia) (by lia) (Af _) (λ i h q=>by lia) (λ i h q=>by lia)
theorem below_at {xs:Array Nat}{j i:Nat}(hr:u7 xs.toList) (h:xs[i]?=some j):below xs j=i:=by
 obtain⟨h1,h2,h3⟩:=ku (j:=j) hr;obtain⟨hi,e⟩:=Array.getElem?_eq_some_iff.mp h;have a:¬ i<below xs j:=λ q=>by have:=h2 i hi q;lia
 have b:¬ below xs j<i:=λ q=>by
  have:=h3 (below xs j) (by lia) (Af _);have r:=CC.mp hr (below xs j) i (by simp;lia) (by simpa using hi) q;simp at r
  lia
 lia
theorem Mz {xs:Array Nat}{j:Nat}(hr:u7 xs.toList):(xs[below xs j]?=some j)↔j∈xs.toList:=by
 constructor
 .intro h;obtain⟨hi,e⟩:=Array.getElem?_eq_some_iff.mp h;rw[<- e];simp
 .intro h;obtain⟨i,hi,e⟩:=B_.mp h;have hx:xs[i]?=some j:=by
   simp at hi;simp[hi] at e ⊢;exact e
  rw[below_at hr hx];exact hx
noncomputable def v_ (M:Nat) (p:Probe):Probe:=
 if p.more>0 then { p with j:=p.j+1,more:=p.more-1 } else
 let (i,perturb):=leap M p.i p.perturb
 { p with j:=i,more:=runEnd M i-i,i,perturb }
theorem gq (t:SetTable) (p:Probe):t.advance p=v_ t.mask p:=rfl
noncomputable def qy (M i perturb:Nat):Probe:={ j:=i,more:=runEnd M i-i,i:=i,perturb:=perturb,dummy:=none }
noncomputable def way (M:Nat) (h:Int):Nat->Probe
 | 0=>qy M (bits h%(M+1)) (bits h)
 | k+1=>v_ M (way M h k)
theorem MB (M:Nat) (p:Probe) (h:p.dummy=none):(v_ M p).dummy=none:=by
 unfold v_;split
 .exact h
 .exact h
theorem jb (M:Nat) (h:Int):∀ k,(way M h k).dummy=none
 | 0=>rfl
 | k+1=>MB M _ (jb M h k)
noncomputable def zU (M:Nat) (h:Int):Nat->Nat×Nat
 | 0=>(bits h%(M+1),bits h)
 | n+1=>leap M (zU M h n).1 (zU M h n).2
theorem jv (M i pt:Nat) (h:Int) (k:Nat) (hk:way M h k=qy M i pt):∀ m,m<=runEnd M i-i->way M h (k+m)={ j:=i+m,more:=runEnd M i-i-m,i:=i,perturb:=pt,dummy:=none }
 | 0,_=>by rw[Nat.add_zero,hk];rfl
 | m+1,hm=>by
  have ih:=jv M i pt h k hk m (by lia);show v_ M (way M h (k+m))=_;rw[ih];unfold v_;rw[if_pos (by show runEnd M i-i-m>0;lia)];simp only[Probe.mk.injEq];exact⟨by lia,by lia,trivial,trivial,trivial⟩
theorem Wh (M i:Nat):runEnd M i-i<=9:=by unfold runEnd;split <;> lia
theorem eA (M:Nat) (h:Int) (n k:Nat) (hk:way M h k=qy M (zU M h n).1 (zU M h n).2):way M h (k+(runEnd M (zU M h n).1-(zU M h n).1)+1)=qy M (zU M h (n+1)).1 (zU M h (n+1)).2:=by
 have:=jv M _ _ h k hk _ (Af _);show v_ M (way M h (k+_))=_;rw[this];unfold v_;rw[if_neg (by show ¬ _-_-(_-_)>0;lia)];rfl
theorem eB (M:Nat) (h:Int):∀ n,∃ k,k<=10*n/\way M h k=qy M (zU M h n).1 (zU M h n).2
 | 0=>⟨0,by lia,rfl⟩
 | n+1=>by
  obtain⟨k,h1,h2⟩:=eB M h n;have:=Wh M (zU M h n).1;exact⟨_,by lia,eA M h n k h2⟩
theorem Mx (h:Int):bits h<2 ^ 64:=by
 unfold bits;have h1:=Bo h (show (2 ^ 64:Int)≠0 by decide);have h2:=BK h (show (0:Int)<2 ^ 64 by decide)
 lia
theorem df (M:Nat) (h:Int):∀ n,(zU M h n).2*32 ^ n<=bits h
 | 0=>by simp[zU]
 | n+1=>by
  have ih:=df M h n;show ((zU M h n).2/32)*32 ^ (n+1)<=_;have:(zU M h n).2/32*32<=(zU M h n).2:=Nat.div_mul_le_self _ _
  calc (zU M h n).2/32*32 ^ (n+1)=((zU M h n).2/32*32)*32 ^ n:=by rw[Nat.pow_succ,DD (32 ^ n) 32,Nat.mul_assoc]
   _<=(zU M h n).2*32 ^ n:=Nat.mul_le_mul_right _ this
   _<=_:=ih
theorem Vo (M:Nat) (h:Int) (n:Nat) (hn:13<=n):(zU M h n).2=0:=by
 rcases D8 (zU M h n).2 with q | q
 .exact q
 .have h1:=df M h n;have h2:=Mx h;have h3:32 ^ 13<=32 ^ n:=Nat.pow_le_pow_right (by decide) hn;have h4:1*32 ^ n<=(zU M h n).2*32 ^ n:=Nat.mul_le_mul_right _ q;have h5:(2:Nat) ^ 64<32 ^ 13:=by decide
  lia
noncomputable def tL (M:Nat) (i:Nat):Nat->Nat
 | 0=>i
 | n+1=>(tL M i n*5+1)%(M+1)
theorem cq (M:Nat) (h:Int):∀ n,(zU M h (13+n)).1=tL M (zU M h 13).1 n
 | 0=>rfl
 | n+1=>by
  have ih:=cq M h n;have hz:=Vo M h (13+n) (by lia);show ((zU M h (13+n)).1*5+1+(zU M h (13+n)).2/32)%(M+1)=_;rw[hz,ih];rfl
theorem ox (M i:Nat):∀ a b,tL M i (a+b)=tL M (tL M i a) b
 | a,0=>rfl
 | a,b+1=>by
  show (tL M i (a+b)*5+1)%(M+1)=_;rw[ox M i a b];rfl
noncomputable def ou (M:Nat):Nat->Nat->List Nat
 | 0,_=>[]
 | n+1,i=>i::ou M n ((i*5+1)%(M+1))
theorem jL (M:Nat):∀ n i x,x∈ou M n i->∃ k,k<n/\tL M i k=x
 | 0,i,x,h=>by cases h
 | n+1,i,x,h=>by
  rcases Ai.mp h with e | e
  .exact⟨0,by lia,e.symm⟩
  .obtain⟨k,h1,h2⟩:=jL M n _ x e;exact⟨k+1,by lia,by rw[Nat.add_comm,ox];exact h2⟩
def vg (M:Nat):Prop:=M=7\/M=31\/M=127
theorem TB (M:Nat) (hM:vg M):(∀ e,e<=M->e∈ou M (M+1) 0)/\tL M 0 (M+1)=0:=by
 have key:∀ M,((List.range (M+1)).all λ e=>(ou M (M+1) 0).contains e)=true->∀ e,e<=M->e∈ou M (M+1) 0:=λ M h e he=>by
  have:=B3.mp h e (AB.mpr (by lia));simpa using this
 rcases hM with rfl | rfl | rfl
 .exact⟨key 7 (AD),AD⟩
 .exact⟨key 31 (AD),AD⟩
 .exact⟨key 127 (AD),AD⟩
theorem T9 (M:Nat) (hM:vg M) (i e:Nat) (hi:i<=M) (he:e<=M):∃ n,n<=M/\tL M i n=e:=by
 obtain⟨h1,h2⟩:=TB M hM;obtain⟨a,a1,a2⟩:=jL M _ _ _ (h1 i hi);obtain⟨b,b1,b2⟩:=jL M _ _ _ (h1 e he);rcases Bn b a with q | q
 .refine⟨M+1+b-a,by lia,?_⟩;rw[<- a2,<- ox,show a+(M+1+b-a)=(M+1)+b by lia,ox,h2,b2]
 .refine⟨b-a,by lia,?_⟩;rw[<- a2,<- ox,show a+(b-a)=b by lia,b2]
theorem Pn (M:Nat) (h:Int):∀ n,(zU M h n).1<=M
 | 0=>by have:=C2 (bits h) (show 0<M+1 by lia);show bits h%(M+1)<=M;lia
 | n+1=>by
  have:=C2 ((zU M h n).1*5+1+(zU M h n).2/32) (show 0<M+1 by lia);show (_%(M+1):Nat)<=M
  lia
theorem cu (M:Nat) (hM:vg M) (h:Int) (e:Nat) (he:e<=M):∃ n,n<M+14/\(zU M h n).1=e:=by
 obtain⟨n,h1,h2⟩:=T9 M hM (zU M h 13).1 e (Pn M h 13) he;exact⟨13+n,by lia,by rw[cq,h2]⟩
theorem YF (M:Nat) (hM:vg M) (h:Int) (e:Nat) (he:e<=M):∃ k,k<10*(M+15)/\(way M h k).j=e:=by
 obtain⟨n,h1,h2⟩:=cu M hM h e he;obtain⟨k,k1,k2⟩:=eB M h n;exact⟨k,by lia,by rw[k2];exact h2⟩
theorem fq (M:Nat) (h:Int):∀ k,(way M h k).j+(way M h k).more<=M/\(way M h k).i<=M
 | 0=>by
  have h1:bits h%(M+1)<=M:=by have:=C2 (bits h) (show 0<M+1 by lia);lia
  refine⟨?_,h1⟩;show bits h%(M+1)+(runEnd M (bits h%(M+1))-bits h%(M+1))<=M;unfold runEnd;split <;> lia
 | k+1=>by
  obtain⟨h1,h2⟩:=fq M h k;show (v_ M (way M h k)).j+(v_ M (way M h k)).more<=M/\(v_ M (way M h k)).i<=M;unfold v_;split
  .rename_i c;exact⟨by show (way M h k).j+1+((way M h k).more-1)<=M;lia,h2⟩
  .have h3:((way M h k).i*5+1+(way M h k).perturb/32)%(M+1)<=M:=by have:=C2 ((way M h k).i*5+1+(way M h k).perturb/32) (show 0<M+1 by lia);lia
   refine⟨?_,h3⟩;show _%(M+1)+(runEnd M (_%(M+1))-_%(M+1))<=M;unfold runEnd;split <;> lia
theorem ja (M:Nat) (h:Int) (k:Nat):(way M h k).j<=M:=by have:=(fq M h k).1;lia
structure Tab (t:SetTable) (hs:List Int):Prop where
 mask:vg t.mask
 sY:t.dummies=#[]
 len:t.place.size=hs.length
 wo:u7 t.place.toList
 top:∀ j∈t.place.toList,j<=t.mask
 oj:∀ (i:Nat) h j,hs[i]?=some h->t.place[i]?=some j->∃ k,(way t.mask h k).j=j/\∀ k'<k,(way t.mask h k').j∈t.place.toList
theorem Tab.live {t:SetTable}{hs:List Int}(T:Tab t hs) {i j:Nat}(h:t.place[i]?=some j):t.slot j=.live i:=by
 unfold SetTable.slot;dsimp only;rw[below_at T.wo h,if_pos (by rw[h];simp)]
theorem Tab.empty {t:SetTable}{hs:List Int}(T:Tab t hs) {j:Nat}(h:j∉t.place.toList):t.slot j=.empty:=by
 unfold SetTable.slot;dsimp only;have n1:¬ (t.place[below t.place j]? == some j)=true:=λ q=>h ((Mz T.wo).mp (by simpa using q));rw[if_neg n1,if_neg (by rw[T.sY];simp[has])]
theorem Tab.at {t:SetTable}{hs:List Int}(T:Tab t hs) {j:Nat}(h:j∈t.place.toList):∃ (i:Nat) (g:Int),t.place[i]?=some j/\hs[i]?=some g:=by
 obtain⟨i,hi,e⟩:=B_.mp h;have GQ:i<t.place.size:=by simpa using hi
 refine⟨i,hs[i]'(by rw[<- T.len];exact GQ),?_,by simp⟩;rw[Bh GQ];rw[CA] at e;rw[e]
theorem bf {t:SetTable}{hs:List Int}(T:Tab t hs) {hashAt:Nat->Int}(hA:∀ (i:Nat) g,hs[i]?=some g->hashAt i=g) (h:Int):∀ (f k:Nat),(∃ e,k<=e/\e<k+f/\(way t.mask h e).j∉t.place.toList)->
  ∃ k1,k<=k1/\(∀ m,k<=m->m<k1->∃ (i:Nat) (g:Int),t.place[i]?=some (way t.mask h m).j/\hs[i]?=some g/\g≠h)/\
   ((way t.mask h k1).j∉t.place.toList/\probe.go t hashAt h f (way t.mask h k)=some (.empty (way t.mask h k1).j none)\/
    ∃ i,t.place[i]?=some (way t.mask h k1).j/\hs[i]?=some h/\probe.go t hashAt h f (way t.mask h k)=some (.candidate (way t.mask h k1).j i (way t.mask h (k1+1))))
 | 0,k,⟨e,h1,h2,_⟩=>by lia
 | f+1,k,⟨e,h1,h2,h3⟩=>by
  by_cases hm:(way t.mask h k).j∈t.place.toList
  .obtain⟨i,g,p1,p2⟩:=T.at hm;by_cases hg:g=h
   .refine⟨k,Af _,λ m a b=>by lia,.inr ⟨i,p1,by rw[<- hg];exact p2,?_⟩⟩;unfold probe.go;rw[T.live p1];dsimp only;rw[hA i g p2,if_pos (by simp[hg]),gq];rfl
   .have Ao:e≠k:=λ q=>by subst q;exact h3 hm
    obtain⟨k1,q1,q2,q3⟩:=bf T hA h f (k+1) ⟨e,by lia,by lia,h3⟩;have eq:probe.go t hashAt h (f+1) (way t.mask h k)=probe.go t hashAt h f (way t.mask h (k+1)):=by
     conv=>lhs;unfold probe.go
     rw[T.live p1];dsimp only;rw[hA i g p2,if_neg (by simp[hg]),gq];rfl
    rw[eq];refine⟨k1,by lia,λ m a b=>?_,q3⟩;rcases Nat.eq_or_lt_of_le a with w | w
    .subst w;exact⟨i,g,p1,p2,hg⟩
    .exact q2 m w b
  .refine⟨k,Af _,λ m a b=>by lia,.inl ⟨hm,?_⟩⟩;unfold probe.go;rw[T.empty hm,jb]
theorem dG {xs ys:List Nat}(hx:xs.Nodup) (h:∀ x∈xs,x∈ys):xs.length<=ys.length:=by
 induction xs generalizing ys with
 | nil=>simp
 | cons x xs ih=>
  have h1:=A7.mp hx;have hxy:=h x Am;have:=ih h1.2 (ys:=ys.erase x) λ z hz=>by
   have Ao:z≠x:=λ e=>h1.1 (e▸hz);exact (DC Ao).mpr (h z (Av _ hz))
  rw[DB hxy] at this;have hp:=C1 hxy;simp only[A4]
  lia
theorem least {P:Nat->Prop}(k:Nat) (h:P k):∃ m,m<=k/\P m/\∀ m'<m,¬ P m':=by
 induction k using Nat.strongRecOn with
 | ind k ih=>
  rcases Classical.em (∃ m',m'<k/\P m') with ⟨m',h1,h2⟩ | q
  .obtain⟨m,g1,g2⟩:=ih m' h1 h2;exact⟨m,by lia,g2⟩
  .exact⟨k,Af _,h,λ m' hm hp=>q ⟨m',hm,hp⟩⟩
theorem OS {xs:List Nat}{M:Nat}(h:xs.length<=M):∃ e,e<=M/\e∉xs:=by
 rcases Classical.em (∃ e,e<=M/\e∉xs) with q | q
 .exact q
 .have:=dG (xs:=List.range (M+1)) (ys:=xs) D7 λ e he=>by
   have:=AB.mp he;rcases Classical.em (e∈xs) with w | w
   .exact w
   .exact absurd ⟨e,by lia,w⟩ q
  simp at this
  lia
def gB (t:SetTable) (h:Int) (j:Nat):Prop:=j∉t.place.toList/\∃ k,(way t.mask h k).j=j/\∀ k'<k,(way t.mask h k').j∈t.place.toList
theorem Tab.first {t:SetTable}{hs:List Int}(T:Tab t hs) (hl:hs.length<=t.mask) (h:Int):∃ K,K<10*(t.mask+15)/\(way t.mask h K).j∉t.place.toList/\∀ k'<K,(way t.mask h k').j∈t.place.toList:=by
 obtain⟨e,e1,e2⟩:=OS (xs:=t.place.toList) (M:=t.mask) (by rw[Bs,T.len];exact hl);obtain⟨k,k1,k2⟩:=YF t.mask T.mask h e e1;obtain⟨K,q1,q2,q3⟩:=least (P:=λ n=>(way t.mask h n).j∉t.place.toList) k (by rw[k2];exact e2);exact⟨K,by lia,q2,λ k' hk=>Classical.not_not.mp (q3 k' hk)⟩
theorem Wk {xs:List Nat}{j p:Nat}(h:u7 xs) (h1:∀ x∈xs.take p,x<j) (h2:∀ x∈xs.drop p,j<x):u7 (xs.take p++j::xs.drop p):=by
 refine DA.mpr ⟨h.sublist (List.take_sublist _ _),Bg.mpr ⟨h2,h.sublist (List.drop_sublist _ _)⟩,λ a ha b hb=>?_⟩;rcases Ai.mp hb with e | e
 .subst e;exact h1 a ha
 .have:=h1 a ha;have:=h2 b e;lia
theorem cR {α:Type}{xs:List α}{p i:Nat}{x y:α}(hp:p<=xs.length) (h:(xs.take p++x::xs.drop p)[i]?=some y):(i=p/\y=x)\/(i<p/\xs[i]?=some y)\/(p<i/\xs[i-1]?=some y):=by
 have hl:(xs.take p).length=p:=by rw[C9];lia
 rcases Dz i p with q | q | q
 .rw[Cs (by lia),List.getElem?_take,if_pos q] at h;exact .inr (.inl ⟨q,h⟩)
 .subst q;rw[Ct (by lia),hl] at h;simp at h;exact .inl ⟨rfl,h.symm⟩
 .rw[Ct (by lia),hl] at h;obtain⟨d,hd⟩:∃ d,i-p=d+1:=⟨i-p-1,by lia⟩
  rw[hd] at h;simp only[D6,List.getElem?_drop] at h;refine .inr (.inr ⟨q,?_⟩);rw[show i-1=p+d by lia];exact h
theorem Tab.put {t:SetTable}{hs:List Int}(T:Tab t hs) {h:Int}{j:Nat}(F:gB t h j):
  (t.put j).2<=hs.length/\(t.put j).1={ t with place:=insertAt t.place (t.put j).2 j }/\Tab (t.put j).1 (hs.take (t.put j).2++h::hs.drop (t.put j).2):=by
 obtain⟨b1,b2,b3⟩:=ku (xs:=t.place) (j:=j) T.wo;obtain⟨fn,K,k1,k2⟩:=F;have e2:(t.put j).2=below t.place j:=rfl;have e1:(t.put j).1={ t with place:=insertAt t.place (t.put j).2 j }:=by
  show ({ t with place:=insertAt t.place (below t.place j) j,dummies:=_ }:SetTable)=_;rw[if_neg (by rw[T.sY];simp[has]),e2]
 have pl:(insertAt t.place (below t.place j) j).toList=t.place.toList.take (below t.place j)++j::t.place.toList.drop (below t.place j):=toList_insertAt _ _ _;have old:∀ x∈t.place.toList,x∈(insertAt t.place (below t.place j) j).toList:=λ x hx=>by
  rw[pl];have:=Dy (below t.place j) t.place.toList;rw[<- this] at hx;rcases A2.mp hx with q | q
  .exact CD _ q
  .exact A3 _ (Av _ q)
 rw[e2] at e1 ⊢;refine⟨by rw[<- T.len];exact b1,e1,?_⟩;rw[e1];refine⟨T.mask,T.sY,?_,?_,?_,?_⟩
 .show (insertAt t.place (below t.place j) j).size=_;rw[<- Bs,pl];simp[T.len]
 .show u7 (insertAt t.place (below t.place j) j).toList;rw[pl];refine Wk T.wo (λ x hx=>?_) (λ x hx=>?_)
  .obtain⟨i,hi,e⟩:=B_.mp hx;rw[C9] at hi;rw[List.getElem_take,CA] at e;rw[<- e];exact b2 i (by simp at hi;lia) (by lia)
  .obtain⟨i,hi,e⟩:=B_.mp hx;rw[D_] at hi;rw[List.getElem_drop,CA] at e;have h3:=b3 (below t.place j+i) (by simp at hi;lia) (by lia);have hm:x∈t.place.toList:=List.mem_of_mem_drop hx;have Ao:x≠j:=λ q=>fn (q▸hm)
   lia
 .intro x hx;show x<=t.mask;have hx:x∈(insertAt t.place (below t.place j) j).toList:=hx;rw[pl] at hx;rcases A2.mp hx with q | q
  .exact T.top x (List.mem_of_mem_take q)
  .rcases Ai.mp q with e | e
   .subst e;rw[<- k1];exact ja _ _ _
   .exact T.top x (List.mem_of_mem_drop e)
 .intro i g x hg hx;show ∃ k,(way t.mask g k).j=x/\∀ k'<k,(way t.mask g k').j∈(insertAt t.place (below t.place j) j).toList;have hx:(insertAt t.place (below t.place j) j)[i]?=some x:=hx;rw[<- BM,pl] at hx;have Aq:below t.place j<=t.place.toList.length:=by simpa using b1
  have Em:below t.place j<=hs.length:=by rw[<- T.len];exact b1
  rcases cR Aq hx with ⟨c1,c2⟩ | ⟨c1,c2⟩ | ⟨c1,c2⟩ <;> rcases cR Em hg with ⟨d1,d2⟩ | ⟨d1,d2⟩ | ⟨d1,d2⟩ <;> first
   | lia
   | (subst c2 d2;exact⟨K,k1,λ k' hk=>old _ (k2 k' hk)⟩)
   | (obtain⟨k,g1,g2⟩:=T.oj _ g x d2 (by rw[<- BM];exact c2)
      exact⟨k,g1,λ k' hk=>old _ (g2 k' hk)⟩)
def rn (owner:Array (Option Nat)) (j:Nat):Prop:=∃ k,owner[j]?=some (some k)
theorem Na {P:Nat->Bool}{n k:Nat}(h:(List.range n).find? P=some k):k<n/\P k=true/\∀ k'<k,P k'=false:=by
 obtain⟨h1,as,bs,h2,h3⟩:=List.find?_eq_some_iff_append.mp h;have hlen:as.length=k:=by
  have e:(List.range n)[as.length]?=some k:=by rw[h2];simp
  have:=(AL.mp e)
  obtain⟨q1,q2⟩:=this;rw[DH] at q2;exact q2
 have hk:k<n:=by
  have:k∈List.range n:=by rw[h2];simp
  exact AB.mp this
 refine⟨hk,h1,λ k' G9=>?_⟩;have:k'∈as:=by
  have e:(List.range n)[k']?=some k':=D5 (by lia);rw[h2,Cs (by lia)] at e;exact Bi e
 have:=h3 k' this;simpa using this
theorem getD_none {owner:Array (Option Nat)}{j:Nat}(h:((owner.getD j (some 0)).isNone)=true):owner[j]?=some none:=by
 unfold Array.getD at h;split at h
 .rename_i hj;have e:owner[j]=none:=by simpa using h
  rw[Bh hj,e]
 .simp at h
theorem bj {owner:Array (Option Nat)}{j:Nat}(hj:j<owner.size) (h:((owner.getD j (some 0)).isNone)=false):rn owner j:=by
 unfold Array.getD at h;rw[dif_pos hj] at h;cases q:owner[j] with
 | none=>simp[q] at h
 | some k=>exact⟨k,by rw[Bh hj,q]⟩
theorem bu (M:Nat) (owner:Array (Option Nat)) (hsz:owner.size=M+1) (h:Int):∀ (fuel n kn:Nat),way M h kn=qy M (zU M h n).1 (zU M h n).2->(∀ q<kn,rn owner (way M h q).j)->
  (∃ n',n<=n'/\n'<n+fuel/\owner[(zU M h n').1]?=some none)->
  ∃ j q,layClean.free M owner fuel (zU M h n).1 (zU M h n).2=some j/\(way M h q).j=j/\owner[j]?=some none/\∀ q'<q,rn owner (way M h q').j
 | 0,n,kn,_,_,⟨n',h1,h2,_⟩=>by lia
 | fuel+1,n,kn,hk,ho,⟨n',h1,h2,h3⟩=>by
  have hre:runEnd M (zU M h n).1+1-(zU M h n).1=runEnd M (zU M h n).1-(zU M h n).1+1:=by unfold runEnd;split <;> lia
  have G1:∀ m,m<=runEnd M (zU M h n).1-(zU M h n).1->(way M h (kn+m)).j=(zU M h n).1+m:=λ m hm=>by rw[jv M _ _ h kn hk m hm]
  unfold layClean.free;cases hf:(List.range (runEnd M (zU M h n).1+1-(zU M h n).1)).find? (λ k=>(owner.getD ((zU M h n).1+k) (some 0)).isNone) with
  | some k=>
   obtain⟨f1,f2,f3⟩:=Na hf;refine⟨_,kn+k,rfl,G1 k (by lia),getD_none f2,λ q' hq=>?_⟩;rcases Bn q' kn with w | w
   .exact ho q' w
   .have e:(way M h q').j=(zU M h n).1+(q'-kn):=by
     have:=G1 (q'-kn) (by lia)
     rwa [show kn+(q'-kn)=q' by lia] at this
    have hle:=ja M h q';rw[e] at hle ⊢;exact bj (by lia) (f3 (q'-kn) (by lia))
  | none=>
   have f3:=List.find?_eq_none.mp hf;have occ:∀ m,m<=runEnd M (zU M h n).1-(zU M h n).1->rn owner ((zU M h n).1+m):=λ m hm=>by
    have hle:=ja M h (kn+m);rw[G1 m hm] at hle;exact bj (by lia) (Bool.eq_false_iff.mpr (f3 m (AB.mpr (by lia))))
   have Ao:n'≠n:=λ e=>by
    subst e;obtain⟨k,G9⟩:=occ 0 (AV _);rw[Nat.add_zero] at G9;rw[G9] at h3;cases h3
   dsimp only;obtain⟨j,q,r1,r2⟩:=bu M owner hsz h fuel (n+1) _ (eA M h n kn hk) (λ q hq=>by
    rcases Bn q kn with w | w
    .exact ho q w
    .have e:=G1 (q-kn) (by lia);rw[show kn+(q-kn)=q by lia] at e;rw[e];exact occ _ (by lia)) ⟨n',by lia,by lia,h3⟩
   exact⟨j,q,r1,r2⟩
structure Lay (M:Nat) (hs:List Int) (owner:Array (Option Nat)) (m:Nat):Prop where
 size:owner.size=M+1
 below:∀ (j k:Nat),owner[j]?=some (some k)->k<m
 each:∀ (k:Nat),k<m->∃ (j:Nat),owner[j]?=some (some k)
 once:∀ (i j k:Nat),owner[i]?=some (some k)->owner[j]?=some (some k)->i=j
 oj:∀ (j k:Nat) h,owner[j]?=some (some k)->hs[k]?=some h->∃ q,(way M h q).j=j/\∀ q'<q,rn owner (way M h q').j
theorem Lay.none {M:Nat}(hM:vg M) {hs:List Int}{owner:Array (Option Nat)}{m:Nat}(L:Lay M hs owner m) (hm:m<=M):∃ (e:Nat),e<=M/\owner[e]?=some Option.none:=by
 rcases Classical.em (∃ (e:Nat),e<=M/\owner[e]?=some Option.none) with q | q
 .exact q
 .exfalso;have AH:∀ (e:Nat),e<=M->∃ (k:Nat),owner[e]?=some (some k):=λ e he=>by
   have An:e<owner.size:=by rw[L.size];lia
   cases w:owner[e] with
   | none=>exact absurd ⟨e,he,by rw[Bh An,w]⟩ q
   | some k=>exact⟨k,by rw[Bh An,w]⟩
  have:=dG (xs:=(List.range (M+1)).map λ e=>((owner[e]?).getD Option.none).getD 0) (ys:=List.range m) (by
   refine Bx.mpr (List.Pairwise.imp_of_mem ?_ D7);intro a b ha hb Ao e;refine Ao ?_;obtain⟨k,hk⟩:=AH a (by have:=AB.mp ha;lia);obtain⟨k',G9⟩:=AH b (by have:=AB.mp hb;lia);rw[hk,G9] at e;simp at e;subst e;exact L.once a b k hk G9) (λ x hx=>by
   obtain⟨e,he,rfl⟩:=Ah.mp hx;obtain⟨k,hk⟩:=AH e (by have:=AB.mp he;lia);rw[hk];exact AB.mpr (L.below e k hk))
  simp at this
  lia
theorem mJ {α:Type}{xs:Array α}{j i:Nat}{a b:α}(h:(xs.setIfInBounds j a)[i]?=some b):(i=j/\b=a)\/(i≠j/\xs[i]?=some b):=by
 rw[Dx] at h;by_cases e:j=i
 .subst e;rw[if_pos rfl] at h;split at h
  .cases h;exact .inl ⟨rfl,rfl⟩
  .cases h
 .rw[if_neg e] at h;exact .inr ⟨λ q=>e q.symm,h⟩
theorem Lay.step {M:Nat}(hM:vg M) {hs:List Int}{owner:Array (Option Nat)}{m:Nat}{h:Int}(L:Lay M hs owner m) (hm:m<=M) (hh:hs[m]?=some h):
  ∃ j,layClean.free M owner (turns M) (bits h%(M+1)) (bits h)=some j/\Lay M hs (owner.setIfInBounds j (some m)) (m+1):=by
 obtain⟨e,e1,e2⟩:=L.none hM hm;obtain⟨n',n1,n2⟩:=cu M hM h e e1;obtain⟨j,q,r1,r2,r3,r4⟩:=bu M owner L.size h (turns M) 0 0 rfl (λ q hq=>by lia) ⟨n',by lia,by unfold turns;lia,by rw[n2];exact e2⟩;have hj:j<owner.size:=(Array.getElem?_eq_some_iff.mp r3).1;have keep:∀ x,rn owner x->rn (owner.setIfInBounds j (some m)) x:=λ x ⟨k,hk⟩=>by
  have Ao:j≠x:=λ w=>by subst w;rw[r3] at hk;cases hk
  exact⟨k,by rw[Dx,if_neg Ao];exact hk⟩
 have self:(owner.setIfInBounds j (some m))[j]?=some (some m):=by rw[Dx,if_pos rfl,if_pos hj]
 refine⟨j,r1,⟨by simp[L.size],λ x k hx=>?_,λ k hk=>?_,λ x y k hx hy=>?_,λ x k g hx hg=>?_⟩⟩
 .rcases mJ hx with ⟨_,w⟩ | ⟨_,w⟩
  .cases w;lia
  .have:=L.below x k w;lia
 .rcases Bn k m with w | w
  .obtain⟨x,hx⟩:=L.each k w;have Ao:j≠x:=λ w=>by subst w;rw[r3] at hx;cases hx
   exact⟨x,by rw[Dx,if_neg Ao];exact hx⟩
  .have:k=m:=by lia
   subst this;exact⟨j,self⟩
 .rcases mJ hx with ⟨w1,w⟩ | ⟨w1,w⟩ <;> rcases mJ hy with ⟨v1,v⟩ | ⟨v1,v⟩
  .lia
  .cases w;have:=L.below y _ v;lia
  .cases v;have:=L.below x _ w;lia
  .exact L.once x y k w v
 .rcases mJ hx with ⟨w1,w⟩ | ⟨w1,w⟩
  .cases w;rw[hh] at hg;cases hg;subst w1;exact⟨q,r2,λ q' hq=>keep _ (r4 q' hq)⟩
  .obtain⟨q,g1,g2⟩:=L.oj x k g w hg;exact⟨q,g1,λ q' hq=>keep _ (g2 q' hq)⟩
theorem cx {M:Nat}(hM:vg M) {hs:List Int}(hl:hs.length<=M+1):∀ (ET:List Int) (owner:Array (Option Nat)) (m:Nat),m<=hs.length->hs.drop m=ET->Lay M hs owner m->
  ∃ Hi,ET.foldl (λ acc h=>do
   let (owner,k) <- acc
   let j <- layClean.free M owner (turns M) (bits h%(M+1)) (bits h)
   pure (owner.setIfInBounds j (some k),k+1)) (some (owner,m))=some (Hi,hs.length)/\Lay M hs Hi hs.length
 | [],owner,m,Hx,hd,L=>by
  have hm:hs.length<=m:=List.drop_eq_nil_iff.mp hd;have e:m=hs.length:=by lia
  subst e;exact⟨owner,rfl,L⟩
 | h::ET,owner,m,Hx,hd,L=>by
  have hm:hs[m]?=some h:=by
   have:=congrArg (λ l=>l[0]?) hd;simpa using this
  have An:m<hs.length:=(AL.mp hm).1;obtain⟨j,j1,j2⟩:=L.step hM (by lia) hm;have HH:hs.drop (m+1)=ET:=by
   have:=congrArg List.tail hd;simpa using this
  obtain⟨o',h1,h2⟩:=cx hM hl ET _ (m+1) (by lia) HH j2;refine⟨o',?_,h2⟩;rw[Dw,<- h1];show _=_;congr 1;show ((layClean.free M owner (turns M) (bits h%(M+1)) (bits h)).bind λ j=>some (owner.setIfInBounds j (some m),m+1))=_;rw[j1];rfl
theorem Pq (M:Nat) (hs:List Int):Lay M hs (Array.replicate (M+1) Option.none) 0:=by
 have no:∀ (j k:Nat),(Array.replicate (M+1) (Option.none:Option Nat))[j]?≠some (some k):=λ j k h=>by
  rw[Array.getElem?_replicate] at h;split at h <;> cases h
 exact⟨by simp,λ j k h=>absurd h (no j k),λ k hk=>by lia,λ i j k h=>absurd h (no i k),λ j k h e=>absurd e (no j k)⟩
theorem Pr {M:Nat}(hM:vg M) (hashes:Array Int) (hl:hashes.size<=M+1):∃ owner,layClean M hashes=some owner/\Lay M hashes.toList owner hashes.size:=by
 obtain⟨o,h1,h2⟩:=cx hM (hs:=hashes.toList) (by simpa using hl) hashes.toList _ 0 (AV _) (by simp) (Pq M _);refine⟨o,?_,by simpa using h2⟩;unfold layClean;rw[<- Array.foldl_toList,h1];rfl
noncomputable def lives (M:Nat) (owner:Array (Option Nat)):List (Nat×Nat):=(List.range (M+1)).filterMap λ j=>(owner.getD j Option.none).map (j,·)
theorem getD_some {owner:Array (Option Nat)}{j k:Nat}:owner.getD j Option.none=some k↔owner[j]?=some (some k):=by
 unfold Array.getD;split
 .rename_i h;rw[Bh h];simp
 .rename_i h;rw[CP (by lia)];simp
theorem rL {M:Nat}{owner:Array (Option Nat)}(hs:owner.size=M+1) {j k:Nat}:(j,k)∈lives M owner↔owner[j]?=some (some k):=by
 unfold lives;rw[Eb];constructor
 .rintro⟨x,hx,e⟩;obtain⟨y,e1,e2⟩:=AE.mp e;cases e2;exact getD_some.mp e1
 .intro h;have hj:=(Array.getElem?_eq_some_iff.mp h).1;exact⟨j,AB.mpr (by lia),by rw[getD_some.mpr h];rfl⟩
theorem ck (M:Nat) (owner:Array (Option Nat)):(lives M owner).Pairwise λ a b=>a.1<b.1:=by
 unfold lives;rw[List.pairwise_filterMap];refine List.Pairwise.imp ?_ List.pairwise_lt_range;intro a b CN x hx y hy;obtain⟨_,_,e1⟩:=AE.mp hx;obtain⟨_,_,e2⟩:=AE.mp hy;subst e1 e2;exact CN
theorem cy {M:Nat}(hM:vg M) (finger moves:Nat) (led plain:Bool) (hashes:Array Int) (hl:hashes.size<=M+1):
  ∃ t order,laid M finger moves led plain hashes=some (t,order)/\t.mask=M/\t.finger=finger/\t.led=led/\t.plain=plain/\order.toList.Perm (List.range hashes.size)/\Tab t (order.toList.map λ k=>hashes.toList.getD k 0):=by
 obtain⟨owner,h1,L⟩:=Pr hM hashes hl;refine⟨_,_,by unfold laid;rw[h1];rfl,rfl,rfl,rfl,rfl,?_,?_⟩
 .show ((lives M owner).map (·.2)).toArray.toList.Perm _;rw[C0];refine (D4 ?_ D7).mpr λ k=>?_
  .refine Bx.mpr (List.Pairwise.imp_of_mem ?_ (ck M owner));intro a b ha hb CN e;have h2:=(rL L.size (j:=a.1) (k:=a.2)).mp ha;have h3:=(rL L.size (j:=b.1) (k:=b.2)).mp hb;have e:a.2=b.2:=e;rw[e] at h2;have:=L.once _ _ _ h2 h3
   lia
  .rw[AB];constructor
   .intro h;obtain⟨⟨j,k'⟩,h2,rfl⟩:=Ah.mp h;exact L.below j _ ((rL L.size).mp h2)
   .intro h;obtain⟨j,hj⟩:=L.each k h;exact Ah.mpr ⟨(j,k),(rL L.size).mpr hj,rfl⟩
 .have pl:∀ x,x∈(lives M owner).map (·.1)↔rn owner x:=λ x=>by
   constructor
   .intro h;obtain⟨⟨j,k⟩,h2,rfl⟩:=Ah.mp h;exact⟨k,(rL L.size).mp h2⟩
   .rintro⟨k,hk⟩;exact Ah.mpr ⟨(x,k),(rL L.size).mpr hk,rfl⟩
  refine⟨hM,rfl,?_,?_,?_,?_⟩
  .show ((lives M owner).map (·.1)).toArray.size=(((lives M owner).map (·.2)).toArray.toList.map _).length;simp
  .show u7 ((lives M owner).map (·.1)).toArray.toList;rw[C0];exact Bx.mpr (ck M owner)
  .intro x hx;show x<=M;have hx:x∈((lives M owner).map (·.1)).toArray.toList:=hx;rw[C0] at hx;obtain⟨k,hk⟩:=(pl x).mp hx;have:=(Array.getElem?_eq_some_iff.mp hk).1;rw[L.size] at this
   lia
  .intro i g x hg hx;have hx:((lives M owner).map (·.1)).toArray[i]?=some x:=hx;have hg:(((lives M owner).map (·.2)).toArray.toList.map λ k=>hashes.toList.getD k 0)[i]?=some g:=hg;rw[List.getElem?_toArray,Ay] at hx;rw[C0,Ay,Ay] at hg;obtain⟨p,p1,p2⟩:=AE.mp hx;rw[p1] at hg;simp only[Option.map_some,Option.some.injEq] at hg;obtain⟨j,k⟩:=p;cases p2;have hm:=(rL L.size).mp (Bi p1);have hk:=L.below _ _ hm;obtain⟨q,q1,q2⟩:=L.oj _ k g hm (by rw[<- hg];simp[hk]);refine⟨q,q1,λ q' hq=>?_⟩;show _∈((lives M owner).map (·.1)).toArray.toList;rw[C0];exact (pl _).mpr (q2 q' hq)
section
variable {prog:Program}{w:World}{A:Around}{E:Ad}{s:Shared}
abbrev rk (prog:Program) (w:World):HeapKind prog w (List Int):=tupleKind (intKind prog w)
theorem items_int {ks:List Int}{vs:Ae}(h:ItemsAre (intKind prog w) ks vs):∀ v∈vs,∃ n t,v=.int n t:=by
 induction h with
 | nil=>intro v hv;cases hv
 | cons h1 _ ih=>
  intro v hv;rcases Ai.mp hv with rfl | hv
  .obtain⟨t,e⟩:=Value.isInt_shape h1;exact⟨_,t,e⟩
  .exact ih v hv
theorem dP {ks:List Int}{a:Addr}{Q:Bool->Shared->Prop}(hk:IsTupleKey (intKind prog w) s.heap ks a) (h:Q false s):wpAny (model prog w) A (ofAClassStatement 8 (.ref a)) Q E s:=by
 have hT:=hk.typeIs;obtain⟨o,items,n,ho,_,hd,hi⟩:=hk;unfold ofAClassStatement;refine JY (Ll hT ?_);show wpAny _ _ (pure true >>= _) _ _ s;refine JY (Ac ?_);simp only[CT,Be,if_false];refine JY (K7 ho hd ?_);dsimp only;refine JY ?_;show wpAny _ _ (forIn items _ _) _ _ s;rw[<- Array.forIn_toList];refine wpAny_forIn_list _ (λ ET r s'=>r.1=none/\s'=s/\∀ v∈ET,∃ n t,v=.int n t) _ ?_ ?_ _ _ ⟨rfl,rfl,items_int hi⟩
 .rintro v ET r s' ⟨hr,rfl,AH⟩;obtain⟨m,t,rfl⟩:=AH v Am;show wpAny _ _ (pure false >>= _) _ _ _;refine JY (Ac ?_);simp only[Be,if_false];exact Ac ⟨rfl,rfl,λ u hu=>AH u (Av _ hu)⟩
 .rintro⟨r1,r2⟩ s' ⟨hr,rfl,_⟩;simp only at hr;subst hr;exact Ac h
theorem Ow {ks:List Int}{a:Addr}{Q:Bool->Shared->Prop}(hk:IsTupleKey (intKind prog w) s.heap ks a) (h:Q true s):wpAny (model prog w) A (hashByValue 8 (.ref a)) Q E s:=by
 have hT:=hk.typeIs;obtain⟨o,items,n,ho,_,hd,hi⟩:=hk;unfold hashByValue;refine JY (wpAny_specialOf hT F.slot_tuple_hash.lookup ?_);dsimp only;refine JY (K7 ho hd ?_);refine JY ?_;show wpAny _ _ (forIn items _ _) _ _ s;rw[<- Array.forIn_toList];refine wpAny_forIn_list _ (λ ET r s'=>r.1=none/\s'=s/\∀ v∈ET,∃ n t,v=.int n t) _ ?_ ?_ _ _ ⟨rfl,rfl,items_int hi⟩
 .rintro v ET r s' ⟨hr,rfl,AH⟩;obtain⟨m,t,rfl⟩:=AH v Am;show wpAny _ _ (pure true >>= _) _ _ _;refine JY (Ac ?_);simp only[CT,Be,if_false];exact Ac ⟨rfl,rfl,λ u hu=>AH u (Av _ hu)⟩
 .rintro⟨r1,r2⟩ s' ⟨hr,rfl,_⟩;simp only at hr;subst hr;exact Ac h
theorem YO {ks:List Int}{b:Addr}{Q:Bool->Shared->Prop}(hk:IsTupleKey (intKind prog w) s.heap ks b) (l:Ae) (hl:∀ v∈l,∃ k c,v=.ref c/\IsTupleKey (intKind prog w) s.heap k c) (h:Q false s):
  wpAny (model prog w) A (searchCouldBeSeen (.ref b) l) Q E s:=by
 unfold searchCouldBeSeen;refine JY ?_;refine wpAny_forIn_list _ (λ ET r s'=>r.1=none/\s'=s/\∀ v∈ET,∃ k c,v=.ref c/\IsTupleKey (intKind prog w) s.heap k c) _ ?_ ?_ _ _ ⟨rfl,rfl,hl⟩
 .rintro v ET r s' ⟨hr,rfl,AH⟩;obtain⟨k,c,rfl,hc⟩:=AH v Am;have HM:∀ u∈ET,∃ k c,u=Value.ref c/\IsTupleKey (intKind prog w) s'.heap k c:=λ u hu=>AH u (Av _ hu);dsimp only;by_cases e:(b == c||(carriedByValue (.ref b)&&carriedByValue (.ref c)))=true
  .rw[if_pos e];exact Ac ⟨rfl,rfl,HM⟩
  .rw[if_neg e];refine JY ((rk prog w).quiet hk ?_);simp only[CT,Be,if_false];refine JY ((rk prog w).quiet hc ?_);simp only[CT,Be,if_false];refine JY (dP hk ?_);simp only[Be,if_false];refine JY (dP hc ?_);simp only[Be,if_false];exact Ac ⟨rfl,rfl,HM⟩
 .rintro⟨r1,r2⟩ s' ⟨hr,rfl,_⟩;simp only at hr;subst hr;exact Ac h
structure rB (h:Heap) (es:Array (Int×Value)) (t:SetTable) (xs:List (List Int×Addr)):Prop where
 es:es.toList=xs.map λ e=>((rk prog w).hash e.1,Value.ref e.2)
 is:∀ e∈xs,IsTupleKey (intKind prog w) h e.1 e.2
 tab:Tab t (xs.map λ e=>(rk prog w).hash e.1)
 oS:xs.length<=t.mask
theorem rB.fits {h:Heap}{es:Array (Int×Value)}{t:SetTable}{xs:List (List Int×Addr)}(X:rB (prog:=prog) (w:=w) h es t xs):t.fits es.size=true:=by
 have hl:es.size=xs.length:=by have:=congrArg List.length X.es;simpa using this
 have h1:=X.tab.len;rw[AA] at h1;have h2:=X.oS;unfold SetTable.fits SetTable.fill;rw[X.tab.sY,hl,h1];simp
 lia
theorem rB.at {h:Heap}{es:Array (Int×Value)}{t:SetTable}{xs:List (List Int×Addr)}(X:rB (prog:=prog) (w:=w) h es t xs) {i:Nat}{e:List Int×Addr}(he:xs[i]?=some e):es[i]?=some ((rk prog w).hash e.1,Value.ref e.2):=by
 rw[<- BM,X.es,Ay,he];rfl
theorem e9 {a:Addr}{o:Obj}{es:Array (Int×Value)}{ep:Nat}{t:SetTable}{xs:List (List Int×Addr)}{key:List Int}{b:Addr}{Q:SetFound->Shared->Prop}
  (hu:A.units<cLine) (ho:s.heap.get? a=some o) (hd:o.data=.set es ep t) (X:rB (prog:=prog) (w:=w) s.heap es t xs) (hb:IsTupleKey (intKind prog w) s.heap key b)
  (h1:key∈xs.map (·.1)->Q (.there none) s) (h2:key∉xs.map (·.1)->∀ j,gB t ((rk prog w).hash key) j->Q (.free j false) s):
  ∀ (fuel k:Nat) (GY:Option Probe),GY.getD (t.probeStart ((rk prog w).hash key))=way t.mask ((rk prog w).hash key) k->(∀ m<k,∃ (i:Nat) (e:List Int×Addr),t.place[i]?=some (way t.mask ((rk prog w).hash key) m).j/\xs[i]?=some e/\e.1≠key)->(∃ K,k<=K/\K<k+fuel/\K<10*(t.mask+15)/\(way t.mask ((rk prog w).hash key) K).j∉t.place.toList/\∀ m<K,(way t.mask ((rk prog w).hash key) m).j∈t.place.toList)->
   wpAny (model prog w) A (setSearchFrom a (.ref b) ((rk prog w).hash key) true fuel GY) Q E s
 | 0,k,GY,_,_,⟨K,q1,q2,_⟩=>by lia
 | fuel+1,k,GY,AQ,Jf,⟨K,q1,q2,q3,q4,q5⟩=>by
  have T:=X.tab;have Es:t.gaveWay=false:=by
   unfold SetTable.gaveWay;rcases T.mask with e | e | e <;> rw[e] <;> rfl
  unfold setSearchFrom;refine JY (K5 ho hd X.fits ?_);dsimp only;rw[Es];simp only[Be,if_false];have hA:∀ (i:Nat) g,(xs.map λ e=>(rk prog w).hash e.1)[i]?=some g->((es[i]?).map (·.1)).getD 0=g:=λ i g hg=>by
   rw[Ay] at hg;obtain⟨e,e1,e2⟩:=AE.mp hg;rw[X.at e1];exact e2
  obtain⟨k1,g1,g2,g3⟩:=bf T (hashAt:=λ i=>((es[i]?).map (·.1)).getD 0) hA ((rk prog w).hash key) (10*turns t.mask) k ⟨K,q1,by unfold turns;lia,q4⟩;rw[AQ];have look:∀ (i:Nat) g,(xs.map λ e=>(rk prog w).hash e.1)[i]?=some g->∃ e,xs[i]?=some e/\(rk prog w).hash e.1=g:=λ i g hg=>by
   rw[Ay] at hg;obtain⟨e,e1,e2⟩:=AE.mp hg;exact⟨e,e1,e2⟩
  have GI:∀ m<k1,∃ (i:Nat) (e:List Int×Addr),t.place[i]?=some (way t.mask ((rk prog w).hash key) m).j/\xs[i]?=some e/\e.1≠key:=λ m hm=>by
   rcases Bn m k with c | c
   .exact Jf m c
   .obtain⟨i,g,p1,p2,p3⟩:=g2 m c hm;obtain⟨e,e1,e2⟩:=look i g p2;exact⟨i,e,p1,e1,λ q=>p3 (by rw[<- e2,q])⟩
  rcases g3 with ⟨n1,n2⟩ | ⟨i,n1,n2,n3⟩
  .have n2':t.probe _ ((rk prog w).hash key) (way t.mask ((rk prog w).hash key) k)=_:=n2;simp only[SetTable.probe] at n2' ⊢
   erw [n2]
   dsimp only;refine Ac (h2 (λ hm=>?_) _ ⟨n1,k1,rfl,λ m hm=>?_⟩)
   .obtain⟨e,he,ek⟩:=Ah.mp hm;obtain⟨i,hi⟩:=Dv.mp he;have hh:(xs.map λ e=>(rk prog w).hash e.1)[i]?=some ((rk prog w).hash key):=by rw[Ay,hi,<- ek];rfl
    have Bv:i<t.place.size:=by rw[T.len];exact (AL.mp hh).1
    obtain⟨kk,w1,w2⟩:=T.oj i _ _ hh (Bh Bv);rcases Dz kk k1 with c | c | c
    .obtain⟨i',e',p1,p2,p3⟩:=GI kk c;rw[w1] at p1;have:i=i':=by
      rw[<- below_at T.wo (Bh Bv),<- below_at T.wo p1]
     subst this;rw[hi] at p2;cases p2;exact p3 ek
    .subst c;rw[w1] at n1;exact n1 (by simp)
    .exact n1 (w2 k1 c)
   .obtain⟨i',e',p1,_⟩:=GI m hm;exact Bi (by rw[BM];exact p1)
  .simp only[SetTable.probe]
   erw [n3]
   dsimp only;obtain⟨e,e1,e2⟩:=look i _ n2;have hes:=X.at e1;have hey:=X.is e (Bi e1);have main:wpAny (model prog w) A (holding [Value.ref e.2] (eqBool (.ref e.2) (.ref b)) >>= λ equal=>setState a >>= λ x=>match x with
     | (F6,_,t')=>if (true&&equal)=true then pure (SetFound.there none) else
      match t'.sameMemory t.moves t.mask with
      | some same=>
       have jp:=λ Gh=>match Gh with
        | none=>do
         rule "set.search.anew"
         setSearchFrom a (.ref b) ((rk prog w).hash key) true fuel none
        | some i'=>if equal=true then pure (SetFound.there (some i')) else setSearchFrom a (.ref b) ((rk prog w).hash key) true fuel (some (way t.mask ((rk prog w).hash key) (k1+1)))
       match if same=true then t'.slot (way t.mask ((rk prog w).hash key) k1).j else Slot.empty with
       | .live i'=>match F6[i']? with
        | some (_,y')=>do
         let r <- isSame y' (.ref e.2)
         let Gh <- pure (if r=true then some i' else none)
         jp Gh
        | none=>do
         let Gh <- pure none
         jp Gh
       | _=>do
        let Gh <- pure none
        jp Gh
      | _=>unsupported "set.changed-during-lookup:is-the-new-block-at-the-old-address") Q E s:=by
    refine JY (K0 ((rk prog w).eqBool hu hey hb ?_));refine JY (K5 ho hd X.fits ?_);dsimp only;by_cases hk:e.1=key
    .rw[K4 hk];simp only[DE,if_true];exact Ac (h1 (Ah.mpr ⟨e,Bi e1,hk⟩))
    .rw[KZ hk];simp only[CQ,Be,if_false];have sm:t.sameMemory t.moves t.mask=some true:=by unfold SetTable.sameMemory;simp
     rw[sm];dsimp only;rw[if_pos rfl,T.live n1];dsimp only;rw[hes];dsimp only;refine JY (wpAny_isSame_ref_self ?_);refine JY (Ac ?_);rw[if_pos rfl];dsimp only;have hKk:k1<K:=by
      rcases Dz K k1 with c | c | c
      .obtain⟨i',e',p1,_⟩:=GI K c;exact absurd (Bi (by rw[BM];exact p1)) q4
      .subst c;exact absurd (Bi (by rw[BM];exact n1)) q4
      .exact c
     refine e9 hu ho hd X hb h1 h2 fuel (k1+1) _ rfl (λ m hm=>?_) ⟨K,by lia,by lia,q3,q4,q5⟩;rcases Bn m k1 with c | c
     .exact GI m c
     .have:m=k1:=by lia
      subst this;exact⟨i,e,n1,e1,hk⟩
   rw[hes];by_cases hl:t.led=true
   .rw[hl];simp only[CT,Be,if_false];exact main
   .have GN:t.led=false:=by simpa using hl
    rw[GN];simp only[CU,if_true];refine JY (YO hb _ (λ v hv=>?_) ?_)
    .obtain⟨p,hp,rfl⟩:=Ah.mp hv;rw[Array.toList_filter,AN,X.es] at hp;obtain⟨⟨e',Ks,rfl⟩,_⟩:=(And.intro (Ah.mp hp.1) hp.2)
     exact⟨e'.1,e'.2,rfl,X.is e' Ks⟩
    .simp only[Be,if_false];exact main
structure vF (prog:Program) (w:World) (h:Heap) (a:Addr) (xs:List (List Int×Addr)) (led:Bool):Prop where
 ex:∃ es ep t,h.get? a=some { cls:=.type "set",dict:=none,data:=.set es ep t }/\rB (prog:=prog) (w:=w) h es t xs/\t.led=led/\t.plain=true/\xs.length*5<t.mask*3
 nd:(xs.map (·.1)).Nodup
theorem ji {h h':Heap}{ks:List Int}{b a:Addr}{es:Array (Int×Value)}{ep:Nat}{t:SetTable}{c:Value}{d:Option Addr}{sl:Array (Option Value)}(x:IsTupleKey (intKind prog w) h ks b) (ho:h.get? a=some { cls:=c,dict:=d,data:=.set es ep t,slots:=sl }) (hs:Heap.SameBut a h h'):IsTupleKey (intKind prog w) h' ks b:=by
 obtain⟨o',items,n,F4,hc,HH,hi⟩:=x;have Ao:b≠a:=by
  rintro rfl;obtain rfl:o'=_:=A8 (F4.symm.trans ho);cases HH
 exact⟨o',items,n,(hs.2 b Ao).trans F4,hc,HH,hi⟩
theorem mP {h:Heap}{a:Addr}{es F6:Array (Int×Value)}{ep:Nat}{t t':SetTable}(ho:h.get? a=some { cls:=.type "set",dict:=none,data:=.set es ep t }):(h.update a (Obj.putSet F6 t')).get? a=some { cls:=.type "set",dict:=none,data:=.set F6 (ep+1) t' }:=by
 have e:Obj.putSet F6 t' { cls:=.type "set",dict:=none,data:=.set es ep t }={ cls:=.type "set",dict:=none,data:=.set F6 (ep+1) t' }:=putSet_of F6 t' rfl;have:=K_ (Obj.putSet F6 t') ho (by rw[e];rfl);rw[e] at this;exact this
theorem jH {α β:Type}(l:List α) (f:α->β) (d:β):∀ (order:List Nat),(∀ k∈order,k<l.length)->order.map (λ k=>(l.map f).getD k d)=(order.filterMap λ k=>l[k]?).map f
 | [],_=>rfl
 | k::order,h=>by
  have hk:=h k Am;have ih:=jH l f d order λ j hj=>h j (Av _ hj);rw[Au,CF,AG hk];dsimp only;rw[Au,ih];congr 1;simp[hk]
theorem Wm {a:Addr}{es:Array (Int×Value)}{ep:Nat}{t:SetTable}{xs:List (List Int×Addr)}{led:Bool}{wanted M:Nat}{Q:Unit->Shared->Prop}
  (ho:s.heap.get? a=some { cls:=.type "set",dict:=none,data:=.set es ep t }) (X:rB (prog:=prog) (w:=w) s.heap es t xs) (BD:t.led=led) (Aq:t.plain=true) (hM:vg M) (hw:sizeAbove wanted=M+1) (AR:xs.length*5<M*3) (CW:(xs.map (·.1)).Nodup)
  (h:∀ h' Fg,Heap.SameBut a s.heap h'->vF prog w h' a Fg led->Fg.Perm xs->Q () { s with heap:=h' }):wpAny (model prog w) A (setRelay a wanted) Q E s:=by
 have hlen:es.size=xs.length:=by have:=congrArg List.length X.es;simpa using this
 have ED:(es.map (·.1)).toList=xs.map λ e=>(rk prog w).hash e.1:=by rw[Array.toList_map,X.es,AF];rfl
 have hsz:(es.map (·.1)).size=xs.length:=by rw[C5,hlen]
 obtain⟨t',order,h1,h2,h3,h4,h5,h6,h7⟩:=cy hM t.finger (t.movedTo M) t.led t.plain (es.map (·.1)) (by rw[hsz];lia);rw[hsz] at h6;have An:∀ k∈order.toList,k<xs.length:=λ k hk=>by simpa using h6.mem_iff.mp hk
 unfold setRelay;refine JY (K5 ho rfl X.fits ?_);dsimp only;rw[if_neg (by rw[hw];rcases hM with e | e | e <;> rw[e] <;> decide)];have hr:t.relaid (es.map (·.1)) wanted=some (t',order):=by
  unfold SetTable.relaid;rw[hw,Nat.add_sub_cancel];exact h1
 rw[hr];have BV:(order.filterMap (es[·]?)).toList=(order.toList.filterMap λ k=>xs[k]?).map λ e=>((rk prog w).hash e.1,Value.ref e.2):=by
  rw[Array.toList_filterMap,List.map_filterMap];congr 1;funext k;rw[<- BM,X.es,Ay]
 have E6:(order.toList.filterMap λ k=>xs[k]?).Perm xs:=(h6.filterMap _).trans (by rw[List.filterMap_getElem?_range_length]);have BR:(order.filterMap (es[·]?)).size=es.size:=by
  rw[<- Bs,BV,AA,E6.length_eq,hlen]
 refine JY (m:=_) ?_;show wpAny _ _ (do
  let some (t,order):=some (t',order) | unsupported "internal:set-table-without-room"
  let F6:=order.filterMap (es[·]?)
  if F6.size != es.size then unsupported "internal:set-table-lost-an-element"
  pure (F6,t)) _ _ _
 dsimp only;rw[if_neg (by rw[BR];simp)];refine Ac ?_;have Bz:(order.filterMap (es[·]?)).size<=sizeLine:=by
  rw[BR,hlen];have:sizeLine=16777216:=rfl;rcases hM with e | e | e <;> subst e <;> lia
 refine wpAny_storeSet_of ho rfl ?_ Bz;have sb:=Heap.SameBut.update s.heap a (Obj.putSet (order.filterMap (es[·]?)) t');refine h _ _ sb ⟨⟨_,ep+1,t',mP ho,⟨BV,λ e he=>ji (X.is e (E6.mem_iff.mp he)) ho sb,?_,?_⟩,by rw[h4];exact BD,by rw[h5];exact Aq,?_⟩,(E6.map _).nodup_iff.mpr CW⟩ E6
 .rw[<- jH xs (λ e=>(rk prog w).hash e.1) 0 order.toList An,<- ED];exact h7
 .rw[E6.length_eq,h2];lia
 .rw[E6.length_eq,h2];exact AR
theorem ea (n:Nat) (M:Nat) (hM:vg M) (h1:n*5<M*3) (h2:M*3<=(n+1)*5) (hn:n<70):∃ M',vg M'/\sizeAbove (grown (n+1))=M' + 1/\(n+1)*5<M'*3:=by
 rcases hM with e | e | e <;> subst e
 .have:n=4:=by lia
  subst this;exact⟨31,.inr (.inl rfl),AD,by lia⟩
 .have:n=18:=by lia
  subst this;exact⟨127,.inr (.inr rfl),AD,by lia⟩
 .lia
theorem MD {a:Addr}{xs:List (List Int×Addr)}{key:List Int}{b:Addr}{led:Bool}{Q:Bool->Shared->Prop}(hu:A.units<cLine) (S:vF prog w s.heap a xs led) (hb:IsTupleKey (intKind prog w) s.heap key b) (hn:xs.length<70)
  (h:∀ h' Fg r,Heap.SameBut a s.heap h'->vF prog w h' a Fg led->(key∈xs.map (·.1)/\Fg=xs\/key∉xs.map (·.1)/\Fg.Perm (xs++[(key,b)]))->Q r { s with heap:=h' }):
  wpAny (model prog w) A (setAddHashed a (.ref b) ((rk prog w).hash key)) Q E s:=by
 obtain⟨⟨es,ep,t,ho,X,BD,Aq,AR⟩,CW⟩:=S;have hlen:es.size=xs.length:=by have:=congrArg List.length X.es;simpa using this
 unfold setAddHashed setAddHashedIn;refine K0 (JY (K5 ho rfl X.fits ?_));dsimp only;rw[if_neg (by simp[byScan,Value.scannable])];obtain⟨K,k1,k2,k3⟩:=X.tab.first (by rw[AA];exact X.oS) ((rk prog w).hash key);have BA:t.mask<=127:=by rcases X.tab.mask with e | e | e <;> lia
 refine JY ?_;unfold setSearch;refine e9 (key:=key) (b:=b) hu ho rfl X hb (λ hm=>?_) (λ hm j F=>?_) 100000 0 none rfl (λ m hm=>by lia) ⟨K,by lia,by lia,k1,k2,k3⟩
 .dsimp only;refine Ac ?_;have:=h s.heap xs false ⟨rfl,λ _ _=>rfl⟩ ⟨⟨es,ep,t,ho,X,BD,Aq,AR⟩,CW⟩ (.inl ⟨hm,rfl⟩);exact this
 .dsimp only;refine JY (K5 ho rfl X.fits ?_);dsimp only;obtain⟨p1,p2,p3⟩:=X.tab.put F;rw[AA] at p1;have CI:(t.put j).1.plain=true:=by rw[p2];exact Aq
  have Cg:(t.put j).1.mask=t.mask:=by rw[p2]
  have An:(t.put j).1.led=led:=by rw[p2];exact BD
  generalize hT:(t.put j)=P at *;obtain⟨t1,p⟩:=P;dsimp only at *;rw[CI];simp only[if_true];refine JY (Ow hb ?_);simp only[if_true]
  let Ga:=xs.take p++(key,b)::xs.drop p
  have E6:Ga.Perm (xs++[(key,b)]):=by
   have e:xs.take p++xs.drop p=xs:=Dy p xs;have:Ga.Perm ((key,b)::(xs.take p++xs.drop p)):=List.perm_middle;rw[e] at this;exact this.trans (List.perm_append_singleton _ _).symm
  have GL:Ga.length=xs.length+1:=by rw[E6.length_eq];simp
  have Ha:(insertAt es p ((rk prog w).hash key,Value.ref b)).toList=Ga.map λ e=>((rk prog w).hash e.1,Value.ref e.2):=by
   rw[toList_insertAt,X.es];simp[Ga,Du,CO]
  have Hl:(insertAt es p ((rk prog w).hash key,Value.ref b)).size=xs.length+1:=by rw[<- Bs,Ha,AA,GL]
  have Bz:(insertAt es p ((rk prog w).hash key,Value.ref b)).size<=sizeLine:=by
   rw[Hl];have:sizeLine=16777216:=rfl
   lia
  refine JY (wpAny_storeSet_of ho rfl ?_ Bz);have sb:=Heap.SameBut.update s.heap a (Obj.putSet (insertAt es p ((rk prog w).hash key,Value.ref b)) t1);have IG:=mP (F6:=insertAt es p ((rk prog w).hash key,Value.ref b)) (t':=t1) ho;have hm7:7<=t.mask:=by rcases X.tab.mask with e | e | e <;> lia
  have X1:rB (prog:=prog) (w:=w) (s.heap.update a (Obj.putSet (insertAt es p ((rk prog w).hash key,Value.ref b)) t1)) (insertAt es p ((rk prog w).hash key,Value.ref b)) t1 Ga:=by
   refine⟨Ha,λ e he=>?_,?_,by rw[GL,Cg];lia⟩
   .rcases A2.mp (E6.mem_iff.mp he) with q | q
    .exact ji (X.is e q) ho sb
    .cases AZ.mp q;exact ji hb ho sb
   .have:Ga.map (λ e=>(rk prog w).hash e.1)=(xs.map λ e=>(rk prog w).hash e.1).take p++(rk prog w).hash key::(xs.map λ e=>(rk prog w).hash e.1).drop p:=by simp[Ga,Du,CO]
    rw[this];exact p3
  have Hn:(Ga.map (·.1)).Nodup:=by
   refine (E6.map _).nodup_iff.mpr ?_;rw[Bp,CZ];refine⟨CW,by simp,λ x hx y hy=>?_⟩;simp at hy;subst hy;exact λ e=>hm (e▸hx)
  by_cases hf:t1.tooFull=true
  .rw[hf];simp only[CU,DE,if_true];have GA:t1.fill=xs.length+1:=by
    unfold SetTable.fill;rw[p3.sY,p3.len];simp
    lia
   have Gn:t.mask*3<=(xs.length+1)*5:=by
    have:=hf;unfold SetTable.tooFull at this;rw[GA,Cg] at this;simpa using this
   obtain⟨M',g1,g2,g3⟩:=ea xs.length t.mask X.tab.mask AR Gn hn;rw[hlen];refine JY (Wm (led:=led) IG X1 An CI g1 g2 (by rw[GL];exact g3) Hn λ h' Fg sb' S' pm=>?_);refine Ac ?_;exact h h' Fg true (sb.trans sb') S' (.inr ⟨hm,pm.trans E6⟩)
  .have G_:t1.tooFull=false:=by simpa using hf
   rw[G_];simp only[CU,CQ,Be,if_false];refine Ac ?_;have GA:t1.fill=xs.length+1:=by
    unfold SetTable.fill;rw[p3.sY,p3.len];simp
    lia
   have Gn:(xs.length+1)*5<t.mask*3:=by
    have:=G_;unfold SetTable.tooFull at this;rw[GA,Cg] at this;simpa using this
   exact h _ Ga true sb ⟨⟨_,ep+1,t1,IG,X1,An,CI,by rw[GL,Cg];exact Gn⟩,Hn⟩ (.inr ⟨hm,E6⟩)
end
noncomputable def vw (w:World):Bool:=!w.params.followText "set-order"
def yH (w:World):Obj:={ cls:=.type "set",dict:=none,data:=.set #[] 0 (.fresh 0 0 (vw w)) }
section
variable {prog:Program}{w:World}{A:Around}{E:Ad}{s:Shared}
set_option maxHeartbeats 3200000 in
theorem ao (a:Value) {Q:Ad}(h:Q (.ref s.heap.objs.size) { s with heap:=s.heap.push (yH w) }):
  codeAny (model prog w) A (.call (.builtin "set.__new__") ⟨[.type "set",a],[]⟩) (wants Q E) s:=by
 refine codeAny_of_tree ?_;show wpAny _ A.in1 (checkBuiltinCall "set.__new__" ⟨[.type "set",a],[]⟩ >>= λ _=>again (.builtin "set.__new__" ⟨[.type "set",a],[]⟩)) _ _ s;refine JY (wpAny_of_eq (F.newCall_set_1 a) (Ac ⟨plainId_quiet F.plain_set_new _,codeAny_builtin F.entry_set_new ?_⟩));rw[Around.under_plainId F.plain_set_new _];unfold Builtin.«set.__new__» Builtin.Frozenset.newClass newSet setsByText;have sub:=sub_set_self;obtain⟨hp,g,d,tk,os⟩:=s;dsimp only
 wp_walk
 refine Lr (Ac ?_);dsimp only;simp only[newObj];exact JY (wpAny_alloc (Ac (Ac h)))
theorem X_ {h:Heap}{a:Addr}(ho:h.get? a=some (yH w)):vF prog w h a [] (vw w):=
 ⟨⟨#[],0,_,ho,⟨rfl,λ e he=>(by cases he),⟨.inl rfl,rfl,rfl,.nil,λ j hj=>(by cases hj),λ i g j hg=>(by cases hg)⟩,by simp⟩,rfl,rfl,by show 0*5<7*3;lia⟩,.nil⟩
end
end ST
namespace ST
open PySem PySem.SetTable PyProof.Rows
structure Up (its:Ar) (rows:List (List Int)) (i:Nat) (xs:List (List Int×Addr)):Prop where
 own:∀ e∈xs,∃ j,j<i/\its[j]?=some (.ref e.2)/\rows[j]?=some e.1
 all:∀ (j:Nat) r,j<i->rows[j]?=some r->r∈xs.map (·.1)
theorem Up.len {its:Ar}{rows:List (List Int)}{i:Nat}{xs:List (List Int×Addr)}(U:Up its rows i xs) (nd:(xs.map (·.1)).Nodup):xs.length<=i:=by
 have:∀ x∈xs.map (·.1),x∈(List.range i).map λ j=>rows.getD j []:=λ x hx=>by
  obtain⟨e,he,rfl⟩:=Ah.mp hx;obtain⟨j,h1,_,h3⟩:=U.own e he;refine Ah.mpr ⟨j,AB.mpr h1,?_⟩;rw[AK,h3];rfl
 have key:∀ (l m:List (List Int)),l.Nodup->(∀ x∈l,x∈m)->l.length<=m.length:=by
  intro l
  induction l with
  | nil=>intro m _ _;exact AV _
  | cons x l ih=>
   intro m hn hs;have h1:=A7.mp hn;have hx:=hs x Am;have:=ih (m.erase x) h1.2 λ z hz=>(DC (λ e:z=x=>h1.1 (by rw[<- e];exact hz))).mpr (hs z (Av _ hz));rw[DB hx] at this;have:=C1 hx;simp only[A4];lia
 have:=key _ _ nd this;simpa using this
theorem Up.step {its:Ar}{rows:List (List Int)}{i:Nat}{xs Fg:List (List Int×Addr)}{key:List Int}{b:Addr}(U:Up its rows i xs) (hi:its[i]?=some (.ref b)) (hr:rows[i]?=some key)
  (h:key∈xs.map (·.1)/\Fg=xs\/key∉xs.map (·.1)/\Fg.Perm (xs++[(key,b)])):Up its rows (i+1) Fg:=by
 rcases h with ⟨hm,rfl⟩ | ⟨_,hp⟩
 .refine⟨λ e he=>?_,λ j r hj Bj=>?_⟩
  .obtain⟨j,h1,h2⟩:=U.own e he;exact⟨j,by lia,h2⟩
  .rcases Bn j i with q | q
   .exact U.all j r q Bj
   .have:j=i:=by lia
    subst this;rw[hr] at Bj;cases Bj;exact hm
 .refine⟨λ e he=>?_,λ j r hj Bj=>?_⟩
  .rcases A2.mp (hp.mem_iff.mp he) with q | q
   .obtain⟨j,h1,h2⟩:=U.own e q;exact⟨j,by lia,h2⟩
   .cases AZ.mp q;exact⟨i,by lia,hi,hr⟩
  .have G3:=hp.map (·.1);rw[G3.mem_iff,Bp];rcases Bn j i with q | q
   .exact CD _ (U.all j r q Bj)
   .have:j=i:=by lia
    subst this;rw[hr] at Bj;cases Bj;exact A3 _ Am
section
variable {prog:Program}{w:World}{A:Around}{R:Result->Shared->Prop}{I:Addr}{fp wr:List Addr}{G:Array GenState->Array GenState->Prop}{n:Nat}{P:Nat->Value->Prop}{St:Nat->Shared->Prop}
def qa (prog:Program) (w:World) (h:Heap) (its:Ar) (rows:List (List Int)):Prop:=∀ (i:Nat) v,its[i]?=some v->∃ b r,v=.ref b/\rows[i]?=some r/\IsTupleKey (intKind prog w) h r b
theorem qa.at {h h':Heap}{its:Ar}{rows:List (List Int)}(T:qa prog w h its rows) (k:∀ (i:Nat) b,its[i]?=some (.ref b)->∀ o,h.get? b=some o->h'.get? b=some o):qa prog w h' its rows:=λ i v hv=>by
 obtain⟨b,r,rfl,h1,o,items,m,h2,h3⟩:=T i v hv;exact⟨b,r,rfl,h1,o,items,m,k i b hv o h2,h3⟩
theorem Pc (W:WalksS prog w A.in1 I fp wr G n (λ i v=>P i v) St) (Sa:Addr) (Jp:Sa∉fp) {its:Ar}{rows:List (List Int)}(hP:∀ i v,P i v->its[i]?=some v) (hn:n<70) (hu:A.units+1<cLine) (led:Bool)
  (Cf:∀ (i:Nat) b,its[i]?=some (.ref b)->b∉Sa::wr):∀ (k i:Nat) (s:Shared) (xs:List (List Int×Addr)),n-i=k->i<=n->St i s->vF prog w s.heap Sa xs led->qa prog w s.heap its rows->Up its rows i xs->
   (∀ s' Fg,Moved (Sa::wr) G s s'->vF prog w s'.heap Sa Fg led->Up its rows n Fg->R (.ok (.ret .none)) s')->
   codeAny (model prog w) A (.builtin "set.update.loop" ⟨[.ref Sa,.ref I],[]⟩) R s:=by
 have Jo:Sa∉wr:=λ z=>Jp (W.sub _ z);have more:∀ b∈wr,b∈Sa::wr:=λ b hb=>Av _ hb;have HQ:∀ {s s':Shared}{xs:List (List Int×Addr)}{Jz:List Addr},Sa∉Jz->(∀ e∈xs,e.2∉Jz)->Moved Jz G s s'->vF prog w s.heap Sa xs led->vF prog w s'.heap Sa xs led:=λ{s s' xs Jz} h1 h2 hm ⟨⟨es,ep,t,ho,X,r1,r2,r3⟩,nd⟩=>
  ⟨⟨es,ep,t,hm.heap Sa _ h1 ho,⟨X.es,λ e he=>by
   obtain⟨o,items,m,g1,g2⟩:=X.is e he;exact⟨o,items,m,hm.heap _ _ (h2 e he) g1,g2⟩,X.tab,X.oS⟩,r1,r2,r3⟩,nd⟩
 intro k
 induction k with
 | zero=>
  intro i s xs hk hi AQ hS hT hU hR;have e:i=n:=by lia
  subst e;refine codeAny_builtin F.entry_set_update_loop ?_;rw[Around.under_plainId F.plain_set_update_loop _];show wpAny _ A.in1 (pyNext (.ref I) >>= _) _ _ s;refine JY (W.done s _ _ AQ λ s' hm=>?_);refine Ac (hR s' xs (hm.mono more) (HQ Jo (λ e he=>?_) hm hS) hU);obtain⟨j,_,h2,_⟩:=hU.own e he;exact λ z=>Cf j e.2 h2 (more _ z)
 | succ k ih=>
  intro i s xs hk hi AQ hS hT hU hR;have An:i<n:=by lia
  refine codeAny_builtin F.entry_set_update_loop ?_;rw[Around.under_plainId F.plain_set_update_loop _];show wpAny _ A.in1 (pyNext (.ref I) >>= _) _ _ s;refine JY (W.item i s _ _ An AQ λ v s1 Kw Io hm=>?_);have hv:=hP i v Kw;have T1:qa prog w s1.heap its rows:=hT.at λ j b hj o e=>hm.heap b o (λ z=>Cf j b hj (more _ z)) e;obtain⟨b,r,rfl,hr,hb⟩:=T1 i v hv;have S1:vF prog w s1.heap Sa xs led:=HQ Jo (λ e he=>by
   obtain⟨j,_,h2,_⟩:=hU.own e he;exact λ z=>Cf j e.2 h2 (more _ z)) hm hS
  have hl:xs.length<70:=by have:=hU.len hS.nd;lia
  show wpAny _ A.in1 (holding [Value.ref b] (setAdd Sa (.ref b)) >>= _) _ _ s1;refine JY (K0 ?_);unfold setAdd;refine K0 (JY ((rk prog w).pyHash (k:=r) (a:=b) (A:=A.in1) hu hb ?_));refine MD (s:={ s1 with toks:=s1.toks+(rk prog w).draws r }) (A:=A.in1) hu S1 hb hl λ h' Fg rr sb S' hx=>?_;have fr:=W.frame (i+1) s1 h' (s1.toks+(rk prog w).draws r) Io (Cp _ _) λ c hc o e=>(sb.2 c (λ z:c=Sa=>Jp (z▸hc))).trans e;refine Ac ⟨plainId_quiet F.plain_set_update_loop _,ih (i+1) _ Fg (by lia) An fr S' (T1.at λ j c hj o e=>?_) (hU.step hv hr hx) λ s2 HK HG S2 U2=>?_⟩
  .exact (sb.2 c (λ z=>Cf j c hj (z▸Am))).trans e
  .refine hR s2 HK (Moved.trans W.gtrans ((hm.mono more).then_heap (Cp _ _) λ c o hc e=>?_) HG) S2 U2;exact (sb.2 c (λ z=>hc (z▸Am))).trans e
end
section
variable {prog:Program}{w:World}{A:Around}{E:Ad}{s:Shared}
set_option maxHeartbeats 6400000 in
theorem Mb {l:Addr}{its:Ar}{rows:List (List Int)}{Q:Ad}(hh:A.handled=none) (hu:A.units+64<cLine) (hl:s.heap.IsList l its) (hT:qa prog w s.heap its rows) (hn:its.size<70)
  (h:∀ (h':Heap) (tk:Nat) xs,vF prog w h' s.heap.objs.size xs (vw w)->Up its rows its.size xs->(∀ b o,b<s.heap.objs.size->s.heap.get? b=some o->h'.get? b=some o)->Q (.ref s.heap.objs.size) { s with heap:=h',toks:=tk }):
  wpAny (model prog w) A (call (.type "set") [.ref l]) Q E s:=by
 obtain⟨c,tl,Ew⟩:=F.called_set.mro;have made:=F.called_set.made;have JZ:=F.called_set.sub;refine wpAny_call (codeAny_of_tree ?_);show wpAny _ _ (callAny (.type "set") _) _ _ _;refine Ac ⟨Code.quiet_builtin _ (AD),codeAny_builtin F.entry_type_call ?_⟩;rw[Around.under_plain (weight_type_call_type "set" [.ref l] []) rfl];have nt:=F.called_set.notType;have cc:=F.called_set.canCreate;have tc:=F.typeCall_set_1 (.ref l)
 repeat (any_goals (first | assumption | wp_step))
 refine codeAny_mono (ao (.ref l) (E:=E) (Q:=λ obj s₁=>obj=.ref s.heap.objs.size/\s₁={ s with heap:=s.heap.push (yH w) }) ⟨rfl,rfl⟩) λ r s₁ hr=>?_;cases r with
 | error e=>exact hr
 | ok fl=>
  cases fl with
  | ret obj=>
   obtain⟨rfl,rfl⟩:=hr;have hS:(s.heap.push (yH w)).get? s.heap.objs.size=some (yH w):=AJ _ rfl;have Ku:Shared.TypeIs { s with heap:=s.heap.push (yH w) } (.ref s.heap.objs.size) "set":=⟨_,hS,rfl⟩
   have li:=F.called_set.init.lookup;have bi:=F.called_set.init.bind (.ref s.heap.objs.size)
   repeat (any_goals (first | assumption | wp_step))
   let s1:Shared:={ s with heap:=s.heap.push (yH w) }
   refine codeAny_mono (codeAny_call_builtin (R:=wants (λ r s₂=>r=.none/\∃ h' tk xs,s₂={ s with heap:=h',toks:=tk }/\vF prog w h' s.heap.objs.size xs (vw w)/\Up its rows its.size xs/\
     ∀ b o,b<s.heap.objs.size->s.heap.get? b=some o->h'.get? b=some o) E) F.called_set.init.plain F.entry_set_init (check_set_init_1 Ku ?_)) λ r₂ s₂ Ip=>?_
   .obtain⟨⟨J9,Hj,IV,GU⟩,Dh,AU,nl,Cy⟩:=id hl;simp only at AU Cy;subst AU Cy;have Iu:(s.heap.push (yH w)).get? l=some { cls:=.type "list",dict:=Hj,data:=.seq its nl,slots:=GU }:=KY _ Dh;have sls:=F.sub_list_set;have slf:=F.sub_list_frozenset;have nd:(Value.type "list" == Value.type "dict")=false:=by decide
    have GL:(s.heap.push (yH w)).IsList l its:=⟨_,Iu,rfl,nl,rfl⟩
    unfold Builtin.«set.__init__» noKeywords Builtin.Frozenset.updateFrom;generalize Kx:pyIter=PI;unfold yH at *
    wp_walk
    subst Kx;refine Lp GL (JY (wpAny_runValue ?_));have Jk:l<s.heap.objs.size:=Ap Dh;have hsz:(s.heap.push (yH w)).objs.size=s.heap.objs.size+1:=Heap.size_push _ _;have Iw:l≠(s.heap.push (yH w)).objs.size:=by rw[hsz];exact Aw (BI Jk)
    have Ie:s.heap.objs.size≠(s.heap.push (yH w)).objs.size:=by rw[hsz];exact Aw (Cu _)
    have low:∀ b:Addr,b<s.heap.objs.size->b≠(s.heap.push (yH w)).objs.size:=λ b hb=>by rw[hsz];exact Aw (BI hb)
    have tin:∀ (i:Nat) b,its[i]?=some (.ref b)->b<s.heap.objs.size:=λ i b hb=>by
     obtain⟨b',r,e,_,o,_,_,ho,_⟩:=hT i _ hb;cases e;exact Ap ho
    refine Pc (A:=A.in1.in1) (P:=λ i v=>its[i]?=some v) ((Walks.list (A:=A.in1.in1.in1) (by simp[hh]) _ l Iw its).toS) s.heap.objs.size ?_ (its:=its) (rows:=rows) (λ _ _ q=>q) hn (show A.units+1+1+1<cLine by lia) (vw w) ?_ its.size 0 _ [] (by lia) (AV _)
     ⟨⟨_,AJ _ rfl,rfl,rfl⟩,GL.push _⟩ (X_ (w:=w) (KY _ hS)) (hT.at λ i b _ o e=>KY _ (KY _ e)) ⟨λ e he=>(by cases he),λ j r hj=>(by lia)⟩ ?_
    .intro hm;rcases Ai.mp hm with q | q
     .exact Ie q
     .exact B2 Jk (AZ.mp q)
    .intro i b hb hm;have An:=tin i b hb;rcases Ai.mp hm with q | q
     .exact Aw An q
     .exact low b An (AZ.mp q)
    .intro s' Fg hm S' U';obtain⟨h',g',d',IP,Ij⟩:=s';obtain rfl:g'=s.gens:=hm.gens;obtain rfl:d'=s.drawn:=hm.drawn;obtain rfl:Ij=s.os:=hm.os;refine Ac (Ac ⟨rfl,h',IP,Fg,rfl,S',U',λ b o hb e=>?_⟩);refine hm.heap b o (λ q=>?_) (KY _ (KY _ e));rcases Ai.mp q with q | q
     .exact Aw hb q
     .exact low b hb (AZ.mp q)
   .cases r₂ with
    | error e=>exact Ip
    | ok KJ=>
     cases KJ with
     | ret r=>
      obtain⟨rfl,h',tk,xs,rfl,g1,g2,g3⟩:=Ip
      repeat (any_goals (first | assumption | wp_step))
      exact h h' tk xs g1 g2 g3
     | _=>exact Ip.elim
  | _=>exact hr.elim
end
end ST
namespace ST
open PySem PySem.SetTable
section facts
theorem dm:Manifest.owners.lookup (String.ofList ['r','o','t','a','r','e','t','i','_','t','e','s'].reverse)=some Manifest.sig_set_iterator:=by kernel_rfl
theorem qx:Slot "set_iterator" "__next__" "set_iterator.__next__":=
 .of (owner:="set_iterator") (n:="__next__") (by rw[typeLookup_type,builtinLookup_eq_fast];kernel_rfl) (AD) (AD) (AD) (by first | exact .inl (AD) | exact .inr (AD)) (by rw[isSubtype_type];kernel_rfl)
theorem bF:entryFor table "set_iterator.__next__"=some Builtin.«set_iterator.__next__»:=entryFor_of_tree (by kernel_rfl)
theorem aO (a:Value):argsOk "set_iterator.__next__" ⟨[a],[]⟩:=by
 unfold argsOk;rw[signature?_of (id:="set_iterator.__next__") (n:=['_','_','t','x','e','n','_','_']) (o:=['r','o','t','a','r','e','t','i','_','t','e','s']) (by kernel_rfl) dm]
 kernel_rfl
theorem Nr:entryFor table "set.__iter__"=some Builtin.«frozenset.__iter__»:=entryFor_alias (id':="frozenset.__iter__") (by kernel_rfl) rfl (AD) (by kernel_rfl)
theorem f_:Slot "set_iterator" "__iter__" "set_iterator.__iter__":=
 .of (owner:="set_iterator") (n:="__iter__") (by rw[typeLookup_type,builtinLookup_eq_fast];kernel_rfl) (AD) (AD) (AD) (by first | exact .inl (AD) | exact .inr (AD)) (by rw[isSubtype_type];kernel_rfl)
theorem Nq:entryFor table "set_iterator.__iter__"=some Builtin.«dict_keyiterator.__iter__»:=entryFor_alias (id':="dict_keyiterator.__iter__") (by kernel_rfl) rfl (AD) (by kernel_rfl)
theorem M1 (a:Value):argsOk "set_iterator.__iter__" ⟨[a],[]⟩:=by
 unfold argsOk;rw[signature?_of (id:="set_iterator.__iter__") (n:=['_','_','r','e','t','i','_','_']) (o:=['r','o','t','a','r','e','t','i','_','t','e','s']) (by kernel_rfl) dm]
 kernel_rfl
end facts
theorem bC {α:Type}:∀ (l:List α) (i:Nat) (x:α),l[i]?=some x->l.Perm (x::l.eraseIdx i)
 | [],i,x,h=>by simp at h
 | y::l,0,x,h=>by simp at h;subst h;simp
 | y::l,i+1,x,h=>by
  have ih:=bC l i x (by simpa using h);rw[List.eraseIdx_cons_succ];exact (ih.cons y).trans (.swap x y _)
theorem e_ {α:Type}(next:Nat->Nat):∀ (f k:Nat) (left:List α) (out:Array α),left.length=f->(pickOrder.go next f k left out).toList.Perm (out.toList++left)
 | 0,k,left,out,h=>by
  cases left with
  | nil=>unfold pickOrder.go;simp
  | cons _ _=>simp at h
 | f+1,k,left,out,h=>by
  unfold pickOrder.go;have An:next k%left.length<left.length:=C2 _ (by lia);rw[AG An];dsimp only;refine (e_ next f (k+1) _ _ (by rw[List.length_eraseIdx_of_lt An];lia)).trans ?_;rw[Array.toList_push,List.append_assoc];exact (bC left _ _ (AG An)).symm.append_left _
theorem WX {α:Type}(next:Nat->Nat) (xs:Array α):(pickOrder next xs).toList.Perm xs.toList:=by
 unfold pickOrder;simpa using e_ next xs.size 0 xs.toList #[] (by simp)
noncomputable def comes (w:World) (a:Addr) (es:Array (Int×Value)) (ep:Nat):Array (Int×Value):=if w.params.followText "set-order"=true then pickOrder (w.params.setOrder a ep) es else es
theorem qX (w:World) (a:Addr) (es:Array (Int×Value)) (ep:Nat):(comes w a es ep).toList.Perm es.toList:=by
 unfold comes;split
 .exact WX _ _
 .exact .refl _
noncomputable def sR (a:Addr) (slot i n ep:Nat):Obj:={ cls:=.type "set_iterator",data:=.fields #[rawInt slot,rawInt i,.ref a,rawInt n,rawInt ep] }
noncomputable def slotAt (t:SetTable):Nat->Nat
 | 0=>0
 | i+1=>t.place.getD i 0+1
theorem My {t:SetTable}(hr:u7 t.place.toList):∀ i,i<=t.place.size->below t.place (slotAt t i)=i
 | 0,_=>by
  obtain⟨h1,h2,h3⟩:=ku (xs:=t.place) (j:=0) hr;rcases D8 (below t.place 0) with q | q
  .exact q
  .have:=h2 0 (by lia) q
   lia
 | i+1,hi=>by
  have hd:t.place.getD i 0=t.place[i]:=iE (by lia);show below t.place (t.place.getD i 0+1)=i+1;rw[hd];obtain⟨h1,h2,h3⟩:=ku (xs:=t.place) (j:=t.place[i] + 1) hr;have wo:∀ a b (ha:a<t.place.size) (hb:b<t.place.size),a<b->t.place[a]<t.place[b]:=λ a b ha hb CN=>by
   have r:=CC.mp hr a b (by simpa using ha) (by simpa using hb) CN;rw[CA,CA] at r;exact r
  rcases Dz (below t.place (t.place[i] + 1)) (i+1) with q | q | q
  .have:=h3 i (by lia) (by lia)
   lia
  .exact q
  .have a:=h2 (i+1) (by lia) q;have b:=wo i (i+1) (by lia) (by lia) (by lia)
   lia
structure wC (w:World) (h:Heap) (a:Addr) (es:Array (Int×Value)) (ep:Nat) (t:SetTable):Prop where
 get:h.get? a=some { cls:=.type "set",dict:=none,data:=.set es ep t }
 fits:t.fits es.size=true
 wo:u7 t.place.toList
 led:t.led=vw w
 plain:t.plain=true
theorem wC.size {w:World}{h:Heap}{a:Addr}{es:Array (Int×Value)}{ep:Nat}{t:SetTable}(S:wC w h a es ep t):t.place.size=es.size:=by
 have:=S.fits;simp only[SetTable.fits,Bc,beq_iff_eq] at this;exact this.1
section
variable {prog:Program}{w:World}{A:Around}{E:Ad}{s:Shared}
theorem dQ {a:Addr}{es:Array (Int×Value)}{ep:Nat}{t:SetTable}{i:Nat}{Q:Option (Value×Nat)->Shared->Prop}(S:wC w s.heap a es ep t) (hi:i<=es.size) (slot:Nat) (hs:w.params.followText "set-order"=false->slot=slotAt t i)
  (h:∀ Fw,(w.params.followText "set-order"=false->Fw=slotAt t (i+1))->Q ((comes w a es ep)[i]?.map λ e=>(e.2,Fw)) s):wpAny (model prog w) A (setNext a slot i ep) Q E s:=by
 unfold setNext setsByText;refine JY (K5 S.get rfl S.fits ?_);dsimp only;refine JY (JY (Lr (Ac ?_)));show wpAny _ A (if w.params.followText "set-order"=true then _ else _) Q E s;cases hb:w.params.followText "set-order" with
 | true=>
  rw[if_pos rfl,if_neg (by simp)];unfold setWalk setsByText;refine JY (JY (K5 S.get rfl S.fits ?_));dsimp only;refine JY (JY (Lr (Ac ?_)));show wpAny _ A (if w.params.followText "set-order"=true then _ else _) _ E s;rw[if_pos hb];refine JY (Lr (Ac ?_));refine Ac ?_;have:=h slot (λ q=>by rw[hb] at q;cases q);unfold comes at this;rw[if_pos hb] at this;exact this
 | false=>
  rw[if_neg (by simp)];split
  .rename_i hd;have HH:(!t.plain&&decide (es.size>1))=true:=hd;rw[S.plain] at HH;simp at HH
  .show wpAny _ A ((if (!t.led&&!es.isEmpty)=true then unsupported "set:maker-not-led" else pure ()) >>= _) Q E s;have hl:t.led=true:=by rw[S.led];unfold vw;rw[hb];rfl
   rw[if_neg (by rw[hl];simp)];refine JY (Ac (Ac ?_));have Bz:=hs hb;have hz:=S.size;rw[Bz,My S.wo i (by rw[hz];exact hi)];have:=h (slotAt t (i+1)) (λ _=>rfl);unfold comes at this;rw[if_neg (by rw[hb];simp)] at this;rcases Bn i es.size with q | q
   .have hp:i<t.place.size:=by rw[hz];exact q
    rw[Bh q] at this;rw[Bh q,Bh hp];have e:slotAt t (i+1)=t.place[i] + 1:=by show t.place.getD i 0+1=_;rw[iE hp]
    rw[e] at this;exact this
   .rw[CP q] at this;rw[CP q];exact this
theorem rP {a I:Addr}{slot i n ep:Nat}(ho:s.heap.get? I=some (sR a slot i n ep)):s.TypeIs (.ref I) "set_iterator":=⟨_,ho,rfl⟩
theorem fJ (k:Nat):((k:Int)).toNat=k:=Cz k
theorem XY {I a:Addr}{es:Array (Int×Value)}{ep:Nat}{t:SetTable}{i slot:Nat}{e:Int×Value}{Q:Option Value->Shared->Prop}(ho:s.heap.get? I=some (sR a slot i es.size ep)) (S:wC w s.heap a es ep t) (hs:w.params.followText "set-order"=false->slot=slotAt t i) (he:(comes w a es ep)[i]?=some e)
  (hi:i<es.size) (h:∀ h' Fw,(w.params.followText "set-order"=false->Fw=slotAt t (i+1))->h'.get? I=some (sR a Fw (i+1) es.size ep)->Heap.SameBut I s.heap h'->Q (some e.2) { s with heap:=h' }):wpAny (model prog w) A (pyNext (.ref I)) Q E s:=by
 unfold pyNext;refine JY (wpAny_attempt (K8 (name:=Str.ofString "__next__") (rP ho) qx (K2 qx (rP ho) bF ?_ (aO _))));refine JY (Ac ?_);dsimp only;refine JY (wpAny_fieldsOf ho rfl ?_);dsimp only[rawInt];refine JY (JY (K5 S.get rfl S.fits (Ac ?_)));rw[if_neg (by simp)];refine JY (dQ S (by lia) slot hs λ Fw He=>?_);rw[fJ] at He ⊢;rw[he];dsimp only[Option.map_some];refine JY (Lq ho rfl (by simp) ?_);have o1:=K_ (Obj.mapFields (·.set! 0 (Value.int (Fw:Int) 0))) ho rfl;refine JY (Lq o1 rfl (by simp) ?_);have o2:=K_ (Obj.mapFields (·.set! 1 (Value.int ((i:Int)+1) 0))) o1 rfl;refine Ac ⟨_,rfl,Ac (h _ Fw He o2 ((Heap.SameBut.update ..).trans (Heap.SameBut.update ..)))⟩
theorem XZ {I a:Addr}{es:Array (Int×Value)}{ep:Nat}{t:SetTable}{slot:Nat}{Q:Option Value->Shared->Prop}(hh:A.handled=none) (ho:s.heap.get? I=some (sR a slot es.size es.size ep)) (S:wC w s.heap a es ep t) (hs:w.params.followText "set-order"=false->slot=slotAt t es.size)
  (h:∀ h',Heap.ExtBut I s.heap h'->Q none { s with heap:=h' }):wpAny (model prog w) A (pyNext (.ref I)) Q E s:=by
 have hn:(comes w a es ep)[es.size]?=none:=by
  have:=(qX w a es ep).length_eq;simp only[Bs] at this;rw[CP (by lia)]
 unfold pyNext;refine JY (wpAny_attempt (K8 (name:=Str.ofString "__next__") (rP ho) qx (K2 qx (rP ho) bF ?_ (aO _))));refine JY (Ac ?_);dsimp only;refine JY (wpAny_fieldsOf ho rfl ?_);dsimp only[rawInt];refine JY (JY (K5 S.get rfl S.fits (Ac ?_)));rw[if_neg (by simp)];refine JY (dQ S (by simp) slot (by simpa using hs) λ Fw He=>?_);rw[fJ,hn];dsimp only[Option.map_none];refine JY (Lq ho rfl (by simp) ?_);refine JY ?_;simp only[newExc,newTuple];refine JY (K6 ?_ (by size_fits));refine JY (m:=firstArgMember _ _) (wpAny_of_eq (a:=Value.none) (by first | rfl | (simp only[firstArgMember];rfl)) (K6 ?_ (by size_fits)));unfold raiseNew;refine JY (wpAny_handled ?_);rw[show A.in1.handled=none from hh];refine JY ((Ac (wpAny_throw ?_)));refine JY ((wpAny_isInstance (T:="StopIteration") (b:=true) ⟨_,AJ _ rfl,rfl⟩ isSubtype_stop ?_));exact Ac (h _ (((Heap.SameBut.update ..).extBut.push _).push _))
theorem XX {I a:Addr}{slot i n ep:Nat}{Q:Ad}(ho:s.heap.get? I=some (sR a slot i n ep)) (h:Q (.ref I) s):wpAny (model prog w) A (pyIter (.ref I)) Q E s:=by
 refine wpAny_pyIter_slot (rP ho) f_ (K2 f_ (rP ho) Nq ?_ (M1 _));exact Ac ⟨_,rfl,"set_iterator",_,rP ho,qx.lookup,h⟩
theorem wC.keep {h h':Heap}{a:Addr}{es:Array (Int×Value)}{ep:Nat}{t:SetTable}(S:wC w h a es ep t) (k:∀ o,h.get? a=some o->h'.get? a=some o):wC w h' a es ep t:=⟨k _ S.get,S.fits,S.wo,S.led,S.plain⟩
theorem YG (hh:A.handled=none) (I a:Addr) (Ao:a≠I) (es:Array (Int×Value)) (ep:Nat) (t:SetTable):
  Walks prog w A I [I,a] [I] es.size (λ i v=>∃ e,(comes w a es ep)[i]?=some e/\v=e.2) (λ i h=>(∃ slot,(w.params.followText "set-order"=false->slot=slotAt t i)/\h.get? I=some (sR a slot i es.size ep))/\wC w h a es ep t) where
 sub:=λ b hb=>by simp at hb;simp[hb]
 frame:=λ _ _ _ st k=>by
  obtain⟨⟨slot,h1,h2⟩,S⟩:=st;exact⟨⟨slot,h1,k I (by simp) _ h2⟩,S.keep λ o e=>k a (by simp) o e⟩
 item:=λ i s Q E hi st hQ=>by
  obtain⟨⟨slot,h1,h2⟩,S⟩:=st;have hl:i<(comes w a es ep).size:=by
   have:=(qX w a es ep).length_eq;simp only[Bs] at this
   lia
  refine XY h2 S h1 (Bh hl) hi λ h' Fw g1 g2 g3=>?_;exact hQ _ h' s.toks ⟨_,Bh hl,rfl⟩ ⟨⟨Fw,g1,g2⟩,S.keep λ o e=>(g3.2 a Ao).trans e⟩ λ b o hb e=>(g3.2 b (λ z=>hb (by simp[z]))).trans e
 done:=λ s Q E st hQ=>by
  obtain⟨⟨slot,h1,h2⟩,S⟩:=st;exact XZ hh h2 S h1 λ h' g=>hQ h' s.toks λ b o hb e=>g b o (λ z=>hb (by simp[z])) e
 self:=λ _ _ _ _ st hQ=>by
  obtain⟨⟨slot,h1,h2⟩,S⟩:=st;exact XX h2 hQ
theorem Pf:typeLookup (.type "set") "__len__"=pure (some (.builtin "set.__len__")):=F.slot_set_len.lookup
theorem split_len:splitId "set.__len__"=some ("set","__len__"):=by decide +kernel
theorem QI {a:Addr}{es:Array (Int×Value)}{ep:Nat}{t:SetTable}{Q:Bool->Shared->Prop}(S:wC w s.heap a es ep t) (h:Q false s):wpAny (model prog w) A (setDrawn a) Q E s:=by
 unfold setDrawn setsByText;refine JY (K5 S.get rfl S.fits ?_);dsimp only;refine JY (JY (Lr (Ac (Ac ?_))));show Q (!w.params.followText "set-order"&&(!t.plain&&decide (es.size>1))) s;rw[S.plain];simpa using h
set_option maxHeartbeats 4000000 in
theorem QL {a:Addr}{es:Array (Int×Value)}{ep:Nat}{t:SetTable}{Q:Bool->Shared->Prop}(S:wC w s.heap a es ep t) (h:Q false s):wpAny (model prog w) A (Builtin.List.listLengthHint (.ref a)) Q E s:=by
 have Ty:s.TypeIs (.ref a) "set":=⟨_,S.get,rfl⟩
 unfold Builtin.List.listLengthHint;refine JY (wpAny_specialOf Ty Pf ?_);dsimp only;rw[split_len];dsimp only;refine JY (wpAny_isInstance (b:=true) Ty sub_set_self ?_);rw[if_neg (by decide)];rw[if_pos (AD)];refine JY (Ll Ty ?_);exact Ac h
set_option maxHeartbeats 4000000 in
theorem NI {a:Addr}{es:Array (Int×Value)}{ep:Nat}{t:SetTable}{Q:List Value->Shared->Prop}(hh:A.handled=none) (S:wC w s.heap a es ep t) (hn:es.size<=sizeLine)
  (h:∀ (h':Heap) (tk:Nat),(∀ b o,b<s.heap.objs.size->s.heap.get? b=some o->h'.get? b=some o)->s.heap.objs.size<=h'.objs.size->Q ((comes w a es ep).toList.map (·.2)) { s with heap:=h',toks:=tk }):wpAny (model prog w) A (collect (.ref a)) Q E s:=by
 have ha:a<s.heap.objs.size:=Ap S.get;unfold collect;refine JY (wpAny_runValue (codeAny_builtin F.entry_proto_collect ?_));rw[Around.under_plainId F.plain_proto_collect _];show wpAny _ A.in1 (newList [] >>= λ l=>again (.builtin "list.__iadd__" ⟨[l,.ref a],[]⟩)) _ _ s;refine JY (K6 (Ac ⟨plainId_quiet F.plain_list_iadd _,codeAny_builtin F.entry_list_iadd ?_⟩));rw[Around.under_plainId F.plain_list_iadd _]
 let L0:Obj:={ cls:=.type "list",data:=.seq ([]:Ae).toArray }
 have S1:wC w (s.heap.push L0) a es ep t:=S.keep λ o e=>KY _ e;have T1:Shared.TypeIs { s with heap:=s.heap.push L0 } (.ref a) "set":=⟨_,S1.get,rfl⟩
 show wpAny _ A.in1 (Builtin.List.listExtendWith (.ref s.heap.objs.size) (.ref a) (.ref s.heap.objs.size)) _ _ { s with heap:=s.heap.push L0 };unfold Builtin.List.listExtendWith;refine JY (Ll T1 ?_);have Ao:s.heap.objs.size≠a:=B2 ha;have c1:Builtin.List.listSameRef (.ref s.heap.objs.size) (.ref a)=false:=by simp[Builtin.List.listSameRef,Ao]
 rw[if_neg (by rw[c1];decide)];refine JY (wpAny_pyIter_slot T1 F.slot_set_iter (K2 F.slot_set_iter T1 Nr ?_ (F.args_set_iter_1 _)));refine JY (JY (Ac (Ac ?_)));refine JY (JY (JY (K5 S1.get rfl S1.fits (Ac (Ac ?_)))));refine JY (QI S1 ?_);rw[if_neg (by decide)];refine JY (Ac ?_);refine JY (wpAny_setEpoch_of S1.get rfl S1.fits ?_);refine JY (K6 (Ac ⟨_,rfl,"set_iterator",_,⟨_,AJ _ rfl,rfl⟩,qx.lookup,?_⟩))
 let I:=(s.heap.push L0).objs.size
 let h2:=(s.heap.push L0).push (sR a 0 0 es.size ep)
 have S2:wC w h2 a es ep t:=S1.keep λ o e=>KY _ e;have hI:h2.get? I=some (sR a 0 0 es.size ep):=AJ _ rfl;have hL:h2.get? s.heap.objs.size=some L0:=KY _ (AJ _ rfl);have hsz:(s.heap.push L0).objs.size=s.heap.objs.size+1:=Heap.size_push _ _;show wpAny _ A.in1 _ _ _ { s with heap:=h2 };refine JY (K0 (QL (s:={ s with heap:=h2 }) S2 ?_));rw[if_pos (AD)];refine JY (wpAny_rule ?_);refine JY ?_;show wpAny _ A.in1 (updateSeq s.heap.objs.size (·.push .none) >>= λ _=>updateSeq s.heap.objs.size (·.pop)) _ _ { s with heap:=h2 };refine JY (wpAny_updateSeq hL rfl ?_);have hL2:=K_ (Obj.mapSeq (·.push Value.none)) hL rfl;refine wpAny_updateSeq hL2 rfl ?_;have hL3:=K_ (Obj.mapSeq (·.pop)) hL2 rfl
 let h3:=(h2.update s.heap.objs.size (Obj.mapSeq (·.push Value.none))).update s.heap.objs.size (Obj.mapSeq (·.pop))
 have J8:∀ b o,b≠s.heap.objs.size->h2.get? b=some o->h3.get? b=some o:=λ b o hb e=>(Ls _ _ (Ne.symm hb)).trans ((Ls _ _ (Ne.symm hb)).trans e);have haI:a≠I:=by show a≠(s.heap.push L0).objs.size;rw[hsz];exact Aw (BI ha)
 have hIn:I≠s.heap.objs.size:=by show (s.heap.push L0).objs.size≠_;rw[hsz];exact B2 (Cu _)
 refine Ac ⟨plainId_quiet F.plain_extend_loop _,codeAny_extend_loopS ((YG (A:=A.in1) hh I a haI es ep t).toS) hn s.heap.objs.size ?_ _ es.size 0 { s with heap:=h3 } #[] _ rfl (AV _) ⟨⟨0,λ _=>rfl,J8 I _ hIn hI⟩,S2.keep λ o e=>J8 a o (Ne.symm Ao) e⟩ hL3 (ItemsOf.nil _) λ s' acc c' hm hS' AY=>?_⟩
 .intro hm;rcases Ai.mp hm with q | q
  .exact hIn q.symm
  .exact Ao (AZ.mp q)
 .refine JY (wpAny_load hS' (Ac ?_));obtain⟨h',g',d',IP,Ij⟩:=s';obtain rfl:g'=s.gens:=hm.gens;obtain rfl:d'=s.drawn:=hm.drawn;obtain rfl:Ij=s.os:=hm.os;have hcm:(comes w a es ep).size=es.size:=by
   have:=(qX w a es ep).length_eq;simpa using this
  have e:acc.toList=(comes w a es ep).toList.map (·.2):=by
   refine List.ext_getElem? λ j=>?_;rw[Ay];rcases Bn j es.size with q | q
   .have Dl:j<acc.size:=by rw[AY.1];exact q
    have hj:acc[j]?=some acc[j]:=Bh Dl;obtain⟨e,e1,e2⟩:=AY.2 j _ hj;rw[BM,BM,hj,e1,e2];rfl
   .rw[BM,BM,CP (by rw[AY.1];exact q),CP (by rw[hcm];exact q)];rfl
  rw[e];refine h h' IP (λ b o hb e=>hm.heap b o (λ q=>?_) (J8 b o (Aw hb) (KY _ (KY _ e)))) ?_
  .rcases Ai.mp q with q | q
   .exact Aw hb q
   .have q':b=(s.heap.push L0).objs.size:=AZ.mp q;rw[hsz] at q';exact Aw (BI hb) q'
  .exact BQ (Ap hS')
end
end ST
namespace ST
open PySem PySem.SetTable PyProof.Rows L4
section
variable {prog:Program}{w:World}{A:Around}{E:Ad}{s:Shared}
theorem fO {a:Addr}{es:Array (Int×Value)}{ep:Nat}{t:SetTable}{Q:Ad}{Out:Array Value->Prop}(hh:A.handled=none) (S:wC w s.heap a es ep t) (hz:es.size<=sizeLine)
  (core:∀ s6:Shared,2<=es.size->(∀ b o,s.heap.get? b=some o->s6.heap.get? b=some o)->Core prog w A.in1.in1 E ((comes w a es ep).toList.map (·.2)) Out s6) (short:es.size<2->Out ((comes w a es ep).toList.map (·.2)).toArray)
  (fin:∀ (out:Ar) (h':Heap) (tk l:Nat),Out out->out.size=es.size->s.heap.objs.size<=l->(∀ b o,s.heap.get? b=some o->h'.get? b=some o)->(∃ e,h'.get? l=some (seqObj "list" out e))->Q (.ref l) { s with heap:=h',toks:=tk }):
  wpAny (model prog w) A (call (.builtin "sorted") [.ref a]) Q E s:=by
 have AU:((comes w a es ep).toList.map (·.2)).length=es.size:=by
  have:=(qX w a es ep).length_eq;rw[AA,this,Bs]
 refine Calls.call_function_entry kind_sorted plain_sorted entry_sorted (args_sorted1 _) ?_;unfold Builtin.«sorted»;refine JY (m:=checkCount "sorted" 1 1 _) (Ac (JY (NI (A:=A.in1) hh S hz λ h1 tk k1 k2=>JY (wpAny_newList ?_ (by rw[AU];exact hz)))));generalize hvs:(comes w a es ep).toList.map (·.2)=vs at *;have HS:(h1.push (seqObj "list" vs.toArray 0)).get? h1.objs.size=some (seqObj "list" vs.toArray 0):=AJ _ rfl;have k3:∀ b o,s.heap.get? b=some o->h1.get? b=some o:=λ b o q=>k1 b o (Ap q) q;show wpAny _ _ _ _ _ { s with heap:=h1.push (seqObj "list" vs.toArray 0),toks:=tk };refine JY (K0 (K2 slot_list_sort ⟨_,HS,rfl⟩ entry_list_sort (j_ HS (by rw[AU];exact hz) (λ h2 s6 k=>core s6 (by rw[<- AU];exact h2) λ b o q=>k b o ?_ (KY _ (k3 b o q))) (λ h2=>short (by rw[<- AU];exact h2)) λ out g1 g2=>⟨_,rfl,?_⟩) (args_list_sort _)))
 .exact Aw (Bf (Ap q) k2)
 .refine Ac ⟨_,rfl,fin out _ tk h1.objs.size g1 (by rw[g2,AU]) k2 (λ b o q=>?_) (sortedHeap_at (n:=0) HS)⟩;have An:b<h1.objs.size:=Ap (k3 b o q);rw[sortedHeap_old (Aw An) (by rw[size_push'];exact BI An),Heap.get?_push_ne _ _ _ (Aw An)];exact k3 b o q
end
end ST
namespace ST
open PySem PySem.SetTable PySem.Spec PyProof.Rows L2
def yB (w:World) (a:Addr) (us:Ae):Heap->Prop:=λ h=>∃ es ep t,wC w h a es ep t/\es.toList.map (·.2)=us
theorem yB.tD {w:World}{a:Addr}{us:Ae}{h1 h2:Heap}(S:yB w a us h1) (k:∀ o,h1.get? a=some o->h2.get? a=some o):yB w a us h2:=by
 obtain⟨es,ep,t,S,e⟩:=S;exact⟨es,ep,t,S.keep k,e⟩
theorem vF.at {prog:Program}{w:World}{h:Heap}{a:Addr}{xs:List (List Int×Addr)}(S:vF prog w h a xs (vw w)):yB w a (xs.map λ e=>Value.ref e.2) h:=by
 obtain⟨⟨es,ep,t,ho,X,h1,h2,h3⟩,_⟩:=S;exact⟨es,ep,t,⟨ho,X.fits,X.tab.wo,h1,h2⟩,by rw[X.es,AF];rfl⟩
section
variable {X:Cx}
abbrev kE (K:Ab) (H:Hp) (ys:List V) (rows:List (List Int)):Prop:=Paired (λ v r=>r≠[]/\∃ b,v=V.ref b/\zR K H b (r.map V.int)) ys rows
theorem cB:∀ {ns:List Int}{us:Ae},Vals (ns.map V.int) us->∀ {prog:Program}{w:World},ItemsAre (intKind prog w) ns us
 | [],_,.nil,_,_=>.nil
 | n::ns,_,.cons r t,prog,w=>by
  obtain⟨tk,rfl⟩:=r;exact .cons (intKind_is _ _ _ _) (cB t)
structure qe (ys:List V) (rows:List (List Int)) (vs:List V) (rs:List (List Int)):Prop where
 sub:∀ (i:Nat) v r,vs[i]?=some v->rs[i]?=some r->∃ (j:Nat),ys[j]?=some v/\rows[j]?=some r
 len:vs.length=rs.length
 nd:rs.Nodup
 all:∀ r∈rows,r∈rs
theorem NZ (hc:X.calm=true) (hu:X.A.units+64<cLine):yy X (.type "set") (λ xs H Q=>∃ p ys,∃ rows:List (List Int),xs=[.ref p]/\zL X.K H p ys/\kE X.K H ys rows/\rows.length<64/\
  ∀ (l:Addr) (us:Ae) (vs:List V) (rs:List (List Int)),H l=none->Vals vs us->qe ys rows vs rs->Q (.ref l) (upd H l (.ext (yB X.w l us)))):=by
 intro EM s Y H xs us Q I r h;obtain⟨p,ys,rows,rfl,hq,hr,GB,q⟩:=h;obtain⟨u,rfl,ru⟩:=vals1 r;cases ru;obtain⟨its,rv,pl,hz⟩:=I.list hq;have hl:=rv.length;have B7:ys.length=rows.length:=Paired.length hr;have uG:qa X.prog X.w s.heap its.toArray rows:=λ i v hv=>by
  have Hk:its[i]?=some v:=by simpa using hv
  have hi:i<its.length:=(AL.mp Hk).1;obtain⟨Ao,b,hb,CG⟩:=L4.Paired.at' hr (i:=i) (by lia) V.zo ([]:List Int);have hy:ys[i]?=some (V.ref b):=by
   rw[AG (by lia)];have:ys.getD i V.zo=ys[i]'(by lia):=by simp[show i<ys.length by lia]
   rw[this] at hb;rw[hb]
  obtain⟨v',e1,e2⟩:=rv.get hy;rw[Hk] at e1;cases e1;cases (show v=Value.ref b from e2);obtain⟨Fp,Hc,⟨o,e,AU,n,hd⟩,_⟩:=I.tuple CG;refine⟨b,rows.getD i [],rfl,?_,o,Fp.toArray,n,e,AU,hd,by simpa using cB Hc⟩;simp[show i<rows.length by lia]
 have hh:X.A.handled=none:=I.ok.hd hc;refine Mb (A:=X.A) hh hu pl.isList uG (by rw[Az];lia) λ h' tk xs S U k=>?_;have kk:∀ b o,s.heap.get? b=some o->h'.get? b=some o:=λ b o e=>k b o (Ap e) e;have Bw:H s.heap.objs.size=none:=I.zv.fresh (Af _);have IH:=S.at;have vals:Vals (xs.map λ e=>V.ref e.2) (xs.map λ e=>Value.ref e.2):=by
  clear S U IH
  induction xs with
  | nil=>exact .nil
  | cons e xs ih=>exact .cons rfl ih
 refine⟨.ref s.heap.objs.size,_,I.laid (t':=tk) (o:=.ext (yB X.w s.heap.objs.size (xs.map λ e=>Value.ref e.2))) kk (Af _) ?_,rfl,q _ _ (xs.map λ e=>V.ref e.2) (xs.map (·.1)) Bw vals ⟨λ i v r hv G7=>?_,by simp,S.nd,λ r G7=>?_⟩⟩
 .obtain⟨es,ep,t,St,e⟩:=id IH;exact⟨IH,⟨_,St.get⟩,λ h1 h2 S1 k=>S1.tD k⟩
 .rw[Ay] at hv G7;obtain⟨e,e1,rfl⟩:=AE.mp hv;rw[e1] at G7;cases G7;obtain⟨j,j1,j2,j3⟩:=U.own e (Bi e1);refine⟨j,?_,j3⟩;have G4:its[j]?=some (Value.ref e.2):=by simpa using j2
  have Dl:j<ys.length:=by rw[hl];exact (AL.mp G4).1
  obtain⟨v',e2,e3⟩:=rv.get (AG Dl);rw[G4] at e2;cases e2;obtain⟨Ao,b,hb,_⟩:=L4.Paired.at' hr (i:=j) (by lia) V.zo ([]:List Int);have:ys.getD j V.zo=ys[j]:=by simp[Dl]
  rw[this] at hb;rw[hb] at e3;cases (show Value.ref e.2=Value.ref b from e3);rw[AG Dl,hb]
 .obtain⟨j,hj⟩:=Dv.mp G7;exact U.all j r (by have:=(AL.mp hj).1;rw[Az];lia) hj
theorem Paired.mk {α β:Type}{F:α->β->Prop}:∀ {l:List α}{m:List β},l.length=m.length->(∀ (i:Nat) a b,l[i]?=some a->m[i]?=some b->F a b)->Paired F l m
 | [],[],_,_=>.nil
 | a::l,b::m,h,f=>.cons (f 0 a b rfl rfl) (Paired.mk (by simpa using h) λ i x y hx hy=>f (i+1) x y (by simpa using hx) (by simpa using hy))
 | [],_::_,h,_=>by simp at h
 | _::_,[],h,_=>by simp at h
theorem NX (hc:X.calm=true):yy X (.builtin "sorted") (λ xs H Q=>∃ l us vs,∃ rs:List (List Int),xs=[.ref l]/\H l=some (.ext (yB X.w l us))/\Vals vs us/\kE X.K H vs rs/\rs.length<64/\
  ∀ (p:Addr) (idx:List Nat),H p=none->idx.Perm (List.range vs.length)->(idx.map λ i=>rs.getD i []).Pairwise (λ a b=>HT.lexLt b a=false)->Q (.ref p) (upd H p (.lst (idx.map λ i=>vs.getD i .zo)))):=by
 intro EM s Y H xs us0 Q I r h;obtain⟨l,us,vs,rs,rfl,hl,hv,hr,GB,q⟩:=h;obtain⟨u,rfl,ru⟩:=vals1 r;cases ru;obtain⟨⟨es,ep,t,S,eu⟩,-,-⟩:=(show yJ X.prog X.w H s.heap l (.ext (yB X.w l us)) from I.zv l _ hl)
 have hlen:es.size=us.length:=by rw[<- eu];simp
 have hvl:=hv.length;have hrl:vs.length=rs.length:=Paired.length hr;have hh:X.A.handled=none:=I.ok.hd hc;obtain⟨ix,JH,Kc⟩:∃ ix:List Nat,ix.Perm (List.range us.length)/\(comes X.w l es ep).toList.map (·.2)=ix.map λ i=>us.getD i Value.none:=by
  have hp:((comes X.w l es ep).toList.map (·.2)).Perm us:=by rw[<- eu];exact (qX X.w l es ep).map _
  generalize (comes X.w l es ep).toList.map (·.2)=cs at hp;clear eu hl hv hvl hlen
  induction hp with
  | nil=>exact⟨[],.refl _,rfl⟩
  | @cons x a b _ ih=>
   obtain⟨ix,i1,i2⟩:=ih;refine⟨0::ix.map (· + 1),?_,?_⟩
   .rw[A4,C3];exact (i1.map _).cons 0
   .rw[Au,AF,i2];rfl
  | @swap x y a=>
   refine⟨1::0::(List.range a.length).map (· + 2),?_,?_⟩
   .rw[A4,A4,C3,C3,Au,AF];exact .swap _ _ _
   .rw[Au,Au,AF];refine congrArg _ (congrArg _ ?_);refine BO (by simp) λ i h1 h2=>?_;simp[h1]
  | @trans a b c _ _ Kf Ke=>
   obtain⟨i1,p1,e1⟩:=Kf;obtain⟨i2,p2,e2⟩:=Ke;have hlb:b.length=c.length:=by rw[e2,AA,p2.length_eq];simp
   refine⟨i1.map λ i=>i2.getD i 0,?_,?_⟩
   .refine (p1.map _).trans ?_;have e:(List.range b.length).map (λ i=>i2.getD i 0)=i2:=by
     have Hx:i2.length=b.length:=by rw[p2.length_eq,hlb];simp
     rw[<- Hx];refine BO (by simp) λ i h1 h2=>?_;simp[h2]
    rw[e];exact p2
   .rw[e1,AF];refine CB λ i hi=>?_;have GQ:i<b.length:=by simpa using p1.mem_iff.mp hi
    have Hx:i<i2.length:=by rw[p2.length_eq,<- hlb];simpa using GQ
    show b.getD i _=c.getD (i2.getD i 0) _;rw[e2];simp[Hx]
 have BU:∀ i∈ix,i<us.length:=λ i hi=>by simpa using JH.mem_iff.mp hi
 have FJ:∀ h6:Heap,(∀ b o,s.heap.get? b=some o->h6.get? b=some o)->L4.t_ h6 ((comes X.w l es ep).toList.map (·.2)) (ix.map λ i=>rs.getD i []):=λ h6 k=>by
  rw[Kc];refine Paired.mk (by simp) λ j a b ha hb=>?_;rw[Ay] at ha hb;obtain⟨i,hi,rfl⟩:=AE.mp ha;rw[hi] at hb;cases hb;have Bv:=BU i (Bi hi);obtain⟨Ao,b,hbv,CG⟩:=L4.Paired.at' hr (i:=i) (by lia) V.zo ([]:List Int);obtain⟨u',e1,e2⟩:=hv.get (i:=i) (x:=vs.getD i V.zo) (by simp[show i<vs.length by lia]);rw[hbv] at e2;cases (show u'=Value.ref b from e2);obtain⟨Fp,Hc,⟨o,e,AU,n,hd⟩,_⟩:=I.tuple CG;have eg:us.getD i Value.none=Value.ref b:=by simp[e1]
  refine⟨Ao,b,o,Fp.toArray,n,eg,k _ _ e,AU,hd,by simpa using intsAre_of Hc⟩
 have AU:((comes X.w l es ep).toList.map (·.2)).length=us.length:=by rw[Kc,AA,JH.length_eq];simp
 refine fO (Out:=L4.nH ((comes X.w l es ep).toList.map (·.2)) (ix.map λ i=>rs.getD i [])) hh S (by rw[hlen];have:sizeLine=16777216:=rfl;lia) (λ s6 h2 k=>L4.iV (FJ _ k) (by rw[AU,<- hlen];exact h2) (by rw[AU];lia)) (λ h1=>?_) λ out h' tk p ho hs hp k B9=>?_
 .refine⟨List.range ((comes X.w l es ep).toList.map (·.2)).length,.refl _,?_,?_⟩
  .refine BO (by simp) λ i h1 h2=>?_;simp at h2;simp[h2]
  .rw[Bx,CC];intro i j hi hj A5;rw[AU] at hi hj;simp at hi hj
   lia
 .obtain⟨idx,g1,g2,g3⟩:=ho;obtain⟨e,he⟩:=B9;rw[AU] at g1;have Bw:H p=none:=I.zv.fresh hp;have Dn:∀ i∈idx,i<us.length:=λ i hi=>by simpa using g1.mem_iff.mp hi
  have Ee:ix.length=us.length:=by rw[JH.length_eq];simp
  let jx:=idx.map λ i=>ix.getD i 0
  have hjp:jx.Perm (List.range vs.length):=by
   rw[hvl];refine (g1.map _).trans ?_;have e:(List.range us.length).map (λ i=>ix.getD i 0)=ix:=by
    rw[<- Ee];refine BO (by simp) λ i h1 h2=>?_;simp[h2]
   rw[e];exact JH
  have hjr:(jx.map λ i=>rs.getD i [])=idx.map λ i=>(ix.map λ i=>rs.getD i []).getD i []:=by
   rw[AF];refine CB λ i hi=>?_;have:=Dn i hi;simp[show i<ix.length by lia]
  refine⟨.ref p,_,I.laid (t':=tk) (o:=.lst (jx.map λ i=>vs.getD i .zo)) k hp ?_,rfl,q p jx Bw hjp (by rw[hjr];exact g3)⟩;refine⟨by rw[AA,hjp.length_eq,B5];have:sizeLine=16777216:=rfl;lia,out.toList,e,?_,by simpa using he⟩;rw[g2,Kc];refine Paired.mk (by simp[jx]) λ j a b ha hb=>?_;rw[Ay] at ha hb;obtain⟨i,hi,rfl⟩:=AE.mp hb;simp only[jx,Ay,hi,Option.map_some,Option.some.injEq] at ha;have Bv:=Dn i (Bi hi);have hx:ix.getD i 0<us.length:=by
   have:ix.getD i 0∈ix:=by simp[show i<ix.length by lia]
   exact BU _ this
  obtain⟨u',e1,e2⟩:=hv.get (i:=ix.getD i 0) (x:=vs.getD (ix.getD i 0) V.zo) (by
   have Hw:ix.getD i 0<vs.length:=by lia
   generalize ix.getD i 0=q at Hw;rw[AK,AG Hw];rfl)
  subst ha;have e3:(ix.map λ i=>us.getD i Value.none).getD i Value.none=u':=by
   simp[show i<ix.length by lia] at e1 ⊢;simp[e1]
  rw[e3];exact e2
end
end ST
namespace L5
open PySem PySem.Spec L2 L3
open PyProof.Rows hiding St
noncomputable def wq:List (List Int)->List (List Int)
 | []=>[]
 | r::rs=>if r∈wq rs then wq rs else r::wq rs
theorem o5 {r:List Int}:∀ {rs:List (List Int)},r∈wq rs↔r∈rs
 | []=>.rfl
 | x::rs=>by
  unfold wq;split
  .rename_i h;rw[o5,Ai];exact⟨.inr,λ h'=>h'.elim (λ e=>e▸o5.mp h) id⟩
  .rw[Ai,Ai,o5]
theorem mT:∀ rs:List (List Int),(wq rs).Nodup
 | []=>.nil
 | x::rs=>by
  unfold wq;split
  .exact mT rs
  .rename_i h;exact A7.mpr ⟨h,mT rs⟩
theorem jQ:∀ rs:List (List Int),(wq rs).length<=rs.length
 | []=>Af _
 | x::rs=>by
  unfold wq;have:=jQ rs;split <;> simp only[A4] <;> lia
def uw:xn:=λ ds S Q=>match ds with
 | [.tup _]=>False
 | [d]=>∃ rows:List (List Int),zO d S=some (rows.map xM)/\rows.length<64/\(∀ r∈rows,r≠[])/\∀ l,S l=none->Q (.ref l) (ups S l (.lst ((L4.yT (wq rows)).map xM)))
 | _=>False
noncomputable def mE:List T->Option T
 | [.lst ts]=>(vk ts).bind λ rs=>if rs.length<64/\∀ r∈rs,r≠[] then some (.lst ((L4.yT (wq rs)).map zx)) else none
 | _=>none
theorem O2:vi zC mE uw:=λ S Z ys z ds Q hz hv e hq=>by
 unfold mE at e;split at e
 .obtain⟨d,rfl,h1⟩:=wV hv;obtain⟨rs,e1,e2⟩:=Aj.mp e;split at e2
  .rename_i hc;cases e2;cases jw e1;obtain⟨es,h2,h3⟩:=h1.seq rfl;cases qw.mp h3;have key:∃ rows:List (List Int),zO d S=some (rows.map xM)/\rows.length<64/\(∀ r∈rows,r≠[])/\∀ l,S l=none->Q (.ref l) (ups S l (.lst ((L4.yT (wq rows)).map xM))):=
    ⟨rs,h2,hc.1,hc.2,λ l hl=>hq _ _ (.new hl _) (tI hz hl (qw.mpr rfl))⟩
   obtain⟨_,q | ⟨a,q,_⟩,_⟩:=h1.lst
   .subst q;exact key
   .subst q;exact key
  .cases e2
 .cases e
section
variable {K:Ab}{e:Expr}{p:Pos}
theorem uw.mo:vh uw:=λ ds S Q Q' hq h=>by
 unfold uw at h ⊢;split at h
 .exact h.elim
 .obtain⟨rows,h1,h2,h3,h4⟩:=h;exact⟨rows,h1,h2,h3,λ l hl=>hq _ _ (h4 l hl)⟩
 .exact h.elim
theorem zl.pick {H:Hp}{ys vs:List V}{rows rs:List (List Int)}(h:zl K H (rows.map xM) ys) (P:ST.qe ys rows vs rs):zl K H (rs.map xM) vs:=by
 have key:∀ (vs:List V) (rs:List (List Int)),vs.length=rs.length->(∀ (i:Nat) v r,vs[i]?=some v->rs[i]?=some r->∃ (j:Nat),ys[j]?=some v/\rows[j]?=some r)->zl K H (rs.map xM) vs:=by
  intro vs
  induction vs with
  | nil=>intro rs hl _;cases rs with
   | nil=>exact .nil
   | cons _ _=>simp at hl
  | cons v vs ih=>intro rs hl hp;cases rs with
   | nil=>simp at hl
   | cons r rs=>
    refine .cons ?_ (ih rs (by simpa using hl) λ i v r hv hr=>hp (i+1) v r (by simpa using hv) (by simpa using hr));obtain⟨j,j1,j2⟩:=hp 0 v r rfl rfl;obtain⟨x,e1,e2⟩:=h.get (i:=j) (d:=xM r) (by rw[Ay,j2];rfl);rw[j1] at e1;cases e1;exact e2
 exact key vs rs P.len P.sub
theorem qe.mem {ys vs:List V}{rows rs:List (List Int)}(P:ST.qe ys rows vs rs) {r:List Int}:r∈rs↔r∈rows:=by
 refine⟨λ h=>?_,P.all r⟩;obtain⟨i,hi⟩:=Dv.mp h;have hl:i<vs.length:=by rw[P.len];exact (AL.mp hi).1
 obtain⟨j,_,j2⟩:=P.sub i _ r (AG hl) hi;exact Bi j2
theorem uw.fits {w:World}:uf K uw (λ xs H Q=>∃ p ys,∃ rows:List (List Int),xs=[.ref p]/\zL K H p ys/\ST.kE K H ys rows/\rows.length<64/\
  ∀ (l:Addr) (us:Ae) (vs:List V) (rs:List (List Int)),H l=none->Vals vs us->ST.qe ys rows vs rs->
   ∃ l' HL JA,∃ J6:List (List Int),[V.ref l]=[.ref l']/\(upd H l (.ext (ST.yB w l us))) l'=some (.ext (ST.yB w l' HL))/\Vals JA HL/\ST.kE K (upd H l (.ext (ST.yB w l us))) JA J6/\J6.length<64/\
    ∀ (p:Addr) (idx:List Nat),(upd H l (.ext (ST.yB w l us))) p=none->idx.Perm (List.range JA.length)->(idx.map λ i=>J6.getD i []).Pairwise (λ a b=>HT.lexLt b a=false)->Q (.ref p) (upd (upd H l (.ext (ST.yB w l us))) p (.lst (idx.map λ i=>JA.getD i .zo)))):=λ xs ds H S Q h0 h2 h=>by
 unfold uw at h;split at h
 .exact h.elim
 .rename_i d hn;obtain⟨x,hx,h1⟩:=h0.one;subst hx;obtain⟨rows,e,GB,Ao,h⟩:=h;obtain⟨a,ys,rfl,g1,g2⟩:=sJ h1 h2 e (λ ts z=>hn ts z);refine⟨a,ys,rows,rfl,g1,pZ g2 Ao,GB,λ l us vs rs hf hv P=>?_⟩;have g3:=zl.pick g2 P;have x1:Ext H (upd H l (.ext (ST.yB w l us))):=.new hf _;have Dg:rs.Perm (wq rows):=(D4 P.nd (mT rows)).mpr λ r=>by rw[qe.mem P,o5]
  refine⟨l,us,vs,rs,rfl,yz,hv,pZ (zl.ext x1 _ g3) λ r hr=>Ao r ((qe.mem P).mp hr),by rw[Dg.length_eq];have:=jQ rows;lia,λ p idx hp hi hs=>?_⟩;rw[P.len] at hi;have heq:=L4.jt ((dY hi).trans Dg) hs;have Aq:p≠l:=λ z=>by subst z;rw[yz] at hp;cases hp
  have Ko:H p=none:=by rw[yj Aq] at hp;exact hp
  have x2:Ext (upd H l (.ext (ST.yB w l us))) (upd (upd H l (.ext (ST.yB w l us))) p (.lst (idx.map λ i=>vs.getD i .zo))):=.new hp _;have r1:zJ K (upd H l (.ext (ST.yB w l us))) S:=h2.new hf;refine h p (h2.none Ko) _ _ (by simp only[zg]) (x1.trans x2) (r1.ups x2 ⟨_,yz,?_⟩);rw[<- heq];exact zl.ext (x1.trans x2) _ (zl.perm g3 λ i h=>by simpa using hi.mem_iff.mp h)
 .exact h.elim
end
end L5
namespace ST
open PySem PySem.SetTable PyProof.Rows
theorem bg {t:SetTable}{hs:List Int}(T:Tab t hs) (h:Int):∀ (f k K:Nat),k<=K->K<k+f->(way t.mask h K).j∉t.place.toList->(∀ m<K,(way t.mask h m).j∈t.place.toList)->probe.go t (λ _=>h+1) h f (way t.mask h k)=some (.empty (way t.mask h K).j none)
 | 0,k,K,h1,h2,_,_=>by lia
 | f+1,k,K,h1,h2,h3,h4=>by
  by_cases e:k=K
  .subst e;unfold probe.go;rw[T.empty h3,jb]
  .obtain⟨i,g,p1,_⟩:=T.at (h4 k (by lia));have ih:=bg T h f (k+1) K (by lia) (by lia) h3 h4
   conv=>lhs;unfold probe.go
   rw[T.live p1];dsimp only;rw[if_neg (by intro q;have:=eq_of_beq q;lia),gq];exact ih
theorem OT {t:SetTable}{hs:List Int}(T:Tab t hs) (hl:hs.length<=t.mask) (h:Int):∃ j,t.freeSlot h=some (j,false)/\gB t h j:=by
 obtain⟨K,k1,k2,k3⟩:=T.first hl h;refine⟨(way t.mask h K).j,?_,⟨k2,K,rfl,k3⟩⟩;have g:=bg T h (10*turns t.mask) 0 K (AV _) (by unfold turns;lia) k2 k3;unfold SetTable.freeSlot;have e:t.probe (λ _=>h+1) h (t.probeStart h)=some (.empty (way t.mask h K).j none):=g;rw[e];rfl
structure vG (prog:Program) (w:World) (h:Heap) (a:Addr) (xs:List (Int×Tok)) (led:Bool):Prop where
 ex:∃ es ep t,h.get? a=some { cls:=.type "set",dict:=none,data:=.set es ep t }/\es.toList=xs.map (λ e=>((intKind prog w).hash e.1,Value.int e.1 e.2))/\Tab t (xs.map λ e=>(intKind prog w).hash e.1)/\t.led=led/\t.plain=true/\xs.length*5<t.mask*3
 nd:(xs.map (·.1)).Nodup
section
variable {prog:Program}{w:World}{A:Around}{E:Ad}{s:Shared}
theorem fits_of {es:Array (Int×Value)}{t:SetTable}{hs:List Int}{n:Nat}(h1:es.size=n) (T:Tab t hs) (h2:hs.length=n) (h3:n<=t.mask):t.fits es.size=true:=by
 have l:=T.len;unfold SetTable.fits SetTable.fill;rw[T.sY,h1,l,h2];simp
 lia
theorem oD {n m:Int}{t:Tok}:(intKind prog w).is n (.int m t)=true↔n=m:=by
 constructor
 .intro h;obtain⟨t',e⟩:=Value.isInt_shape (show Value.isInt n (.int m t)=true from h);cases e;rfl
 .rintro rfl;exact intKind_is _ _ _ _
theorem Nt {es:Array (Int×Value)}{xs:List (Int×Tok)}(h:es.toList=xs.map (λ e=>((intKind prog w).hash e.1,Value.int e.1 e.2))):ElemsOf (intKind prog w) es.toList:=λ e he=>by
 rw[h] at he;obtain⟨x,_,rfl⟩:=Ah.mp he;exact⟨⟨x.1,oD.mpr rfl,rfl⟩,rfl⟩
theorem Wn {es:Array (Int×Value)}{t:SetTable}{xs:List (Int×Tok)}{M wanted:Nat}(he:es.toList=xs.map (λ e=>((intKind prog w).hash e.1,Value.int e.1 e.2))) (hM:vg M) (hw:sizeAbove wanted=M+1) (AR:xs.length*5<M*3):
  ∃ F6 t',∃ Fg:List (Int×Tok),relayAll t es wanted=(F6,t',false)/\F6.toList=Fg.map (λ e=>((intKind prog w).hash e.1,Value.int e.1 e.2))/\Fg.Perm xs/\Tab t' (Fg.map λ e=>(intKind prog w).hash e.1)/\t'.mask=M/\t'.led=t.led/\t'.plain=t.plain/\F6.size=es.size:=by
 have hlen:es.size=xs.length:=by have:=congrArg List.length he;simpa using this
 have ED:(es.map (·.1)).toList=xs.map λ e=>(intKind prog w).hash e.1:=by rw[Array.toList_map,he,AF];rfl
 have hsz:(es.map (·.1)).size=xs.length:=by rw[C5,hlen]
 obtain⟨t',order,h1,h2,h3,h4,h5,h6,h7⟩:=cy hM t.finger (t.movedTo M) t.led t.plain (es.map (·.1)) (by rw[hsz];lia);rw[hsz] at h6;have An:∀ k∈order.toList,k<xs.length:=λ k hk=>by simpa using h6.mem_iff.mp hk
 have hr:t.relaid (es.map (·.1)) wanted=some (t',order):=by
  unfold SetTable.relaid;rw[hw,Nat.add_sub_cancel];exact h1
 have BV:(order.filterMap (es[·]?)).toList=(order.toList.filterMap λ k=>xs[k]?).map λ e=>((intKind prog w).hash e.1,Value.int e.1 e.2):=by
  rw[Array.toList_filterMap,List.map_filterMap];congr 1;funext k;rw[<- BM,he,Ay]
 have E6:(order.toList.filterMap λ k=>xs[k]?).Perm xs:=(h6.filterMap _).trans (by rw[List.filterMap_getElem?_range_length]);have BR:(order.filterMap (es[·]?)).size=es.size:=by
  rw[<- Bs,BV,AA,E6.length_eq,hlen]
 have hT:Tab t' ((order.toList.filterMap λ k=>xs[k]?).map λ e=>(intKind prog w).hash e.1):=by
  rw[<- jH xs (λ e=>(intKind prog w).hash e.1) 0 order.toList An,<- ED];exact h7
 refine⟨_,t',_,?_,BV,E6,hT,h2,h4,h5,BR⟩;have ya:coversAll order es.size=true:=by
  unfold coversAll;rw[List.isPerm_iff,hlen];exact h6
 have fit:t'.fits (order.filterMap (es[·]?)).size=true:=fits_of (n:=xs.length) (by rw[BR,hlen]) hT (by rw[AA,E6.length_eq]) (by rw[h2];lia);unfold relayAll;rw[hr];dsimp only;rw[ya,fit];rfl
theorem add_int {a:Addr}{xs:List (Int×Tok)}{n:Int}{tk:Tok}{led:Bool}{Q:Bool->Shared->Prop}(S:vG prog w s.heap a xs led) (hn:xs.length<70)
  (h:∀ h' Fg r,Heap.SameBut a s.heap h'->vG prog w h' a Fg led->(n∈xs.map (·.1)/\Fg=xs\/n∉xs.map (·.1)/\Fg.Perm (xs++[(n,tk)]))->Q r { s with heap:=h' }):
  wpAny (model prog w) A (setAddHashed a (.int n tk) ((intKind prog w).hash n)) Q E s:=by
 have S0:=S;obtain⟨⟨es,ep,t,ho,he,T,BD,Aq,AR⟩,CW⟩:=S;have hlen:es.size=xs.length:=by have:=congrArg List.length he;simpa using this
 have hm7:7<=t.mask/\t.mask<=127:=by rcases T.mask with e | e | e <;> lia
 have fit:t.fits es.size=true:=fits_of (n:=xs.length) hlen T (by simp) (by lia);have hel:=Nt (prog:=prog) (w:=w) he;unfold setAddHashed setAddHashedIn;refine K0 (JY (K5 ho rfl fit ?_));dsimp only;have bs:byScan (.int n tk) es=true:=by
  have h1:decide (es.size<scanBound)=true:=K4 (by unfold scanBound;lia);have h2:es.all (·.2.scannable)=true:=by
   rw[Array.all_eq_true_iff_forall_mem];intro e hm;exact (hel e (by simpa using hm)).2
  unfold byScan;rw[h1,h2];rfl
 rw[if_pos bs];refine JY ?_;unfold setAddByScan;refine JY (wpAny_rule (JY (wpAny_setScan_of (k:=n) (oD.mpr rfl) ho rfl fit hel ?_)));have HW:(es.toList.findIdx? (λ e=>(intKind prog w).is n e.2)).isSome=true↔n∈xs.map (·.1):=by
  rw[he,List.findIdx?_isSome,A9];constructor
  .rintro⟨e,hm,q⟩;obtain⟨x,hx,rfl⟩:=Ah.mp hm;exact Ah.mpr ⟨x,hx,(oD.mp q).symm⟩
  .intro hm;obtain⟨x,hx,rfl⟩:=Ah.mp hm;exact⟨_,Ah.mpr ⟨x,hx,rfl⟩,oD.mpr rfl⟩
 cases hc:es.toList.findIdx? (λ e=>(intKind prog w).is n e.2) with
 | some j=>
  dsimp only;have hm:=HW.mp (by rw[hc];rfl);refine Ac ?_;dsimp only;exact Ac (h s.heap xs false ⟨rfl,λ _ _=>rfl⟩ S0 (.inl ⟨hm,rfl⟩))
 | none=>
  dsimp only;have hm:n∉xs.map (·.1):=λ q=>by have:=HW.mpr q;rw[hc] at this;cases this
  obtain⟨j,fs,F⟩:=OT T (by rw[AA];lia) ((intKind prog w).hash n);obtain⟨p1,p2,p3⟩:=T.put F;rw[AA] at p1;have CI:(t.put j).1.plain=true:=by rw[p2];exact Aq
  have Cg:(t.put j).1.mask=t.mask:=by rw[p2]
  have An:(t.put j).1.led=led:=by rw[p2];exact BD
  generalize hT:(t.put j)=P at *;obtain⟨t1,p⟩:=P;dsimp only at *
  let Ga:=xs.take p++(n,tk)::xs.drop p
  have E6:Ga.Perm (xs++[(n,tk)]):=by
   have e:xs.take p++xs.drop p=xs:=Dy p xs;have:Ga.Perm ((n,tk)::(xs.take p++xs.drop p)):=List.perm_middle;rw[e] at this;exact this.trans (List.perm_append_singleton _ _).symm
  have GL:Ga.length=xs.length+1:=by rw[E6.length_eq];simp
  have Ha:(insertAt es p ((intKind prog w).hash n,Value.int n tk)).toList=Ga.map λ e=>((intKind prog w).hash e.1,Value.int e.1 e.2):=by
   rw[toList_insertAt,he];simp[Ga,Du,CO]
  have Hl:(insertAt es p ((intKind prog w).hash n,Value.int n tk)).size=xs.length+1:=by rw[<- Bs,Ha,AA,GL]
  have T1:Tab t1 (Ga.map λ e=>(intKind prog w).hash e.1):=by
   have:Ga.map (λ e=>(intKind prog w).hash e.1)=(xs.map λ e=>(intKind prog w).hash e.1).take p++(intKind prog w).hash n::(xs.map λ e=>(intKind prog w).hash e.1).drop p:=by simp[Ga,Du,CO]
   rw[this];exact p3
  have KL:t1.fits (insertAt es p ((intKind prog w).hash n,Value.int n tk)).size=true:=fits_of (n:=xs.length+1) Hl T1 (by rw[AA,GL]) (by rw[Cg];lia);have Dk:layNew t es ((intKind prog w).hash n) (.int n tk)=(insertAt es p ((intKind prog w).hash n,Value.int n tk),t1,false,false):=by
   unfold layNew;rw[fs];dsimp only;rw[hT];dsimp only;unfold SetTable.orStandIn;rw[KL];rfl
  have Bz:(insertAt es p ((intKind prog w).hash n,Value.int n tk)).size<=sizeLine:=by
   rw[Hl];have:sizeLine=16777216:=rfl
   lia
  have Hn:(Ga.map (·.1)).Nodup:=by
   refine (E6.map _).nodup_iff.mpr ?_;rw[Bp,CZ];refine⟨CW,by simp,λ x hx y hy=>?_⟩;simp at hy;subst hy;exact λ e=>hm (e▸hx)
  have IG:=mP (F6:=insertAt es p ((intKind prog w).hash n,Value.int n tk)) (t':=t1) ho;have sb:=Heap.SameBut.update s.heap a (Obj.putSet (insertAt es p ((intKind prog w).hash n,Value.int n tk)) t1);have GA:t1.fill=xs.length+1:=by
   have l:=T1.len;rw[AA,GL] at l;unfold SetTable.fill;rw[T1.sY,l];simp
  rw[Dk];dsimp only;refine JY (m:=pure ()) (Ac ?_);rw[CI];simp only[if_true];refine JY (m:=pure true) (Ac ?_);simp only[if_true];refine JY (wpAny_storeSet_of ho rfl ?_ Bz);by_cases hf:t1.tooFull=true
  .rw[hf];simp only[CU,DE,if_true];have Gn:t.mask*3<=(xs.length+1)*5:=by
    have:=hf;unfold SetTable.tooFull at this;rw[GA,Cg] at this;simpa using this
   obtain⟨M',g1,g2,g3⟩:=ea xs.length t.mask T.mask AR Gn hn;obtain⟨es2,t2,HK,r1,r2,r3,r4,r5,r6,r7,r8⟩:=Wn (prog:=prog) (w:=w) (t:=t1) Ha g1 (wanted:=grown (insertAt es p ((intKind prog w).hash n,Value.int n tk)).size) (by rw[Hl];exact g2) (by rw[GL];exact g3);rw[r1];dsimp only;refine JY (m:=pure ()) (Ac (JY (wpAny_storeSet_of IG rfl ?_ (by rw[r8];exact Bz))));refine Ac ?_;dsimp only;refine Ac (h _ HK true (sb.trans (Heap.SameBut.update _ a _)) ⟨⟨es2,ep+1+1,t2,mP IG,r2,r4,by rw[r6];exact An,by rw[r7];exact CI,by rw[r3.length_eq,GL,r5];exact g3⟩,(r3.map _).nodup_iff.mpr Hn⟩ (.inr ⟨hm,r3.trans E6⟩))
  .have G_:t1.tooFull=false:=by simpa using hf
   rw[G_];simp only[CU,CQ,Be,if_false];have Gn:(xs.length+1)*5<t.mask*3:=by
    have:=G_;unfold SetTable.tooFull at this;rw[GA,Cg] at this;simpa using this
   refine Ac ?_;dsimp only;exact Ac (h _ Ga true sb ⟨⟨_,ep+1,t1,IG,Ha,T1,An,CI,by rw[GL,Cg];exact Gn⟩,Hn⟩ (.inr ⟨hm,E6⟩))
end
structure tX (its:Ar) (ns:List Int) (i:Nat) (xs:List (Int×Tok)):Prop where
 own:∀ e∈xs,∃ j,j<i/\ns[j]?=some e.1
 all:∀ (j:Nat) r,j<i->ns[j]?=some r->r∈xs.map (·.1)
theorem jR:∀ (l m:List Int),l.Nodup->(∀ x∈l,x∈m)->l.length<=m.length
 | [],m,_,_=>AV _
 | x::l,m,hn,hs=>by
  have h1:=A7.mp hn;have hx:=hs x Am;have:=jR l (m.erase x) h1.2 λ z hz=>(DC (λ e:z=x=>h1.1 (by rw[<- e];exact hz))).mpr (hs z (Av _ hz));rw[DB hx] at this;have:=C1 hx;simp only[A4];lia
theorem tX.len {its:Ar}{ns:List Int}{i:Nat}{xs:List (Int×Tok)}(U:tX its ns i xs) (nd:(xs.map (·.1)).Nodup):xs.length<=i:=by
 have:=jR (xs.map (·.1)) ((List.range i).map λ j=>ns.getD j 0) nd λ x hx=>by
  obtain⟨e,he,rfl⟩:=Ah.mp hx;obtain⟨j,h1,h3⟩:=U.own e he;exact Ah.mpr ⟨j,AB.mpr h1,by rw[AK,h3];rfl⟩
 simpa using this
theorem tX.step {its:Ar}{ns:List Int}{i:Nat}{xs Fg:List (Int×Tok)}{n:Int}{t:Tok}(U:tX its ns i xs) (hr:ns[i]?=some n)
  (h:n∈xs.map (·.1)/\Fg=xs\/n∉xs.map (·.1)/\Fg.Perm (xs++[(n,t)])):tX its ns (i+1) Fg:=by
 have eqi:∀ j:Nat,j<i+1->¬ j<i->j=i:=λ j a b=>by lia
 rcases h with ⟨hm,rfl⟩ | ⟨_,hp⟩
 .refine⟨λ e he=>?_,λ j r hj Bj=>?_⟩
  .obtain⟨j,h1,h2⟩:=U.own e he;exact⟨j,BI h1,h2⟩
  .by_cases q:j<i
   .exact U.all j r q Bj
   .rw[eqi j hj q,hr] at Bj;cases Bj;exact hm
 .refine⟨λ e he=>?_,λ j r hj Bj=>?_⟩
  .rcases A2.mp (hp.mem_iff.mp he) with q | q
   .obtain⟨j,h1,h2⟩:=U.own e q;exact⟨j,BI h1,h2⟩
   .cases AZ.mp q;exact⟨i,Cu i,hr⟩
  .rw[(hp.map (·.1)).mem_iff,Bp];by_cases q:j<i
   .exact CD _ (U.all j r q Bj)
   .rw[eqi j hj q,hr] at Bj;cases Bj;exact A3 _ Am
def Nums (its:Ar) (ns:List Int):Prop:=∀ (i:Nat) v,its[i]?=some v->∃ n t,v=.int n t/\ns[i]?=some n
section
variable {prog:Program}{w:World}{A:Around}{R:Result->Shared->Prop}{I:Addr}{fp wr:List Addr}{G:Array GenState->Array GenState->Prop}{n:Nat}{P:Nat->Value->Prop}{St:Nat->Shared->Prop}
theorem vG.keep {h h':Heap}{a:Addr}{xs:List (Int×Tok)}{led:Bool}(S:vG prog w h a xs led) (k:∀ o,h.get? a=some o->h'.get? a=some o):vG prog w h' a xs led:=
 let ⟨⟨es,ep,t,ho,r⟩,nd⟩:=S;⟨⟨es,ep,t,k _ ho,r⟩,nd⟩
theorem Pd (W:WalksS prog w A.in1 I fp wr G n (λ i v=>P i v) St) (Sa:Addr) (Jp:Sa∉fp) {its:Ar}{ns:List Int}(hP:∀ i v,P i v->its[i]?=some v) (hn:n<70) (led:Bool) (hN:Nums its ns):
  ∀ (k i:Nat) (s:Shared) (xs:List (Int×Tok)),n-i=k->i<=n->St i s->vG prog w s.heap Sa xs led->tX its ns i xs->
   (∀ s' Fg,Moved (Sa::wr) G s s'->vG prog w s'.heap Sa Fg led->tX its ns n Fg->R (.ok (.ret .none)) s')->
   codeAny (model prog w) A (.builtin "set.update.loop" ⟨[.ref Sa,.ref I],[]⟩) R s:=by
 have Jo:Sa∉wr:=λ z=>Jp (W.sub _ z);have more:∀ b∈wr,b∈Sa::wr:=λ b hb=>Av _ hb;intro k
 induction k with
 | zero=>
  intro i s xs hk hi AQ hS hU hR;have e:i=n:=by lia
  subst e;refine codeAny_builtin F.entry_set_update_loop ?_;rw[Around.under_plainId F.plain_set_update_loop _];show wpAny _ A.in1 (pyNext (.ref I) >>= _) _ _ s;exact JY (W.done s _ _ AQ λ s' hm=>Ac (hR s' xs (hm.mono more) (hS.keep λ o e=>hm.heap _ o Jo e) hU))
 | succ k ih=>
  intro i s xs hk hi AQ hS hU hR;have An:i<n:=by lia
  refine codeAny_builtin F.entry_set_update_loop ?_;rw[Around.under_plainId F.plain_set_update_loop _];show wpAny _ A.in1 (pyNext (.ref I) >>= _) _ _ s;refine JY (W.item i s _ _ An AQ λ v s1 Kw Io hm=>?_);obtain⟨m,t,rfl,hr⟩:=hN i v (hP i v Kw);have S1:vG prog w s1.heap Sa xs led:=hS.keep λ o e=>hm.heap _ o Jo e;have hl:xs.length<70:=by have:=hU.len hS.nd;lia
  show wpAny _ A.in1 (holding [Value.int m t] (setAdd Sa (.int m t)) >>= _) _ _ s1;refine JY (K0 ?_);unfold setAdd;refine K0 (JY ((intKind prog w).pyHash (A:=A.in1) (k:=m) (oD.mpr rfl) ?_));refine add_int (s:={ s1 with toks:=s1.toks+1 }) (A:=A.in1) S1 hl λ h' Fg rr sb S' hx=>?_;have fr:=W.frame (i+1) s1 h' (s1.toks+1) Io (Cp _ _) λ c hc o e=>(sb.2 c (λ z:c=Sa=>Jp (z▸hc))).trans e;refine Ac ⟨plainId_quiet F.plain_set_update_loop _,ih (i+1) _ Fg (by lia) An fr S' (hU.step hr hx) λ s2 HK HG S2 U2=>?_⟩;refine hR s2 HK (Moved.trans W.gtrans ((hm.mono more).then_heap (Cp _ _) λ c o hc e=>?_) HG) S2 U2;exact (sb.2 c (λ z=>hc (z▸Am))).trans e
end
section
variable {prog:Program}{w:World}{A:Around}{E:Ad}{s:Shared}
theorem Wa {h:Heap}{a:Addr}(ho:h.get? a=some (yH w)):vG prog w h a [] (vw w):=
 ⟨⟨#[],0,_,ho,rfl,⟨.inl rfl,rfl,rfl,.nil,λ j hj=>(by cases hj),λ i g j hg=>(by cases hg)⟩,rfl,rfl,by show 0*5<7*3;lia⟩,.nil⟩
set_option maxHeartbeats 6400000 in
theorem Ma {l:Addr}{its:Ar}{ns:List Int}{Q:Ad}(hh:A.handled=none) (hl:s.heap.IsList l its) (hT:Nums its ns) (hn:its.size<70)
  (h:∀ (h':Heap) (tk:Nat) xs,vG prog w h' s.heap.objs.size xs (vw w)->tX its ns its.size xs->(∀ b o,b<s.heap.objs.size->s.heap.get? b=some o->h'.get? b=some o)->Q (.ref s.heap.objs.size) { s with heap:=h',toks:=tk }):
  wpAny (model prog w) A (call (.type "set") [.ref l]) Q E s:=by
 obtain⟨c,tl,Ew⟩:=F.called_set.mro;have made:=F.called_set.made;have JZ:=F.called_set.sub;refine wpAny_call (codeAny_of_tree ?_);show wpAny _ _ (callAny (.type "set") _) _ _ _;refine Ac ⟨Code.quiet_builtin _ (AD),codeAny_builtin F.entry_type_call ?_⟩;rw[Around.under_plain (weight_type_call_type "set" [.ref l] []) rfl];have nt:=F.called_set.notType;have cc:=F.called_set.canCreate;have tc:=F.typeCall_set_1 (.ref l)
 repeat (any_goals (first | assumption | wp_step))
 refine codeAny_mono (ao (.ref l) (E:=E) (Q:=λ obj s₁=>obj=.ref s.heap.objs.size/\s₁={ s with heap:=s.heap.push (yH w) }) ⟨rfl,rfl⟩) λ r s₁ hr=>?_;cases r with
 | error e=>exact hr
 | ok fl=>
  cases fl with
  | ret obj=>
   obtain⟨rfl,rfl⟩:=hr;have hS:(s.heap.push (yH w)).get? s.heap.objs.size=some (yH w):=AJ _ rfl;have Ku:Shared.TypeIs { s with heap:=s.heap.push (yH w) } (.ref s.heap.objs.size) "set":=⟨_,hS,rfl⟩
   have li:=F.called_set.init.lookup;have bi:=F.called_set.init.bind (.ref s.heap.objs.size)
   repeat (any_goals (first | assumption | wp_step))
   let s1:Shared:={ s with heap:=s.heap.push (yH w) }
   refine codeAny_mono (codeAny_call_builtin (R:=wants (λ r s₂=>r=.none/\∃ h' tk xs,s₂={ s with heap:=h',toks:=tk }/\vG prog w h' s.heap.objs.size xs (vw w)/\tX its ns its.size xs/\
     ∀ b o,b<s.heap.objs.size->s.heap.get? b=some o->h'.get? b=some o) E) F.called_set.init.plain F.entry_set_init (check_set_init_1 Ku ?_)) λ r₂ s₂ Ip=>?_
   .obtain⟨⟨J9,Hj,IV,GU⟩,Dh,AU,nl,Cy⟩:=id hl;simp only at AU Cy;subst AU Cy;have Iu:(s.heap.push (yH w)).get? l=some { cls:=.type "list",dict:=Hj,data:=.seq its nl,slots:=GU }:=KY _ Dh;have sls:=F.sub_list_set;have slf:=F.sub_list_frozenset;have nd:(Value.type "list" == Value.type "dict")=false:=by decide
    have GL:(s.heap.push (yH w)).IsList l its:=⟨_,Iu,rfl,nl,rfl⟩
    unfold Builtin.«set.__init__» noKeywords Builtin.Frozenset.updateFrom;generalize Kx:pyIter=PI;unfold yH at *
    wp_walk
    subst Kx;refine Lp GL (JY (wpAny_runValue ?_));have Jk:l<s.heap.objs.size:=Ap Dh;have hsz:(s.heap.push (yH w)).objs.size=s.heap.objs.size+1:=Heap.size_push _ _;have Iw:l≠(s.heap.push (yH w)).objs.size:=by rw[hsz];exact Aw (BI Jk)
    have Ie:s.heap.objs.size≠(s.heap.push (yH w)).objs.size:=by rw[hsz];exact Aw (Cu _)
    have low:∀ b:Addr,b<s.heap.objs.size->b≠(s.heap.push (yH w)).objs.size:=λ b hb=>by rw[hsz];exact Aw (BI hb)
    refine Pd (A:=A.in1.in1) (P:=λ i v=>its[i]?=some v) ((Walks.list (A:=A.in1.in1.in1) (by simp[hh]) _ l Iw its).toS) s.heap.objs.size ?_ (its:=its) (ns:=ns) (λ _ _ q=>q) hn (vw w) hT its.size 0 _ [] (by lia) (AV _)
     ⟨⟨_,AJ _ rfl,rfl,rfl⟩,GL.push _⟩ (Wa (w:=w) (KY _ hS)) ⟨λ e he=>(by cases he),λ j r hj=>(by lia)⟩ ?_
    .intro hm;rcases Ai.mp hm with q | q
     .exact Ie q
     .exact B2 Jk (AZ.mp q)
    .intro s' Fg hm S' U';obtain⟨h',g',d',IP,Ij⟩:=s';obtain rfl:g'=s.gens:=hm.gens;obtain rfl:d'=s.drawn:=hm.drawn;obtain rfl:Ij=s.os:=hm.os;refine Ac (Ac ⟨rfl,h',IP,Fg,rfl,S',U',λ b o hb e=>?_⟩);refine hm.heap b o (λ q=>?_) (KY _ (KY _ e));rcases Ai.mp q with q | q
     .exact Aw hb q
     .exact low b hb (AZ.mp q)
   .cases r₂ with
    | error e=>exact Ip
    | ok KJ=>
     cases KJ with
     | ret r=>
      obtain⟨rfl,h',tk,xs,rfl,g1,g2,g3⟩:=Ip
      repeat (any_goals (first | assumption | wp_step))
      exact h h' tk xs g1 g2 g3
     | _=>exact Ip.elim
  | _=>exact hr.elim
end
end ST
namespace L4
open PySem PyProof.Rows
theorem NG {prog:Program}{w:World}{A:Around}{E:Ad}{s:Shared}{vs:Ae}{ns:List Int}(hI:IntsAre vs ns) (h2:2<=vs.length) (GB:vs.length<64):
  Core prog w A E vs (λ out=>∃ Gy,IntsAre out.toList Gy/\Gy.Perm ns/\Gy.Pairwise (·<=·)) s:=by
 obtain⟨v1,v2,ET,rfl⟩:∃ v1 v2 ET,vs=v1::v2::ET:=by
  match vs,h2 with
  | v1::v2::ET,_=>exact⟨v1,v2,ET,rfl⟩
 unfold Core;rw[keyKind_ints hI];refine Ac ⟨rfl,?_⟩;refine K3 (wpS_sortRuns (a₀:=pairsOf (v1::v2::ET)) (st:=SortSt.mk' oneType' ((v1::v2::ET).toArray.zip (v1::v2::ET).toArray) #[] 7 none)
   (Q:=λ _ GJ=>(arrOf GJ).Perm (pairsOf (v1::v2::ET))/\failedOf GJ=none/\SortedTo (arrOf GJ) (pairsOf (v1::v2::ET)).size)
   hI.intKeys ⟨Array.Perm.refl _,rfl,rfl,rfl⟩ (by rw[pairsOf_size];simp) (by rw[pairsOf_size];exact GB) λ GJ a1 a2 a3=>⟨a1,a2,a3⟩) ?_ λ _ _ e=>e
 rintro⟨⟨⟩,GJ⟩ s' ⟨rfl,hp,hf,hs⟩;exact⟨rfl,hf,sorted_out hI hp hs,by rw[hp.size_eq,pairsOf_size]⟩
end L4
namespace L5
open PySem PySem.Spec L2 L3
open PyProof.Rows hiding St
structure Bq (mg:AI):Prop where
 set:mg "set"=none
 zip:mg "zip"=none
 enumerate:mg "enumerate"=none
section
variable {X:Cx}{K:Ab}{a b c e:Expr}{ta tb tc:zr}{pos:Pos}{fa fb fc:Ev->Option T}
def tW (f g:y6) (ta tb tc:zr):zr:=fun L S Q=>ta L S λ x S1=>tb L S1 λ y S2=>f x y S2 λ z S3=>match z with
 | .bl k=>if k=true then tc L S3 λ w S4=>g y w S4 Q else Q (.bl false) S3
 | _=>False
theorem tW.mo {f g:y6}(hf:xh f) (hg:xh g) (ha:ye ta) (hb:ye tb) (hc:ye tc):ye (tW f g ta tb tc):=fun L S Q Q' hq h=>
 ha L S _ _ (λ x S1 h=>hb L S1 _ _ (λ y S2 h=>hf x y S2 _ _ (λ z S3 h=>by
  cases z <;> first
   | exact wL (hc L S3 _ _ λ w S4 h=>hg y w S4 _ _ hq h) (hq _ _) h
   | exact h) h) h) h
theorem fE {f g:y6}{r r':R2}(hr:yS K f r) (G7:yS K g r') (hf:xh f) (hg:xh g) (ha:ye ta) (hb:ye tb) (hc:ye tc) {Y:St}{H:Hp}{Q:VK}(h:zK K (tW f g ta tb tc) Y H Q):jo r r' (zK K ta) (zK K tb) (zK K tc) Y H Q:=by
 obtain⟨L,S,r1,r2,h⟩:=h;refine zK.go ha r1 r2 h λ x S1 v H1 h1 q1 e1 p1=>?_;refine zK.go hb (r1.ext e1) p1 h1 λ y S2 w H2 h2 q2 e2 p2=>?_;refine hr v w x y H2 S2 _ (zg.ext e2 x q1) q2 p2 (hf x y S2 _ _ (λ d S3 z v3 H3 q3 e3 p3=>?_) h2);cases d with
 | bl k=>
  simp only[zg] at q3;refine⟨k,q3,wL (λ z=>?_) (λ z=>?_) z⟩
  .refine zK.go hc (r1.ext ((e1.trans e2).trans e3)) p3 z λ w4 S4 v4 H4 h4 q4 e4 p4=>?_;exact G7 w v4 y w4 H4 S4 Q (zg.ext (e3.trans e4) y q2) q4 p4 (hg y w4 S4 _ _ (λ d S' z=>z.ext (((e1.trans e2).trans e3).trans e4)) h4)
  .exact z _ H3 (by simp only[zg]) ((e1.trans e2).trans e3) p3
 | _=>exact z.elim
@[simp] noncomputable def iZ (f g:T->T->Option T) (fa fb fc:Ev->Option T):Ev->Option T:=fun J=>(fa J).bind λ x=>(fb J).bind λ y=>(f x y).bind λ b=>match b with
 | .bl k=>if k=true then (fc J).bind λ z=>g y z else some (.bl false)
 | _=>none
theorem Qx {f g:T->T->Option T}{F G:y6}(hf:Good2 zC f F) (hg:Good2 zC g G) (ha:yp fa ta) (hb:yp fb tb) (hc:yp fc tc):xp (iZ f g fa fb fc) (tW F G ta tb tc):=λ S Z L J y Q hE e hq=>by
 obtain⟨x1,e1,e⟩:=Aj.mp e;obtain⟨x2,e2,e⟩:=Aj.mp e;obtain⟨b,e3,e⟩:=Aj.mp e;refine ha S Z L J x1 _ hE e1 λ d1 S1 s1 r1=>?_;refine hb S1 Z L J x2 _ (hE.grow s1) e2 λ d2 S2 s2 r2=>?_;refine hf S2 Z x1 x2 b d1 d2 _ (hE.grow (s1.trans s2)).zd (Vw.grow r1 s2) r2 e3 λ c S3 s3 r3=>?_;split at e
 .have:=r3.1;simp only[Sn] at this;subst this;split at e
  .rename_i hk;obtain⟨x4,e4,e5⟩:=Aj.mp e;dsimp only;rw[if_pos hk];refine hc S3 Z L J x4 _ (hE.grow ((s1.trans s2).trans s3)) e4 λ d4 S4 s4 r4=>?_;exact hg S4 Z x2 x4 y d2 d4 Q (hE.grow (((s1.trans s2).trans s3).trans s4)).zd (Vw.grow r2 (s3.trans s4)) r4 e5 λ c' S5 s5 r5=>hq c' S5 ((((s1.trans s2).trans s3).trans s4).trans s5) (Cl.cl (((s1.trans s2).trans s3).trans s4) r5)
  .rename_i hk;dsimp only;rw[if_neg hk];cases e;exact hq _ S3 ((s1.trans s2).trans s3) (Cl.of (λ _=>nofun) wF)
 .cases e
theorem Tt {op GV:CmpOp}{f g:y6}{r r':R2}(ho:zV X (compareOp op) r) (F4:zV X (compareOp GV) r') (hr:yS X.K f r) (G7:yS X.K g r') (hf:xh f) (hg:xh g) (ha:PD X a ta) (hb:PD X b tb) (hc:PD X c tc)
  (hm:lastMarks [op,GV] [b,c]=false:=by with_unfolding_all rfl):PD X (.Compare a [op,GV] [b,c] pos) (tW f g ta tb tc):=
 ⟨tW.mo hf hg ha.mo hb.mo hc.mo,PE.imp (V8 ho F4 ha.pe hb.pe hc.pe hm) λ _ _ _ h=>fE hr G7 hf hg ha.mo hb.mo hc.mo h⟩
theorem VR {op GV:CmpOp}{f g:y6}{r r':R2}(ho:zV X (compareOp op) r) (F4:zV X (compareOp GV) r') (hr:yS X.K f r) (G7:yS X.K g r') (hf:xh f) (hg:xh g) (ha:PD X a ta) (hb:PD X b tb) (hc:PD X c tc)
  (hm:lastMarks [op,GV] [b,c]=false:=by with_unfolding_all rfl):yQ X (.Compare a [op,GV] [b,c] pos) (w9 (tW f g ta tb tc)):=by
 refine⟨w9.mo (tW.mo hf hg ha.mo hb.mo hc.mo),PT.imp (WA ho F4 ha.pe hb.pe hc.pe hm) fun Y H Q h=>?_⟩;obtain⟨L,S,r1,r2,h⟩:=h;refine fE hr G7 hf hg ha.mo hb.mo hc.mo ⟨L,S,r1,r2,tW.mo hf hg ha.mo hb.mo hc.mo L S _ _ (λ d S' z v H' a b c=>?_) h⟩;cases d with
 | bl k=>simp only[zg] at a;exact⟨k,a,z H' b c⟩
 | _=>exact z.elim
end
end L5
namespace L2
open PySem PySem.Spec PyProof.Rows
section
variable {X:Cx}
theorem T_:zV X (compareOp .Is) (λ x y H Q=>∃ c d,x=.bl c/\y=.bl d/\Q (.bl (c == d)) H):=by
 intro EM s Y H x y v u Q I rx ry h;obtain⟨c,d,rfl,rfl,q⟩:=h;cases rx;cases ry;exact is_bool ⟨.bl _,H,I,rfl,q⟩
theorem TK:zV X (compareOp .IsNot) (λ x y H Q=>∃ c d,x=.bl c/\y=.bl d/\Q (.bl (c != d)) H):=by
 intro EM s Y H x y v u Q I rx ry h;obtain⟨c,d,rfl,rfl,q⟩:=h;cases rx;cases ry;exact isnot_bool ⟨.bl _,H,I,rfl,q⟩
end
end L2
namespace L5
open PySem PySem.Spec L2 L3
open PyProof.Rows hiding St
section
variable {X:Cx}{K:Ab}{a b c e o i v:Expr}{es:List Expr}{ta tb td ty tv:zr}{pos p pos':Pos}
def v7:y6:=λ x y S Q=>match x,y with
 | .int i,.int j=>Q (.bl (decide (i<j))) S
 | .tup ds,.tup es=>∃ ns ms:List Int,ds=ns.map D.int/\es=ms.map D.int/\Q (.bl (HT.lexLt ns ms)) S
 | _,_=>False
noncomputable def wI:T->T->Option T
 | .int i,.int j=>some (.bl (decide (i<j)))
 | .tup ts,.tup us=>(vS ts).bind λ ns=>(vS us).map λ ms=>.bl (HT.lexLt ns ms)
 | _,_=>none
theorem v7.mo:xh v7:=λ x y S Q Q' hq h=>by
 unfold v7 at h ⊢;split at h
 .exact hq _ _ h
 .obtain⟨ns,ms,h1,h2,h3⟩:=h;exact⟨ns,ms,h1,h2,hq _ _ h3⟩
 .exact h.elim
theorem v7.fits:yS K v7 (λ x y H Q=>wH (λ i j=>.bl (decide (i<j))) x y H Q\/j6 K x y H Q):=λ x y d e H S Q h1 h2 h3 h=>by
 unfold v7 at h;split at h
 .simp only[zg] at h1 h2;exact .inl ⟨_,_,h1,h2,h _ H (by simp only[zg]) (.refl H) h3⟩
 .obtain⟨ns,ms,rfl,rfl,h⟩:=h;simp only[zg] at h1 h2;obtain⟨a,xs,rfl,g1,g2⟩:=h1;obtain⟨b,ys,rfl,g3,g4⟩:=h2;rw[g2.ints] at g1;rw[g4.ints] at g3;exact .inr ⟨a,b,ns,ms,rfl,rfl,g1,g3,h _ H (by simp only[zg]) (.refl H) h3⟩
 .exact h.elim
theorem i8:Good2 zC wI v7:=λ S Z x y z d e Q hz hx hy ef hq=>by
 unfold wI at ef;split at ef
 .cases ef;cases hx.int;cases hy.int;exact hq _ S (.refl S) (Cl.of (λ _=>nofun) wF)
 .obtain⟨ns,e1,e2⟩:=Aj.mp ef;obtain⟨ms,e3,rfl⟩:=AE.mp e2;cases oG e1;cases oG e3;obtain⟨ds,rfl,h2⟩:=hx.tup;obtain⟨es,rfl,h4⟩:=hy.tup;exact⟨ns,ms,tH.mp h2,tH.mp h4,hq _ S (.refl S) (Cl.of (λ _=>nofun) wF)⟩
 .cases ef
theorem dq {k:Nat}(hr:yi k X.A):zV X (compareOp .Lt) (λ x y H Q=>wH (λ i j=>.bl (decide (i<j))) x y H Q\/j6 X.K x y H Q):=TY.or (TX (by have:=hr.units;lia))
theorem UN {k:Nat}(hr:yi k X.A) (ha:PD X a ta) (hb:PD X b tb):PD X (.Compare a [.Lt] [b] pos) (yf v7 ta tb):=ot (dq hr) v7.fits v7.mo ha hb (um _)
theorem VJ {k:Nat}(hr:yi k X.A) (ha:PD X a ta) (hb:PD X b tb):yQ X (.Compare a [.Lt] [b] pos) (w9 (yf v7 ta tb)):=tK (dq hr) v7.fits v7.mo ha hb (um _)
def x_ (neg:Bool):y6:=λ x y S Q=>match x,y with
 | .bl c,.bl d=>Q (.bl (cond neg (c != d) (c == d))) S
 | x,.zo=>Q (.bl (cond neg (!qJ x) (qJ x))) S
 | _,_=>False
noncomputable def wZ (neg:Bool):T->T->Option T
 | .bl c,.bl d=>some (.bl (cond neg (c != d) (c == d)))
 | x,.zo=>some (.bl (cond neg (!isNone x) (isNone x)))
 | _,_=>none
theorem x_.mo {neg:Bool}:xh (x_ neg):=λ x y S Q Q' hq h=>by
 unfold x_ at h ⊢;split at h
 .exact hq _ _ h
 .exact hq _ _ h
 .exact h.elim
theorem x_.fits:yS K (x_ false) (λ x y H Q=>(∃ c d,x=.bl c/\y=.bl d/\Q (.bl (c == d)) H)\/(y=.zo/\Q (.bl (decide (x=.zo))) H)):=λ x y d e H S Q h1 h2 h3 h=>by
 unfold x_ at h;split at h
 .simp only[zg] at h1 h2;exact .inl ⟨_,_,h1,h2,h _ H (by simp only[zg,cond]) (.refl H) h3⟩
 .simp only[zg] at h2;refine .inr ⟨h2,?_⟩;rw[cD h1];exact h _ H (by simp only[zg,cond]) (.refl H) h3
 .exact h.elim
theorem x_.OX:yS K (x_ true) (λ x y H Q=>(∃ c d,x=.bl c/\y=.bl d/\Q (.bl (c != d)) H)\/(y=.zo/\Q (.bl (!decide (x=.zo))) H)):=λ x y d e H S Q h1 h2 h3 h=>by
 unfold x_ at h;split at h
 .simp only[zg] at h1 h2;exact .inl ⟨_,_,h1,h2,h _ H (by simp only[zg,cond]) (.refl H) h3⟩
 .simp only[zg] at h2;refine .inr ⟨h2,?_⟩;rw[cD h1];exact h _ H (by simp only[zg,cond]) (.refl H) h3
 .exact h.elim
theorem PY {S:SS}{Z:Addr->Prop}{x:T}{d:D}(hx:Vw S Z x d):qJ d=isNone x:=by
 cases x with
 | zo=>cases hx.zo;rfl
 | bl _=>cases hx.bl;rfl
 | int _=>cases hx.int;rfl
 | str _=>cases hx.str;rfl
 | tup _=>obtain⟨ds,rfl,_⟩:=hx.tup;rfl
 | lst _=>obtain⟨ds,rfl | ⟨a,rfl,h1⟩,h2⟩:=hx.lst <;> rfl
 | yN=>obtain⟨a,Aa,⟨rfl,_⟩,h1⟩:=hx.yN;rfl
 | err _ _ _=>obtain⟨x,rfl,_⟩:=hx.err;rfl
theorem OA {neg:Bool}:Good2 zC (wZ neg) (x_ neg):=λ S Z x y z d e Q hz hx hy ef hq=>by
 unfold wZ at ef;split at ef
 .cases ef;cases hx.bl;cases hy.bl;exact hq _ S (.refl S) (Cl.of (λ _=>nofun) wF)
 .cases ef;cases hy.zo;have key:Q (.bl (cond neg (!qJ d) (qJ d))) S:=by
   rw[PY hx];exact hq _ S (.refl S) (Cl.of (λ _=>nofun) wF)
  unfold x_;cases d <;> exact key
 .cases ef
theorem VN (ha:PD X a ta) (hb:PD X b tb):yQ X (.Compare a [.Is] [b] pos) (w9 (yf (x_ false) ta tb)):=tK (T_.or TZ) x_.fits x_.mo ha hb (um _)
theorem VM (ha:PD X a ta) (hb:PD X b tb):yQ X (.Compare a [.IsNot] [b] pos) (w9 (yf (x_ true) ta tb)):=tK (TK.or TH) x_.OX x_.mo ha hb (um _)
def b_ (td ty tv:zr):yA:=λ E L S=>tv L S λ v S1=>td L S1 λ x S2=>ty L S2 λ y S3=>∃ p ds k j,x=.ref p/\y=.int k/\S3 p=some (.lst ds)/\xF ds.length k=some j/\E.nx L (ups S3 p (.lst (ds.set j v)))
theorem zl.set {H:Hp}{d:D}{x:V}(h:zg K H d x):∀ {ds:List D}{xs:List V}(j:Nat),zl K H ds xs->zl K H (ds.set j d) (xs.set j x)
 | [],xs,j,r=>by simp only[zl] at r;subst r;exact .nil
 | c::ds,xs,0,r=>by
  simp only[zl] at r;obtain⟨y,ys,rfl,_,r2⟩:=r;exact .cons h r2
 | c::ds,xs,j+1,r=>by
  simp only[zl] at r;obtain⟨y,ys,rfl,r1,r2⟩:=r;exact .cons r1 (zl.set h j r2)
theorem Ua (ho:PD X o td) (hi:PD X i ty) (hv:PD X v tv) (hs:swapsWithSole [.Subscript o i pos'] v pos.line X.env=pure false) (hw:swappedStores [.Subscript o i pos'] v X.env=pure none)
  (h1:(assignEach [.Subscript o i pos'] X.env).map (·.2)=[assign (.Subscript o i pos') X.env])
  (ha:∀ v,assign (.Subscript o i pos') X.env v=(do
   let ov <- holding [v] (eval o X.env)
   let iv <- holding [v,ov] (eval i X.env)
   standAt pos'
   holding [v,ov,iv] (setItem ov iv v)
   release [v,ov,iv] [])):xT X (.Assign [.Subscript o i pos'] v pos) (b_ td ty tv):=by
 refine⟨λ E E' L S hE z=>hv.mo L S _ _ (λ w S1 z=>ho.mo L S1 _ _ (λ x S2 z=>hi.mo L S2 _ _ (λ y S3 ⟨p,ds,k,j,a,b,c,d,h⟩=>⟨p,ds,k,j,a,b,c,d,hE.nx _ _ h⟩) z) z) z,PS.imp (eY hv.pe (Vh ho.pe hi.pe set_list ha) hs hw h1) λ D Y H hu=>?_⟩;obtain⟨L,S,r1,r2,z⟩:=hu;refine zK.go hv.mo r1 r2 z λ w S1 w1 H1 h1 q1 e1 p1=>?_;refine zK.go ho.mo (r1.ext e1) p1 h1 λ x S2 w2 H2 h2 q2 e2 p2=>?_;refine zK.go hi.mo ((r1.ext e1).ext e2) p2 h2 λ y S3 w3 H3 h3 q3 e3 p3=>?_;obtain⟨p,ds,k,j,rfl,rfl,c1,c2,h⟩:=h3;simp only[zg] at q2 q3;subst q2 q3;obtain⟨xs,g1,g2⟩:=p3 _ _ c1;have e4:Ext H3 (upd H3 p (.lst (xs.set j w1))):=.lst g1 _;refine⟨p,xs,k,j,rfl,rfl,g1,by rw[<- g2.length];exact c2,?_⟩;exact h Y _ ((((r1.ext e1).ext e2).ext e3).ext e4) (((e1.trans e2).trans e3).trans e4) (p3.ups e4 ⟨_,yz,zl.ext e4 _ (zl.set (zg.ext (e2.trans e3) w q1) j g2)⟩)
@[simp] def mY (n:Nat) (f v:Ev->Option T):Sm:=fun J=>(v J).bind λ z=>(f J).bind λ y=>match J[n]?,y with
 | some (some (.own (.lst ts))),.int k=>(xF ts.length k).map λ j=>.nx (J.set n (some (.own (.lst (ts.set j z)))))
 | _,_=>none
theorem S7 {R:Rk}(n:Nat) {f v:Ev->Option T}(hf:yp f ty) (hv:vf v tv):yn R (mY n f v) (b_ (yw n) ty tv):=λ S0 Z0 S Z L J o E F e P=>by
 obtain⟨z,e1,e⟩:=Aj.mp e;obtain⟨x,e2,e3⟩:=Aj.mp e;split at e3
 .rename_i ts k h;obtain⟨j,hj,rfl⟩:=AE.mp e3;refine hv S Z L J z _ F.er e1 λ dz S1 s1 r1=>?_;have F1:=F.grow s1;obtain⟨p,ob,h1,h2,h3,h4⟩:=F1.er.ow n _ h;cases ob with
  | z_ _=>exact h3.elim
  | lst ds=>
   show yw n L S1 _;unfold yw;rw[h1];refine hf S1 Z L J _ _ F1.er e2 λ d S2 s2 r2=>?_;cases Vw.int r2;have h5:zj (zQ S2 Z) ts ds:=zj.sx (wz s2) ts h3;exact⟨p,ds,k,j,rfl,rfl,s2 _ _ h2,by rw[h5.len];exact hj,P _ Z L ((F1.grow s2).mut (us:=.lst (ts.set j z)) (es:=.lst (ds.set j dz)) n h h1 (h5.ej j (Sn.sx (wz s2) z r1)))⟩
 .cases e3
theorem Tc {x y:Str}{u:Value}(hm:X.mg x=some u) (r:RelV (.str y) u) (hg:Gl X x) (hd:(x == ("__debug__":Str))=false):PD X (.Name x pos) (dC (.str y)):=qB (dg hg hm r hd) λ _=>by simp only[zg]
theorem Te {x:Str}{n:Int}{u:Value}(hm:X.mg x=some u) (r:RelV (.int n) u) (hg:Gl X x) (hd:(x == ("__debug__":Str))=false):PD X (.Name x pos) (dC (.int n)):=qB (dg hg hm r hd) λ _=>by simp only[zg]
end
end L5
namespace ZP
open PySem PyProof.Rows
noncomputable def iy (k:Bool):String:=cond k "tuple_iterator" "list_iterator"
def SI (h:Heap) (k:Bool) (it l:Addr) (i:Nat):Prop:=∃ o,h.get? it=some o/\o.cls=.type (iy k)/\o.data=.fields #[.ref l,.int i 0]
def SQ (h:Heap) (k:Bool) (l:Addr) (xs:Ar):Prop:=match k with
 | true=>h.IsTuple l xs
 | false=>h.IsList l xs
theorem SI.on {h h':Heap}{k:Bool}{it l:Addr}{i:Nat}(x:SI h k it l i) (f:∀ o,h.get? it=some o->h'.get? it=some o):SI h' k it l i:=
 let ⟨o,ho,r⟩:=x;⟨o,f o ho,r⟩
theorem SQ.on {h h':Heap}{k:Bool}{l:Addr}{xs:Ar}(x:SQ h k l xs) (f:∀ o,h.get? l=some o->h'.get? l=some o):SQ h' k l xs:=by
 cases k with
 | true=>obtain⟨o,ho,r⟩:=(show h.IsTuple l xs from x);exact⟨o,f o ho,r⟩
 | false=>obtain⟨o,ho,r⟩:=(show h.IsList l xs from x);exact⟨o,f o ho,r⟩
theorem SQ.lt {h:Heap}{k:Bool}{l:Addr}{xs:Ar}(x:SQ h k l xs):l<h.objs.size:=by
 cases k with
 | true=>obtain⟨o,ho,_⟩:=(show h.IsTuple l xs from x);exact Ap ho
 | false=>obtain⟨o,ho,_⟩:=(show h.IsList l xs from x);exact Ap ho
theorem SQ.cls {h:Heap}{k:Bool}{l:Addr}{xs:Ar}(x:SQ h k l xs):∃ o,h.get? l=some o/\o.cls=.type (cond k "tuple" "list"):=by
 cases k with
 | true=>obtain⟨o,ho,c,_⟩:=(show h.IsTuple l xs from x);exact⟨o,ho,c⟩
 | false=>obtain⟨o,ho,c,_⟩:=(show h.IsList l xs from x);exact⟨o,ho,c⟩
section
variable {prog:Program}{w:World}{A:Around}{E:Ad}{s:Shared}
theorem made {k:Bool}{l:Addr}{xs:Ar}{Q:Ad}(hl:SQ s.heap k l xs)
  (hQ:Q (.ref s.heap.objs.size) { s with heap:=s.heap.push { cls:=.type (iy k),data:=.fields #[.ref l,.int 0 0] } }):wpAny (model prog w) A (pyIter (.ref l)) Q E s:=by
 cases k with
 | true=>exact wpAny_pyIter_tuple hl hQ
 | false=>exact Lp hl hQ
theorem Nx {it l:Addr}{i:Nat}{xs:Ar}{x:Value}{Q:Ad}(hit:s.heap.IsTupleIter it l i) (hl:s.heap.IsTuple l xs) (hx:xs[i]?=some x)
  (hQ:∀ h',h'.IsTupleIter it l (i+1)->Heap.SameBut it s.heap h'->Q x { s with heap:=h' }):wpAny (model prog w) A (Builtin.SmallTypes.nextOf (.ref it)) Q E s:=by
 have ht:=hit.typeIs;obtain⟨oi,e1,e2,e3⟩:=id hit;obtain⟨ol,g1,_,n,g2⟩:=hl;refine JY (K8 (name:=Str.ofString "__next__") ht F.slot_tuple_iterator_next (K2 F.slot_tuple_iterator_next ht F.entry_tuple_iterator_next ?_ (F.args_tuple_iterator_next_1 _)));refine JY (m:=field (.ref it) 0) (K1 e1 e3 (x:=.ref l) rfl ?_);dsimp only;rw[if_neg (show ¬ ((Value.ref l == Value.none)=true) from BP)];refine JY (m:=field (.ref it) 1) (K1 e1 e3 (x:=.int i 0) rfl ?_);dsimp only;refine JY (m:=seqItems? (.ref l)) (K7 g1 g2 ?_);simp only[Cz,hx];have there:=K_ (Obj.mapFields λ y=>y.setIfInBounds 1 (rawInt ((i:Int)+1))) e1 (Obj.isFreed_of_fields (Obj.data_mapFields e3 _));refine JY (Lq e1 e3 (by simp) (Ac ⟨x,rfl,Ac (hQ _ ⟨_,there,(Obj.cls_mapFields ..).trans e2,?_⟩ (Heap.SameBut.update ..))⟩));rw[Obj.data_mapFields e3];simp[rawInt]
theorem Np {it l:Addr}{i:Nat}{xs:Ar}{Q:Ad}(hh:A.handled=none) (hit:s.heap.IsTupleIter it l i) (hl:s.heap.IsTuple l xs) (hx:xs[i]?=none)
  (hE:∀ h' e,Heap.ExtBut it s.heap h'->(∃ o,h'.get? e=some o/\o.cls=.type "StopIteration")->E (.ref e) { s with heap:=h' }):wpAny (model prog w) A (Builtin.SmallTypes.nextOf (.ref it)) Q E s:=by
 have ht:=hit.typeIs;obtain⟨oi,e1,e2,e3⟩:=id hit;obtain⟨ol,g1,_,n,g2⟩:=hl;refine JY (K8 (name:=Str.ofString "__next__") ht F.slot_tuple_iterator_next (K2 F.slot_tuple_iterator_next ht F.entry_tuple_iterator_next ?_ (F.args_tuple_iterator_next_1 _)));refine JY (m:=field (.ref it) 0) (K1 e1 e3 (x:=.ref l) rfl ?_);dsimp only;rw[if_neg (show ¬ ((Value.ref l == Value.none)=true) from BP)];refine JY (m:=field (.ref it) 1) (K1 e1 e3 (x:=.int i 0) rfl ?_);dsimp only;refine JY (m:=seqItems? (.ref l)) (K7 g1 g2 ?_);simp only[Cz,hx];refine JY (wpAny_rule (JY (Lq e1 e3 (by simp) ?_)));refine JY (m:=newExc (.type "StopIteration") []) ?_;simp only[newExc,newTuple];refine JY (K6 (JY (m:=firstArgMember _ _) (wpAny_of_eq (a:=Value.none) (by first | rfl | (simp only[firstArgMember];rfl)) (K6 ?_ (by size_fits)))) (by size_fits));simp only[raiseNew];refine JY (wpAny_handled ?_);rw[show A.in1.handled=none from hh];exact JY (Ac (wpAny_throw (hE _ _ (((Heap.SameBut.update ..).extBut.push _).push _) ⟨_,AJ _ rfl,rfl⟩)))
theorem draw {k:Bool}{it l:Addr}{i:Nat}{xs:Ar}{x:Value}{Q:Ad}(hit:SI s.heap k it l i) (hl:SQ s.heap k l xs) (hx:xs[i]?=some x)
  (hQ:∀ h',SI h' k it l (i+1)->Heap.SameBut it s.heap h'->Q x { s with heap:=h' }):wpAny (model prog w) A (Builtin.SmallTypes.nextOf (.ref it)) Q E s:=by
 cases k with
 | true=>exact Nx hit hl hx hQ
 | false=>exact wpAny_nextOf_list_item hit hl hx hQ
theorem lE {k:Bool}{it l:Addr}{i:Nat}{xs:Ar}{Q:Ad}(hh:A.handled=none) (hit:SI s.heap k it l i) (hl:SQ s.heap k l xs) (hx:xs[i]?=none)
  (hE:∀ h' e,Heap.ExtBut it s.heap h'->(∃ o,h'.get? e=some o/\o.cls=.type "StopIteration")->E (.ref e) { s with heap:=h' }):wpAny (model prog w) A (Builtin.SmallTypes.nextOf (.ref it)) Q E s:=by
 cases k with
 | true=>exact Np hh hit hl hx hE
 | false=>exact wpAny_nextOf_list_end hh hit hl hx hE
structure kP (z TI TO i1 i2 l1 l2:Addr):Prop where
 nd:[z,TI,TO,i1,i2].Nodup
 f1:l1∉[z,TI,TO,i1,i2]
 f2:l2∉[z,TI,TO,i1,i2]
structure At (h:Heap) (k1 k2:Bool) (z TI TO i1 i2 l1 l2:Addr) (f0:Value) (n:Nat):Prop where
 z:IsZip h z TI TO f0
 ti:IsPair h TI (.ref i1) (.ref i2)
 to:∃ a b,IsPair h TO a b
 s1:SI h k1 i1 l1 n
 s2:SI h k2 i2 l2 n
theorem At.keep {h h':Heap}{k1 k2:Bool}{z TI TO i1 i2 l1 l2:Addr}{f0:Value}{n:Nat}(S:At h k1 k2 z TI TO i1 i2 l1 l2 f0 n) (f:∀ b∈[z,TI,TO,i1,i2],∀ o,h.get? b=some o->h'.get? b=some o):At h' k1 k2 z TI TO i1 i2 l1 l2 f0 n:=
 ⟨f z (by simp) _ S.z,f TI (by simp) _ S.ti,let ⟨a,b,e⟩:=S.to;⟨a,b,f TO (by simp) _ e⟩,S.s1.on (f i1 (by simp)),S.s2.on (f i2 (by simp))⟩
theorem item {k1 k2:Bool}{z TI TO i1 i2 l1 l2:Addr}{n:Nat}{xs ys:Ar}{x y:Value}{Q:Option Value->Shared->Prop}(D:kP z TI TO i1 i2 l1 l2) (S:At s.heap k1 k2 z TI TO i1 i2 l1 l2 .none n)
  (h1:SQ s.heap k1 l1 xs) (h2:SQ s.heap k2 l2 ys) (hx:xs[n]?=some x) (hy:ys[n]?=some y)
  (hQ:∀ h',At h' k1 k2 z TI TO i1 i2 l1 l2 (rawInt s.heap.objs.size) (n+1)->IsPair h' s.heap.objs.size x y->(∀ c o,c∉[z,TI,TO,i1,i2]->s.heap.get? c=some o->h'.get? c=some o)->Q (some (.ref s.heap.objs.size)) { s with heap:=h' }):
  wpAny (model prog w) A (pyNext (.ref z)) Q E s:=by
 obtain⟨nd,f1,f2⟩:=D;simp only[A7,Ai,A6,or_false,not_or,List.nodup_nil,and_true,not_false_eq_true] at nd f1 f2;obtain⟨⟨n1,n2,n3,n4⟩,⟨n5,n6,n7⟩,⟨n8,n9⟩,JG⟩:=nd;obtain⟨a1,a2,a3,a4,a5⟩:=f1;obtain⟨b1,b2,b3,b4,b5⟩:=f2;obtain⟨hz,DQ,⟨a,b,Df⟩,s1,s2⟩:=S;have hT:s.TypeIs (.ref z) "zip":=⟨_,hz,rfl⟩
 unfold pyNext;refine JY (wpAny_attempt (K8 (name:=Str.ofString "__next__") hT F.slot_zip_next (K2 F.slot_zip_next hT F.entry_zip_next ?_ (F.args_zip_next_1 _))));refine JY (m:=field (.ref z) 2) (K1 hz rfl (x:=.bool false) rfl ?_);refine JY (m:=field (.ref z) 3) (K1 hz rfl (x:=.ref TI) rfl ?_);refine JY (m:=seqItems? (.ref TI)) (K7 DQ rfl ?_);refine JY (m:=Builtin.SmallTypes.ownedTupleIsFree (.ref z)) (JY (m:=field (.ref z) 0) (K1 hz rfl (x:=.none) rfl (Ac ?_)));simp only[if_true];refine JY (wpAny_rule (JY (K1 hz rfl (x:=.ref TO) rfl (JY (Ln hz (by simp) λ g1 HD e1=>?_)))));replace HD:IsZip g1 z TI TO .ellipsis:=HD;refine JY ?_;simp only[Dt,List.zipIdx_nil,DI,List.forIn_nil];refine JY (JY (wpAny_onRaise (JY (m:=Builtin.SmallTypes.nextOf (.ref i1)) (draw (s1.on λ o q=>e1.extBut _ _ (Ne.symm n3) q) (h1.on λ o q=>e1.extBut _ _ a1 q) hx λ g2 s12 e2=>Ac ?_))));have to2:IsPair g2 TO a b:=e2.extBut _ _ n8 (e1.extBut _ _ (Ne.symm n2) Df);refine JY (K7 to2 rfl (JY (wpAny_updateSeq_pair to2 λ g3 to3 e3=>JY (wpAny_letGo (Ac ?_)))));replace to3:IsPair g3 TO x b:=to3;have up:∀ c o,c≠z->c≠i1->c≠TO->s.heap.get? c=some o->g3.get? c=some o:=λ c o c1 c2 c3 q=>e3.extBut _ _ c3 (e2.extBut _ _ c2 (e1.extBut _ _ c1 q));refine JY (JY (wpAny_onRaise (JY (m:=Builtin.SmallTypes.nextOf (.ref i2)) (draw (s2.on λ o q=>up _ o (Ne.symm n4) (Ne.symm JG) (Ne.symm n9) q) (h2.on λ o q=>up _ o b1 b4 b3 q) hy λ g4 s24 e4=>Ac ?_))));have to4:IsPair g4 TO x b:=e4.extBut _ _ n9 to3;refine JY (K7 to4 rfl (JY (wpAny_updateSeq_pair to4 λ g5 JB e5=>JY (wpAny_letGo (Ac (Ac ?_))))));replace JB:IsPair g5 TO x y:=JB;refine JY (K7 JB rfl (JY (wpAny_newTuple ?_)));have sz:g5.objs.size=s.heap.objs.size:=by rw[e5.1,e4.1,e3.1,e2.1,e1.1]
 have hz5:IsZip g5 z TI TO .ellipsis:=e5.extBut _ _ n2 (e4.extBut _ _ n4 (e3.extBut _ _ n2 (e2.extBut _ _ n3 HD)));have up5:∀ c o,c∉[z,TI,TO,i1,i2]->s.heap.get? c=some o->g5.get? c=some o:=λ c o hc q=>by
  simp only[Ai,A6,or_false,not_or] at hc;exact e5.extBut _ _ hc.2.2.1 (e4.extBut _ _ hc.2.2.2.2 (up c o hc.1 hc.2.2.2.1 hc.2.2.1 q))
 have ti5:IsPair g5 TI (.ref i1) (.ref i2):=e5.extBut _ _ n5 (e4.extBut _ _ n7 (up _ _ (Ne.symm n1) n6 n5 DQ));have s15:SI g5 k1 i1 l1 (n+1):=s12.on λ o q=>e5.extBut _ _ (Ne.symm n8) (e4.extBut _ _ JG (e3.extBut _ _ (Ne.symm n8) q));have s25:SI g5 k2 i2 l2 (n+1):=s24.on λ o q=>e5.extBut _ _ (Ne.symm n9) q;have lz:z<g5.objs.size:=Ap hz5;refine JY (m:=Builtin.SmallTypes.ownedTupleHandOut (.ref z) (.ref g5.objs.size)) ?_;have hz6:IsZip (g5.push { cls:=.type "tuple",data:=.seq #[x,y] }) z TI TO .ellipsis:=KY _ hz5;refine JY (Ln hz6 (by simp) λ g7 Kg e7=>?_);replace Kg:IsZip g7 z TI TO (rawInt g5.objs.size):=Kg;refine Ln Kg (by simp) λ g8 JJ e8=>?_;replace JJ:IsZip g8 z TI TO (rawInt g5.objs.size):=JJ;have up8:∀ c o,c≠z->(g5.push { cls:=.type "tuple",data:=.seq #[x,y] }).get? c=some o->g8.get? c=some o:=λ c o c1 q=>e8.extBut _ _ c1 (e7.extBut _ _ c1 q);have T8:IsPair g8 g5.objs.size x y:=up8 _ _ (B2 lz) (AJ _ rfl);have IM:∀ c o,c≠z->g5.get? c=some o->g8.get? c=some o:=λ c o c1 q=>up8 c o c1 (KY _ q);rw[sz] at JJ T8;refine Ac ⟨.ref g5.objs.size,rfl,Ac ?_⟩;show Q (some (.ref g5.objs.size)) _;rw[sz];refine hQ g8 ⟨JJ,IM _ _ (Ne.symm n1) ti5,⟨x,y,IM _ _ (Ne.symm n2) JB⟩,s15.on λ o q=>IM _ o (Ne.symm n3) q,s25.on λ o q=>IM _ o (Ne.symm n4) q⟩ T8 λ c o hc q=>IM c o (λ e=>hc (by simp[e])) (up5 c o hc q)
theorem stop {k1 k2:Bool}{z TI TO i1 i2 l1 l2:Addr}{n:Nat}{xs ys:Ar}{Q:Option Value->Shared->Prop}(hh:A.handled=none) (D:kP z TI TO i1 i2 l1 l2) (S:At s.heap k1 k2 z TI TO i1 i2 l1 l2 .none n)
  (h1:SQ s.heap k1 l1 xs) (h2:SQ s.heap k2 l2 ys) (Bm:xs[n]?=none\/ys[n]?=none)
  (hQ:∀ h',(∀ c o,c∉[z,TI,TO,i1,i2]->s.heap.get? c=some o->h'.get? c=some o)->Q none { s with heap:=h' }):
  wpAny (model prog w) A (pyNext (.ref z)) Q E s:=by
 obtain⟨nd,f1,f2⟩:=D;simp only[A7,Ai,A6,or_false,not_or,List.nodup_nil,and_true,not_false_eq_true] at nd f1 f2;obtain⟨⟨n1,n2,n3,n4⟩,⟨n5,n6,n7⟩,⟨n8,n9⟩,JG⟩:=nd;obtain⟨a1,a2,a3,a4,a5⟩:=f1;obtain⟨b1,b2,b3,b4,b5⟩:=f2;obtain⟨hz,DQ,⟨a,b,Df⟩,s1,s2⟩:=S;have hT:s.TypeIs (.ref z) "zip":=⟨_,hz,rfl⟩
 have fin:∀ (h':Heap) (e:Addr),(∀ c o,c∉[z,TI,TO,i1,i2]->s.heap.get? c=some o->h'.get? c=some o)->(∃ o,h'.get? e=some o/\o.cls=.type "StopIteration")->
   wpAny (model prog w) A (do if <- isInstance (.ref e) (.type "StopIteration") then pure none else throw (.ref e)) Q E { s with heap:=h' }:=λ h' e k1 k2=>by
  obtain⟨o,ho,hc⟩:=k2;exact JY (wpAny_isInstance (T:="StopIteration") (b:=true) ⟨o,ho,hc⟩ isSubtype_stop (Ac (hQ _ k1)))
 unfold pyNext;refine JY (wpAny_attempt (K8 (name:=Str.ofString "__next__") hT F.slot_zip_next (K2 F.slot_zip_next hT F.entry_zip_next ?_ (F.args_zip_next_1 _))));refine JY (m:=field (.ref z) 2) (K1 hz rfl (x:=.bool false) rfl ?_);refine JY (m:=field (.ref z) 3) (K1 hz rfl (x:=.ref TI) rfl ?_);refine JY (m:=seqItems? (.ref TI)) (K7 DQ rfl ?_);refine JY (m:=Builtin.SmallTypes.ownedTupleIsFree (.ref z)) (JY (m:=field (.ref z) 0) (K1 hz rfl (x:=.none) rfl (Ac ?_)));simp only[if_true];refine JY (wpAny_rule (JY (K1 hz rfl (x:=.ref TO) rfl (JY (Ln hz (by simp) λ g1 HD e1=>?_)))));replace HD:IsZip g1 z TI TO .ellipsis:=HD;refine JY ?_;simp only[Dt,List.zipIdx_nil,DI,List.forIn_nil];cases hx:xs[n]? with
 | none=>
  refine JY (JY (wpAny_onRaise (JY (m:=Builtin.SmallTypes.nextOf (.ref i1)) (lE hh (s1.on λ o q=>e1.extBut _ _ (Ne.symm n3) q) (h1.on λ o q=>e1.extBut _ _ a1 q) hx λ g2 ex e2 he=>?_))));have hz2:IsZip g2 z TI TO .ellipsis:=e2 _ _ n3 HD;obtain⟨oe,q1,q2⟩:=he;have ne:ex≠z:=λ q=>by subst q;rw[hz2] at q1;cases q1;simp at q2
  refine Ln hz2 (by simp) λ g3 _ e3=>fin g3 ex (λ c o hc q=>?_) ⟨oe,e3.extBut _ _ ne q1,q2⟩;simp only[Ai,A6,or_false,not_or] at hc;exact e3.extBut _ _ hc.1 (e2 _ _ hc.2.2.2.1 (e1.extBut _ _ hc.1 q))
 | some x=>
  have hy:ys[n]?=none:=Bm.resolve_left (by rw[hx];simp);refine JY (JY (wpAny_onRaise (JY (m:=Builtin.SmallTypes.nextOf (.ref i1)) (draw (s1.on λ o q=>e1.extBut _ _ (Ne.symm n3) q) (h1.on λ o q=>e1.extBut _ _ a1 q) hx λ g2 s12 e2=>Ac ?_))));have to2:IsPair g2 TO a b:=e2.extBut _ _ n8 (e1.extBut _ _ (Ne.symm n2) Df);refine JY (K7 to2 rfl (JY (wpAny_updateSeq_pair to2 λ g3 to3 e3=>JY (wpAny_letGo (Ac ?_)))));have up:∀ c o,c≠z->c≠i1->c≠TO->s.heap.get? c=some o->g3.get? c=some o:=λ c o c1 c2 c3 q=>e3.extBut _ _ c3 (e2.extBut _ _ c2 (e1.extBut _ _ c1 q));refine JY (JY (wpAny_onRaise (JY (m:=Builtin.SmallTypes.nextOf (.ref i2)) (lE hh (s2.on λ o q=>up _ o (Ne.symm n4) (Ne.symm JG) (Ne.symm n9) q) (h2.on λ o q=>up _ o b1 b4 b3 q) hy λ g4 ex e4 he=>?_))));have hz4:IsZip g4 z TI TO .ellipsis:=e4 _ _ n4 (e3.extBut _ _ n2 (e2.extBut _ _ n3 HD));obtain⟨oe,q1,q2⟩:=he;have ne:ex≠z:=λ q=>by subst q;rw[hz4] at q1;cases q1;simp at q2
  refine Ln hz4 (by simp) λ g5 _ e5=>fin g5 ex (λ c o hc q=>?_) ⟨oe,e5.extBut _ _ ne q1,q2⟩;simp only[Ai,A6,or_false,not_or] at hc;exact e5.extBut _ _ hc.1 (e4 _ _ hc.2.2.2.2 (up c o hc.1 hc.2.2.2.1 hc.2.2.1 q))
end
abbrev vy (k:Bool) (l:Addr):Obj:={ cls:=.type (iy k),data:=.fields #[.ref l,.int 0 0] }
abbrev qN (k1 k2:Bool) (h:Heap) (l1 l2:Addr):Heap:=(h.push (vy k1 l1)).push (vy k2 l2)
abbrev lx (k1 k2:Bool) (h:Heap) (l1 l2:Addr):Heap:=(qN k1 k2 h l1 l2).push { cls:=.type "tuple",data:=.seq #[.ref h.objs.size,.ref (h.push (vy k1 l1)).objs.size] }
abbrev lu (k1 k2:Bool) (h:Heap) (l1 l2:Addr):Heap:=(lx k1 k2 h l1 l2).push { cls:=.type "tuple",data:=.seq #[.none,.none] }
abbrev qM (k1 k2:Bool) (h:Heap) (l1 l2:Addr):Heap:=(lu k1 k2 h l1 l2).push { cls:=.type "zip",data:=.fields #[.none,.bool false,.bool false,.ref (qN k1 k2 h l1 l2).objs.size,.ref (lx k1 k2 h l1 l2).objs.size] }
theorem QY (k1 k2:Bool) (l1 l2:Addr) (xs ys:Ar):Meets (Builtin.«zip.__new__» ⟨[.type "zip",.ref l1,.ref l2],[]⟩) (λ _ R s=>SQ s.heap k1 l1 xs/\SQ s.heap k2 l2 ys/\
   R (.ok (.ret (.ref (lu k1 k2 s.heap l1 l2).objs.size))) { s with heap:=qM k1 k2 s.heap l1 l2 }):=
 .of_wp λ prog w A R s h=>by
  obtain⟨hp,g,d,tk,os⟩:=s;obtain⟨q1,q2,h⟩:=h;have El:=sub_zip;have m1:SQ (Shared.heap ⟨hp,g,d,tk,os⟩) k1 l1 xs:=q1;have m2:SQ (Shared.heap ⟨hp.push (vy k1 l1),g,d,tk,os⟩) k2 l2 ys:=q2.on λ o e=>KY _ e
  wp_walk using made m1,made m2
  exact⟨_,rfl,h⟩
section
variable {prog:Program}{w:World}{A:Around}{E:Ad}{s:Shared}
theorem new {k1 k2:Bool}{l1 l2:Addr}{xs ys:Ar}{Q:Ad}(h1:SQ s.heap k1 l1 xs) (h2:SQ s.heap k2 l2 ys)
  (h:∀ h' z TI TO i1 i2,(∀ b∈[z,TI,TO,i1,i2],s.heap.objs.size<=b)->kP z TI TO i1 i2 l1 l2->At h' k1 k2 z TI TO i1 i2 l1 l2 .none 0->(∀ c o,s.heap.get? c=some o->h'.get? c=some o)->Q (.ref z) { s with heap:=h' }):
  wpAny (model prog w) A (call (.type "zip") [.ref l1,.ref l2]) Q E s:=by
 refine callType_new F.called_zip (by decide) (F.typeCall_zip_2 _ _) (F.newCall_zip_2 _ _) (λ obj=>F.args_object_init_3 obj _ _) F.entry_zip_new (QY k1 k2 l1 l2 xs ys) ⟨h1,h2,?_⟩;have z1:(s.heap.push (vy k1 l1)).objs.size=s.heap.objs.size+1:=Heap.size_push ..;have z2:(qN k1 k2 s.heap l1 l2).objs.size=s.heap.objs.size+2:=by rw[Heap.size_push,z1]
 have z3:(lx k1 k2 s.heap l1 l2).objs.size=s.heap.objs.size+3:=by rw[Heap.size_push,z2]
 have z4:(lu k1 k2 s.heap l1 l2).objs.size=s.heap.objs.size+4:=by rw[Heap.size_push,z3]
 have p1:∀ (h:Heap) (o:Obj),o.isFreed=false->(h.push o).get? h.objs.size=some o:=λ h o e=>AJ _ e;have u:∀ {h:Heap}{b:Addr}{o:Obj}(o':Obj),h.get? b=some o->(h.push o').get? b=some o:=λ o' e=>KY _ e;have g5:(qM k1 k2 s.heap l1 l2).get? (lu k1 k2 s.heap l1 l2).objs.size=some _:=p1 _ _ rfl;have g4:(qM k1 k2 s.heap l1 l2).get? (lx k1 k2 s.heap l1 l2).objs.size=some _:=u _ (p1 _ _ rfl);have g3:(qM k1 k2 s.heap l1 l2).get? (qN k1 k2 s.heap l1 l2).objs.size=some _:=u _ (u _ (p1 _ _ rfl));have g2:(qM k1 k2 s.heap l1 l2).get? (s.heap.push (vy k1 l1)).objs.size=some (vy k2 l2):=u _ (u _ (u _ (p1 _ _ rfl)));have g1:(qM k1 k2 s.heap l1 l2).get? s.heap.objs.size=some (vy k1 l1):=u _ (u _ (u _ (u _ (p1 _ _ rfl))));have a1:=h1.lt;have a2:=h2.lt;rw[z2,z3,z4] at g5;rw[z1,z2] at g3;rw[z3] at g4;rw[z1] at g2;generalize hN:s.heap.objs.size=N at *;have lt:∀ {m:Nat},m<N->∀ j:Nat,¬ m=N+j:=λ hm j=>by lia
 have ne:∀ {i j:Nat},i≠j->¬ (N+i=N+j):=λ A5 e=>A5 (by lia);show _/\_;rw[z4];refine⟨⟨_,g5,rfl⟩,h _ (N+4) (N+2) (N+3) N (N+1) (λ b hb=>?_) ⟨?_,?_,?_⟩ ⟨g5,g3,⟨_,_,g4⟩,⟨_,g1,rfl,rfl⟩,⟨_,g2,rfl,rfl⟩⟩ λ c o e=>u _ (u _ (u _ (u _ (u _ e))))⟩
 .simp only[Ai,A6,or_false] at hb;have h0:N<=N:=Af N;rcases hb with e | e | e | e | e <;> subst e
  .exact Cp N 4
  .exact Cp N 2
  .exact Cp N 3
  .exact h0
  .exact Cp N 1
 .have e0:∀ {i:Nat},i≠0->¬ (N+i=N):=λ hi e=>hi (by lia);have G5:∀ {i:Nat},i≠0->¬ (N=N+i):=λ hi e=>hi (by lia);simp only[A7,Ai,A6,or_false,not_or,List.nodup_nil,and_true,not_false_eq_true];exact⟨⟨ne (by decide),ne (by decide),e0 (by decide),ne (by decide)⟩,⟨ne (by decide),e0 (by decide),ne (by decide)⟩,⟨e0 (by decide),ne (by decide)⟩,G5 (by decide)⟩
 .simp only[Ai,A6,or_false,not_or];exact⟨lt a1 4,lt a1 2,lt a1 3,Aw a1,lt a1 1⟩
 .simp only[Ai,A6,or_false,not_or];exact⟨lt a2 4,lt a2 2,lt a2 3,Aw a2,lt a2 1⟩
end
end ZP
namespace L2
open PySem PySem.Spec PyProof.Rows ZP
section
variable {X:Cx}{EM:Ag}{Y:St}{H:Hp}{s:Shared}
theorem Inv.mz {h':Heap}{t':Nat}{fp:List Addr}(I:Inv X EM Y H s) (k:∀ b o,b∉fp->s.heap.get? b=some o->h'.get? b=some o) (hf:∀ b∈fp,vH X EM H b):Inv X EM Y H { s with heap:=h',toks:=t' }:=by
 have Ja:∀ b u,H b=some u->b∉fp:=λ b u e z=>by rw[(hf b z).1] at e;cases e
 refine I.step (g':=s.gens) (d':=s.drawn) (ch:=fp) (λ b hb=>?_) (λ b o _ _ hc e _=>k b o hc e) (λ b o _ _ hc e _=>⟨o.slots,k b o hc e⟩) (λ _ _ _ _ n=>n)
  (λ b o hc e=>⟨o,k b o hc e⟩) (λ _ _ e=>e) (λ _ _ _ e=>e) (λ b ps e=>⟨#[],by rw[e];simp⟩) (λ m hm=>?_) (λ b u e=>?_) I.bare
 .obtain⟨_,q1,_,q2,q3,q4⟩:=hf b hb;exact⟨q2,q1,q3,q4⟩
 .obtain⟨o,es,ep,ho,r⟩:=hm;exact⟨o,es,ep,k _ o (λ z=>(hf _ z).2.1 rfl) ho,r⟩
 .refine (I.zv b u e).tD (λ c v hc q=>k c v ?_ q) (λ _ q=>q) λ _ _ q=>q;rcases hc with z | z
  .rw[z];exact Ja b u e
  .exact Ja c _ z
def xS (K:Ab) (H:Hp) (k:Bool) (a:Addr) (xs:List V):Prop:=match k with
 | true=>zR K H a xs
 | false=>zL K H a xs
theorem xS.of (I:Inv X EM Y H s) {k:Bool}{a:Addr}{xs:List V}(h:xS X.K H k a xs):∃ its:List Value,Vals xs its/\SQ s.heap k a its.toArray:=by
 cases k with
 | true=>obtain⟨its,rv,p,_⟩:=I.tuple h;exact⟨its,rv,p⟩
 | false=>obtain⟨its,rv,p,_⟩:=I.list h;exact⟨its,rv,p.isList⟩
theorem xS.inj (I:Inv X EM Y H s) {k:Bool}{a:Addr}{xs ys:List V}(h:xS X.K H k a xs) (h':xS X.K H k a ys):xs=ys:=by
 cases k with
 | true=>exact I.jh h h'
 | false=>exact I.ia h h'
def Zc (K:Ab) (k1 k2:Bool) (a1 a2:Addr):It:=
 ⟨λ i H=>∃ xs ys x y,xS K H k1 a1 xs/\xS K H k2 a2 ys/\xs[i]?=some x/\ys[i]?=some y,
   λ i H v H'=>∃ p x y,v=.ref p/\H p=none/\H'=upd H p (.tup [x,y])/\(∀ xs,xS K H k1 a1 xs->xs[i]?=some x)/\∀ ys,xS K H k2 a2 ys->ys[i]?=some y,
   λ i H=>∃ xs ys,xS K H k1 a1 xs/\xS K H k2 a2 ys/\(xs.length<=i\/ys.length<=i)⟩
theorem YV {P:Program}{w:World}{K:Ab}{es:List Expr}{kk} {pos:Pos}{k1 k2:Bool}{z TI TO i1 i2 a1 a2:Addr}(D:kP z TI TO i1 i2 a1 a2):
  Turn P w K (.Tuple es kk pos) (Zc K k1 k2 a1 a2) [z,TI,TO,i1,i2] z (λ i h=>At h k1 k2 z TI TO i1 i2 a1 a2 .none i) where
 mem:=by simp
 obj:=λ i h st b hb=>by
  obtain⟨q1,q2,⟨_,_,q3⟩,⟨o1,q4,_,d1⟩,⟨o2,q5,_,d2⟩⟩:=st;simp only[Ai,A6,or_false] at hb;rcases hb with e | e | e | e | e <;> subst e
  .exact⟨_,q1,λ v z=>by cases z⟩
  .exact⟨_,q2,λ v z=>by cases z⟩
  .exact⟨_,q3,λ v z=>by cases z⟩
  .exact⟨_,q4,λ v z=>by rw[d1] at z;cases z⟩
  .exact⟨_,q5,λ v z=>by rw[d2] at z;cases z⟩
 keep:=λ i h h' st k=>st.keep k
 item:=by
  intro X hP hw hK hc i EM s Y H E I hf st hg;subst hP hw hK;obtain⟨xs,ys,x,y,g1,g2,hx,hy⟩:=hg;obtain⟨Kd,J5,q1⟩:=g1.of I;obtain⟨it2,Hc,q2⟩:=g2.of I;obtain⟨u1,e1,r1⟩:=J5.get hx;obtain⟨u2,e2,r2⟩:=Hc.get hy;refine ZP.item D st q1 q2 (x:=u1) (y:=u2) (by simpa using e1) (by simpa using e2) λ h' S' T' up=>⟨_,rfl,?_⟩;refine wpAny_letOwnedTupleGo_zip S'.z λ h2 z2 sb=>?_;have nT:s.heap.objs.size∉[z,TI,TO,i1,i2]:=λ hb=>by
   obtain⟨o,ho,_⟩:=(show ∃ o,s.heap.get? s.heap.objs.size=some o/\True from by
    obtain⟨w1,w2,⟨_,_,w3⟩,⟨o1,w4,_⟩,⟨o2,w5,_⟩⟩:=st;simp only[Ai,A6,or_false] at hb;rcases hb with e | e | e | e | e <;> rw[e]
    .exact⟨_,w1,trivial⟩
    .exact⟨_,w2,trivial⟩
    .exact⟨_,w3,trivial⟩
    .exact⟨_,w4,trivial⟩
    .exact⟨_,w5,trivial⟩)
   exact absurd (Ap ho) (Ca _)
  have nz:s.heap.objs.size≠z:=λ e=>nT (by simp[e]);have fr:H s.heap.objs.size=none:=I.zv.fresh (Af _);have I1:Inv X EM Y (upd H s.heap.objs.size (.tup [x,y])) { s with heap:=s.heap.push { cls:=.type "tuple",data:=.seq [u1,u2].toArray },toks:=s.toks }:=
   I.laid (o:=.tup [x,y]) (λ b u q=>KY _ q) (Af _) ⟨by show 2<=sizeLine;decide,[u1,u2],.cons r1 (.cons r2 .nil),IsTup.new _ _⟩
  have G_:∀ b∈[z,TI,TO,i1,i2],upd H s.heap.objs.size (.tup [x,y]) b=none:=λ b hb=>by
   rw[yj (λ e=>nT (by rw[<- e];exact hb))];exact (hf b hb).1
  have kk:∀ b o,b∉[z,TI,TO,i1,i2]->(s.heap.push { cls:=.type "tuple",data:=.seq [u1,u2].toArray }).get? b=some o->h2.get? b=some o:=λ b o hb q=>by
   have EK:b≠z:=λ e=>hb (by simp[e]);by_cases Dr:b=s.heap.objs.size
   .subst Dr;rw[AJ _ rfl] at q;cases q;exact sb.extBut _ _ nz T'
   .have q':s.heap.get? b=some o:=by rw[Heap.get?_push_ne _ _ _ Dr] at q;exact q
    exact sb.extBut _ _ EK (up b o hb q')
  have I2:=Inv.mz (h':=h2) (t':=s.toks) (fp:=[z,TI,TO,i1,i2]) I1 kk λ b hb=>⟨G_ b hb,(hf b hb).2⟩;refine⟨.ref s.heap.objs.size,_,I2,rfl,⟨_,x,y,rfl,fr,rfl,λ zs hz=>by rw[hz.inj I g1];exact hx,λ zs hz=>by rw[hz.inj I g2];exact hy⟩,⟨z2,?_,?_,?_,?_⟩,G_⟩
  .have nd:=D.nd;simp only[A7,Ai,A6,or_false,not_or] at nd;exact sb.extBut _ _ (Ne.symm nd.1.1) S'.ti
  .obtain⟨a,b,e⟩:=S'.to;have nd:=D.nd;simp only[A7,Ai,A6,or_false,not_or] at nd;exact⟨a,b,sb.extBut _ _ (Ne.symm nd.1.2.1) e⟩
  .have nd:=D.nd;simp only[A7,Ai,A6,or_false,not_or] at nd;exact S'.s1.on λ o q=>sb.extBut _ _ (Ne.symm nd.1.2.2.1) q
  .have nd:=D.nd;simp only[A7,Ai,A6,or_false,not_or] at nd;exact S'.s2.on λ o q=>sb.extBut _ _ (Ne.symm nd.1.2.2.2) q
 done:=by
  intro X hP hw hK hc i EM s Y H E I hf st hg;subst hP hw hK;obtain⟨xs,ys,g1,g2,hx⟩:=hg;obtain⟨Kd,J5,q1⟩:=g1.of I;obtain⟨it2,Hc,q2⟩:=g2.of I;have l1:=J5.length;have l2:=Hc.length;refine ZP.stop (I.ok.hd hc) D st q1 q2 ?_ λ h' up=>⟨rfl,I.mz (t':=s.toks) up hf⟩;rcases hx with hx | hx
  .exact .inl (by simp;lia)
  .exact .inr (by simp;lia)
 self:=λ _ _ _ _ _ st h=>wpAny_pyIter_zip st.z h
def Ol (K:Ab) (ta:TA):TI:=fun Y H R=>ta Y H λ vs H1=>∃ a1 a2 k1 k2,vs=[.ref a1,.ref a2]/\(∃ xs,xS K H1 k1 a1 xs)/\(∃ ys,xS K H1 k2 a2 ys)/\R (Zc K k1 k2 a1 a2) H1
theorem W_ {a b:Expr}{ta:TA}{p pos pos':Pos}{es:List Expr}{kk} (hg:Gl X "zip") (hm:X.mg "zip"=none) (ha:PA X [a,b] ta) (hs:starEach [a,b] X.env=[(false,eval a X.env),(false,eval b X.env)]:=by rfl) (Hd:starEach [b] X.env=[(false,eval b X.env)]:=by rfl):
  PI X (.Tuple es kk pos') (.Call (.Name "zip" p) [a,b] [] pos) (Ol X.K ta):=by
 intro EM s Y H R I h;refine Call_ (rO I hg hm boot_zip (PyProof.Rows.callWith_type1 (zA (ha pos EM s Y H _ I h) λ us s1 ⟨vs,H1,I1,r1,q1⟩=>?_) (by rw[hs,Hd]) (by rw[Hd];rfl)));obtain⟨a1,a2,k1,k2,rfl,⟨xs,g1⟩,⟨ys,g2⟩,q⟩:=q1;cases r1 with
 | cons r rr=>
  cases rr with
  | cons r' rr=>
   cases rr;cases r;cases r';obtain⟨Kd,_,q1⟩:=g1.of I1;obtain⟨it2,_,q2⟩:=g2.of I1;refine ZP.new q1 q2 λ h' z TI TO i1 i2 nw D S up=>wpAny_pyIter_zip S.z ?_;exact⟨z,[z,TI,TO,i1,i2],_,_,H1,rfl,I1.kept (t':=s1.toks) up,YV D,S,λ b hb=>I1.oP (nw b hb) (I1.zv.fresh (nw b hb)),q⟩
end
end L2
namespace L5
open PySem PySem.Spec L2 L3
open PyProof.Rows hiding St
section
variable {K:Ab}{a:Expr}{p:Pos}
def c6 (t:yh):xR:=fun L S R=>t L S λ ds S1=>∃ d e xs ys,ds=[d,e]/\zO d S1=some xs/\zO e S1=some ys/\R ⟨List.zipWith (λ x y=>D.tup [x,y]) xs ys,λ S=>zO d S=some xs/\zO e S=some ys⟩ S1
noncomputable def oB:D->Bool
 | .tup _=>true
 | _=>false
theorem zO.k {H:Hp}{S:SS}{d:D}{v:V}{ds:List D}(r:zg K H d v) (p:zJ K H S) (e:zO d S=some ds):∃ a xs,v=.ref a/\xS K H (oB d) a xs/\zl K H ds xs:=by
 by_cases q:∃ ts,d=.tup ts
 .obtain⟨ts,rfl⟩:=q;cases e;simp only[zg] at r;obtain⟨a,xs,h1,h2,h3⟩:=r;exact⟨a,xs,h1,h2,h3⟩
 .obtain⟨a,xs,h1,h2,h3⟩:=sJ r p e λ ts z=>q ⟨ts,z⟩;refine⟨a,xs,h1,?_,h3⟩;have:oB d=false:=by cases d <;> first | rfl | exact absurd ⟨_,rfl⟩ q
  rw[this];exact h2
end
section
variable {X:Cx}{a b:Expr}{tA:yh}{pos p pos':Pos}{es:List Expr}{kk:Nat}
theorem Uj (hm:X.mg "zip"=none) (ha:yR X [a,b] tA) (hg:Gl X "zip") (hs:starEach [a,b] X.env=[(false,eval a X.env),(false,eval b X.env)]) (Hd:starEach [b] X.env=[(false,eval b X.env)]):
  ud X (.Tuple es kk pos') (.Call (.Name "zip" p) [a,b] [] pos) (c6 tA):=by
 refine⟨fun L S Q Q' hq z=>ha.mo L S _ _ (λ ds S1 ⟨d,e,xs,ys,h1,h2,h3,h4⟩=>⟨d,e,xs,ys,h1,h2,h3,hq _ _ h4⟩) z,PI.imp (W_ hg hm ha.pa hs Hd) fun Y H R hu=>?_⟩;obtain⟨L,S,r1,r2,z⟩:=hu;refine xW.go ha.mo r1 r2 z λ ds S1 vs H1 h1 q1 e1 p1=>?_;obtain⟨d,e,xs,ys,rfl,s1,s2,h⟩:=h1;obtain⟨v,u,rfl,d1,d2⟩:=q1.two;obtain⟨a1,us,rfl,g1,g2⟩:=zO.k d1 p1 s1;obtain⟨a2,ws,rfl,g3,g4⟩:=zO.k d2 p1 s2;refine⟨a1,a2,oB d,oB e,rfl,⟨us,g1⟩,⟨ws,g3⟩,h _ H1 e1 p1 λ i H2 S2 x1 x2 hk=>?_⟩;obtain⟨b1,IL,q1,m1,m2⟩:=zO.k (zg.ext x1 d d1) x2 hk.1;cases q1;obtain⟨b2,ws2,q2,m3,m4⟩:=zO.k (zg.ext x1 e d2) x2 hk.2;cases q2;have l1:=m2.length;have l2:=m4.length;refine⟨λ dd hd=>?_,λ hl=>⟨IL,ws2,m1,m3,?_⟩⟩
 .rw[List.getElem?_zipWith] at hd;split at hd
  .rename_i dx dy hx hy;cases hd;obtain⟨x,Hw,rx⟩:=m2.get hx;obtain⟨y,hy',ry⟩:=m4.get hy;refine⟨⟨IL,ws2,x,y,m1,m3,Hw,hy'⟩,λ v H' q=>?_⟩;obtain⟨pp,x',y',rfl,hp,rfl,f1,f2⟩:=q;have ex:x'=x:=by have:=f1 _ m1;rw[Hw] at this;exact (A8 this).symm
   have ey:y'=y:=by have:=f2 _ m3;rw[hy'] at this;exact (A8 this).symm
   subst ex ey;refine⟨.new hp _,x2.new hp,?_⟩;simp only[zg];exact⟨pp,_,rfl,zR.of yz,zl.ext (.new hp _) _ (.cons rx (.cons ry .nil))⟩
  .cases hd
 .have GN:(List.zipWith (λ x y=>D.tup [x,y]) xs ys).length<=i:=hl;rw[List.length_zipWith] at GN
  lia
@[simp] noncomputable def rD:List T->Option (List T)
 | [x,y]=>(xi x).bind λ xs=>(xi y).map λ ys=>List.zipWith (λ a b=>T.tup [a,b]) xs ys
 | _=>none
theorem fT {S:SS}:∀ {ts us:List T}{ds es:List D},zj S ts ds->zj S us es->zj S (List.zipWith (λ a b=>T.tup [a,b]) ts us) (List.zipWith (λ x y=>D.tup [x,y]) ds es)
 | [],us,ds,es,h,h'=>by simp only[zj] at h;subst h;simpa using zj.nil
 | t::ts,[],ds,es,h,h'=>by simp only[zj] at h';subst h';simpa using zj.nil
 | t::ts,u::us,ds,es,h,h'=>by
  simp only[zj] at h h';obtain⟨c,cs,rfl,h1,h2⟩:=h;obtain⟨c',cs',rfl,h3,h4⟩:=h';exact zj.cons (rG (zj.cons h1 (zj.cons h3 zj.nil))) (fT h2 h4)
theorem zO.sx {S S':SS}{d:D}{ds:List D}(h:zO d S=some ds) (s:Sx S S'):zO d S'=some ds:=by
 unfold zO at h ⊢;split at h
 .exact h
 .exact h
 .split at h
  .rename_i q;cases h;rw[s _ _ q]
  .cases h
 .cases h
theorem SM {g:Ev->Option (List T)}(h:rm g tA):rj false (yL rD g) (c6 tA):=λ S Z L J ts Q hE e hq=>by
 obtain⟨ys,e1,e2⟩:=Aj.mp e;refine h S Z L J ys _ hE e1 λ ds S1 s1 r1=>?_;unfold rD at e2;split at e2
 .obtain⟨xs,e3,e4⟩:=Aj.mp e2;obtain⟨zs,e5,rfl⟩:=AE.mp e4;obtain⟨d,d',rfl,h1,h2⟩:=fx r1;obtain⟨es,g1,g2⟩:=h1.seq e3;obtain⟨F6,g3,g4⟩:=h2.seq e5;exact⟨d,d',es,F6,rfl,g1,g3,hq _ S1 s1 (fT g2 g4) λ IC s=>⟨zO.sx g1 s,zO.sx g3 s⟩⟩
 .cases e2
end
end L5
namespace HT
open PySem PyProof.Rows
section
variable {prog:Program}{w:World}{A:Around}{E:Ad}{s:Shared}
theorem NA {t sl:Addr}{items:Ar}{vl vu:Value}{lo hi:Option Int}{Q:Ad}(ht:IsTup s.heap t items) (hs:s.heap.IsSliceOf sl vl vu .none) (pl:IsPart vl lo) (pu:IsPart vu hi)
  (hw:zD items.size 0 lo=0/\zD items.size items.size hi=items.size) (h:Q (.ref t) s):wpAny (model prog w) A (getItem (.ref t) (.ref sl)) Q E s:=by
 have hT:=ht.typeIs;obtain⟨os,e1,e2,e3⟩:=id hs;have hS:s.TypeIs (.ref sl) "slice":=⟨os,e1,e2⟩
 unfold getItem
 try with_reducible refine K0 ?_
 first | refine JY (Ac ?_) | skip
 refine JY (wpAny_sequenceKey hT (by decide) (JY (K8 (name:=Str.ofString "__getitem__") hT PyProof.Rows.slot_tuple_getitem (K2 PyProof.Rows.slot_tuple_getitem hT entry_tuple_getitem ?_ (args_tuple_getitem _ _)))));refine JY (m:=Builtin.Tuple.tupleItemsOf (.ref t)) (tupleItemsOf_ ht (JY (Ll hS ?_)));rw[if_pos (by decide)];refine JY (fZ hs pl pu ?_);have yes:(((zD items.size 0 lo:Nat):Int) == 0&&(1:Int) == 1&&(zD items.size items.size hi-zD items.size 0 lo) == items.size)=true:=by rw[hw.1,hw.2];simp
 show wpAny _ _ (if (((zD items.size 0 lo:Nat):Int) == 0&&(1:Int) == 1&&(zD items.size items.size hi-zD items.size 0 lo) == items.size)=true then _ else _) _ _ s;rw[if_pos yes];refine JY (m:=Builtin.Tuple.tupleIsExact (.ref t)) (JY (Ll hT (Ac ?_)));rw[if_pos (by decide)]
 first
  | exact JY (wpAny_rule (Ac ⟨_,rfl,Ac h⟩))
  | exact JY (wpAny_rule (JY (Ac (Ac ⟨_,rfl,Ac h⟩))))
end
end HT
namespace L2
open PySem PySem.Spec PyProof.Rows
section
variable {X:Cx}
def eL (K:Ab):V->Option Int->Option Int->Hp->VK->Prop:=λ x lo hi H Q=>∃ a xs,x=.ref a/\zR K H a xs/\(HT.zD xs.length 0 lo=0/\HT.zD xs.length xs.length hi=xs.length)/\Q (.ref a) H
theorem XS:rh X (eL X.K):=by
 intro EM s Y H x v vl vu lo hi sl Q I rx hs pl pu h;obtain⟨a,xs,rfl,hx,hw,q⟩:=h;cases rx;obtain⟨its,r,ht,hz⟩:=I.tuple hx;have hlen:its.toArray.size=xs.length:=by rw[Az];exact r.length.symm
 exact⟨"tuple",_,PyProof.Rows.slot_tuple_getitem.lookup,ht.typeIs,HT.NA ht hs pl pu (by rw[hlen];exact hw) ⟨.ref a,H,I,rfl,q⟩⟩
end
end L2
namespace L5
open PySem PySem.Spec L2 L3
open PyProof.Rows hiding St
def vZ {α:Type}(xs:List α) (lo hi:Option Int):List α:=(xs.drop (HT.zD xs.length 0 lo)).take (HT.zD xs.length xs.length hi-HT.zD xs.length 0 lo)
section
variable {X:Cx}{K:Ab}{e:Expr}{lo hi:Option Expr}{te:zr}{tl th:Option zr}{pos p2:Pos}
def u5 (t:Option zr):yd->SS->(Option Int->SS->Prop)->Prop:=fun L S Q=>match t with
 | none=>Q none S
 | some t=>t L S λ d S1=>match d with
  | .int i=>Q (some i) S1
  | _=>False
def Za (t:Option zr):Prop:=∀ u,t=some u->ye u
theorem u5.mo (h:Za tl):∀ L S (Q Q':Option Int->SS->Prop),(∀ d S',Q d S'->Q' d S')->u5 tl L S Q->u5 tl L S Q':=fun L S Q Q' hq z=>by
 cases tl with
 | none=>exact hq _ _ z
 | some t=>exact h t rfl L S _ _ (λ d S1 z=>by cases d <;> first | exact hq _ _ z | exact z) z
noncomputable def YL (K:Ab) (t:Option zr):TO:=fun Y H Q=>∃ L S,yD K H L Y/\zJ K H S/\u5 t L S λ o S1=>∀ H1,Ext H H1->zJ K H1 S1->Q o H1
structure kF (X:Cx) (e:Option Expr) (t:Option zr):Prop where
 mo:Za t
 po:PO X e (YL X.K t)
theorem Ui:kF X none none:=⟨nofun,λ EM s Y H Q I h=>by
 obtain⟨L,S,r1,r2,z⟩:=h;exact WS EM s Y H Q I (z H (.refl H) r2)⟩
theorem Uh (h:PD X e te):kF X (some e) (some te):=⟨λ u q=>by cases q;exact h.mo,λ EM s Y H Q I hu=>by
 refine WR h.pe EM s Y H Q I ?_;obtain⟨L,S,r1,r2,z⟩:=hu;refine zK.go h.mo r1 r2 z λ d S1 v H1 h1 q1 e1 p1=>?_;cases d with
 | int i=>simp only[zg] at q1;exact⟨i,q1,h1 H1 e1 p1⟩
 | zo=>exact h1.elim
 | bl _=>exact h1.elim
 | str _=>exact h1.elim
 | err _ _ _=>exact h1.elim
 | tup _=>exact h1.elim
 | xv _=>exact h1.elim
 | ref _=>exact h1.elim⟩
def ux (d:D) (lo hi:Option Int) (S:SS) (Q:DK):Prop:=match d with
 | .tup ds=>Q (.tup (vZ ds lo hi)) S
 | d=>∃ ds,zO d S=some ds/\∀ p,S p=none->Q (.ref p) (ups S p (.lst (vZ ds lo hi)))
theorem ux.mo {d:D}{lo hi:Option Int}{S:SS}{Q Q':DK}(hq:∀ d S',Q d S'->Q' d S') (h:ux d lo hi S Q):ux d lo hi S Q':=by
 unfold ux at h ⊢;split at h
 .exact hq _ _ h
 .obtain⟨ds,h1,h2⟩:=h;exact⟨ds,h1,λ p hp=>hq _ _ (h2 p hp)⟩
theorem zl.cut {H:Hp}{ds:List D}{xs:List V}(h:zl K H ds xs) (lo hi:Option Int):zl K H (vZ ds lo hi) (uW xs lo hi):=by
 have hd:∀ {ds:List D}{xs:List V}(n:Nat),zl K H ds xs->zl K H (ds.drop n) (xs.drop n):=by
  intro ds
  induction ds with
  | nil=>intro xs n h;simp only[zl] at h;subst h;simpa using zl.nil
  | cons d ds ih=>
   intro xs n h;simp only[zl] at h;obtain⟨y,ys,rfl,h1,h2⟩:=h;cases n with
   | zero=>exact .cons h1 h2
   | succ n=>exact ih n h2
 have ht:∀ {ds:List D}{xs:List V}(n:Nat),zl K H ds xs->zl K H (ds.take n) (xs.take n):=by
  intro ds
  induction ds with
  | nil=>intro xs n h;simp only[zl] at h;subst h;simpa using zl.nil
  | cons d ds ih=>
   intro xs n h;simp only[zl] at h;obtain⟨y,ys,rfl,h1,h2⟩:=h;cases n with
   | zero=>exact .nil
   | succ n=>exact .cons h1 (ih n h2)
 unfold vZ uW;rw[h.length];exact ht _ (hd _ h)
theorem NB {xs:List V}{lo hi:Option Int}(h:HT.zD xs.length 0 lo=0/\HT.zD xs.length xs.length hi=xs.length):uW xs lo hi=xs:=by
 unfold uW;rw[h.1,h.2];simp
abbrev Ww (K:Ab):V->Option Int->Option Int->Hp->VK->Prop:=λ x lo hi H Q=>eN K x lo hi H Q\/(eM K x lo hi H Q\/eL K x lo hi H Q)
theorem ux.fits {d:D}{v:V}{lo hi:Option Int}{H:Hp}{S:SS}{Q:VK}(h1:zg K H d v) (h2:zJ K H S) (h:ux d lo hi S (wb K H Q)):Ww K v lo hi H Q:=by
 unfold ux at h;split at h
 .simp only[zg] at h1;obtain⟨a,xs,rfl,g1,g2⟩:=h1;by_cases hw:HT.zD xs.length 0 lo=0/\HT.zD xs.length xs.length hi=xs.length
  .refine .inr (.inr ⟨a,xs,rfl,g1,hw,h _ H ?_ (.refl H) h2⟩);simp only[zg];refine⟨a,xs,rfl,g1,?_⟩;have:=zl.cut g2 lo hi;rw[NB hw] at this;exact this
  .refine .inr (.inl ⟨a,xs,rfl,g1,hw,λ p hp=>h _ _ ?_ (.new hp _) (h2.new hp)⟩);simp only[zg];exact⟨p,_,rfl,zR.of yz,zl.ext (.new hp _) _ (zl.cut g2 lo hi)⟩
 .rename_i hn;obtain⟨ds,e,h⟩:=h;obtain⟨a,xs,rfl,g1,g2⟩:=sJ h1 h2 e (λ ts z=>hn ts z);exact .inl ⟨a,xs,rfl,g1,λ p hp=>h p (h2.none hp) _ _ (by simp only[zg]) (.new hp _) (h2.ups (.new hp _) ⟨_,yz,zl.ext (.new hp _) _ (zl.cut g2 lo hi)⟩)⟩
def bU (te:zr) (tl th:Option zr):zr:=fun L S Q=>te L S λ x S1=>u5 tl L S1 λ l S2=>u5 th L S2 λ u S3=>ux x l u S3 Q
theorem U8 (he:PD X e te) (hl:kF X lo tl) (hh:kF X hi th):PD X (.Subscript e (.Slice lo hi none p2) pos) (bU te tl th):=by
 refine⟨fun L S Q Q' hq z=>he.mo L S _ _ (λ x S1 z=>u5.mo hl.mo L S1 _ _ (λ l S2 z=>u5.mo hh.mo L S2 _ _ (λ u S3 z=>ux.mo hq z) z) z) z,
  PE.imp (Vt (XW.or (XT.or XS)) he.pe hl.po hh.po) fun Y H Q hu=>?_⟩
 obtain⟨L,S,r1,r2,z⟩:=hu;refine zK.go he.mo r1 r2 z λ x S1 v H1 h1 q1 e1 p1=>?_;refine⟨L,S1,r1.ext e1,p1,u5.mo hl.mo L S1 _ _ (λ l S2 h2 H2 e2 p2=>?_) h1⟩;refine⟨L,S2,(r1.ext e1).ext e2,p2,u5.mo hh.mo L S2 _ _ (λ u S3 h3 H3 e3 p3=>?_) h2⟩;exact ux.fits (zg.ext (e2.trans e3) x q1) p3 (ux.mo (λ d S' z=>z.ext ((e1.trans e2).trans e3)) h3)
@[simp] noncomputable def nB:Option (Ev->Option T)->Ev->Option (Option Int)
 | none,_=>some none
 | some f,J=>(f J).bind λ x=>match x with
  | .int i=>some (some i)
  | _=>none
def kL (f:Option (Ev->Option T)) (t:Option zr):Prop:=∀ S Z L J y Q,ER S Z L J->nB f J=some y->(∀ S',Sx S S'->Q y S')->u5 t L S Q
theorem Rh:kL none none:=λ S Z L J y Q hE e hq=>by cases e;exact hq S (.refl S)
theorem Rg {f:Ev->Option T}(h:yp f te):kL (some f) (some te):=λ S Z L J y Q hE e hq=>by
 obtain⟨x,e1,e2⟩:=Aj.mp e;refine h S Z L J x _ hE e1 λ d S1 s1 r1=>?_;split at e2
 .cases e2;cases Vw.int r1;exact hq S1 s1
 .cases e2
@[simp] noncomputable def lN (lo hi:Option Int):T->Option T
 | .tup ts=>some (.tup (vZ ts lo hi))
 | .lst ts=>some (.lst (vZ ts lo hi))
 | _=>none
@[simp] def mH (f:Ev->Option T) (lo hi:Option (Ev->Option T)):Ev->Option T:=fun J=>(f J).bind λ x=>(nB lo J).bind λ l=>(nB hi J).bind λ u=>lN l u x
theorem zj.cut {S:SS}{ts:List T}{ds:List D}(h:zj S ts ds) (lo hi:Option Int):zj S (vZ ts lo hi) (vZ ds lo hi):=by
 unfold vZ;rw[h.len];exact zj.take' _ (zj.drop' _ h)
theorem R5 {f:Ev->Option T}{l u:Option (Ev->Option T)}(h:yp f te) (hl:kL l tl) (hu:kL u th):xp (mH f l u) (bU te tl th):=λ S Z L J y Q hE e hq=>by
 obtain⟨x,e1,e⟩:=Aj.mp e;obtain⟨l',e2,e⟩:=Aj.mp e;obtain⟨u',e3,e⟩:=Aj.mp e;refine h S Z L J x _ hE e1 λ d S1 s1 r1=>?_;refine hl S1 Z L J l' _ (hE.grow s1) e2 λ S2 s2=>?_;refine hu S2 Z L J u' _ (hE.grow (s1.trans s2)) e3 λ S3 s3=>?_;have r3:Vw S3 Z x d:=Vw.grow r1 (s2.trans s3);have hz:=(hE.grow ((s1.trans s2).trans s3)).zd;unfold lN at e;split at e
 .cases e;obtain⟨ds,rfl,h2⟩:=r3.tup;exact hq _ S3 ((s1.trans s2).trans s3) (Cl.of (λ _=>nofun) (rG (zj.cut h2 _ _)))
 .cases e;obtain⟨ds,h1,h2⟩:=r3.seq rfl;have key:∃ ds,zO d S3=some ds/\∀ p,S3 p=none->Q (.ref p) (ups S3 p (.lst (vZ ds l' u'))):=⟨ds,h1,λ p hp=>hq _ _ (((s1.trans s2).trans s3).trans (.new hp _)) (Cl.cl ((s1.trans s2).trans s3) (tI hz hp (zj.cut h2 _ _)))⟩
  obtain⟨_,q | ⟨a,q,_⟩,_⟩:=r3.lst
  .subst q;exact key
  .subst q;exact key
 .cases e
end
end L5
namespace TM
open PySem PyProof.Rows
theorem noFill:fillsNumberSlot (.type "tuple") "mul"=pure false:=
 PySem.fillsNumberSlot_seq (id:="tuple.__mul__") (r:=some (.builtin "tuple.__rmul__")) F.slot_tuple_mul.lookup (AD) F.slot_tuple_rmul.lookup (AD)
theorem rep:seqRepeat? (.type "tuple")=pure (some (.builtin "tuple.__mul__")):=by
 have a:=PySem.seqSlot_of (T:="tuple") (name:="__mul__") (id:="tuple.__mul__") F.slot_tuple_mul.lookup (AD);have b:=PySem.seqSlot_of (T:="tuple") (name:="__rmul__") (id:="tuple.__rmul__") F.slot_tuple_rmul.lookup (AD);unfold seqRepeat?;rw[a,b];rfl
theorem declines (i:Int) (t:Tok) (l:Addr) (items:Ar) (n:Nat) (dd:Option Addr) (sl:Array (Option Value)):
  Meets (Builtin.«int.__rmul__» ⟨[.int i t,.ref l],[]⟩) (λ _ R s=>s.heap.get? l=some { cls:=.type "tuple",dict:=dd,data:=.seq items n,slots:=sl }/\R (.ok (.ret Value.notImplemented)) s):=
 .of_wp λ prog w A R s h=>by
  obtain⟨hp,g,d,tk,os⟩:=s;obtain⟨hl,h⟩:=h
  wp_walk
  exact⟨_,rfl,h⟩
theorem iJ {α:Type}(xs:List α):∀ (m:Nat) (acc:Array α),(List.replicate m xs.toArray).foldl (·++·) acc=acc++(List.replicate m xs).flatten.toArray
 | 0,acc=>by simp
 | m+1,acc=>by
  rw[BZ,Dw,iJ xs m,BZ,Cr,Array.append_assoc];simp
theorem QR (k:Int) (t:Tok) (l:Addr) (items:Ar) (n:Nat) (dd:Option Addr) (sl:Array (Option Value)) (h1:¬ (decide (k < -(2 ^ 63))||decide (k≥2 ^ 63))=true) (h2:¬ (items.isEmpty||k == 1)=true) (h3:¬ (decide (k<=0)||items.isEmpty)=true)
  (h4:¬ (items.size*k>(2 ^ 63-1)/8)) (h5:¬ Builtin.Tuple.tupleTooMany (items.size*k)=true) (h6:((List.replicate k.toNat items).foldl (·++·) #[]).size<=sizeLine):
  Meets (Builtin.«tuple.__mul__» ⟨[.ref l,.int k t],[]⟩) (λ _ R s=>s.heap.get? l=some { cls:=.type "tuple",dict:=dd,data:=.seq items n,slots:=sl }/\
   R (.ok (.ret (.ref s.heap.objs.size))) { s with heap:=s.heap.push { cls:=.type "tuple",data:=.seq ((List.replicate k.toNat items).foldl (·++·) #[]) } }):=
 .of_wp λ prog w A R s h=>by
  obtain⟨hp,g,d,tk,os⟩:=s;obtain⟨hl,h⟩:=h;have e0:IsTup (Shared.heap ⟨hp,g,d,tk,os⟩) l items:=⟨_,hl,rfl,n,rfl⟩
  wp_walk
  rw[if_neg h1];refine JY (m:=Builtin.Tuple.tupleItemsOf (.ref l)) (tupleItemsOf_ e0 ?_);dsimp only;rw[if_neg h2,if_neg h3,if_neg h4,if_neg h5];exact JY (m:=Builtin.Tuple.tupleExact _) (K6 (Ac ⟨_,rfl,h⟩) h6)
theorem QS (t:Tok) (l:Addr) (items:Ar) (n:Nat) (dd:Option Addr) (sl:Array (Option Value)):
  Meets (Builtin.«tuple.__mul__» ⟨[.ref l,.int 1 t],[]⟩) (λ _ R s=>s.heap.get? l=some { cls:=.type "tuple",dict:=dd,data:=.seq items n,slots:=sl }/\R (.ok (.ret (.ref l))) s):=
 .of_wp λ prog w A R s h=>by
  obtain⟨hp,g,d,tk,os⟩:=s;obtain⟨hl,h⟩:=h;have c:(items.isEmpty||(1:Int) == 1)=true:=by simp
  wp_walk
  exact⟨_,rfl,h⟩
section
variable {prog:Program}{w:World}{A:Around}{E:Ad}{s:Shared}
theorem times {l:Addr}{its:Ae}{k:Int}{t:Tok}{Q:Ad}(ht:IsTup s.heap l its.toArray) (Ao:its≠[]) (h0:1<=k) (hz:its.length*k.toNat<=sizeLine)
  (one:k=1->Q (.ref l) s) (more:k≠1->Q (.ref s.heap.objs.size) { s with heap:=s.heap.push { cls:=.type "tuple",data:=.seq (List.replicate k.toNat its).flatten.toArray } }):
  wpAny (model prog w) A (binaryOp .Mult (.ref l) (.int k t)) Q E s:=by
 have hT:=ht.typeIs;obtain⟨⟨cls,dd,data,sl⟩,ho,hc,n,hd⟩:=id ht;simp only at hc hd;subst hc hd;refine wpAny_binaryOp_repeat_ref (T:="tuple") (U:="int") (by decide) hT (λ s'=>typeIs_int s' k t) noFill F.fills_int_mul F.slot_int_rmul rep F.slot_int_index.lookup
  (call_meets F.slot_int_rmul (typeIs_int s k t) F.entry_int_rmul (F.args_int_rmul_2 _ _) (declines k t l its.toArray n dd sl) ⟨ho,rfl,hT,?_⟩)
 have hlen:0<its.length:=Dc.mpr Ao;have DW:its.toArray.isEmpty=false:=by cases its with
  | nil=>exact absurd rfl Ao
  | cons a r=>rfl
 by_cases h1:k=1
 .subst h1;exact call_meets F.slot_tuple_mul hT F.entry_tuple_mul (F.args_tuple_mul_2 _ _) (QS t l its.toArray n dd sl) ⟨ho,one rfl⟩
 .have hks:k.toNat<=sizeLine:=Br (Nat.le_mul_of_pos_left _ hlen) hz;have hl:sizeLine=16777216:=rfl;have Kr:k<=16777216:=by lia
  have HY:((its.toArray.size:Nat):Int)*k=((its.length*k.toNat:Nat):Int):=by
   rw[Az,Int.natCast_mul,DN (by lia)]
  have hf:(List.replicate k.toNat its.toArray).foldl (·++·) #[]=(List.replicate k.toNat its).flatten.toArray:=by rw[iJ];simp
  have EE:(List.replicate k.toNat its).flatten.length=k.toNat*its.length:=by simp
  refine call_meets F.slot_tuple_mul hT F.entry_tuple_mul (F.args_tuple_mul_2 _ _) (QR k t l its.toArray n dd sl ?_ ?_ ?_ ?_ ?_ ?_) ⟨ho,?_⟩
  .simp only[D3,decide_eq_true_eq,not_or];exact⟨by lia,by lia⟩
  .rw[DW];simpa using h1
  .rw[DW];simp;lia
  .rw[HY];lia
  .rw[HY];intro q;unfold Builtin.Tuple.tupleTooMany at q;have:=of_decide_eq_true q
   lia
  .rw[hf,Az,EE,DD];exact hz
  .rw[hf];exact more h1
end
end TM
namespace L2
open PySem PySem.Spec PyProof.Rows
def j4 (K:Ab):R2:=λ x y H Q=>∃ a k xs,x=.ref a/\y=.int k/\zR K H a xs/\xs≠[]/\1<=k/\xs.length*k.toNat<=sizeLine/\(k=1->Q (.ref a) H)/\(k≠1->∀ p,H p=none->Q (.ref p) (upd H p (.tup (List.replicate k.toNat xs).flatten)))
theorem TN {X:Cx}:zV X (binaryOp .Mult) (j4 X.K):=by
 intro EM s Y H x y v u Q I rx ry h;obtain⟨a,k,xs,rfl,rfl,hx,Ao,h1,hz,q1,q2⟩:=h;cases rx;obtain⟨t,rfl⟩:=ry;obtain⟨its,r,ht,_⟩:=I.tuple hx;have hl:=r.length;refine TM.times ht (λ z=>Ao (r.oz.mp z)) h1 (by rw[<- hl];exact hz) (λ e=>⟨.ref a,H,I,rfl,q1 e⟩) λ e=>?_;have hlen:(List.replicate k.toNat xs).flatten.length<=sizeLine:=by
  have:(List.replicate k.toNat xs).flatten.length=k.toNat*xs.length:=by simp
  rw[this,DD];exact hz
 exact⟨.ref _,_,I.laid (t':=s.toks) (o:=.tup (List.replicate k.toNat xs).flatten) (λ b ob q=>KY _ q) (Af _) ⟨hlen,_,r.rep k.toNat,IsTup.new _ _⟩,rfl,q2 e _ (I.zv.fresh (Af _))⟩
end L2
namespace L5
open PySem PySem.Spec L2 L3
open PyProof.Rows hiding St
section
variable {K:Ab}{a:Expr}
def uQ:y6:=λ x y S Q=>match x,y with
 | .int i,.int j=>vL i j/\Q (.int (i*j)) S
 | .tup ds,.int k=>(ds≠[]/\1<=k/\ds.length*k.toNat<=sizeLine)/\Q (.tup (List.replicate k.toNat ds).flatten) S
 | _,_=>False
noncomputable def jT:T->T->Option T
 | .int i,.int j=>if vL i j then some (.int (i*j)) else none
 | .tup ts,.int k=>if ts≠[]/\1<=k/\ts.length*k.toNat<=sizeLine then some (.tup (List.replicate k.toNat ts).flatten) else none
 | _,_=>none
theorem uQ.mo:xh uQ:=λ x y S Q Q' hq h=>by
 unfold uQ at h ⊢;split at h
 .exact⟨h.1,hq _ _ h.2⟩
 .exact⟨h.1,hq _ _ h.2⟩
 .exact h.elim
theorem zl.rep {H:Hp}{ds:List D}{xs:List V}(h:zl K H ds xs):∀ n:Nat,zl K H (List.replicate n ds).flatten (List.replicate n xs).flatten
 | 0=>.nil
 | n+1=>by
  rw[BZ,BZ,Cr,Cr];exact h.append (zl.rep h n)
theorem uQ.fits:yS K uQ (λ x y H Q=>rI vL (λ i j=>.int (i*j)) x y H Q\/j4 K x y H Q):=λ x y d e H S Q h1 h2 h3 h=>by
 unfold uQ at h;split at h
 .simp only[zg] at h1 h2;exact .inl ⟨_,_,h1,h2,h.1,h.2 _ H (by simp only[zg]) (.refl H) h3⟩
 .rename_i ds k;obtain⟨⟨c1,c2,c3⟩,h⟩:=h;have Jr:=h1;simp only[zg] at h1 h2;obtain⟨a,xs,rfl,g1,g2⟩:=h1;have hl:=g2.length;refine .inr ⟨a,k,xs,rfl,h2,g1,λ z=>c1 (by subst z;cases ds with | nil=>rfl | cons _ _=>simp at hl),c2,by rw[<- hl];exact c3,λ e=>?_,λ e p hp=>?_⟩
  .subst e;refine h _ H ?_ (.refl H) h3;have:(List.replicate (1:Int).toNat ds).flatten=ds:=by simp
   rw[this];exact Jr
  .refine h _ _ ?_ (.new hp _) (h3.new hp);simp only[zg];exact⟨p,_,rfl,zR.of yz,zl.ext (.new hp _) _ (zl.rep g2 _)⟩
 .exact h.elim
theorem zj.rep {S:SS}{ts:List T}{ds:List D}(h:zj S ts ds):∀ n:Nat,zj S (List.replicate n ts).flatten (List.replicate n ds).flatten
 | 0=>.nil
 | n+1=>by
  rw[BZ,BZ,Cr,Cr];exact h.append (zj.rep h n)
theorem c_:Good2 zC jT uQ:=λ S Z x y z d e Q hz hx hy ef hq=>by
 unfold jT at ef;split at ef
 .split at ef
  .rename_i hc;cases ef;cases hx.int;cases hy.int;exact⟨hc,hq _ S (.refl S) (Cl.of (λ _=>nofun) xB)⟩
  .cases ef
 .split at ef
  .rename_i hc;cases ef;obtain⟨ds,rfl,h2⟩:=hx.tup;cases hy.int;have hl:=h2.len;exact⟨⟨λ q=>hc.1 (by subst q;simpa using hl.symm),hc.2.1,by rw[hl];exact hc.2.2⟩,hq _ S (.refl S) (Cl.of (λ _=>nofun) (rG (zj.rep h2 _)))⟩
  .cases ef
 .cases ef
end
end L5
namespace L4
open PySem PyProof.Rows
section
variable {prog:Program}{w:World}{A:Around}{E:Ad}{s:Shared}
theorem NJ {l:Addr}{vs:Ae}{Q:List Value->Shared->Prop}(hl:IsTup s.heap l vs.toArray) (hz:vs.length<=sizeLine)
  (h:Q vs { s with heap:=(s.heap.push (seqObj "list" #[] 0)).update s.heap.objs.size (Obj.mapSeq (·++vs.toArray)) }):wpAny (model prog w) A (collect (.ref l)) Q E s:=by
 obtain⟨o,ho,hc,n,hd⟩:=id hl;have new:(s.heap.push (seqObj "list" #[] 0)).get? s.heap.objs.size=some (seqObj "list" #[] 0):=AJ _ rfl;have F4:(s.heap.push (seqObj "list" #[] 0)).get? l=some o:=KY _ ho;unfold collect;refine JY (wpAny_runValue (codeAny_builtin entry_proto_collect' (JY (m:=newList []) (wpAny_newList (Ac ⟨Code.quiet_builtin _ (AD),codeAny_builtin entry_list_iadd' ?_⟩)))));show wpAny _ _ (Builtin.List.listExtendWith (.ref s.heap.objs.size) (.ref l) (.ref s.heap.objs.size)) _ _ { s with heap:=s.heap.push (seqObj "list" #[] 0) };unfold Builtin.List.listExtendWith;refine JY (Ll (T:="tuple") ⟨o,F4,hc⟩ ?_);rw[if_pos (by rw[show (Value.type "tuple" == Value.type "tuple")=true from rfl];simp)];refine JY (listItems_at F4 hd (JY (listItems_at (xs:=#[]) (n:=0) new rfl ?_)));rw[if_neg (by simp)];refine JY (listUpdate_at (xs:=#[]) (n:=0) new rfl (Ac ?_) (AV _) (by show (#[]++vs.toArray).size<=sizeLine+1;simp only[Array.size_append,Az,C8];lia));refine JY (m:=load s.heap.objs.size) (wpAny_load (get?_update_seq new _) ?_);show wpAny _ _ (pure ((#[]:Ar)++vs.toArray).toList) Q E _;have e:((#[]:Ar)++vs.toArray).toList=vs:=by simp
 rw[e];exact Ac h
theorem XG {l:Addr}{vs:Ae}{Q:Ad}{Out:Array Value->Prop}(hl:IsTup s.heap l vs.toArray) (hz:vs.length<=sizeLine)
  (core:2<=vs.length->∀ s6:Shared,(∀ b o,s.heap.get? b=some o->s6.heap.get? b=some o)->Core prog w A.in1.in1 E vs Out s6) (short:vs.length<2->Out vs.toArray)
  (fin:∀ out:Array Value,Out out->out.size=vs.length->Q (.ref (s.heap.objs.size+1)) { s with heap:=sortedAll s.heap vs out }):
  wpAny (model prog w) A (call (.builtin "sorted") [.ref l]) Q E s:=by
 let h1:=(s.heap.push (seqObj "list" #[] 0)).update s.heap.objs.size (Obj.mapSeq (·++vs.toArray))
 have sz:h1.objs.size=s.heap.objs.size+1:=by show (Heap.update _ _ _).objs.size=_;rw[Heap.size_update,size_push']
 have there:(h1.push (seqObj "list" vs.toArray 0)).get? (s.heap.objs.size+1)=some (seqObj "list" vs.toArray 0):=sz▸AJ _ rfl;have keep:∀ b o,s.heap.get? b=some o->(h1.push (seqObj "list" vs.toArray 0)).get? b=some o:=λ b o q=>by
  refine KY _ ?_;show (Heap.update _ _ _).get? b=_;rw[Heap.get?_update_ne _ _ _ _ (Aw (Ap q))];exact KY _ q
 refine Calls.call_function_entry kind_sorted plain_sorted entry_sorted (args_sorted1 _) ?_;unfold Builtin.«sorted»;refine JY (m:=checkCount "sorted" 1 1 _) (Ac (JY (NJ hl hz (JY (wpAny_newList ?_ hz)))));show wpAny _ _ _ _ _ { s with heap:=h1.push (seqObj "list" vs.toArray 0) };rw[show (Heap.update (s.heap.push (seqObj "list" #[] 0)) s.heap.objs.size (Obj.mapSeq (·++vs.toArray))).objs.size=s.heap.objs.size+1 from sz];refine JY (K0 (K2 slot_list_sort ⟨_,there,rfl⟩ entry_list_sort (j_ there hz (λ h2 s6 k=>core h2 s6 λ b o q=>k b o (Aw (BI (Ap q))) (keep b o q)) short λ out g1 g2=>⟨_,rfl,?_⟩) (args_list_sort _)));exact Ac ⟨_,rfl,fin out g1 g2⟩
end
section
open L2 PySem.Spec
variable {X:Cx}
theorem NV:yy X (.builtin "sorted") (λ xs H Q=>∃ p ys,∃ rows:List (List Int),xs=[.ref p]/\zR X.K H p ys/\Paired (λ v r=>r≠[]/\∃ b,v=V.ref b/\zR X.K H b (r.map V.int)) ys rows/\rows.length<64/\
  ∀ (l:Addr) (idx:List Nat),H l=none->idx.Perm (List.range ys.length)->(idx.map λ i=>rows.getD i []).Pairwise (λ a b=>HT.lexLt b a=false)->Q (.ref l) (upd H l (.lst (idx.map λ i=>ys.getD i .zo)))):=by
 intro EM s Y H xs us Q I r h;obtain⟨p,ys,rows,rfl,hq,hr,GB,q⟩:=h;obtain⟨u,rfl,ru⟩:=vals1 r;cases ru;obtain⟨its,rv,pl,hz⟩:=I.tuple hq;have hl:=rv.length;have B7:ys.length=rows.length:=Paired.length hr;have FJ:∀ h6:Heap,(∀ b o,s.heap.get? b=some o->h6.get? b=some o)->t_ h6 its rows:=λ h6 k=>by
  refine ST.Paired.mk (by lia) λ i a b ha hb=>?_;have hi:i<ys.length:=by have:=(AL.mp hb).1;lia
  obtain⟨Ao,c,hc,CG⟩:=L4.Paired.at' hr (i:=i) hi V.zo ([]:List Int);obtain⟨u,e1,e2⟩:=rv.get (i:=i) (x:=ys.getD i V.zo) (by simp[hi]);rw[ha] at e1;cases e1;rw[hc] at e2;cases (show a=Value.ref c from e2);obtain⟨Fp,Hc,⟨o,e,AU,n,hd⟩,_⟩:=I.tuple CG;have eb:rows.getD i []=b:=by simp[hb]
  rw[eb] at Ao Hc;exact⟨Ao,c,o,_,n,rfl,k _ _ e,AU,hd,by simpa using intsAre_of Hc⟩
 refine XG (Out:=nH its rows) pl (by rw[<- hl];exact hz) (λ h2 s6 k=>iV (FJ _ k) h2 (by lia)) (λ h1=>?_) λ out ho hs=>?_
 .refine⟨List.range its.length,.refl _,?_,?_⟩
  .refine BO (by simp) λ i h1 h2=>?_;simp at h1;simp[h1]
  .rw[Bx,CC];intro i j hi hj A5;simp at hi hj
   lia
 .obtain⟨idx,g1,g2,g3⟩:=ho;obtain⟨e,ho⟩:=sortedAll_at s.heap its out;have H_:idx.Perm (List.range ys.length):=by rw[hl];exact g1
  refine⟨.ref (s.heap.objs.size+1),_,I.laid (t':=s.toks) (o:=.lst (idx.map λ i=>ys.getD i .zo)) (λ b o q=>sortedAll_old q) (C4 _) ?_,rfl,q _ idx (I.zv.fresh (C4 _)) H_ g3⟩;refine⟨by rw[AA,H_.length_eq,B5];exact hz,out.toList,e,?_,by simpa using ho⟩;rw[g2];refine ST.Paired.mk (by simp) λ j a b ha hb=>?_;rw[Ay] at ha hb;obtain⟨i,hi,rfl⟩:=AE.mp ha;rw[hi] at hb;cases hb;have Bv:i<ys.length:=by simpa using H_.mem_iff.mp (Bi hi)
  obtain⟨u,e1,e2⟩:=rv.get (i:=i) (x:=ys.getD i V.zo) (by simp[Bv]);have e3:its.getD i Value.none=u:=by simp[e1]
  show L2.RelV (ys.getD i V.zo) (its.getD i Value.none);rw[e3];exact e2
end
end L4
namespace L5
open PySem PySem.Spec L2 L3
open PyProof.Rows hiding St
section
variable {X:Cx}{K:Ab}{e:Expr}{es:List Expr}{tA:yh}{pos p:Pos}
def sT:xn:=λ ds S Q=>∃ d,∃ rows:List (List Int),ds=[d]/\zO d S=some (rows.map xM)/\rows.length<64/\(∀ r∈rows,r≠[])/\∀ l,S l=none->Q (.ref l) (ups S l (.lst ((L4.yT rows).map xM)))
noncomputable def vN:List T->Option T
 | [y]=>(xi y).bind λ ts=>(vk ts).bind λ rs=>if rs.length<64/\∀ r∈rs,r≠[] then some (.lst ((L4.yT rs).map zx)) else none
 | _=>none
theorem O3:vi zC vN sT:=λ S Z ys z ds Q hz hv e hq=>by
 unfold vN at e;split at e
 .obtain⟨d,rfl,h1⟩:=wV hv;obtain⟨ts,e0,e⟩:=Aj.mp e;obtain⟨rs,e1,e2⟩:=Aj.mp e;split at e2
  .rename_i hc;cases e2;cases jw e1;obtain⟨es,h2,h3⟩:=h1.seq e0;cases qw.mp h3;exact⟨d,rs,rfl,h2,hc.1,hc.2,λ l hl=>hq _ _ (.new hl _) (tI hz hl (qw.mpr rfl))⟩
  .cases e2
 .cases e
theorem sT.mo:vh sT:=λ ds S Q Q' hq ⟨d,rows,h0,h1,h2,h3,h4⟩=>⟨d,rows,h0,h1,h2,h3,λ l hl=>hq _ _ (h4 l hl)⟩
abbrev eK (K:Ab) (sq:Hp->Addr->List V->Prop):List V->Hp->VK->Prop:=λ xs H Q=>∃ p ys,∃ rows:List (List Int),xs=[.ref p]/\sq H p ys/\Paired (λ v r=>r≠[]/\∃ b,v=V.ref b/\zR K H b (r.map V.int)) ys rows/\rows.length<64/\
  ∀ (l:Addr) (idx:List Nat),H l=none->idx.Perm (List.range ys.length)->(idx.map λ i=>rows.getD i []).Pairwise (λ a b=>HT.lexLt b a=false)->Q (.ref l) (upd H l (.lst (idx.map λ i=>ys.getD i .zo)))
theorem yy.or {f:Value}{r r':List V->Hp->VK->Prop}(h:yy X f r) (h':yy X f r'):yy X f (λ xs H Q=>r xs H Q\/r' xs H Q):=λ EM s Y H xs us Q I rv q=>
 q.elim (λ q=>h EM s Y H xs us Q I rv q) λ q=>h' EM s Y H xs us Q I rv q
theorem sT.fits:uf K sT (λ xs H Q=>eK K (zL K) xs H Q\/eK K (zR K) xs H Q):=λ xs ds H S Q h0 h2 h=>by
 obtain⟨d,rows,rfl,e,GB,Ao,h⟩:=h;obtain⟨x,hx,h1⟩:=h0.one;subst hx;obtain⟨a,ys,rfl,g1,g2⟩:=zO.sq h1 h2 e;have hl:=g2.length;rw[AA] at hl;have key:∀ (l:Addr) (idx:List Nat),H l=none->idx.Perm (List.range ys.length)->(idx.map λ i=>rows.getD i []).Pairwise (λ a b=>HT.lexLt b a=false)->Q (.ref l) (upd H l (.lst (idx.map λ i=>ys.getD i .zo))):=λ l idx hf hp hs=>by
  rw[<- hl] at hp;have heq:=L4.jt (dY hp) hs;have hx:Ext H (upd H l (.lst (idx.map λ i=>ys.getD i .zo))):=.new hf _;refine h l (h2.none hf) _ _ (by simp only[zg]) hx (h2.ups hx ⟨_,yz,?_⟩);rw[<- heq];exact zl.ext hx _ (g2.perm λ i hi=>by simpa using hp.mem_iff.mp hi)
 rcases g1 with g1 | g1
 .exact .inl ⟨_,ys,rows,rfl,g1,pZ g2 Ao,GB,key⟩
 .exact .inr ⟨_,ys,rows,rfl,g1,pZ g2 Ao,GB,key⟩
theorem U7 (hm:X.mg "sorted"=none) (ha:yR X (e::es) tA) (hg:Gl X "sorted") (he:starEach (e::es) X.env=(false,eval e X.env)::starEach es X.env) (Aq:(backTo pos (starEach es X.env)).any (·.1)=false):PD X (.Call (.Name "sorted" p) (e::es) [] pos) (xl sT tA):=
 uk (uI (yy.or L4.NY L4.NV) hg hm boot_sorted ha.pa (by decide) (by decide) he Aq) sT.mo sT.fits ha.mo
end
end L5
namespace L2
open PySem PySem.Spec PyProof.Rows
section
variable {X:Cx}
def uc (r:Addr) (j:Int):Heap->Prop:=λ h=>∃ t u v,IsRange h r 0 j 1 t u v
theorem Mc:yy X (.type "range") (λ xs H Q=>∃ j,xs=[.int j]/\∀ r,H r=none->Q (.ref r) (upd H r (.ext (uc r j)))):=by
 intro EM s Y H xs us Q I r h;obtain⟨j,rfl,q⟩:=h;obtain⟨u,rfl,ru⟩:=vals1 r;obtain⟨t,rfl⟩:=ru;refine call_range_1 ⟨.ref s.heap.objs.size,_,I.laid (o:=.ext (uc s.heap.objs.size j)) (λ b o e=>KY _ e) (Af _) ?_,rfl,q _ (I.zv.fresh (Af _))⟩;have here:uc s.heap.objs.size j (s.heap.push { cls:=.type "range",data:=.fields #[.int 0 s.toks,.int j t,.int 1 (s.toks+1)] }):=⟨_,_,_,IsRange.new ..⟩
 refine⟨here,⟨_,AJ _ rfl⟩,λ h1 h2 S k=>?_⟩;obtain⟨a,b,c,e⟩:=S;exact⟨a,b,c,k _ e⟩
theorem Mg (hc:X.calm=true):yy X (.type "list") (λ xs H Q=>∃ r j,xs=[.ref r]/\H r=some (.ext (uc r j))/\0<=j/\j<=16777216/\∀ l,H l=none->Q (.ref l) (upd H l (.lst ((List.range j.toNat).map λ(k:Nat)=>V.int (k:Int))))):=by
 intro EM s Y H xs us Q I r h;obtain⟨a,j,rfl,hr,h0,h1,q⟩:=h;obtain⟨u,rfl,ru⟩:=vals1 r;cases ru;obtain⟨⟨t,u,v,hR⟩,-,-⟩:=(show yJ X.prog X.w H s.heap a (.ext (uc a j)) from I.zv a _ hr)
 have hsz:Builtin.Range.rangeSize 0 j 1=((j.toNat:Nat):Int):=by rw[rangeSize_one];split <;> lia
 refine call_list_range (n:=j.toNat) (I.ok.hd hc) hR (small_one (by decide) (by decide) (by lia) (by lia)) hsz (by lia) λ h' tk acc c k e hi=>?_;refine⟨.ref s.heap.objs.size,_,I.laid (o:=.lst ((List.range j.toNat).map λ(k:Nat)=>V.int (k:Int))) k (Af _) ⟨?_,acc.toList,c,?_,by simpa using e⟩,rfl,q _ (I.zv.fresh (Af _))⟩
 .have:sizeLine=16777216:=rfl;simp;lia
 .obtain⟨hn,hi⟩:=hi;refine ST.Paired.mk (by simp[hn]) λ i a b ha hb=>?_;rw[Ay] at ha;obtain⟨k',hk,rfl⟩:=AE.mp ha;obtain⟨hk1,Kr⟩:=AL.mp hk;simp at Kr;subst Kr;obtain⟨w,hw⟩:=hi i b (by simpa using hb);subst hw;exact⟨w,by simp⟩
end
end L2
namespace L5
open PySem PySem.Spec L2 L3
open PyProof.Rows hiding St
section
variable {X:Cx}{K:Ab}{e:Expr}{tA:yh}{pos p Gk p2:Pos}
def tU:xn:=λ ds S Q=>∃ j:Int,ds=[.int j]/\0<=j/\j<=16777216/\∀ l,S l=none->Q (.ref l) (ups S l (.lst (vn 0 j.toNat)))
noncomputable def o8:List T->Option T
 | [.int j]=>if 0<=j/\j<=16777216 then some (.lst (rangeT 0 j.toNat)) else none
 | _=>none
theorem O7:vi zC o8 tU:=λ S Z ys z ds Q hz hv e hq=>by
 unfold o8 at e;split at e
 .obtain⟨d,rfl,h1⟩:=wV hv;split at e
  .rename_i hc;cases e;cases h1.int;exact⟨_,rfl,hc.1,hc.2,λ l hl=>hq _ _ (.new hl _) (tI hz hl (fU _ _))⟩
  .cases e
 .cases e
theorem tU.mo:vh tU:=λ ds S Q Q' hq ⟨j,h0,h1,h2,h3⟩=>⟨j,h0,h1,h2,λ l hl=>hq _ _ (h3 l hl)⟩
theorem Wl {H:Hp}(n:Nat):zl K H (vn 0 n) ((List.range n).map λ(k:Nat)=>V.int (k:Int)):=by
 unfold vn
 induction List.range n with
 | nil=>exact .nil
 | cons k l ih=>exact .cons (by simp only[zg];rw[Int.zero_add]) ih
theorem tU.fits:uf K tU (λ xs H Q=>∃ j,xs=[.int j]/\∀ r,H r=none->∃ r' j',[V.ref r]=[.ref r']/\(upd H r (.ext (uc r j))) r'=some (.ext (uc r' j'))/\0<=j'/\j'<=16777216/\
  ∀ l,(upd H r (.ext (uc r j))) l=none->Q (.ref l) (upd (upd H r (.ext (uc r j))) l (.lst ((List.range j'.toNat).map λ(k:Nat)=>V.int (k:Int))))):=λ xs ds H S Q h0 h2 h=>by
 obtain⟨j,rfl,c1,c2,h⟩:=h;obtain⟨x,hx,h1⟩:=h0.one;subst hx;simp only[zg] at h1;subst h1;refine⟨j,rfl,λ r hr=>⟨r,j,rfl,yz,c1,c2,λ l hl=>?_⟩⟩;have x1:Ext H (upd H r (.ext (uc r j))):=.new hr _;have B7:l≠r:=λ z=>by subst z;rw[yz] at hl;cases hl
 have hlH:H l=none:=by rw[yj B7] at hl;exact hl
 have x2:Ext (upd H r (.ext (uc r j))) (upd (upd H r (.ext (uc r j))) l (.lst ((List.range j.toNat).map λ(k:Nat)=>V.int (k:Int)))):=.new hl _;exact h l (h2.none hlH) _ _ (by simp only[zg]) (x1.trans x2) ((h2.new hr).ups x2 ⟨_,yz,Wl _⟩)
theorem UP (hm:X.mg "list"=none) (HG:X.mg "range"=none) (ha:yR X [e] tA) (hc:X.calm=true) (hg:Gl X "list") (GW:Gl X "range")
  (Jm:starEach [e] X.env=(false,eval e X.env)::starEach [] X.env)
  (he:starEach [.Call (.Name "range" p2) [e] [] Gk] X.env=(false,eval (.Call (.Name "range" p2) [e] [] Gk) X.env)::starEach [] X.env) (Aq:(backTo pos (starEach [] X.env)).any (·.1)=false) (Iq:(backTo Gk (starEach [] X.env)).any (·.1)=false):
  PD X (.Call (.Name "list" p) [.Call (.Name "range" p2) [e] [] Gk] [] pos) (xl tU tA):=by
 have h:=qA (p:=p) (Mg hc) hg hm PyProof.Rows.boot_list (rJ (qA Mc GW HG boot_range ha.pa (by decide) (by decide) Jm Iq) qC he) (by decide) (by decide) he Aq;exact⟨xl.mo tU.mo ha.mo,PE.imp h λ _ _ _ hu=>fF tU.mo tU.fits ha.mo hu⟩
end
end L5
namespace ST
open PySem PySem.SetTable PySem.Spec PyProof.Rows L2
theorem Oh {us HL:Ae}(p:HL.Perm us):∀ {ms:List Int},IntsAre us ms->∃ Gz,IntsAre HL Gz/\Gz.Perm ms:=by
 induction p with
 | nil=>intro ms h;exact⟨ms,h,.refl _⟩
 | cons x _ ih=>
  intro ms h;cases h with
  | cons n t h=>
   obtain⟨Gz,h1,h2⟩:=ih h;exact⟨n::Gz,.cons n t h1,h2.cons n⟩
 | swap x y l=>
  intro ms h;cases h with
  | cons n t h=>
   cases h with
   | cons m u h=>exact⟨m::n::_,.cons m u (.cons n t h),.swap _ _ _⟩
 | trans _ _ Kf Ke=>
  intro ms h;obtain⟨m1,h1,h2⟩:=Ke h;obtain⟨m2,h3,h4⟩:=Kf h1;exact⟨m2,h3,h4.trans h2⟩
theorem vG.at {prog:Program}{w:World}{h:Heap}{a:Addr}{xs:List (Int×Tok)}(S:vG prog w h a xs (vw w)):yB w a (xs.map λ e=>Value.int e.1 e.2) h:=by
 obtain⟨⟨es,ep,t,ho,he,T,h1,h2,h3⟩,_⟩:=S;have hm:7<=t.mask/\t.mask<=127:=by rcases T.mask with e | e | e <;> lia
 have hlen:es.size=xs.length:=by have:=congrArg List.length he;simpa using this
 exact⟨es,ep,t,⟨ho,fits_of (n:=xs.length) hlen T (by simp) (by lia),T.wo,h1,h2⟩,by rw[he,AF];rfl⟩
theorem cQ:∀ xs:List (Int×Tok),IntsAre (xs.map λ e=>Value.int e.1 e.2) (xs.map (·.1))
 | []=>.nil
 | e::xs=>.cons e.1 e.2 (cQ xs)
theorem fy:∀ {us:Ae}{ns:List Int},IntsAre us ns->Vals (ns.map V.int) us
 | _,_,.nil=>.nil
 | _,_,.cons n t h=>.cons ⟨t,rfl⟩ (fy h)
section
variable {X:Cx}
theorem N_ (hc:X.calm=true):yy X (.type "set") (λ xs H Q=>∃ p,∃ ns:List Int,xs=[.ref p]/\zL X.K H p (ns.map V.int)/\ns.length<64/\
  ∀ (l:Addr) (us:Ae) (ms:List Int),H l=none->IntsAre us ms->ms.Nodup->(∀ n,n∈ms↔n∈ns)->Q (.ref l) (upd H l (.ext (yB X.w l us)))):=by
 intro EM s Y H xs us Q I r h;obtain⟨p,ns,rfl,hq,GB,q⟩:=h;obtain⟨u,rfl,ru⟩:=vals1 r;cases ru;obtain⟨its,rv,pl,hz⟩:=I.list hq;have hl:=rv.length;rw[AA] at hl;have iA:IntsAre its ns:=intsAre_of rv;have nums:Nums its.toArray ns:=λ i v hv=>by
  have Hk:its[i]?=some v:=by simpa using hv
  have hi:i<ns.length:=by rw[hl];exact (AL.mp Hk).1
  obtain⟨u,e1,t,e2⟩:=rv.get (i:=i) (x:=V.int ns[i]) (by simp[hi]);rw[Hk] at e1;cases e1;exact⟨ns[i],t,e2,by simp[hi]⟩
 have hh:X.A.handled=none:=I.ok.hd hc;refine Ma (A:=X.A) hh pl.isList nums (by rw[Az];lia) λ h' tk xs S U k=>?_;have kk:∀ b o,s.heap.get? b=some o->h'.get? b=some o:=λ b o e=>k b o (Ap e) e;have IH:=S.at;refine⟨.ref s.heap.objs.size,_,I.laid (t':=tk) (o:=.ext (yB X.w s.heap.objs.size (xs.map λ e=>Value.int e.1 e.2))) kk (Af _) ?_,rfl,q _ _ (xs.map (·.1)) (I.zv.fresh (Af _)) (cQ xs) S.nd λ n=>⟨λ hn=>?_,λ hn=>?_⟩⟩
 .obtain⟨es,ep,t,St,e⟩:=id IH;exact⟨IH,⟨_,St.get⟩,λ h1 h2 S1 k=>S1.tD k⟩
 .obtain⟨e,he,rfl⟩:=Ah.mp hn;obtain⟨j,_,hj⟩:=U.own e he;exact Bi hj
 .obtain⟨j,hj⟩:=Dv.mp hn;exact U.all j n (by have:=(AL.mp hj).1;rw[Az];lia) hj
theorem NW (hc:X.calm=true):yy X (.builtin "sorted") (λ xs H Q=>∃ l us,∃ ms:List Int,xs=[.ref l]/\H l=some (.ext (yB X.w l us))/\IntsAre us ms/\ms.length<64/\
  ∀ (p:Addr) (ns:List Int),H p=none->ns.Perm ms->ns.Pairwise (·<=·)->Q (.ref p) (upd H p (.lst (ns.map V.int)))):=by
 intro EM s Y H xs us0 Q I r h;obtain⟨l,us,ms,rfl,hl,hm,GB,q⟩:=h;obtain⟨u,rfl,ru⟩:=vals1 r;cases ru;obtain⟨⟨es,ep,t,S,eu⟩,-,-⟩:=(show yJ X.prog X.w H s.heap l (.ext (yB X.w l us)) from I.zv l _ hl)
 have hlen:es.size=us.length:=by rw[<- eu];simp
 have hml:=hm.length;have hh:X.A.handled=none:=I.ok.hd hc;have hp:((comes X.w l es ep).toList.map (·.2)).Perm us:=by rw[<- eu];exact (qX X.w l es ep).map _
 obtain⟨Gz,i1,i2⟩:=Oh hp hm;have AU:=hp.length_eq;have hl24:sizeLine=16777216:=rfl;refine fO (Out:=λ out=>∃ Gy,IntsAre out.toList Gy/\Gy.Perm Gz/\Gy.Pairwise (·<=·)) hh S (by rw[hlen,hml];lia) (λ s6 h2 k=>L4.NG i1 (by rw[AU,<- hlen];exact h2) (by rw[AU,hml];exact GB)) (λ h1=>⟨Gz,by simpa using i1,.refl _,?_⟩) λ out h' tk p ho hs G3 k B9=>?_
 .have:Gz.length<2:=by rw[<- i1.length,AU,<- hlen];exact h1
  match Gz,this with
  | [],_=>exact .nil
  | [_],_=>exact List.pairwise_singleton _ _
 .obtain⟨ns,g1,g2,g3⟩:=ho;obtain⟨e,he⟩:=B9;refine⟨.ref p,_,I.laid (t':=tk) (o:=.lst (ns.map V.int)) k G3 ?_,rfl,q p ns (I.zv.fresh G3) (g2.trans i2) g3⟩;exact⟨by rw[AA,g2.length_eq,i2.length_eq];lia,out.toList,e,fy g1,by simpa using he⟩
end
end ST
namespace L5
open PySem PySem.Spec L2 L3
open PyProof.Rows hiding St
noncomputable def insI (n:Int):List Int->List Int
 | []=>[n]
 | m::l=>if n<m then n::m::l else if n=m then m::l else m::insI n l
noncomputable def we:List Int->List Int
 | []=>[]
 | n::ns=>insI n (we ns)
theorem jV {n k:Int}:∀ {l:List Int},k∈insI n l↔k=n\/k∈l
 | []=>by simp[insI]
 | m::l=>by
  unfold insI;split
  .simp
  .split
   .rename_i h;subst h;simp
   .rw[Ai,jV,Ai];constructor
    .rintro (h | h | h)
     .exact .inr (.inl h)
     .exact .inl h
     .exact .inr (.inr h)
    .rintro (h | h | h)
     .exact .inr (.inl h)
     .exact .inl h
     .exact .inr (.inr h)
theorem mU {k:Int}:∀ {l:List Int},k∈we l↔k∈l
 | []=>.rfl
 | n::l=>by unfold we;rw[jV,mU,Ai]
theorem cT {n:Int}:∀ {l:List Int},l.Pairwise (· < ·)->(insI n l).Pairwise (· < ·)
 | [],_=>List.pairwise_singleton _ _
 | m::l,h=>by
  have h':=Bg.mp h;unfold insI;split
  .rename_i c;refine Bg.mpr ⟨λ x hx=>?_,h⟩;rcases Ai.mp hx with e | e
   .rw[e];exact c
   .exact Int.lt_trans c (h'.1 x e)
  .split
   .exact h
   .rename_i c1 c2;refine Bg.mpr ⟨λ x hx=>?_,cT h'.2⟩;rcases jV.mp hx with e | e
    .rw[e];lia
    .exact h'.1 x e
theorem fC:∀ l:List Int,(we l).Pairwise (· < ·)
 | []=>.nil
 | n::l=>cT (fC l)
theorem YJ {l m:List Int}(h1:l.Nodup) (h2:l.Pairwise (·<=·)) (h3:m.Pairwise (· < ·)) (h:∀ k,k∈l↔k∈m):l=m:=by
 have nm:m.Nodup:=h3.imp λ h e=>by lia
 refine L4.jI (r:=λ a b:Int=>a<=b) (λ a b p q=>by lia) ((D4 h1 nm).mpr h) h2 (h3.imp λ h=>by lia)
section
variable {X:Cx}{K:Ab}{e:Expr}{tA:yh}{pos Gk p p2:Pos}
def oT:xn:=λ ds S Q=>uw ds S Q\/∃ d,∃ ns:List Int,ds=[d]/\(∀ ts,d≠.tup ts)/\zO d S=some (ns.map D.int)/\ns.length<64/\∀ l,S l=none->Q (.ref l) (ups S l (.lst ((we ns).map D.int)))
noncomputable def tF:List T->Option T
 | [.lst ts]=>match vS ts with
  | some ns=>if ns.length<64 then some (.lst ((we ns).map T.int)) else none
  | none=>mE [.lst ts]
 | _=>none
theorem O1:vi zC tF oT:=λ S Z ys z ds Q hz hv e hq=>by
 unfold tF at e;split at e
 .split at e
  .rename_i ns CL;split at e
   .rename_i hc;cases e;cases oG CL;obtain⟨d,rfl,h1⟩:=wV hv;obtain⟨es,h2,h3⟩:=h1.seq rfl;cases tH.mp h3;refine .inr ⟨d,ns,rfl,?_,h2,hc,λ l hl=>hq _ _ (.new hl _) (tI hz hl (tH.mpr rfl))⟩;obtain⟨_,q | ⟨a,q,_⟩,_⟩:=h1.lst <;> subst q <;> exact λ _=>nofun
   .cases e
  .exact .inl (O2 S Z _ z ds Q hz hv e hq)
 .cases e
theorem oT.mo:vh oT:=λ ds S Q Q' hq h=>by
 rcases h with h | ⟨d,ns,h1,h2,h3,h4,h5⟩
 .exact .inl (uw.mo ds S Q Q' hq h)
 .exact .inr ⟨d,ns,h1,h2,h3,h4,λ l hl=>hq _ _ (h5 l hl)⟩
theorem OW {w:World}{xs:List V}{H:Hp}{S:SS}{Q:VK}{d:D}{ns:List Int}(h0:zl K H [d] xs) (h2:zJ K H S) (hn:∀ ts,d≠.tup ts) (e:zO d S=some (ns.map D.int)) (GB:ns.length<64) (h:∀ l,S l=none->wb K H Q (.ref l) (ups S l (.lst ((we ns).map D.int)))):
  ∃ p,∃ Gy:List Int,xs=[.ref p]/\zL K H p (Gy.map V.int)/\Gy.length<64/\
   ∀ (l:Addr) (us:Ae) (ms:List Int),H l=none->IntsAre us ms->ms.Nodup->(∀ n,n∈ms↔n∈Gy)->
    ∃ l' HL,∃ Gz:List Int,[V.ref l]=[.ref l']/\(upd H l (.ext (ST.yB w l us))) l'=some (.ext (ST.yB w l' HL))/\IntsAre HL Gz/\Gz.length<64/\
     ∀ (p:Addr) (ns:List Int),(upd H l (.ext (ST.yB w l us))) p=none->ns.Perm Gz->ns.Pairwise (·<=·)->Q (.ref p) (upd (upd H l (.ext (ST.yB w l us))) p (.lst (ns.map V.int))):=by
 obtain⟨x,hx,h1⟩:=h0.one;subst hx;obtain⟨a,ys,rfl,g1,g2⟩:=sJ h1 h2 e hn;rw[g2.ints] at g1;refine⟨a,ns,rfl,g1,GB,λ l us ms hf hi nd AX=>⟨l,us,ms,rfl,yz,hi,?_,λ p Ka hp pm srt=>?_⟩⟩
 .have:=ST.jR ms ns nd λ x hx=>(AX x).mp hx
  lia
 .have x1:Ext H (upd H l (.ext (ST.yB w l us))):=.new hf _;have Aq:p≠l:=λ z=>by subst z;rw[yz] at hp;cases hp
  have Ko:H p=none:=by rw[yj Aq] at hp;exact hp
  have x2:Ext (upd H l (.ext (ST.yB w l us))) (upd (upd H l (.ext (ST.yB w l us))) p (.lst (Ka.map V.int))):=.new hp _;have heq:Ka=we ns:=YJ (pm.nodup_iff.mpr nd) srt (fC ns) λ k=>by rw[pm.mem_iff,AX,mU]
  refine h p (h2.none Ko) _ _ (by simp only[zg]) (x1.trans x2) ((h2.new hf).ups x2 ⟨_,yz,?_⟩);rw[<- heq];exact zl.jP Ka
theorem U6 {k:Nat}(hr:yi k X.A) (hm:X.mg "sorted"=none) (HG:X.mg "set"=none) (ha:yR X [e] tA) (hc:X.calm=true) (hg:Gl X "sorted") (GW:Gl X "set")
  (Jm:starEach [e] X.env=(false,eval e X.env)::starEach [] X.env)
  (he:starEach [.Call (.Name "set" p2) [e] [] Gk] X.env=(false,eval (.Call (.Name "set" p2) [e] [] Gk) X.env)::starEach [] X.env) (Aq:(backTo pos (starEach [] X.env)).any (·.1)=false) (Iq:(backTo Gk (starEach [] X.env)).any (·.1)=false):
  PD X (.Call (.Name "sorted" p) [.Call (.Name "set" p2) [e] [] Gk] [] pos) (xl oT tA):=by
 have h:=uI (p:=p) (yy.or (ST.NX hc) (ST.NW hc)) hg hm boot_sorted (rJ (qA (yy.or (ST.NZ hc hr.units) (ST.N_ hc)) GW HG PyProof.Rows.boot_set ha.pa (by decide) (by decide) Jm Iq) qC he) (by decide) (by decide) he Aq;refine⟨xl.mo oT.mo ha.mo,PE.imp h fun Y H Q hu=>?_⟩;obtain⟨L,S,r1,r2,z⟩:=hu;refine xW.go ha.mo r1 r2 z λ ds S1 xs H1 h1 q1 e1 p1=>?_;rcases h1 with h1 | ⟨d,ns,rfl,c1,c2,c3,h1⟩
 .obtain⟨p,ys,rows,a1,a2,a3,a4,a5⟩:=uw.fits (w:=X.w) xs ds H1 S1 Q q1 p1 (uw.mo ds S1 _ _ (λ d S' z=>z.ext e1) h1);exact .inl ⟨p,ys,rows,a1,a2,a3,a4,λ l us vs rs b1 b2 b3=>.inl (a5 l us vs rs b1 b2 b3)⟩
 .obtain⟨p,Gy,a1,a2,a3,a4⟩:=OW (w:=X.w) q1 p1 c1 c2 c3 (λ l hl=>(h1 l hl).ext e1);exact .inr ⟨p,Gy,a1,a2,a3,λ l us ms b1 b2 b3 b4=>.inr (a4 l us ms b1 b2 b3 b4)⟩
end
end L5
namespace L5
open PySem PySem.Spec L2 L3
open PyProof.Rows hiding St
section
variable {X:Cx}{e st:Expr}
noncomputable def sO:Sm:=λ _=>none
def bW:yA:=λ _ _ _=>False
theorem VZ {st:Stmt}:xT X st bW:=⟨λ _ _ _ _ _ h=>h.elim,λ _ _ _ _ _ _ ⟨_,_,_,_,h⟩=>h.elim⟩
theorem Sz {R:Rk}:yn R sO bW:=λ S0 Z0 S Z L J o E F e P=>by cases e
end
end L5
namespace L5
open PySem L2 L3
theorem i9:Good2 zC tQ l9:=l4 (λ _ _ _=>wF) λ _ _ _=>nofun
theorem iB:Good2 zC cZ iK:=l4 (λ _ _ _=>wF) λ _ _ _=>nofun
theorem iC:Good2 zC oK iL:=l4 (λ _ _ _=>wF) λ _ _ _=>nofun
end L5
namespace L5
open PySem PySem.Spec L2 L3
open PyProof.Rows hiding St
section
variable {X:Cx}{e:Expr}{te:zr}{pos p q:Pos}
theorem UW (T:Bt X.mg) (he:PD X e te) (hg:Gl X "isinstance") (GW:Gl X "str") (h1:starEach (e::[.Name "str" q]) X.env=(false,eval e X.env)::starEach [.Name "str" q] X.env) (h2:(backTo pos (starEach [.Name "str" q] X.env)).any (·.1)=false) (h3:starEach [.Name "str" q] X.env=(false,eval (.Name "str" q) X.env)::starEach [] X.env):
  PD X (.Call (.Name "isinstance" p) [e,.Name "str" q] [] pos) (qV "str" te):=mQ (by simp) T.isinstance T.str PyProof.Rows.boot_str GW (by decide) (by decide) he hg h1 h2 h3
end
end L5
namespace L3
open PySem PyProof.Rows L2
section
variable {X:Cx}{pos:Pos}
noncomputable def wE (E:rA) (W:Nat->yd->SS->Prop) (m:Nat):rA:={ E with nx:=fun L' S'=>∃ m',m'<m/\W m' L' S',ct:=fun L' S'=>∃ m',m'<m/\W m' L' S',bk:=E.nx }
def nc (c:yx) (tb:yA):yA:=λ E L S=>∃ W:Nat->yd->SS->Prop,(∃ m,W m L S)/\∀ m L S,W m L S->
 c L S λ b S1=>if b=true then tb (wE E W m) L S1 else E.nx L S1
theorem nc.mo {c:yx}{tb:yA}(hc:wD c) (hb:tj tb):tj (nc c tb):=λ E E' L S hE ⟨W,w0,ws⟩=>
 ⟨W,w0,λ m L S hw=>hc L S _ _ (λ b S1 z=>wL (λ z=>hb (wE E W m) (wE E' W m) L S1 ⟨λ _ _ q=>q,hE.rt,hE.nx,λ _ _ q=>q⟩ z) (λ z=>hE.nx _ _ z) z) (ws m L S hw)⟩
theorem VV {c:Expr}{body:List Stmt}{tc:yx}{tb:yA}(hp:PassesOwn (model X.prog X.w) X.A X.env X.xe) (hc:yQ X c tc) (hb:wR X body tb):xT X (.While c body [] pos) (nc tc tb):=by
 refine⟨nc.mo hc.mo hb.mo,PS.imp (WE hp hc.pt hb.ps) λ D Y H hu=>?_⟩;obtain⟨L,S,r1,r2,W,⟨m0,w0⟩,ws⟩:=hu;refine⟨λ m Y' H'=>Ext H H'/\∃ L S,yD X.K H' L Y'/\zJ X.K H' S/\W m L S,⟨m0,.refl _,L,S,r1,r2,w0⟩,?_⟩;rintro m Y2 H2 ⟨x2,L2,S2,q1,q2,w2⟩;refine xV.go hc.mo q1 q2 (ws m L2 S2 w2) λ k S3 H3 h3 e3 p3=>wL (λ z=>?_) (λ z=>?_) h3
 .refine⟨fun Y' H'=>Ext H H'/\∃ L S m',m'<m/\yD X.K H' L Y'/\zJ X.K H' S/\W m' L S,fun Y' H' ⟨a,L',S',m',b,c,d,e⟩=>⟨m',b,a,L',S',c,d,e⟩,L2,S3,q1.ext e3,p3,?_⟩;exact hb.mo (wE (uU X.K H D) W m) _ L2 S3 ⟨fun L5 S5 ⟨m',b,w5⟩ Y5 H5 b1 b2 b3=>⟨(x2.trans e3).trans b2,L5,S5,m',b,b1,b3,w5⟩,λ _ _ q=>wb.ext (x2.trans e3) q,λ _ _ q=>wN.ext (x2.trans e3) q,fun L5 S5 ⟨m',b,w5⟩ Y5 H5 b1 b2 b3=>⟨(x2.trans e3).trans b2,L5,S5,m',b,b1,b3,w5⟩⟩ z
 .exact z Y2 H3 (q1.ext e3) (x2.trans e3) p3
end
end L3
namespace L5
open PySem PyProof.Rows L2 L3
noncomputable def xX (is:List Nat) (c:Ev->Option Bool) (b:Sm):Nat->Ev->Option Out
 | 0,_=>none
 | n+1,J=>(c (yq is J)).bind λ k=>if k=true then (b (yq is J)).bind λ o=>match o with
   | .nx J2=>xX is c b n J2
   | .ct J2=>xX is c b n J2
   | .bk J2=>some (.nx (yq is J2))
   | .rt t=>some (.rt t)
  else some (.nx (yq is J))
def pK (n:Nat) (is:List Nat) (c:Ev->Option Bool) (b:Sm):Sm:=xX is c b n
theorem Sq {R:Rk} [Lo R] {n:Nat}{is:List Nat}{c:Ev->Option Bool}{tc:yx}{b:Sm}{tb:yA}(hc:wU c tc) (hb:yn R b tb):yn R (pK n is c b) (nc tc tb):=λ S0 Z0 S Z L J o E F e P=>by
 obtain⟨SB,b1,FB,b2⟩:=F.rebase;have lo:∀ S' d y,R SB S' Z0 y d->R S0 S' Z0 y d:=λ S' d y r=>Lo.lo b1 (λ _ z=>z) r;refine⟨λ m L' S'=>∃ Z' J',FR SB Z0 S' Z' L' J'/\xX is c b m J'=some o,⟨n,Z,J,FB,e⟩,λ m L' S' ⟨Z',J',F',e'⟩=>?_⟩;cases m with
 | zero=>cases e'
 | succ m=>
  unfold xX at e';obtain⟨k,c1,e'⟩:=Aj.mp e';have G:=F'.yq is;refine hc S' Z' L' _ k _ G.er c1 λ S3 s3=>?_;cases k with
  | true=>
   rw[if_pos rfl] at e' ⊢;obtain⟨o1,g2,e'⟩:=Aj.mp e';refine hb SB Z0 S3 Z' L' _ o1 _ (G.grow s3) g2 ?_;cases o1 with
   | nx J2=>exact λ S3 Z3 L3 F3=>⟨m,Cu m,Z3,J2,F3,e'⟩
   | ct J2=>exact λ S3 Z3 L3 F3=>⟨m,Cu m,Z3,J2,F3,e'⟩
   | bk J2=>cases e';exact λ S3 Z3 L3 F3=>P S3 Z3 L3 ((F3.yq is).back b1 F.z0)
   | rt y=>cases e';exact λ d S3 s3 r3=>P d S3 (b1.trans s3) (lo _ _ _ r3)
  | false=>
   rw[if_neg (by decide)] at e' ⊢;cases e';exact P S3 Z' L' ((G.grow s3).back b1 F.z0)
end L5
namespace ZP
open PySem PyProof.Rows
theorem QZ (k:Bool) (l:Addr) (xs:Ar):Meets (Builtin.«enumerate.__new__» ⟨[.type "enumerate",.ref l],[]⟩) (λ _ R s=>SQ s.heap k l xs/\
   R (.ok (.ret (.ref (s.heap.push (vy k l)).objs.size))) { s with heap:=(s.heap.push (vy k l)).push { cls:=.type "enumerate",data:=.fields #[.none,.bool false,.ref s.heap.objs.size,rawInt 0,.none,.none] } }):=
 .of_wp λ prog w A R s h=>by
  obtain⟨hp,g,d,tk,os⟩:=s;obtain⟨q,h⟩:=h;have El:=sub_enumerate;have hL:SQ (Shared.heap ⟨hp,g,d,tk,os⟩) k l xs:=q;obtain⟨⟨c,z_,dt,sl⟩,hl,hc⟩:=q.cls;replace hc:c=.type (cond k "tuple" "list"):=hc;subst hc
  wp_walk using AutoSeq1.wpAny_loadPart' hl
  refine wpAny_stack_any λ st=>Ac ?_;split
  .rename_i c _ _ _ _ _;cases (c == Value.type "enumerate")
   .wp_walk using AutoSeq1.wpAny_loadPart' hl,made hL
    exact⟨_,rfl,h⟩
   .wp_walk using AutoSeq1.wpAny_loadPart' hl,made hL
    exact⟨_,rfl,h⟩
  .wp_walk using AutoSeq1.wpAny_loadPart' hl,made hL
   exact⟨_,rfl,h⟩
section
variable {prog:Program}{w:World}{A:Around}{E:Ad}{s:Shared}
theorem Nn {k:Bool}{l:Addr}{xs:Ar}{Q:Ad}(hL:SQ s.heap k l xs)
  (h:∀ h',IsEnum h' (s.heap.objs.size+1) s.heap.objs.size 0 .none->SI h' k s.heap.objs.size l 0->(∀ b o,s.heap.get? b=some o->h'.get? b=some o)->Q (.ref (s.heap.objs.size+1)) { s with heap:=h' }):
  wpAny (model prog w) A (call (.type "enumerate") [.ref l]) Q E s:=by
 refine callType_new F.called_enumerate (by decide) (F.typeCall_enumerate_1 _) (F.newCall_enumerate_1 _) (λ obj=>F.args_object_init_2 obj _) F.entry_enumerate_new (QZ k l xs) ⟨hL,?_⟩;have hz:(s.heap.push (vy k l)).objs.size=s.heap.objs.size+1:=Heap.size_push ..;show _/\_;rw[hz];have he:IsEnum ((s.heap.push (vy k l)).push { cls:=.type "enumerate",data:=.fields #[.none,.bool false,.ref s.heap.objs.size,rawInt 0,.none,.none] }) (s.heap.objs.size+1) s.heap.objs.size 0 .none:=by
  have:=AJ (s.heap.push (vy k l)) (o:={ cls:=.type "enumerate",data:=.fields #[.none,.bool false,.ref s.heap.objs.size,rawInt 0,.none,.none] }) rfl;rw[hz] at this;exact this
 exact⟨⟨_,he,rfl⟩,h _ he ⟨_,KY _ (AJ _ rfl),rfl,rfl⟩ λ b o x=>KY _ (KY _ x)⟩
theorem Nw (hh:A.handled=none) (k:Bool) (it l:Addr) (Ao:l≠it) (xs:Ar):Draws prog w A it [it,l] xs.size (λ i v=>xs[i]?=some v) (λ i h=>SI h k it l i/\SQ h k l xs) where
 live:=λ _ _ st=>let ⟨o,ho,_⟩:=st.1;⟨o,ho⟩
 frame:=λ _ _ _ st hk=>⟨st.1.on λ o e=>hk it (by simp) o e,st.2.on λ o e=>hk l (by simp) o e⟩
 item:=λ i s Q E hi st hQ=>draw st.1 st.2 (x:=xs[i]) (by simp[hi]) λ h' EC He=>hQ _ h' s.toks (by simp[hi]) ⟨EC,st.2.on λ o e=>(He.2 l Ao).trans e⟩ He
 done:=λ s Q E st hE=>lE hh st.1 st.2 (by simp) hE
end
end ZP
namespace L2
open PySem PySem.Spec PyProof.Rows ZP
section
variable {X:Cx}{EM:Ag}{Y:St}{H:Hp}{s:Shared}
def Zf (K:Ab) (k:Bool) (a:Addr):It:=
 ⟨λ i H=>∃ xs x,xS K H k a xs/\xs[i]?=some x,
   λ i H v H'=>∃ p x,v=.ref p/\H p=none/\H'=upd H p (.tup [.int i,x])/\∀ xs,xS K H k a xs->xs[i]?=some x,
   λ i H=>∃ xs,xS K H k a xs/\xs.length<=i⟩
theorem Y_ {P:Program}{w:World}{K:Ab}{es:List Expr}{kk} {pos:Pos}{k:Bool}{e it a:Addr}(EG:e≠it) (hea:e≠a) (hai:a≠it):
  Turn P w K (.Tuple es kk pos) (Zf K k a) [e,it] e (λ i h=>(∃ old,IsEnum h e it i old)/\SI h k it a i) where
 mem:=by simp
 obj:=λ i h st b hb=>by
  obtain⟨⟨old,q1⟩,o1,q2,_,d1⟩:=st;simp only[Ai,A6,or_false] at hb;rcases hb with e | e <;> subst e
  .exact⟨_,q1,λ v z=>by cases z⟩
  .exact⟨_,q2,λ v z=>by rw[d1] at z;cases z⟩
 keep:=λ i h h' st k=>⟨let ⟨old,q⟩:=st.1;⟨old,k e (by simp) _ q⟩,st.2.on λ o q=>k it (by simp) o q⟩
 item:=by
  intro X hP hw hK hc i EM s Y H E I hf st hg;subst hP hw hK;obtain⟨xs,x,g1,hx⟩:=hg;obtain⟨its,rv,q1⟩:=g1.of I;obtain⟨u1,e1,r1⟩:=rv.get hx;obtain⟨⟨old,he⟩,si⟩:=st;have An:i<its.toArray.size:=by have:=(AL.mp e1).1;simpa using this
  have D:=Nw (prog:=X.prog) (w:=X.w) (A:=X.A.in1) (show X.A.in1.handled=none from I.ok.hd hc) k it a hai its.toArray;refine wpAny_pyNext_enum_itemD D he ⟨si,q1⟩ An EG (by simp[EG,hea]) λ u h' tk hP ho He hT hsz hk=>⟨_,rfl,?_⟩;have hu:u=u1:=by simp only[List.getElem?_toArray,e1] at hP;exact (A8 hP).symm
  subst hu;have nT:s.heap.objs.size∉[e,it]:=λ hb=>by
   simp only[Ai,A6,or_false] at hb;obtain⟨oi,qi,_⟩:=si;rcases hb with z | z
   .exact absurd (Ap he) (by rw[<- z];exact Ca _)
   .exact absurd (Ap qi) (by rw[<- z];exact Ca _)
  have ne:s.heap.objs.size≠e:=λ z=>nT (by simp[z]);refine wpAny_letOwnedTupleGo_enum ho λ h2 Jm sb=>?_;have fr:H s.heap.objs.size=none:=I.zv.fresh (Af _);have I1:Inv X EM Y (upd H s.heap.objs.size (.tup [.int i,x])) { s with heap:=s.heap.push { cls:=.type "tuple",data:=.seq [.int i tk,u].toArray },toks:=s.toks }:=
   I.laid (o:=.tup [.int i,x]) (λ b u q=>KY _ q) (Af _) ⟨by show 2<=sizeLine;decide,[.int i tk,u],.cons ⟨tk,rfl⟩ (.cons r1 .nil),IsTup.new _ _⟩
  have G_:∀ b∈[e,it],upd H s.heap.objs.size (.tup [.int i,x]) b=none:=λ b hb=>by
   rw[yj (λ z=>nT (by rw[<- z];exact hb))];exact (hf b hb).1
  have kk:∀ b o,b∉[e,it]->(s.heap.push { cls:=.type "tuple",data:=.seq [.int i tk,u].toArray }).get? b=some o->h2.get? b=some o:=λ b o hb q=>by
   have BW:b≠e:=λ z=>hb (by simp[z]);have hbi:b≠it:=λ z=>hb (by simp[z]);by_cases Dr:b=s.heap.objs.size
   .subst Dr;rw[AJ _ rfl] at q;cases q;exact sb.extBut _ _ BW hT
   .have q':s.heap.get? b=some o:=by rw[Heap.get?_push_ne _ _ _ Dr] at q;exact q
    exact sb.extBut _ _ BW (hk b o BW hbi q')
  have I2:=Inv.mz (h':=h2) (t':=tk+1) (fp:=[e,it]) I1 kk λ b hb=>⟨G_ b hb,(hf b hb).2⟩;refine⟨.ref s.heap.objs.size,_,I2,rfl,⟨_,x,rfl,fr,rfl,λ zs hz=>by rw[hz.inj I g1];exact hx⟩,⟨⟨_,by simpa using Jm⟩,He.1.on λ o q=>(sb.2 it (Ne.symm EG)).trans q⟩,G_⟩
 done:=by
  intro X hP hw hK hc i EM s Y H E I hf st hg;subst hP hw hK;obtain⟨xs,g1,hx⟩:=hg;obtain⟨its,rv,q1⟩:=g1.of I;have l1:=rv.length;obtain⟨⟨old,he⟩,si⟩:=st;have hT:s.TypeIs (.ref e) "enumerate":=⟨_,he,rfl⟩
  unfold pyNext;refine JY (wpAny_attempt (K8 (name:=Str.ofString "__next__") hT F.slot_enumerate_next
   (K2 F.slot_enumerate_next hT F.entry_enumerate_next ?_ (F.args_enumerate_next_1 _))))
  show wpAny _ _ (field (.ref e) 2 >>= _) _ _ _;refine JY (K1 he rfl (x:=.ref it) rfl ?_);refine JY (lE (show X.A.in1.handled=none from I.ok.hd hc) si q1 (by simp;lia) λ h' x Ks Hw=>?_);obtain⟨o,ho,hc⟩:=Hw;refine JY (wpAny_isInstance (T:="StopIteration") (b:=true) ⟨o,ho,hc⟩ isSubtype_stop ?_);exact Ac ⟨rfl,I.mz (t':=s.toks) (fp:=[e,it]) (λ b o hb q=>Ks b o (λ z=>hb (by simp[z])) q) hf⟩
 self:=λ _ _ _ _ _ st h=>let ⟨_,q⟩:=st.1;wpAny_pyIter_enum q h
def Oq (K:Ab) (ta:TA):TI:=fun Y H R=>ta Y H λ vs H1=>∃ a k,vs=[.ref a]/\(∃ xs,xS K H1 k a xs)/\R (Zf K k a) H1
theorem Vd {a:Expr}{ta:TA}{p pos pos':Pos}{es:List Expr}{kk} (hg:Gl X "enumerate") (hm:X.mg "enumerate"=none) (ha:PA X [a] ta) (hs:starEach [a] X.env=[(false,eval a X.env)]:=by rfl):
  PI X (.Tuple es kk pos') (.Call (.Name "enumerate" p) [a] [] pos) (Oq X.K ta):=by
 intro EM s Y H R I h;refine Call_ (rO I hg hm boot_enumerate (PyProof.Rows.callWith_type1 (zA (ha pos EM s Y H _ I h) λ us s1 ⟨vs,H1,I1,r1,q1⟩=>?_) (by rw[hs];rfl) rfl));obtain⟨a1,k,rfl,⟨xs,g1⟩,q⟩:=q1;cases r1 with
 | cons r rr=>
  cases rr;cases r;obtain⟨Kd,_,q1⟩:=g1.of I1;have la:=q1.lt;refine ZP.Nn q1 λ h' E S up=>wpAny_pyIter_enum E ?_;have nw:∀ b∈[s1.heap.objs.size+1,s1.heap.objs.size],s1.heap.objs.size<=b:=λ b hb=>by
   simp only[Ai,A6,or_false] at hb;rcases hb with z | z <;> rw[z]
   .exact C4 _
   .exact Af _
  exact⟨_,[s1.heap.objs.size+1,s1.heap.objs.size],_,_,H1,rfl,I1.kept (t':=s1.toks) up,Y_ (Nat.succ_ne_self _) (B2 (BI la)) (Aw la),⟨⟨_,E⟩,S⟩,λ b hb=>I1.oP (nw b hb) (I1.zv.fresh (nw b hb)),q⟩
end
end L2
namespace L5
open PySem PySem.Spec L2 L3
open PyProof.Rows hiding St
noncomputable def uT (k:Nat):List D->List D
 | []=>[]
 | d::ds=>.tup [.int k,d]::uT (k+1) ds
noncomputable def sV (k:Nat):List T->List T
 | []=>[]
 | d::ds=>.tup [.int k,d]::sV (k+1) ds
theorem bJ:∀ (ds:List D) (k i:Nat),(uT k ds)[i]?=(ds[i]?).map λ d=>D.tup [.int ((k+i:Nat):Int),d]
 | [],k,i=>by simp[uT]
 | d::ds,k,0=>by simp[uT]
 | d::ds,k,i+1=>by
  unfold uT;rw[D6,D6,bJ ds (k+1) i,show k+1+i=k+(i+1) from by lia]
theorem bI:∀ (ds:List D) (k:Nat),(uT k ds).length=ds.length
 | [],k=>rfl
 | d::ds,k=>by unfold uT;rw[A4,bI ds];rfl
theorem fV {S:SS}:∀ {ts:List T}{ds:List D}(k:Nat),zj S ts ds->zj S (sV k ts) (uT k ds)
 | [],ds,k,h=>by simp only[zj] at h;subst h;exact zj.nil
 | t::ts,ds,k,h=>by
  simp only[zj] at h;obtain⟨c,cs,rfl,h1,h2⟩:=h;exact zj.cons (rG (zj.cons (by simp only[Sn]) (zj.cons h1 zj.nil))) (fV (k+1) h2)
section
variable {X:Cx}{a:Expr}{tA:yh}{pos p pos':Pos}{es:List Expr}{kk:Nat}
def c8 (t:yh):xR:=fun L S R=>t L S λ ds S1=>∃ d xs,ds=[d]/\zO d S1=some xs/\R ⟨uT 0 xs,λ S=>zO d S=some xs⟩ S1
theorem Uq (hm:X.mg "enumerate"=none) (ha:yR X [a] tA) (hg:Gl X "enumerate") (hs:starEach [a] X.env=[(false,eval a X.env)]):
  ud X (.Tuple es kk pos') (.Call (.Name "enumerate" p) [a] [] pos) (c8 tA):=by
 refine⟨fun L S Q Q' hq z=>ha.mo L S _ _ (λ ds S1 ⟨d,xs,h1,h2,h4⟩=>⟨d,xs,h1,h2,hq _ _ h4⟩) z,PI.imp (Vd hg hm ha.pa hs) fun Y H R hu=>?_⟩;obtain⟨L,S,r1,r2,z⟩:=hu;refine xW.go ha.mo r1 r2 z λ ds S1 vs H1 h1 q1 e1 p1=>?_;obtain⟨d,xs,rfl,s1,h⟩:=h1;obtain⟨v,rfl,d1⟩:=q1.one;obtain⟨a1,us,rfl,g1,g2⟩:=zO.k d1 p1 s1;refine⟨a1,oB d,rfl,⟨us,g1⟩,h _ H1 e1 p1 λ i H2 S2 x1 x2 hk=>?_⟩;obtain⟨b1,IL,q1,m1,m2⟩:=zO.k (zg.ext x1 d d1) x2 hk;cases q1;have l1:=m2.length;refine⟨λ dd hd=>?_,λ hl=>⟨IL,m1,?_⟩⟩
 .rw[bJ,Nat.zero_add] at hd;obtain⟨dx,hx,rfl⟩:=AE.mp hd;obtain⟨x,Hw,rx⟩:=m2.get hx;refine⟨⟨IL,x,m1,Hw⟩,λ v H' q=>?_⟩;obtain⟨pp,x',rfl,hp,rfl,f1⟩:=q;have ex:x'=x:=by have:=f1 _ m1;rw[Hw] at this;exact (A8 this).symm
  subst ex;refine⟨.new hp _,x2.new hp,?_⟩;simp only[zg];exact⟨pp,_,rfl,zR.of yz,zl.ext (.new hp _) _ (.cons (by simp only[zg]) (.cons rx .nil))⟩
 .have GN:(uT 0 xs).length<=i:=hl;rw[bI] at GN
  lia
@[simp] noncomputable def sW:List T->Option (List T)
 | [x]=>(xi x).map λ xs=>sV 0 xs
 | _=>none
theorem SV {g:Ev->Option (List T)}(h:rm g tA):rj false (yL sW g) (c8 tA):=λ S Z L J ts Q hE e hq=>by
 obtain⟨ys,e1,e2⟩:=Aj.mp e;refine h S Z L J ys _ hE e1 λ ds S1 s1 r1=>?_;unfold sW at e2;split at e2
 .obtain⟨xs,e3,rfl⟩:=AE.mp e2;obtain⟨d,rfl,h1⟩:=wV r1;obtain⟨es,g1,g2⟩:=h1.seq e3;exact⟨d,es,rfl,g1,hq _ S1 s1 (fV 0 g2) λ IC s=>zO.sx g1 s⟩
 .cases e2
end
end L5
namespace TM
open PySem PyProof.Rows
theorem N5 (i:Int) (t:Tok) (l:Addr) (items:Ar) (n:Nat) (dd:Option Addr) (sl:Array (Option Value)):
  Meets (Builtin.«int.__rmul__» ⟨[.int i t,.ref l],[]⟩) (λ _ R s=>s.heap.get? l=some { cls:=.type "list",dict:=dd,data:=.seq items n,slots:=sl }/\R (.ok (.ret Value.notImplemented)) s):=
 .of_wp λ prog w A R s h=>by
  obtain⟨hp,g,d,tk,os⟩:=s;obtain⟨hl,h⟩:=h
  wp_walk
  exact⟨_,rfl,h⟩
theorem mulL (l:Addr) (items:Ar) (n:Nat) (x:Int) (u:Tok) (dd:Option Addr) (sl:Array (Option Value)) (hc0:¬(!Builtin.List.listFitsIndex x)=true) (HI:¬items.size*x.toNat>(2 ^ 63-1)/8) (F5:¬Builtin.List.listTooLong (items.size*x.toNat)=true):
  Meets (Builtin.«list.__mul__» ⟨[.ref l,.int x u],[]⟩) (λ _ R s=>s.heap.get? l=some { cls:=.type "list",dict:=dd,data:=.seq items n,slots:=sl }/\R (.ok (.ret (Value.ref s.heap.objs.size))) { s with heap:=s.heap.push { cls:=.type "list",data:=.seq (List.foldl (λ x1 x2=>x1++x2) #[] (List.replicate (if items.isEmpty=true then 0 else x.toNat) items)) } }):=
 .of_wp λ prog w A R s h=>by
  obtain⟨hp,g,d,tk,os⟩:=s;obtain⟨hl,h⟩:=h;have hsz:=AutoListH.joined_fits F5
  wp_walk;refine wpAny_ite_false (KZ (Nat.not_lt.mpr hsz)) ?_;wp_walk;exact⟨_,rfl,h⟩
section
variable {prog:Program}{w:World}{A:Around}{E:Ad}{s:Shared}
theorem Xg {l:Addr}{its:Ae}{k:Int}{t:Tok}{Q:Ad}(ht:PlainL s.heap l its.toArray) (Ao:its≠[]) (h0:0<=k) (hz:its.length*k.toNat<=sizeLine)  (hk:k<=1000000)
  (more:Q (.ref s.heap.objs.size) { s with heap:=s.heap.push { cls:=.type "list",data:=.seq (List.replicate k.toNat its).flatten.toArray } }):
  wpAny (model prog w) A (binaryOp .Mult (.ref l) (.int k t)) Q E s:=by
 obtain⟨⟨cls,dd,data,sl⟩,n,ho,hc,he,hd⟩:=id ht;simp only at hc hd he;subst hc hd he;have hl:sizeLine=16777216:=rfl;have DW:its.toArray.isEmpty=false:=by cases its with
  | nil=>exact absurd rfl Ao
  | cons a r=>rfl
 have hf:List.foldl (λ x1 x2=>x1++x2) #[] (List.replicate (if its.toArray.isEmpty=true then 0 else k.toNat) its.toArray)=(List.replicate k.toNat its).flatten.toArray:=by
  rw[DW,if_neg (by decide)];have:=iJ its k.toNat #[];simpa using this
 refine wpAny_binaryOp_repeat_ref (T:="list") (U:="int") (by decide) ⟨_,ho,rfl⟩ (λ s'=>typeIs_int s' k t) noFill_list_mul F.fills_int_mul F.slot_int_rmul repeat_list F.slot_int_index.lookup
  (call_meets F.slot_int_rmul (typeIs_int s k t) F.entry_int_rmul (F.args_int_rmul_2 _ _) (N5 k t l its.toArray n none sl)
   ⟨ho,rfl,⟨_,ho,rfl⟩,call_meets F.slot_list_mul ⟨_,ho,rfl⟩ F.entry_list_mul (F.args_list_mul_2 _ _)
    (mulL l its.toArray n k t none sl (by simp[Builtin.List.listFitsIndex];lia) (by simp;lia) (by simp[Builtin.List.listTooLong];lia)) ⟨ho,?_⟩⟩)
 rw[hf];exact more
end
end TM
namespace L2
open PySem PySem.Spec PyProof.Rows
def j5 (K:Ab):R2:=λ x y H Q=>∃ a k xs,x=.ref a/\y=.int k/\zL K H a xs/\xs≠[]/\0<=k/\k<=1000000/\xs.length*k.toNat<=sizeLine/\∀ p,H p=none->Q (.ref p) (upd H p (.lst (List.replicate k.toNat xs).flatten))
theorem TQ {X:Cx}:zV X (binaryOp .Mult) (j5 X.K):=by
 intro EM s Y H x y v u Q I rx ry h;obtain⟨a,k,xs,rfl,rfl,hx,Ao,h1,h2,hz,q⟩:=h;cases rx;obtain⟨t,rfl⟩:=ry;obtain⟨its,r,ht,_⟩:=I.list hx;have hl:=r.length;refine TM.Xg ht (λ z=>Ao (r.oz.mp z)) h1 (by rw[<- hl];exact hz) h2 ?_;have hlen:(List.replicate k.toNat xs).flatten.length<=sizeLine:=by
  have:(List.replicate k.toNat xs).flatten.length=k.toNat*xs.length:=by simp
  rw[this,DD];exact hz
 exact⟨.ref _,_,I.laid (t':=s.toks) (o:=.lst (List.replicate k.toNat xs).flatten) (λ b ob q=>KY _ q) (Af _) ⟨hlen,_,0,r.rep k.toNat,AJ _ rfl⟩,rfl,q _ (I.zv.fresh (Af _))⟩
end L2
namespace L5
open PySem PySem.Spec L2 L3
open PyProof.Rows hiding St
section
variable {X:Cx}{K:Ab}{a b:Expr}{ta tb:zr}{pos:Pos}
noncomputable def PV:D->Bool
 | .tup _=>true
 | _=>false
def l8:y6:=λ x y S Q=>∃ k ds,y=.int k/\PV x=false/\zO x S=some ds/\(ds≠[]/\0<=k/\k<=1000000/\ds.length*k.toNat<=sizeLine)/\∀ p,S p=none->Q (.ref p) (ups S p (.lst (List.replicate k.toNat ds).flatten))
def sU:y6:=λ x y S Q=>uQ x y S Q\/l8 x y S Q
noncomputable def uK:T->T->Option T
 | .lst ts,.int k=>if ts≠[]/\0<=k/\k<=1000000/\ts.length*k.toNat<=sizeLine then some (.lst (List.replicate k.toNat ts).flatten) else none
 | x,y=>jT x y
theorem sU.mo:xh sU:=λ x y S Q Q' hq h=>by
 rcases h with h | ⟨k,ds,h1,h2,h3,h4,h5⟩
 .exact .inl (uQ.mo x y S Q Q' hq h)
 .exact .inr ⟨k,ds,h1,h2,h3,h4,λ p hp=>hq _ _ (h5 p hp)⟩
theorem l8.fits:yS K l8 (j5 K):=λ x y d e H S Q h1 h2 h3 h=>by
 obtain⟨k,ds,rfl,ht,hs,⟨c1,c2,c3,c4⟩,h⟩:=h;simp only[zg] at h2;obtain⟨a,xs,rfl,g1,g2⟩:=sJ h1 h3 hs λ ts z=>by subst z;cases ht
 have hl:=g2.length;refine⟨a,k,xs,rfl,h2,g1,λ z=>c1 (by subst z;cases ds with | nil=>rfl | cons _ _=>simp at hl),c2,c3,by rw[<- hl];exact c4,λ p hp=>?_⟩;exact h p (h3.none hp) _ _ (by simp only[zg]) (.new hp _) (h3.ups (.new hp _) ⟨_,yz,zl.ext (.new hp _) _ (zl.rep g2 _)⟩)
theorem sU.fits:yS K sU (λ x y H Q=>(rI vL (λ i j=>.int (i*j)) x y H Q\/j4 K x y H Q)\/j5 K x y H Q):=λ x y d e H S Q h1 h2 h3 h=>by
 rcases h with h | h
 .exact .inl (uQ.fits x y d e H S Q h1 h2 h3 h)
 .exact .inr (l8.fits x y d e H S Q h1 h2 h3 h)
theorem O4:Good2 zC uK sU:=λ S Z x y z d e Q hz hx hy ef hq=>by
 unfold uK at ef;split at ef
 .rename_i ts k;split at ef
  .rename_i hc;cases ef;obtain⟨ds,g1,g2⟩:=hx.seq (ts:=ts) rfl;cases hy.int;have hl:=g2.len;refine .inr ⟨_,ds,rfl,?_,g1,⟨λ q=>hc.1 (by subst q;simpa using hl.symm),hc.2.1,hc.2.2.1,by rw[hl];exact hc.2.2.2⟩,λ p hp=>hq _ _ (.new hp _) (tI hz hp (zj.rep g2 _))⟩;cases d with
   | tup es=>exact absurd hx (by
     intro q;rcases q with q | ⟨us,p,F6,_,q,_⟩
     .simp only[Sn] at q;obtain⟨_,⟨q,_⟩ | ⟨_,q,_⟩,_⟩:=q <;> cases q
     .cases q)
   | _=>rfl
  .cases ef
 .exact .inl (c_ S Z x y z d e Q hz hx hy ef hq)
theorem UE (ha:PD X a ta) (hb:PD X b tb):PD X (.BinOp a .Mult b pos) (yf sU ta tb):=sN ((TU.or TN).or TQ) sU.fits sU.mo ha hb
end
end L5
namespace L3
open PySem PySem.Spec PyProof.Rows L2
section
variable {X:Cx}{K:Ab}{e o:Expr}{te to:zr}{apos Al:Pos}
def s_ (to te:zr):zr:=fun L S Q=>to L S λ x S1=>match x with
 | .ref p=>(∃ ds,S1 p=some (.lst ds))/\te L S1 λ y S2=>∃ q ds es,y=.ref q/\S2 p=some (.lst ds)/\S2 q=some (.lst es)/\ds.length+es.length<=sizeLine/\Q .zo (ups S2 p (.lst (ds++es)))
 | _=>False
theorem s_.mo (h:ye to) (h':ye te):ye (s_ to te):=fun L S Q Q' hq z=>h L S _ _ (λ x S1 z=>by
 cases x with
 | ref p=>exact⟨z.1,h' L S1 _ _ (λ y S2 ⟨q,ds,es,a,b,c,d,w⟩=>⟨q,ds,es,a,b,c,d,hq _ _ w⟩) z.2⟩
 | _=>exact z) z
theorem Tj {e0:Expr}(En:PE X e0 (jq X.K "list" eS (zK X.K to) (jn (zK X.K te) jl))) (h:ye to) (h':ye te):PD X e0 (s_ to te):=by
 refine⟨s_.mo h h',PE.imp En fun Y H Q hu=>?_⟩;obtain⟨L,S,r1,r2,z⟩:=hu;refine zK.go h r1 r2 z λ x S1 v H1 h1 q1 e1 p1=>?_;cases x with
 | ref p=>
  obtain⟨⟨ds,hd⟩,h1⟩:=h1;simp only[zg] at q1;subst q1;obtain⟨xs,g1,g2⟩:=p1 _ _ hd;refine⟨.inl ⟨rfl,xs,zL.of g1⟩,?_⟩;refine zK.go h' (r1.ext e1) p1 h1 λ y S2 w H2 h2 q2 e2 p2=>?_;obtain⟨q,Hz,es,rfl,b1,b2,b3,b4⟩:=h2;simp only[zg] at q2;subst q2;obtain⟨Fg,g3,g4⟩:=p2 _ _ b1;obtain⟨Jy,g5,g6⟩:=p2 _ _ b2;refine⟨p,q,Fg,Jy,rfl,rfl,g3,g5,by rw[<- g4.length,<- g6.length];exact b3,?_⟩;have e4:Ext H2 (upd H2 p (.lst (Fg++Jy))):=.lst g3 _;exact b4 _ _ (by simp only[zg]) ((e1.trans e2).trans e4) (p2.ups e4 ⟨_,yz,zl.ext e4 _ (g4.append g6)⟩)
 | _=>exact h1.elim
theorem UK (ho:PD X o to) (he:PD X e te)
  (GO:attributeBase o "extend" X.env (eval o X.env)=eval o X.env)
  (AR:((backTo Al (starEach [e] X.env)).all (λ x=>!x.1)&&(backToKw Al (keywordEach [] X.env)).all (λ x=>x.1.isSome)
   && decide ([e].length+([]:List Keyword).length+(if ([]:List Keyword).isEmpty then 0 else 1)<30))=true)
  (GK:(apos.endLine == Al.line)=true) (hs:starEach [e] X.env=(false,eval e X.env)::starEach [] X.env) (Gm:(backTo Al (starEach [] X.env)).any (·.1)=false):
  PD X (.Call (.Attribute o "extend" apos) [e] [] Al) (s_ to te):=
 Tj (dh PySem.F.plainAttrs_list PySem.F.slot_list_extend PySem.F.type_list_extend QV ho.pe (rJ he.pe qC hs) GO AR GK hs Gm) ho.mo he.mo
end
end L3
namespace L5
open PySem L2 L3
@[simp] noncomputable def iM (i:Nat) (f:Ev->Option T):Sm:=fun J=>match J[i]? with
 | some (some (.own (.lst ts)))=>(f J).bind λ y=>match y with
  | .lst us=>if ts.length+us.length<=sizeLine then some (.nx (J.set i (some (.own (.lst (ts++us)))))) else none
  | _=>none
 | _=>none
section
variable {R:Rk}{f:Ev->Option T}{te:zr}
theorem SD (i:Nat) (hf:xp f te):yn R (iM i f) (lL (s_ (yw i) te)):=λ S0 Z0 S Z L J o E F e P=>by
 unfold iM at e;split at e
 .rename_i ts h;obtain⟨y,e1,e2⟩:=Aj.mp e;split at e2
  .rename_i us;split at e2
   .rename_i hl;cases e2;obtain⟨p,ob,h1,h2,h3,h4⟩:=F.er.ow i _ h;obtain⟨ds,rfl⟩:∃ ds,ob=.lst ds:=by
     cases ob with
     | lst ds=>exact⟨ds,rfl⟩
     | z_ _=>exact h3.elim
    replace h3:zj (zQ S Z) ts ds:=h3;show s_ (yw i) te L S _;unfold s_ yw;rw[h1];refine⟨⟨ds,h2⟩,hf S Z L J _ _ F.er e1 λ d S1 s1 r1=>?_⟩;obtain⟨q,es,rfl,g1,g2,g3⟩:=r1.2 us rfl;have F1:=F.grow s1;have g4:zj (zQ S1 Z) us es:=zj.sx (uO λ a z=>.inl z) us g3;refine⟨q,ds,es,rfl,s1 _ _ h2,g2,by rw[h3.len,g4.len];exact hl,P _ Z L (F1.mut (us:=.lst (ts++us)) (es:=.lst (ds++es)) i h h1 ((zj.sx (wz s1) ts h3).append g4))⟩
   .cases e2
  .cases e2
 .cases e
end
end L5
namespace L5
open PySem PySem.Spec L2 L3
open PyProof.Rows hiding St
section
variable {X:Cx}{K:Ab}{e:Expr}{es:List Expr}{tA:yh}{pos p:Pos}
def uR:xn:=λ ds S Q=>match ds with
 | [.int i]=>Q (.int i) S
 | [.bl k]=>Q (.int (if k then 1 else 0)) S
 | _=>False
theorem uR.mo:vh uR:=λ ds S Q Q' hq h=>by
 unfold uR at h ⊢;split at h
 .exact hq _ _ h
 .exact hq _ _ h
 .exact h.elim
theorem uR.fits:uf K uR (λ xs H Q=>(∃ i,xs=[.int i]/\Q (.int i) H)\/∃ k,xs=[.bl k]/\Q (.int (if k then 1 else 0)) H):=λ xs ds H S Q h0 h2 h=>by
 unfold uR at h;split at h
 .obtain⟨x,rfl,h1⟩:=h0.one;simp only[zg] at h1;subst h1;exact .inl ⟨_,rfl,h _ H (by simp only[zg]) (.refl H) h2⟩
 .obtain⟨x,rfl,h1⟩:=h0.one;simp only[zg] at h1;subst h1;exact .inr ⟨_,rfl,h _ H (by simp only[zg]) (.refl H) h2⟩
 .exact h.elim
theorem UZ (hm:X.mg "int"=none) (ha:yR X (e::es) tA) (hg:Gl X "int") (he:starEach (e::es) X.env=(false,eval e X.env)::starEach es X.env) (Aq:(backTo pos (starEach es X.env)).any (·.1)=false):PD X (.Call (.Name "int" p) (e::es) [] pos) (xl uR tA):=
 uk (qA Mk hg hm PyProof.Rows.boot_int ha.pa (by decide) (by decide) he Aq) uR.mo uR.fits ha.mo
@[simp] noncomputable def qK:List T->Option T
 | [.int i]=>some (.int i)
 | [.bl k]=>some (.int (if k then 1 else 0))
 | _=>none
theorem good_int:vi zC qK uR:=λ S Z ys z ds Q hz hv e hq=>by
 unfold qK at e;split at e
 .cases e;obtain⟨d,rfl,h1⟩:=wV hv;cases h1.int;exact hq _ S (.refl S) (Cl.of (λ _=>nofun) xB)
 .cases e;obtain⟨d,rfl,h1⟩:=wV hv;cases h1.bl;exact hq _ S (.refl S) (Cl.of (λ _=>nofun) xB)
 .cases e
end
section
variable {α:Type}{P:List α->Prop}
theorem M6 (h:∀ a,P [a]) (us:List α) (hl:us.length=1):P us:=match us,hl with | [a],_=>h a
theorem M5 (h:∀ a b,P [a,b]) (us:List α) (hl:us.length=2):P us:=match us,hl with | [a,b],_=>h a b
theorem M4 (h:∀ a b c,P [a,b,c]) (us:List α) (hl:us.length=3):P us:=match us,hl with | [a,b,c],_=>h a b c
theorem M3 (h:∀ a b c d,P [a,b,c,d]) (us:List α) (hl:us.length=4):P us:=match us,hl with | [a,b,c,d],_=>h a b c d
end
end L5
namespace L5
open PySem PySem.Spec L2 L3
open PyProof.Rows hiding St
section
variable {P:Program}{w:World}{K:Ab}{mg:AI}{base h:Heap}{x:Str}{st:Stmt}
def Fx (K:Ab) (x:Str) (st:Stmt):Prop:=∃ (f:Addr) (oc:Value) (od:Option Addr) (kV dc pm:Value) (an:Option Addr) (cd ct:Value) (sl:Array (Option Value)),
 PySem.W.nsIn K mainGlobals x=some (some (.ref f))/\K.lookup f=some ⟨oc,od,.func (PySem.W.fnOf x x (uV st) (wc st) (ym st) .none kV dc pm an cd ct),sl⟩/\PySem.W.codeIn K cd x=true/\PySem.W.keepIn K (.ref f)=true
theorem Fx.i {f:Addr}{oc:Value}{od:Option Addr}{kV dc pm:Value}{an:Option Addr}{cd ct:Value}{sl:Array (Option Value)}(a:PySem.W.nsIn K mainGlobals x=some (some (.ref f))) (l:K.lookup f=some ⟨oc,od,.func (PySem.W.fnOf x x (uV st) (wc st) (ym st) .none kV dc pm an cd ct),sl⟩) (c:PySem.W.codeIn K cd x=true) (k:PySem.W.keepIn K (.ref f)=true):Fx K x st:=⟨f,oc,od,kV,dc,pm,an,cd,ct,sl,a,l,c,k⟩
def Fy (K:Ab) (mg:AI) (x:Str) (st:Stmt):Prop:=∃ (f:Addr) (fd:FuncData),ue K x x st f fd/\mg x=some (.ref f)
theorem Fx.mk (H:Fx K x st) (X:K.In h) (G:h.Ns mainGlobals mg):Fy K mg x st:=by
 obtain⟨f,oc,od,kV,dc,pm,an,cd,ct,sl,a,l,c,k⟩:=H;exact⟨f,_,bq l c k,PySem.W.mg_of X G a⟩
theorem Fx.law {fa:Addr}{p:Str}(H:Fx K "law" st) (X:K.In h) (G:h.Ns mainGlobals mg) (EF:mg "law"=some (.ref fa)) (hb:∀ (kV dc pm:Value) (an:Option Addr) (cd ct:Value) (s:Shared) (v:Value),BindsTo s (PySem.W.fnOf "law" "law" (uV st) (wc st) (ym st) .none kV dc pm an cd ct) ⟨[v],[]⟩ [(p,v)]):∃ fd:FuncData,ue K "law" "law" st fa fd/\∀ (s:Shared) (v:Value),BindsTo s fd ⟨[v],[]⟩ [(p,v)]:=by
 obtain⟨f,oc,od,kV,dc,pm,an,cd,ct,sl,a,l,c,k⟩:=H;have e:=EF.symm.trans (PySem.W.mg_of X G a);cases e;exact⟨_,bq l c k,hb kV dc pm an cd ct⟩
def Cn (K:Ab) (x:Str) (t:V):Prop:=∃ u,PySem.W.nsIn K mainGlobals x=some (some u)/\L2.RelV t u
theorem Cn.i {t:V}{u:Value}(a:PySem.W.nsIn K mainGlobals x=some (some u)) (r:L2.RelV t u):Cn K x t:=⟨u,a,r⟩
theorem Cn.mk {t:V}(H:Cn K x t) (X:K.In h) (G:h.Ns mainGlobals mg):∃ u,mg x=some u/\L2.RelV t u:=by
 obtain⟨u,a,r⟩:=H;exact⟨u,PySem.W.mg_of X G a,r⟩
theorem Nb {R:Rk} [Lo R] {N ps:List Str}{k n:Nat}{g:Sm}(F:Fy K mg x st) (Sc:tm N ps (ym st)) (hn:n=ps.length)
  (hb:∀ (kV doc pm:Value) (an:Option Addr) (Ak ct:Value) (us:Ae),us.length=ps.length->bindArgs (PySem.W.fnOf x x (uV st) (wc st) (ym st) .none kV doc pm an Ak ct) ⟨us,[]⟩=pure (ps.zip us))
  (Fi:∀ (f:Addr) (Ak:Value) (A:Around) (outer:List Env) (s:Shared) (H:Hp) (E:XK),yi k (A.deeper (envOfC x (ym st) s.heap.objs.size f Ak))->
   ∃ t,wR (wA xt P w K mg base N x (ym st) f Ak A outer s H E).wX (wc st) t/\yn R g t):FD P w K mg base x (k+1) ps (zF R (zI N n g)):=by
 obtain⟨f,fd,F,hm⟩:=F;exact Nc F hm Sc hn hb (Fi f)
end
end L5
namespace L2
open PySem PySem.Spec PyProof.Rows
def kO (lo c:Int) (n:Nat):It:=⟨λ i _=>i<n,λ i H x H'=>H'=H/\x=.int (lo+i*c),λ i _=>n<=i⟩
theorem YX {P:Program}{w:World}{K:Ab}{tg:Expr}(it:Addr) (lo c:Int) (n:Nat):Turn P w K tg (kO lo c n) [it] it (λ i h=>IsRangeIter h it (lo+(i:Nat)*c) ((n:Int)-(i:Nat)) c) where
 mem:=by simp
 obj:=λ i h st b hb=>by
  have e:b=it:=by simpa using hb
  subst e;exact⟨_,st,λ v z=>by
   have z':Data.fields _=Data.cell v:=z;cases z'⟩
 keep:=λ i h h' st k=>k it (by simp) _ st
 item:=by
  intro X hP hw hK hc i EM s Y H E I hf st hg;subst hP hw hK;obtain⟨f0,f1,f2,f3,f4,f5⟩:=hf it (by simp);have W:=Walks.range (prog:=X.prog) (w:=X.w) (I.ok.hd hc) it lo c n;refine W.item i s _ _ hg st λ v h' tk hv GJ kk=>?_;obtain⟨t,rfl⟩:=hv;have I1:Inv X EM Y H { s with heap:=h',toks:=tk }:=I.turned (λ b o hb e=>kk b o (by simpa using hb) e) f0 f1 f3 f4 f5;exact⟨_,rfl,l5 (s:={ s with heap:=h',toks:=tk }) (n:="range_iterator") GJ rfl rfl (by decide) ⟨.int (lo+i*c),H,I1,⟨t,rfl⟩,⟨rfl,rfl⟩,GJ,λ b hb=>(hf b hb).1⟩⟩
 done:=by
  intro X hP hw hK hc i EM s Y H E I hf st hg;subst hP hw hK;obtain⟨f0,f1,f2,f3,f4,f5⟩:=hf it (by simp);exact wpAny_pyNext_range_end (I.ok.hd hc) st (by have:n<=i:=hg;lia) λ h' eb=>⟨rfl,I.turned (t':=s.toks) (λ b o hb e=>eb b o hb e) f0 f1 f3 f4 f5⟩
 self:=λ _ _ _ _ _ st h=>wpAny_pyIter_rangeiter st h
noncomputable def uq (i j c:Int):Nat:=if i<j then ((j-i-1)/c+1).toNat else 0
theorem dU {i j c:Int}(hc:0<c):((uq i j c:Nat):Int)=Builtin.Range.rangeSize i j c:=by
 unfold uq Builtin.Range.rangeSize;rw[if_pos hc];split
 .rename_i h;have:0<=(j-i-1)/c:=Int.ediv_nonneg (by lia) (by lia)
  lia
 .rfl
theorem XO {a b c:Int}(ha:-(2 ^ 31)<=a) (ha':a<2 ^ 31) (hb:-(2 ^ 31)<=b) (HZ:b<2 ^ 31) (hc:0<c) (Kt:c<1000000):Builtin.Range.small a b c=true:=by
 have e:=dU (i:=a) (j:=b) hc;have h1:(b-a-1)/c<=(b-a-1)\/¬ a<b:=by
  by_cases h:a<b
  .exact .inl (Int.ediv_le_self _ (by lia))
  .exact .inr h
 have h2:0<=Builtin.Range.rangeSize a b c/\Builtin.Range.rangeSize a b c<=2 ^ 33:=by
  refine⟨by lia,?_⟩;unfold Builtin.Range.rangeSize;rw[if_pos hc];split <;> lia
 have h3:Builtin.Range.rangeSize a b c*c<=2 ^ 33*1000000:=by
  refine Int.le_trans (D2 h2.2 (by lia)) ?_;exact Int.mul_le_mul_of_nonneg_left (by lia) (by decide)
 have h4:0<=Builtin.Range.rangeSize a b c*c:=Int.mul_nonneg h2.1 (by lia);unfold Builtin.Range.small;simp only[Builtin.Range.rangeFitsLong,Bc,D3,decide_eq_true_eq,beq_iff_eq,hc,if_true]
 lia
section
variable {X:Cx}{tg:Expr}
theorem Wq {EM:Ag}{Y:St}{H:Hp}{s:Shared}{R:It->Hp->Prop}{E:Ad}{lo hi c:Int}{t u v:Tok}{tk:Nat}(I:Inv X EM Y H s) (h1:-(2 ^ 31)<=lo) (h2:lo<2 ^ 31) (h3:-(2 ^ 31)<=hi) (h4:hi<2 ^ 31) (h5:0<c) (h6:c<1000000)
  (q:R (kO lo c (uq lo hi c)) H):wpAny (model X.prog X.w) X.A (pyIter (.ref s.heap.objs.size)) (gy X EM Y tg R) E { s with heap:=s.heap.push { cls:=.type "range",data:=.fields #[.int lo t,.int hi u,.int c v] },toks:=tk }:=by
 refine wpAny_pyIter_range (IsRange.new ..) (XO h1 h2 h3 h4 h5 h6) ?_;have I1:Inv X EM Y H { s with heap:=s.heap.push { cls:=.type "range",data:=.fields #[.int lo t,.int hi u,.int c v] },toks:=tk }:=I.kept λ b o e=>KY _ e;refine⟨(s.heap.push { cls:=.type "range",data:=.fields #[.int lo t,.int hi u,.int c v] }).objs.size,[(s.heap.push { cls:=.type "range",data:=.fields #[.int lo t,.int hi u,.int c v] }).objs.size],_,_,H,rfl,
  I1.kept (t':=tk) λ b o e=>KY _ e,YX _ lo c (uq lo hi c),?_,λ b hb=>?_,q⟩
 .have e1:lo+((0:Nat):Int)*c=lo:=by simp
  have e2:((uq lo hi c:Nat):Int)-((0:Nat):Int)=Builtin.Range.rangeSize lo hi c:=by rw[dU h5];simp
  show IsRangeIter _ _ (lo+((0:Nat):Int)*c) (((uq lo hi c:Nat):Int)-((0:Nat):Int)) c;rw[e1,e2];exact AJ _ rfl
 .have e:b=(s.heap.push { cls:=.type "range",data:=.fields #[.int lo t,.int hi u,.int c v] }).objs.size:=by simpa using hb
  subst e;exact I1.oP (Af _) (I1.zv.fresh (Af _))
def Oo (ta:TA):TI:=fun Y H R=>ta Y H λ vs H1=>∃ i j c:Int,vs=[.int i,.int j,.int c]/\(-(2 ^ 31)<=i/\i<2 ^ 31/\-(2 ^ 31)<=j/\j<2 ^ 31/\0<c/\c<1000000)/\R (kO i c (uq i j c)) H1
theorem Vb {a b c:Expr}{ta:TA}{p pos:Pos}(hg:Gl X "range") (hm:X.mg "range"=none) (ha:PA X [a,b,c] ta) (hs:starEach [a,b,c] X.env=[(false,eval a X.env),(false,eval b X.env),(false,eval c X.env)]:=by rfl) (Hd:starEach [b,c] X.env=[(false,eval b X.env),(false,eval c X.env)]:=by rfl):
  PI X tg (.Call (.Name "range" p) [a,b,c] [] pos) (Oo ta):=by
 intro EM s Y H R I h;refine Call_ (rO I hg hm boot_range (PyProof.Rows.callWith_type1 (zA (ha pos EM s Y H _ I h) λ us s1 ⟨vs,H1,I1,r1,q1⟩=>?_) (by rw[hs,Hd]) (by rw[Hd];rfl)));obtain⟨i,j,c,e,⟨q1,q2,q3,q4,q5,q6⟩,q⟩:=q1;subst e;cases r1 with
 | cons r rr=>
  cases rr with
  | cons r' rr=>
   cases rr with
   | cons r2 rr=>
    cases rr;obtain⟨t,rfl⟩:=r;obtain⟨t',rfl⟩:=r';obtain⟨t2,rfl⟩:=r2;exact call_range_3 (by lia) (Wq I1 q1 q2 q3 q4 q5 q6 q) (.inl (PyProof.noPylong_small (by lia)))
end
end L2
namespace L3
open PySem PySem.Spec L2
open PyProof.Rows hiding St
section
variable {X:Cx}{K:Ab}{tg e a b c:Expr}{es:List Expr}{tA:yh}{pos p:Pos}
noncomputable def tJ (lo c:Int) (n:Nat):List D:=(List.range n).map λ(k:Nat)=>D.int (lo+(k:Int)*c)
theorem Wv {lo c:Int}{n i:Nat}{d:D}(h:(tJ lo c n)[i]?=some d):i<n/\d=.int (lo+(i:Int)*c):=by
 unfold tJ at h;rw[Ay] at h;cases q:(List.range n)[i]? with
 | none=>rw[q] at h;cases h
 | some k=>
  rw[q] at h;obtain⟨h1,h2⟩:=AL.mp q;rw[B5] at h1;rw[DH] at h2;subst h2;cases h;exact⟨h1,rfl⟩
theorem nL.Ws {H1:Hp}{lo c:Int}{n:Nat}:nL K H1 (kO lo c n) ⟨tJ lo c n,λ _=>True⟩:=λ i H S _ x2 _=>by
 refine⟨λ d hd=>?_,λ hl=>by rw[show (pE.mk (tJ lo c n) λ _=>True).items=tJ lo c n from rfl] at hl;unfold tJ at hl;rw[AA,B5] at hl;exact hl⟩;obtain⟨h1,rfl⟩:=Wv hd;refine⟨h1,λ x H' q=>?_⟩;obtain⟨rfl,rfl⟩:=q;exact⟨.refl _,x2,by simp only[zg]⟩
def c7 (t:yh):xR:=fun L S R=>t L S λ ds S1=>match ds with
 | [.int i,.int j,.int c]=>(-(2 ^ 31)<=i/\i<2 ^ 31/\-(2 ^ 31)<=j/\j<2 ^ 31/\0<c/\c<1000000)/\R ⟨tJ i c (uq i j c),λ _=>True⟩ S1
 | _=>False
theorem zl.three {H:Hp}{d d' d2:D}{xs:List V}(h:zl K H [d,d',d2] xs):∃ x y z,xs=[x,y,z]/\zg K H d x/\zg K H d' y/\zg K H d2 z:=by
 simp only[zl] at h;obtain⟨x,r,rfl,h1,y,r',rfl,h2,z,r2,rfl,h3,rfl⟩:=h;exact⟨x,y,z,rfl,h1,h2,h3⟩
theorem Ul (hm:X.mg "range"=none) (ha:yR X [a,b,c] tA) (hg:Gl X "range") (hs:starEach [a,b,c] X.env=[(false,eval a X.env),(false,eval b X.env),(false,eval c X.env)]) (Hd:starEach [b,c] X.env=[(false,eval b X.env),(false,eval c X.env)]):ud X tg (.Call (.Name "range" p) [a,b,c] [] pos) (c7 tA):=by
 refine⟨fun L S Q Q' hq z=>ha.mo L S _ _ (λ ds S1 z=>?_) z,PI.imp (Vb hg hm ha.pa hs Hd) fun Y H R hu=>?_⟩
 .split at z
  .exact⟨z.1,hq _ _ z.2⟩
  .exact z.elim
 .obtain⟨L,S,r1,r2,z⟩:=hu;refine xW.go ha.mo r1 r2 z λ ds S1 xs H1 h1 q1 e1 p1=>?_;split at h1
  .obtain⟨x,y,w,rfl,q,q',q2⟩:=q1.three;simp only[zg] at q q' q2;subst q q' q2;exact⟨_,_,_,rfl,h1.1,h1.2 _ H1 e1 p1 .Ws⟩
  .exact h1.elim
def uS:xn:=λ ds S Q=>match ds with
 | [.int i]=>Q (.int (if i<0 then -i else i)) S
 | _=>False
theorem uS.mo:vh uS:=λ ds S Q Q' hq h=>by
 unfold uS at h ⊢;split at h
 .exact hq _ _ h
 .exact h.elim
theorem uS.fits:uf K uS (λ xs H Q=>∃ i,xs=[.int i]/\Q (.int (if i<0 then -i else i)) H):=λ xs ds H S Q h0 h2 h=>by
 unfold uS at h;split at h
 .obtain⟨x,rfl,h1⟩:=h0.one;simp only[zg] at h1;subst h1;exact⟨_,rfl,h _ H (by simp only[zg]) (.refl H) h2⟩
 .exact h.elim
theorem T6 (hm:X.mg "abs"=none) (ha:yR X (e::es) tA) (hg:Gl X "abs") (he:starEach (e::es) X.env=(false,eval e X.env)::starEach es X.env) (Aq:(backTo pos (starEach es X.env)).any (·.1)=false):PD X (.Call (.Name "abs" p) (e::es) [] pos) (xl uS tA):=
 uk (uI Mo hg hm boot_abs ha.pa (by decide) (by decide) he Aq) uS.mo uS.fits ha.mo
def uC (_ j:Int):Prop:=0<j/\j<2 ^ 200
def sD (i j:Int):Prop:=i.natAbs<2 ^ 200/\j.natAbs<2 ^ 200
instance (i j:Int):Decidable (uC i j):=by unfold uC;infer_instance
instance (i j:Int):Decidable (sD i j):=by unfold sD;infer_instance
theorem cj {n:Nat}(h:n<2 ^ 200):n.log2<200:=by
 rcases D8 n with h0 | hp
 .rw[h0];decide
 .exact (Nat.log2_lt (B2 hp)).mpr h
theorem aG {i:Int}(h:i.natAbs<2 ^ 200):Builtin.Int.intBits i<=2 ^ 20:=by
 have:=cj h;unfold Builtin.Int.intBits;split <;> lia
theorem Se:zV X (binaryOp .FloorDiv) (rI uC λ i j=>.int (i/j)):=qE λ i j _ _ _ _ _ hc q=>by
 have h1:(0:Int)<j:=hc.1;have h2:j.natAbs<2 ^ 200:=by have:=hc.2;lia
 have h3:=cj h2;exact floordiv_int (by lia) (by rw[Int.fdiv_eq_ediv_of_nonneg i (by lia)];exact q) (.inl (PyProof.noPylong_of_log2 (by lia)))
theorem TR:zV X (binaryOp .Mult) (rI sD λ i j=>.int (i*j)):=qE λ _ _ _ _ _ _ _ hc q=>mul_int q (PySem.IntMulOk.of_bits (aG hc.1) (aG hc.2))
variable {ta tb:zr}
theorem Th (ha:PD X a ta) (hb:PD X b tb):PD X (.BinOp a .FloorDiv b pos) (yf (fI uC λ i j=>.int (i/j)) ta tb):=sN Se (fI.fits λ _ _ _=>by simp only[zg]) fI.mo ha hb
theorem UG (ha:PD X a ta) (hb:PD X b tb):PD X (.BinOp a .Mult b pos) (yf (fI sD λ i j=>.int (i*j)) ta tb):=sN TR (fI.fits λ _ _ _=>by simp only[zg]) fI.mo ha hb
end
end L3
namespace L5
open PySem PySem.Spec L2 L3
open PyProof.Rows hiding St
structure ZU (mg:AI):Prop extends Bq mg where
 abs:mg "abs"=none
@[simp] noncomputable def gr:List T->Option T
 | [.int i]=>some (.int (if i<0 then -i else i))
 | _=>none
theorem OE:vi zC gr uS:=λ S Z ys z ds Q hz hv e hq=>by
 unfold gr at e;split at e
 .cases e;obtain⟨d,rfl,h1⟩:=wV hv;cases h1.int;exact hq _ S (.refl S) (Cl.of (λ _=>nofun) xB)
 .cases e
@[simp] def xP:T->T->Option T:=rQ uC λ i j=>.int (i/j)
@[simp] def vp:T->T->Option T:=rQ sD λ i j=>.int (i*j)
theorem Qo {fa fb:Ev->Option T}{ta tb:zr}(ha:yp fa ta) (hb:yp fb tb):xp (zb xP fa fb) (yf (fI uC λ i j=>.int (i/j)) ta tb):=tM (oI (λ _ _ _=>xB) λ _ _ _=>nofun) ha hb
theorem RJ {fa fb:Ev->Option T}{ta tb:zr}(ha:yp fa ta) (hb:yp fb tb):xp (zb vp fa fb) (yf (fI sD λ i j=>.int (i*j)) ta tb):=tM (oI (λ _ _ _=>xB) λ _ _ _=>nofun) ha hb
noncomputable def sS (j:Int):Bool:=decide (-1000000<=j)&&decide (j<1000000)
noncomputable def mM (lo c:Int) (n:Nat):List T:=(List.range n).map λ(k:Nat)=>T.int (lo+(k:Int)*c)
theorem XN {S:SS}(lo c:Int) (n:Nat):zj S (mM lo c n) (tJ lo c n):=by
 unfold mM tJ
 induction List.range n with
 | nil=>exact .nil
 | cons k l ih=>exact .cons xB ih
noncomputable def oa:List T->Option (List T)
 | [.int i,.int j,.int c]=>if (sS i=true/\sS j=true)/\sS c=true/\0<c then some (mM i c (uq i j c)) else none
 | _=>none
theorem YI {S:SS}{Z:Addr->Prop}{a b c:T}{ds:List D}(h:q_ S Z [a,b,c] ds):∃ d d' d2,ds=[d,d',d2]/\Vw S Z a d/\Vw S Z b d'/\Vw S Z c d2:=by
 obtain⟨d,cs,rfl,h1,d',cs2,rfl,h2,d2,cs3,rfl,h3,h4⟩:=h;cases h4;exact⟨d,d',d2,rfl,h1,h2,h3⟩
theorem SR {b:Bool}{g:Ev->Option (List T)}{tA:yh}(h:rm g tA):rj b (yL oa g) (c7 tA):=λ S Z L J ts Q hE e hq=>by
 obtain⟨ys,e1,e2⟩:=Aj.mp e;refine h S Z L J ys _ hE e1 λ ds S1 s1 r1=>?_;unfold oa at e2;split at e2
 .split at e2
  .rename_i hc;cases e2;obtain⟨d,d',d2,rfl,h1,h2,h3⟩:=YI r1;cases h1.int;cases h2.int;cases h3.int;simp only[sS,Bc,decide_eq_true_eq] at hc;exact⟨⟨by lia,by lia,by lia,by lia,by lia,by lia⟩,hq _ S1 s1 (XN _ _ _) λ _ _=>trivial⟩
  .cases e2
 .cases e2
end L5
namespace L5
open PySem PySem.Spec L2 L3
noncomputable def wy:T->Bool
 | .err _ _ _=>true
 | _=>false
@[simp] theorem zai (c f:Str) (t:T):wy (.err c f t)=true:=rfl
@[simp] theorem zaf:wy .zo=false:=rfl
@[simp] theorem zak (b:Bool):wy (.bl b)=false:=rfl
@[simp] theorem zah (b:Int):wy (.int b)=false:=rfl
@[simp] theorem zae (b:Str):wy (.str b)=false:=rfl
@[simp] theorem zad (b:List T):wy (.tup b)=false:=rfl
@[simp] theorem zag (b:List T):wy (.lst b)=false:=rfl
@[simp] theorem zaj:wy .yN=false:=rfl
end L5
namespace L3
open PySem PySem.Spec L2
open PyProof.Rows hiding St
section
variable {X:Cx}{e:Expr}{es:List Expr}{tA:yh}{pos p:Pos}
theorem vo (i:Nat) {x:Str}(hN:X.N[i]?=some x:=by rfl) (hv:kD X.env.scope x:=by first | exact Or.inl rfl | exact Or.inr (Or.inl rfl) | exact Or.inr (Or.inr rfl)) (hd:(x == ("__debug__":Str))=false:=by decide) (BE:(x == ("__classdict__":Str))=false:=by decide):PD X (.Name x pos) (yw i):=U0 i (pv i hN hv hd BE)
theorem Tu {x:Str}{k k':Nat}{ps:List Str}{sp:tZ}(F:FD X.prog X.w X.K X.mg X.base x k ps sp) (hr:yi k' X.A) (ha:yR X (e::es) tA) (hk:k<=k') (hg:Gl X x) (Cj:(x == ("__debug__":Str))=false)
  (he:starEach (e::es) X.env=(false,eval e X.env)::starEach es X.env) (Aq:(backTo pos (starEach es X.env)).any (·.1)=false):PD X (.Call (.Name x p) (e::es) [] pos) (lM sp tA):=Tv F (hr.mono hk) ha hg Cj he Aq
end
theorem bw {N P:List Str}{sc:Scope}(h1:sc.kind=.function:=by rfl) (h2:sc.isCoroutine=false:=by rfl) (h3:sc.isGenerator=false:=by rfl) (h4:N.Nodup:=by decide +kernel) (h5:N.take P.length=P:=by rfl) (h6:∀ x∈P,sc.names.lookup x=some .local\/sc.names.lookup x=some .cell:=by decide +kernel) (h7:∀ y∈sc.names,y.2≠.free:=by decide +kernel):tm N P sc:=⟨h1,h2,h3,h4,h5,h6,h7⟩
end L3
namespace L5
open L2 L3
theorem jO {R:Rk}{g:Sm}{t:yA}(h:yn R g t:=by
 repeat' first
  | (with_reducible first | exact Rv _ | apply QD | apply RC | apply Qm)
  | (with_reducible first | exact dA _ | refine tM (R:=yC) ba ?_ ?_ | refine jN (R:=yC) ?_ | apply dB | apply dD)
  | ((try first | refine xo.fr ?_ | refine xo.fe ?_);with_reducible first | exact Qk _ | refine tM (R:=zC) (by with_reducible first | exact good_add | exact i8 | exact OC | exact OB | exact OA | exact i9 | exact iB | exact iC | exact O4 | exact c_) ?_ ?_ | refine jN (R:=zC) ?_ | refine Qy (R:=zC) (by with_reducible first | exact O9 | exact O0 | exact O8 | exact O6 | exact O5 | exact OD | exact O3 | exact O1 | exact O7 | exact good_int | exact OE) ?_ | apply Rw | apply R0 | apply RK | apply Qp | apply RM | exact Q5 _ | exact R3 _ | exact RD | apply RP | apply Ql | apply RI | refine Qx (by with_reducible first | exact i8 | exact i9 | exact iB | exact iC) (by with_reducible first | exact i8 | exact i9 | exact iB | exact iC) ?_ ?_ ?_ | apply R7 | apply R5 | exact Qu _ | apply Qo | apply RJ)
  | (refine xo.er ?_;with_reducible first | exact dA _ | refine tM (R:=yC) ba ?_ ?_ | refine jN (R:=yC) ?_ | apply dB | apply dD)
  | (with_reducible first | apply Sv | apply SJ | apply S8 | exact Su | apply Sy | apply SK | apply SH | apply SA | apply Sq | exact d5 _ | apply SE | exact Sz | apply S9 | apply Ss | apply SD | exact SG _ | apply SF | apply S7)
  | (with_reducible first | exact Rl | apply Rm | exact Ri | apply Rj | apply Rx | apply Rz | apply Qr | apply Qq | apply Qt | exact Ry | exact S_ _ | exact SW | apply SX | exact Ra | apply Rb | apply SU | apply SN | apply SO | apply SV | apply SM | apply SR | exact Rh | apply Rg)
  | (first | exact Rf _ | apply SY | apply Rc)
  | exact yn.fv (d5 _)
  | exact Bool.false):yn R g t:=h
end L5
namespace L5
open PySem PySem.Spec L2 L3
open PyProof.Rows hiding St
def Cm (mg:AI) (x:Str) (t:V):Prop:=∃ u,mg x=some u/\L2.RelV t u
def Hs (_:List (List Str×List (Option Nat))):Prop:=True
noncomputable def Hq (s:Scope) (n:List Str):Bool:=s.names.all (λ y=>!(decide (y.2=.local)||decide (y.2=.free))||y.1 == ".0"||n.elem y.1)&&(s.names.filter λ y=>decide (y.2=.local)||decide (y.2=.free)).length == n.length+1
def Ht (_:List Str) (_:List (Option Nat)):Prop:=True
section
variable {n:List Str}{p:List (Option Nat)}{x y:List Str×List (Option Nat)}{r:List (List Str×List (Option Nat))}
theorem Hs.a (_:Hs ((n,p)::r)):Ht n p:=trivial
theorem Hs.b (_:Hs (x::(n,p)::r)):Ht n p:=trivial
theorem Hs.c (_:Hs (x::y::(n,p)::r)):Ht n p:=trivial
end
section
variable {X:Cx}{N' N:List Str}{pick:List (Option Nat)}{scope II:Scope}{tg iter elt:Expr}{ifs:List Expr}{ti:xR}{g:yP}{GR:yx}{te:zr}{pos:Pos}
theorem pl (_:Ht N' pick) (_:X.env.scope=II) (_:X.N=N) (Sc:sC X N' pick scope) (_:Hq scope N'=true) (hi:ud X tg iter ti) (hg:∀ cl C s H fp,N'.Nodup->ve (yo X N' scope cl C s H fp) tg g) (hf:∀ cl C s H fp,N'.Nodup->pd (yo X N' scope cl C s H fp) ifs GR) (he:∀ cl C s H fp,N'.Nodup->PD (yo X N' scope cl C s H fp) elt te)
  (nd:N'.Nodup) (hc:X.calm=true) (hs:∀ x,foldedSetIterable iter X.env x=pure x):
  PD X (.ListComp elt [⟨tg,iter,ifs,0⟩] scope pos) (uz pick ti g GR te):=UM Sc hc hi (λ cl C s H fp=>hg cl C s H fp nd) (λ cl C s H fp=>hf cl C s H fp nd) (λ cl C s H fp=>he cl C s H fp nd) hs
theorem Vl {a b:Expr}{k:Nat}{t:xI}(h:qf X [a,b] t) (hc:X.calm=true) (hn:(assignEach [a,b] X.env).length=2) (AQ:(assignEach [a,b] X.env).findIdx? (·.1)=none):ve X (.Tuple [a,b] k pos) (rR 2 t):=jJ h hc hn AQ
theorem Vk {a b c:Expr}{k:Nat}{t:xI}(h:qf X [a,b,c] t) (hc:X.calm=true) (hn:(assignEach [a,b,c] X.env).length=3) (AQ:(assignEach [a,b,c] X.env).findIdx? (·.1)=none):ve X (.Tuple [a,b,c] k pos) (rR 3 t):=jJ h hc hn AQ
theorem Vj {a b c d:Expr}{k:Nat}{t:xI}(h:qf X [a,b,c,d] t) (hc:X.calm=true) (hn:(assignEach [a,b,c,d] X.env).length=4) (AQ:(assignEach [a,b,c,d] X.env).findIdx? (·.1)=none):ve X (.Tuple [a,b,c,d] k pos) (rR 4 t):=jJ h hc hn AQ
theorem Td {x y:Str}(h:Cm X.mg x (.str y)) (hg:Gl X x:=by rfl) (hd:(x == ("__debug__":Str))=false:=by decide):PD X (.Name x pos) (dC (.str y)):=let ⟨_,a,b⟩:=h;Tc a b hg hd
theorem Tf {x:Str}{n:Int}(h:Cm X.mg x (.int n)) (hg:Gl X x:=by rfl) (hd:(x == ("__debug__":Str))=false:=by decide):PD X (.Name x pos) (dC (.int n)):=let ⟨_,a,b⟩:=h;Te a b hg hd
theorem jF {i:Nat}{y:Str}{py Bb:Pos}(_:Ht N' pick) (_:X.env.scope=II) (_:X.N=N) (hn:X.N.Nodup) (Sc:sC X N' pick scope)
  (Cb:swapsWith (.ListComp elt [⟨tg,iter,ifs,0⟩] scope pos) (some (.Name y py)) Bb.line X.env=pure true) (_:Hq scope N'=true)
  (hi:ud X tg iter ti) (hg:∀ cl C s H fp,N'.Nodup->ve (yo X N' scope cl C s H fp) tg g) (hf:∀ cl C s H fp,N'.Nodup->pd (yo X N' scope cl C s H fp) ifs GR) (he:∀ cl C s H fp,N'.Nodup->PD (yo X N' scope cl C s H fp) elt te)
  (nd:N'.Nodup) (hc:X.calm=true) (hy:X.N[i]?=some y) (hx:Loc X.env.scope y)
  (Ci:X.fn y=true\/X.env.scope.names.lookup y=some .local) (hs:∀ x,foldedSetIterable iter X.env x=pure x):
  xT X (.Assign [.Name y py] (.ListComp elt [⟨tg,iter,ifs,0⟩] scope pos) Bb) (wO (uz pick ti g GR te) (hName i)):=V_ Sc hc hi (λ cl C s H fp=>hg cl C s H fp nd) (λ cl C s H fp=>hf cl C s H fp nd) (λ cl C s H fp=>he cl C s H fp nd) hn hy hx Cb Ci hs
end
theorem pA {p:Prop}(h:p:=by
 repeat' first
  | exact rfl
  | (show PD _ _ _;first | (show PD _ (.Name _ _) _;first | exact vo 0 | exact vo 1 | exact vo 2 | exact vo 3 | exact vo 4 | exact vo 5 | exact vo 6 | exact vo 7 | exact vo 8 | exact vo 9 | exact vo 10 | exact vo 11 | exact vo 12 | exact Td (by assumption) | exact Tf (by assumption)) | exact U_ | exact Tx | exact U5 | exact UC | (show PD _ (.Subscript (.Name "lows" _) _ _) _;apply Tq hr) | (show PD _ (.Call _ [.Name "lows" _] _ _) _;apply Tp T.len) | exact Tr | apply Ts hr | apply U8 | apply UT | apply U3 | apply UO | (show PD _ (.Call _ _ _ _) _;first | (apply Tu;assumption) | apply UR T.len | apply UP T.list T.range | apply UQ T.list | apply U1 T.tuple | apply UJ T.max | apply UI T.min | apply T2 T.any | apply T4 T.all | apply U6 hr T.sorted U.set | apply U7 T.sorted | apply UZ T.int | apply UX T | apply UY T | apply UW T | apply UU T | apply T6 U.abs | apply UL | apply UK) | (show PD _ (.BinOp _ _ _ _) _;first | (have:=hB;first | apply Th | apply UG) | apply T5 | apply U4 | apply UH | apply Ti | apply UE | apply U9) | (show PD _ (.Compare _ _ _ _) _;first | apply UN hr | apply Tn hr | apply US | apply Tg | apply Ta hr | apply Tt qD qD fit_le fit_le yM.mo yM.mo) | apply T3 | apply UA | apply UB | apply UD | apply Tb | (apply pl (Hs.a hc) hS hN;exact qW hS hN;decide +kernel) | (apply pl (Hs.b hc) hS hN;exact qW hS hN;decide +kernel) | (apply pl (Hs.c hc) hS hN;exact qW hS hN;decide +kernel))
  | (show yR _ _ _;first | exact Uy | apply Uz)
  | (show yQ _ _ _;first | (show yQ _ (.Compare _ _ _ _) _;first | apply VJ hr | apply VQ hr | apply VI hr | apply VL | apply VP | apply VO hr | apply VG hr | apply VN | apply VM | apply VR qD qD fit_le fit_le yM.mo yM.mo) | apply VH | (apply sa.pt;first | apply di | apply dk) | apply VF)
  | apply di | apply dk | apply VD | apply VE
  | (show wR _ _ _;first | exact VT | apply VS | apply VU)
  | (show xT _ _ _;first | apply VY | apply Ub | apply Uc PassesOwn.never rfl | apply VV PassesOwn.never | (apply jF (Hs.a hc) hS hN nd;exact qW hS hN;rfl;decide +kernel) | (apply jF (Hs.b hc) hS hN nd;exact qW hS hN;rfl;decide +kernel) | (apply jF (Hs.c hc) hS hN nd;exact qW hS hN;rfl;decide +kernel) | (show xT _ (.Assign [.Subscript (.Name "lows" _) _ _] _ _) _;apply Ue hr) | apply VW | apply Ua | apply Ud | apply Ug | exact (VZ:xT _ (.Raise _ _ _) _))
  | apply Uu | apply Vl | apply Vk | apply Vj | apply Us | exact Ur
  | (show ud _ _ _ _;first | apply Um T.range | apply Ul T.range | apply Uj U.zip | apply Uq U.enumerate | apply Uk)
  | exact Ux | exact Ui | apply Uw | apply Uh
  | exact hr | exact nd | intro _ _ _ _ _ nd | exact λ _=>rfl | exact λ _ _=>rfl | exact Or.inl rfl | exact Or.inr rfl | exact⟨rfl,rfl,rfl,rfl⟩ | decide
  | exact (rfl:(_:List Str)[0]?=_) | exact (rfl:(_:List Str)[1]?=_) | exact (rfl:(_:List Str)[2]?=_) | exact (rfl:(_:List Str)[3]?=_) | exact (rfl:(_:List Str)[4]?=_) | exact (rfl:(_:List Str)[5]?=_) | exact (rfl:(_:List Str)[6]?=_) | exact (rfl:(_:List Str)[7]?=_) | exact (rfl:(_:List Str)[8]?=_) | exact (rfl:(_:List Str)[9]?=_) | exact (rfl:(_:List Str)[10]?=_) | exact (rfl:(_:List Str)[11]?=_) | exact (rfl:(_:List Str)[12]?=_)):p:=h
section
variable {P:Program}{w:World}{K:Ab}{mg:AI}{base:Heap}{x:Str}{st:Stmt}{N ps:List Str}{k n:Nat}{g:Sm}{R:Rk}[Lo R]
theorem zT (hs:List (List Str×List (Option Nat))) (F:Fy K mg x st)
  (Fi:∀ (f:Addr) (Ak:Value) (A:Around) (outer:List Env) (s:Shared) (H:Hp) (E:XK),Hs hs->N.Nodup->(wA xt P w K mg base N x (ym st) f Ak A outer s H E).wX.N=N->(wA xt P w K mg base N x (ym st) f Ak A outer s H E).wX.env.scope=ym st->yi k (A.deeper (envOfC x (ym st) s.heap.objs.size f Ak))->
   ∃ t,wR (wA xt P w K mg base N x (ym st) f Ak A outer s H E).wX (wc st) t/\yn R g t:=by intro f Ak A outer s H E hc nd hN hS hr;exact⟨_,pA,jO⟩)
  (Sc:tm N ps (ym st):=by exact bw) (hn:n=ps.length:=by rfl)
  (hb:∀ (kV doc pm:Value) (an:Option Addr) (Ak ct:Value) (us:Ae),us.length=ps.length->bindArgs (PySem.W.fnOf x x (uV st) (wc st) (ym st) .none kV doc pm an Ak ct) ⟨us,[]⟩=pure (ps.zip us):=by intro _ _ _ _ _ _;first | exact M6 λ _=>rfl | exact M5 λ _ _=>rfl | exact M4 λ _ _ _=>rfl | exact M3 λ _ _ _ _=>rfl):FD P w K mg base x (k+1) ps (zF R (zI N n g)):=
 Nb F Sc hn hb λ f Ak A outer s H E hr=>Fi f Ak A outer s H E trivial Sc.nd rfl rfl hr
theorem OV {f:Addr}{fd:FuncData}(hs:List (List Str×List (Option Nat))) (F:ue K x x st f fd)
  (Fi:∀ (Ak:Value) (A:Around) (outer:List Env) (s:Shared) (H:Hp) (E:XK),Hs hs->N.Nodup->(wA xt P w K mg base N x (ym st) f Ak A outer s H E).wX.N=N->(wA xt P w K mg base N x (ym st) f Ak A outer s H E).wX.env.scope=ym st->yi k (A.deeper (envOfC x (ym st) s.heap.objs.size f Ak))->
   ∃ t,wR (wA xt P w K mg base N x (ym st) f Ak A outer s H E).wX (wc st) t/\yn R g t:=by intro Ak A outer s H E hc nd hN hS hr;exact⟨_,pA,jO⟩)
  (Sc:tm N ps (ym st):=by exact bw) (hn:n=ps.length:=by rfl):vI P w K mg base xt (k+1) f fd ps (uE K (zF R (zI N n g))):=
 bx F Sc hn λ Ak A outer s H E hr=>Fi Ak A outer s H E trivial Sc.nd rfl rfl hr
end
end L5
namespace RN
open L5
abbrev Bd:=List (Int×Int)
def zM (b c:Bd):Prop:=∀ q,ya b q=true->ya c q=true
theorem zM.refl (b:Bd):zM b b:=λ _ h=>h
theorem zM.trans {a b c:Bd}(h:zM a b) (h':zM b c):zM a c:=λ q x=>h' q (h q x)
theorem zM.of {b c:Bd}(h:∀ p∈b,∃ r∈c,r.1<=p.1/\r.2<=p.2):zM b c:=λ q x=>by
 obtain⟨p,hp,h1,h2⟩:=yO.mp x;obtain⟨r,hr,h3,h4⟩:=h p hp;exact yO.mpr ⟨r,hr,by lia,by lia⟩
theorem zM.at {b c:Bd}(h:zM b c) {p:Int×Int}(hp:p∈b):∃ r∈c,r.1<=p.1/\r.2<=p.2:=yO.mp (h p (yO.mpr ⟨p,hp,Ax _,Ax _⟩))
structure Gd (A B:Int) (b:Bd):Prop where
 oE:y_ b
 vz:∀ p∈b,(0<=p.1/\p.1<=A)/\0<=p.2/\p.2<=B
noncomputable def xH:Bd:=[(0,0)]
theorem Gd.xH {A B:Int}(hA:0<=A) (hB:0<=B):Gd A B xH:=⟨by unfold RN.xH y_;simp,λ p hp=>by
 unfold RN.xH at hp;cases AZ.mp hp;exact⟨⟨Ax _,hA⟩,Ax _,hB⟩⟩
theorem Gd.Po {A B:Int}{b:Bd}(h:Gd A B b):zM b RN.xH:=zM.of λ p hp=>⟨(0,0),by unfold RN.xH;simp,(h.vz p hp).1.1,(h.vz p hp).2.1⟩
theorem Gd.eq {A B:Int}{b c:Bd}(h:Gd A B b) (h':Gd A B c) (x:zM b c) (y:zM c b):b=c:=y_.eq h.oE h'.oE λ q=>by
 rw[BN];exact⟨x q,y q⟩
theorem Gd.least {A B:Int}{ps:Bd}(h:∀ p∈ps,(0<=p.1/\p.1<=A)/\0<=p.2/\p.2<=B):Gd A B (wJ ps):=⟨lg ps,λ p hp=>h p (Pm hp)⟩
theorem m_ {ps qs:Bd}(h:∀ p∈ps,∃ r∈qs,r.1<=p.1/\r.2<=p.2):zM (wJ ps) (wJ qs):=λ q x=>by
 rw[oA] at x ⊢;exact zM.of h q x
theorem cG:∀ {b:Bd}{lo hi:Int},y_ b->(∀ p∈b,lo<=p.1/\p.1<=hi)->(b.length:Int)<=hi+1-lo\/b=[]
 | [],_,_,_,_=>.inr rfl
 | p::b,lo,hi,h,hb=>by
  have h1:=Bg.mp h;have hp:=hb p Am;refine .inl ?_;rcases cG (lo:=p.1+1) (hi:=hi) h1.2 (λ q hq=>⟨by have:=(h1.1 q hq).1;lia,(hb q (Av _ hq)).2⟩) with x | x
  .rw[A4];lia
  .subst x;simp;lia
theorem cF:∀ {b:Bd}{lo hi:Int},y_ b->(∀ p∈b,lo<=p.2/\p.2<=hi)->(b.length:Int)<=hi+1-lo\/b=[]
 | [],_,_,_,_=>.inr rfl
 | p::b,lo,hi,h,hb=>by
  have h1:=Bg.mp h;have hp:=hb p Am;refine .inl ?_;rcases cF (lo:=lo) (hi:=p.2-1) h1.2 (λ q hq=>⟨(hb q (Av _ hq)).1,by have:=(h1.1 q hq).2;lia⟩) with x | x
  .rw[A4];lia
  .subst x;simp;lia
theorem Gd.rN {A B:Int}{b:Bd}(h:Gd A B b) (hA:0<=A):(b.length:Int)<=A+1:=by
 rcases cG (lo:=0) (hi:=A) h.oE (λ p hp=>(h.vz p hp).1) with x | x
 .lia
 .subst x;simp;lia
theorem Gd.Pl {A B:Int}{b:Bd}(h:Gd A B b) (hB:0<=B):(b.length:Int)<=B+1:=by
 rcases cF (lo:=0) (hi:=B) h.oE (λ p hp=>(h.vz p hp).2) with x | x
 .lia
 .subst x;simp;lia
noncomputable def xD (x:Int):Int:=if x>0 then x else 0
theorem jS (x:Int):0<=xD x:=by unfold xD;split <;> lia
theorem qF {x y:Int}(h:x<=y):xD x<=xD y:=by unfold xD;split <;> split <;> lia
theorem QQ {x g:Int}(h:0<=x) (hg:0<=g):xD (x-g)<=x:=by unfold xD;split <;> lia
def yY (a b:Int) (p:Int×Int):Int×Int:=(xD (p.1-a),xD (p.2-b))
noncomputable def va (A B:Int) (p:Int×Int):Bool:=decide (p.1<=A)&&decide (p.2<=B)
def uZ (A B a b:Int) (bd:Bd):Bd:=wJ ((bd.map (yY a b)).filter (va A B))
theorem MA (A B a b:Int) (bd:Bd):Gd A B (uZ A B a b bd):=Gd.least λ p hp=>by
 obtain⟨h1,h2⟩:=AN.mp hp;obtain⟨q,_,rfl⟩:=Ah.mp h1;have h3:(yY a b q).1<=A/\(yY a b q).2<=B:=by simpa [va] using h2
 exact⟨⟨jS _,h3.1⟩,jS _,h3.2⟩
theorem aU (A B a b:Int) {bd Jx:Bd}(h:zM bd Jx):zM (uZ A B a b bd) (uZ A B a b Jx):=m_ λ p hp=>by
 obtain⟨h1,h2⟩:=AN.mp hp;obtain⟨q,hq,rfl⟩:=Ah.mp h1;obtain⟨r,hr,r1,r2⟩:=h.at hq;have h3:(yY a b q).1<=A/\(yY a b q).2<=B:=by simpa [va] using h2
 have m1:(yY a b r).1<=(yY a b q).1:=qF (by lia);have m2:(yY a b r).2<=(yY a b q).2:=qF (by lia);exact⟨yY a b r,AN.mpr ⟨Ah.mpr ⟨r,hr,rfl⟩,by simp[va];lia⟩,m1,m2⟩
def vA (b c:Bd):Bd:=wJ (b++c)
theorem bK (b c:Bd) (q:Int×Int):ya (vA b c) q=(ya b q||ya c q):=by unfold vA;rw[oA,ND]
theorem Nu {A B:Int}{b c:Bd}(h:Gd A B b) (h':Gd A B c):Gd A B (vA b c):=Gd.least λ p hp=>by
 rcases A2.mp hp with x | x
 .exact h.vz p x
 .exact h'.vz p x
noncomputable def mW (p q:Int×Int):Int×Int:=(if q.1>p.1 then q.1 else p.1,if q.2>p.2 then q.2 else p.2)
def vC (b c:Bd):Bd:=wJ (b.flatMap λ p=>c.map (mW p))
theorem aA (b c:Bd) (q:Int×Int):ya (vC b c) q=(ya b q&&ya c q):=by
 unfold vC;rw[oA,BN,Bc,yO,yO,yO];constructor
 .rintro⟨p,hp,h1,h2⟩;obtain⟨x,hx,hp⟩:=BX.mp hp;obtain⟨y,hy,rfl⟩:=Ah.mp hp;unfold mW at h1 h2;dsimp only at h1 h2;refine⟨⟨x,hx,?_,?_⟩,⟨y,hy,?_,?_⟩⟩ <;> (first | (split at h1 <;> lia) | (split at h2 <;> lia))
 .rintro⟨⟨x,hx,h1,h2⟩,⟨y,hy,h3,h4⟩⟩;refine⟨mW x y,BX.mpr ⟨x,hx,Ah.mpr ⟨y,hy,rfl⟩⟩,?_,?_⟩
  .show (if y.1>x.1 then y.1 else x.1)<=q.1;split <;> lia
  .show (if y.2>x.2 then y.2 else x.2)<=q.2;split <;> lia
theorem Mv {A B:Int}{b c:Bd}(h:Gd A B b) (h':Gd A B c):Gd A B (vC b c):=Gd.least λ p hp=>by
 obtain⟨x,hx,hp⟩:=BX.mp hp;obtain⟨y,hy,rfl⟩:=Ah.mp hp;have a1:=h.vz x hx;have a2:=h'.vz y hy;unfold mW;dsimp only;refine⟨⟨?_,?_⟩,?_,?_⟩ <;> split <;> lia
def wa (bs:List Bd):Bd:=bs.foldl vA []
def rb (bs:List Bd):Bd:=bs.foldl vC xH
theorem lB:∀ (bs:List Bd) (b:Bd) (q:Int×Int),ya (bs.foldl vA b) q=true↔ya b q=true\/∃ c∈bs,ya c q=true
 | [],b,q=>by simp
 | c::bs,b,q=>by
  rw[Dw,lB bs,bK,D3];constructor
  .rintro ((h | h) | ⟨d,hd,h⟩)
   .exact .inl h
   .exact .inr ⟨c,Am,h⟩
   .exact .inr ⟨d,Av _ hd,h⟩
  .rintro (h | ⟨d,hd,h⟩)
   .exact .inl (.inl h)
   .rcases Ai.mp hd with e | e
    .subst e;exact .inl (.inr h)
    .exact .inr ⟨d,e,h⟩
theorem oV {A B:Int}:∀ (bs:List Bd) (b:Bd),Gd A B b->(∀ c∈bs,Gd A B c)->Gd A B (bs.foldl vA b)
 | [],b,h,_=>h
 | c::bs,b,h,hb=>oV bs _ (Nu h (hb c Am)) λ d hd=>hb d (Av _ hd)
theorem Gd.nil {A B:Int}:Gd A B []:=⟨by unfold y_;simp,λ p hp=>by cases hp⟩
theorem kr:∀ (bs:List Bd) (b:Bd) (q:Int×Int),ya (bs.foldl vC b) q=true↔ya b q=true/\∀ c∈bs,ya c q=true
 | [],b,q=>by simp
 | c::bs,b,q=>by
  rw[Dw,kr bs,aA,Bc];constructor
  .rintro⟨⟨h1,h2⟩,h3⟩;exact⟨h1,λ d hd=>by
    rcases Ai.mp hd with e | e
    .subst e;exact h2
    .exact h3 d e⟩
  .rintro⟨h1,h2⟩;exact⟨⟨h1,h2 c Am⟩,λ d hd=>h2 d (Av _ hd)⟩
theorem hJ {A B:Int}:∀ (bs:List Bd) (b:Bd),Gd A B b->(∀ c∈bs,Gd A B c)->Gd A B (bs.foldl vC b)
 | [],b,h,_=>h
 | c::bs,b,h,hb=>hJ bs _ (Mv h (hb c Am)) λ d hd=>hb d (Av _ hd)
noncomputable def uj (pu:Bool) (g t:Int):Int×Int:=if pu=true then (t,g) else (g,t)
noncomputable def x9 (pu:Bool) (p:Int×Int):Int:=if pu=true then p.2 else p.1
noncomputable def w_ (pu:Bool) (p:Int×Int):Int:=if pu=true then p.1 else p.2
noncomputable def yX (pu:Bool) (zG give get:Int):Nat->Int->Int->Bd
 | 0,_,_=>[]
 | n+1,g,t=>if g<=zG then uj pu g t::yX pu zG give get n (g+give) (xD (t-get)) else []
theorem eZ {pu:Bool}{g t g' t':Int}(h:g'<=g) (h':t'<=t):(uj pu g' t').1<=(uj pu g t).1/\(uj pu g' t').2<=(uj pu g t).2:=by
 cases pu
 .exact⟨h,h'⟩
 .exact⟨h',h⟩
theorem av (pu:Bool) (zG give get:Int):∀ (n:Nat) (g t g' t':Int),g'<=g->t'<=t->∀ e∈yX pu zG give get n g t,∃ r∈yX pu zG give get n g' t',r.1<=e.1/\r.2<=e.2
 | 0,_,_,_,_,_,_,e,he=>by cases he
 | n+1,g,t,g',t',h1,h2,e,he=>by
  unfold yX at he ⊢;split at he
  .rw[if_pos (by lia)];rcases Ai.mp he with x | x
   .subst x;exact⟨_,Am,eZ h1 h2⟩
   .obtain⟨r,hr,r1⟩:=av pu zG give get n _ _ (g' + give) (xD (t'-get)) (by lia) (qF (by lia)) e x;exact⟨r,Av _ hr,r1⟩
  .cases he
theorem iY (pu:Bool) (zG give get most:Int) (hg:1<=give) (DV:0<=get):∀ (n:Nat) (g t:Int),0<=g->0<=t->t<=most->∀ e∈yX pu zG give get n g t,(0<=x9 pu e/\x9 pu e<=zG)/\0<=w_ pu e/\w_ pu e<=most
 | 0,_,_,_,_,_,e,he=>by cases he
 | n+1,g,t,h1,h2,h3,e,he=>by
  unfold yX at he;split at he
  .rcases Ai.mp he with x | x
   .subst x;cases pu <;> exact⟨⟨h1,by assumption⟩,h2,h3⟩
   .exact iY pu zG give get most hg DV n _ _ (by lia) (jS _) (Int.le_trans (QQ h2 DV) h3) e x
  .cases he
theorem aw (pu:Bool) (zG give get:Int) (hg:1<=give):∀ (n:Nat) (g t:Int),g<=zG+1->((yX pu zG give get n g t).length:Int)<=zG+1-g
 | 0,g,t,h=>by simp[yX];lia
 | n+1,g,t,h=>by
  unfold yX;split
  .rw[A4];by_cases hh:g+give<=zG+1
   .have:=aw pu zG give get hg n (g+give) (xD (t-get)) hh
    lia
   .have e:yX pu zG give get n (g+give) (xD (t-get))=[]:=by
     cases n with
     | zero=>rfl
     | succ n=>unfold yX;rw[if_neg (by lia)]
    rw[e];simp;lia
  .simp;lia
structure Wy where
 f:Nat
 t:Nat
 a:Int
 b:Int
structure Sl where
 p:Nat
 pu:Bool
 gv:Int
 gt:Int
structure zy where
 A:Int
 B:Int
 os:List Bool
 ws:List Wy
 ss:List Sl
structure zy.Ok (F:zy):Prop where
 a0:0<=F.A
 a1:F.A<=12
 b0:0<=F.B
 b1:F.B<=12
 n1:1<=F.os.length
 n8:F.os.length<=8
 ws:∀ w∈F.ws,w.f<F.os.length/\w.t<F.os.length
 pN:F.ws.length<=60
 ss:∀ s∈F.ss,1<=s.gv/\0<=s.gt
 sl:F.ss=[]\/(F.A+1)*(F.B+1)<64
 s8:F.ss.length<=60
noncomputable def zy.zG (F:zy) (pu:Bool):Int:=if pu=true then F.B else F.A
def yF (F:zy) (s:Sl) (p:Int×Int):Bd:=yX s.pu (F.zG s.pu) s.gv s.gt 100 (x9 s.pu p) (w_ s.pu p)
def u6 (F:zy) (s:Sl) (bd:Bd):Bd:=wJ (bd.flatMap (yF F s))
theorem NQ (F:zy) (s:Sl) {b c:Bd}(h:zM b c):zM (u6 F s b) (u6 F s c):=m_ λ p hp=>by
 obtain⟨x,hx,hp⟩:=BX.mp hp;obtain⟨r,hr,r1,r2⟩:=h.at hx;obtain⟨e,he,e1⟩:=av s.pu (F.zG s.pu) s.gv s.gt 100 (x9 s.pu x) (w_ s.pu x) (x9 s.pu r) (w_ s.pu r) (by unfold x9;split <;> assumption) (by unfold w_;split <;> assumption) p hp;exact⟨e,BX.mpr ⟨r,hr,he⟩,e1⟩
theorem NM {F:zy}{s:Sl}(hs:1<=s.gv/\0<=s.gt) {p:Int×Int}(hp:(0<=p.1/\p.1<=F.A)/\0<=p.2/\p.2<=F.B):∀ e∈yF F s p,(0<=e.1/\e.1<=F.A)/\0<=e.2/\e.2<=F.B:=λ e he=>by
 obtain⟨p,pu,gv,gt⟩:=s;unfold yF zy.zG at he;cases pu with
 | true=>exact (iY true F.B gv gt F.A hs.1 hs.2 100 _ _ hp.2.1 hp.1.1 hp.1.2 e he).symm
 | false=>exact iY false F.A gv gt F.B hs.1 hs.2 100 _ _ hp.1.1 hp.2.1 hp.2.2 e he
theorem NS {F:zy}{s:Sl}(hs:1<=s.gv/\0<=s.gt) {b:Bd}(h:Gd F.A F.B b):Gd F.A F.B (u6 F s b):=Gd.least λ p hp=>by
 obtain⟨x,hx,hp⟩:=BX.mp hp;exact NM hs (h.vz x hx) p hp
def yZ (F:zy) (EN:List Bd) (p:Nat):List Bd:=(F.ws.filter λ w=>decide (w.f=p)).map λ w=>uZ F.A F.B w.a w.b (EN.getD w.t [])
noncomputable def zy.E4 (F:zy) (p:Nat):Option Sl:=F.ss.find? λ s=>decide (s.p=p)
def yc (F:zy) (EN:List Bd) (p:Nat):Bd:=
 if F.os.getD p false=true then match F.E4 p with
  | none=>wa (yZ F EN p)
  | some s=>u6 F s (wa (yZ F EN p))
 else rb (yZ F EN p)
theorem kC (F:zy) (EN:List Bd) (p:Nat):∀ c∈yZ F EN p,Gd F.A F.B c:=λ c hc=>by
 obtain⟨w,_,rfl⟩:=Ah.mp hc;exact MA ..
theorem dR {F:zy}(ok:F.Ok) (EN:List Bd) (p:Nat):Gd F.A F.B (yc F EN p):=by
 unfold yc;have h1:Gd F.A F.B (wa (yZ F EN p)):=oV _ _ Gd.nil (kC F EN p);split
 .split
  .exact h1
  .rename_i s e;exact NS (ok.ss s (List.mem_of_find?_eq_some e)) h1
 .exact hJ _ _ (Gd.xH ok.a0 ok.b0) (kC F EN p)
theorem QO (F:zy) {l m:List Bd}(p:Nat) (h:∀ w∈F.ws,w.f=p->zM (l.getD w.t []) (m.getD w.t [])):zM (yc F l p) (yc F m p):=by
 have h1:zM (wa (yZ F l p)) (wa (yZ F m p)):=λ q hq=>by
  unfold wa at hq ⊢;rw[lB] at hq ⊢;rcases hq with x | ⟨c,hc,x⟩
  .exact .inl x
  .obtain⟨w,hw,rfl⟩:=Ah.mp hc;obtain⟨w1,w2⟩:=AN.mp hw;exact .inr ⟨_,Ah.mpr ⟨w,hw,rfl⟩,aU _ _ _ _ (h w w1 (by simpa using w2)) q x⟩
 unfold yc;split
 .split
  .exact h1
  .exact NQ F _ h1
 .intro q hq;unfold rb at hq ⊢;rw[kr] at hq ⊢;refine⟨hq.1,λ c hc=>?_⟩;obtain⟨w,hw,rfl⟩:=Ah.mp hc;obtain⟨w1,w2⟩:=AN.mp hw;exact aU _ _ _ _ (h w w1 (by simpa using w2)) q (hq.2 _ (Ah.mpr ⟨w,hw,rfl⟩))
theorem QN (F:zy) {l m:List Bd}(p:Nat) (h:∀ w∈F.ws,w.f=p->l.getD w.t []=m.getD w.t []):yc F l p=yc F m p:=by
 have:yZ F l p=yZ F m p:=by
  unfold yZ;refine CB λ w hw=>?_;obtain⟨w1,w2⟩:=AN.mp hw;rw[h w w1 (by simpa using w2)]
 unfold yc;rw[this]
noncomputable def box:List (Int×Int):=(List.range 13).flatMap λ(i:Nat)=>(List.range 13).map λ(j:Nat)=>((i:Int),(j:Int))
def mu (b:Bd):Nat:=box.countP (ya b)
theorem Mu {p:Int×Int}(h:(0<=p.1/\p.1<=12)/\0<=p.2/\p.2<=12):p∈box:=by
 obtain⟨x,y⟩:=p;dsimp only at h;refine BX.mpr ⟨x.toNat,AB.mpr (by lia),Ah.mpr ⟨y.toNat,AB.mpr (by lia),?_⟩⟩;rw[DN h.1.1,DN h.2.1]
theorem ak {α:Type}{p q:α->Bool}:∀ {l:List α},(∀ x,q x=true->p x=true)->(∃ x∈l,p x=true/\q x=false)->l.countP q<l.countP p
 | [],_,⟨x,hx,_⟩=>by cases hx
 | a::l,h,⟨x,hx,h1,h2⟩=>by
  have hle:l.countP q<=l.countP p:=List.countP_mono_left λ y _=>h y;rw[List.countP_cons,List.countP_cons];rcases Ai.mp hx with e | e
  .subst e;rw[if_neg (by rw[h2];decide),if_pos h1];lia
  .have:=ak h ⟨x,e,h1,h2⟩;by_cases c:q a=true
   .rw[if_pos c,if_pos (h a c)];lia
   .rw[if_neg c];split <;> lia
theorem QT {A B:Int}(hA:A<=12) (hB:B<=12) {b c:Bd}(hb:Gd A B b) (hc:Gd A B c) (h:zM b c) (Ao:b≠c):mu b<mu c:=by
 refine ak h ?_;by_cases x:∃ p∈c,ya b p=false
 .obtain⟨p,hp,e⟩:=x;have q:=hc.vz p hp;exact⟨p,Mu ⟨⟨q.1.1,by lia⟩,q.2.1,by lia⟩,yO.mpr ⟨p,hp,Ax _,Ax _⟩,e⟩
 .exact absurd (hb.eq hc h (zM.of λ p hp=>by
   cases e:ya b p with
   | true=>exact yO.mp e
   | false=>exact absurd ⟨p,hp,e⟩ x)) Ao
theorem QU (b:Bd):mu b<=169:=by
 have:box.length=169:=by decide
 rw[<- this];exact List.countP_le_length
def vq (l:List Bd):Nat:=(l.map mu).sum
theorem dW:∀ (l:List Bd),vq l<=169*l.length
 | []=>by simp[vq]
 | b::l=>by
  have h1:=dW l;have h2:=QU b;unfold vq at h1 ⊢;rw[Au,List.sum_cons,A4];lia
theorem jU {A B:Int}(hA:A<=12) (hB:B<=12):∀ {l m:List Bd},l.length=m.length->(∀ b∈l,Gd A B b)->(∀ b∈m,Gd A B b)->(∀ i,zM (l.getD i []) (m.getD i []))->l≠m->vq l<vq m
 | [],[],_,_,_,_,h=>absurd rfl h
 | [],_::_,h,_,_,_,_=>by simp at h
 | _::_,[],h,_,_,_,_=>by simp at h
 | b::l,c::m,hl,gb,gc,h,Ao=>by
  have GN:l.length=m.length:=by simpa using hl
  have h0:zM b c:=h 0;have hs:∀ i,zM (l.getD i []) (m.getD i []):=λ i=>by simpa using h (i+1)
  have key:vq l<=vq m:=by
   by_cases e:l=m
   .rw[e];exact Af _
   .exact BQ (jU hA hB GN (λ x hx=>gb x (Av _ hx)) (λ x hx=>gc x (Av _ hx)) hs e)
  show (List.map mu (b::l)).sum<(List.map mu (c::m)).sum;rw[Au,List.sum_cons,Au,List.sum_cons];by_cases e:b=c
  .subst e;have:l≠m:=λ q=>Ao (by rw[q]);have:=jU hA hB GN (λ x hx=>gb x (Av _ hx)) (λ x hx=>gc x (Av _ hx)) hs this;unfold vq at this;lia
  .have:=QT hA hB (gb b Am) (gc c Am) h0 e;unfold vq at key;lia
noncomputable def uu (F:zy) (fresh:List Nat) (p:Nat):Bool:=F.ws.any λ w=>decide (w.f=p)&&fresh.contains w.t
def zZ (F:zy) (EN:List Bd) (fresh:List Nat):List Bd:=(List.range EN.length).map λ p=>if uu F fresh p=true then yc F EN p else EN.getD p []
noncomputable def xk (EN GC:List Bd):List Nat:=(List.range GC.length).filter λ p=>decide (GC.getD p []≠EN.getD p [])
def sM (F:zy):Nat->List (List Bd)->List Bd->List Nat->Option (List (List Bd))
 | 0,_,_,_=>none
 | n+1,Fv,EN,fresh=>if fresh=[] then some (Fv++[EN]) else
   let fo:=zZ F EN fresh
   let fr:=xk EN fo
   if fr=[] then some (Fv++[EN]) else sM F n (Fv++[EN]) fo fr
structure St (F:zy) (EN:List Bd) (fresh:List Nat):Prop where
 len:EN.length=F.os.length
 gd:∀ b∈EN,Gd F.A F.B b
 fr:∀ p<F.os.length,uu F fresh p=false->(∃ w∈F.ws,w.f=p)->yc F EN p=EN.getD p []
 le:∀ p<F.os.length,(∃ w∈F.ws,w.f=p)->zM (yc F EN p) (EN.getD p [])
theorem l6 {α:Type}(f:Nat->α) (n p:Nat) (d:α) (h:p<n):((List.range n).map f).getD p d=f p:=by
 rw[AK,Ay,D5 h];rfl
theorem sP (F:zy) (EN:List Bd) (fresh:List Nat):(zZ F EN fresh).length=EN.length:=by unfold zZ;simp
theorem St.at {F:zy}{EN:List Bd}{fresh:List Nat}(s:St F EN fresh) {p:Nat}(hp:p<F.os.length) (hw:∃ w∈F.ws,w.f=p):(zZ F EN fresh).getD p []=yc F EN p:=by
 unfold zZ;rw[l6 _ _ _ _ (by rw[s.len];exact hp)];split
 .rfl
 .rename_i h;exact (s.fr p hp (by simpa using h) hw).symm
theorem Ox {F:zy}{fresh:List Nat}{p:Nat}(h:uu F fresh p=true):∃ w∈F.ws,w.f=p:=by
 unfold uu at h;obtain⟨w,h1,h2⟩:=A9.mp h;exact⟨w,h1,by simp at h2;exact h2.1⟩
theorem St.no {F:zy}{EN:List Bd}{fresh:List Nat}(s:St F EN fresh) {p:Nat}(hp:p<F.os.length) (hw:¬ ∃ w∈F.ws,w.f=p):(zZ F EN fresh).getD p []=EN.getD p []:=by
 unfold zZ;rw[l6 _ _ _ _ (by rw[s.len];exact hp),if_neg (λ h=>hw (Ox h))]
theorem St.au {F:zy}{EN:List Bd}{fresh:List Nat}(s:St F EN fresh) (p:Nat):zM ((zZ F EN fresh).getD p []) (EN.getD p []):=by
 by_cases hp:p<F.os.length
 .by_cases hw:∃ w∈F.ws,w.f=p
  .rw[s.at hp hw];exact s.le p hp hw
  .rw[s.no hp hw];exact zM.refl _
 .have h1:(zZ F EN fresh).getD p []=[]:=by
   rw[AK,DG (by rw[sP,s.len];lia)];rfl
  rw[h1];intro q x;cases x
theorem St.next {F:zy}(ok:F.Ok) {EN:List Bd}{fresh:List Nat}(s:St F EN fresh):St F (zZ F EN fresh) (xk EN (zZ F EN fresh)) where
 len:=by rw[sP,s.len]
 gd:=λ b hb=>by
  unfold zZ at hb;obtain⟨p,hp,rfl⟩:=Ah.mp hb;split
  .exact dR ok EN p
  .have An:=AB.mp hp;rw[AK,AG An];exact s.gd _ (B4 An)
 fr:=λ p hp hn hw=>by
  rw[s.at hp hw];refine QN F p λ w w1 w2=>?_;have hwt:=(ok.ws w w1).2;by_cases e:(zZ F EN fresh).getD w.t []=EN.getD w.t []
  .exact e
  .have:uu F (xk EN (zZ F EN fresh)) p=true:=by
    unfold uu;refine A9.mpr ⟨w,w1,?_⟩;have:w.t∈xk EN (zZ F EN fresh):=by
     unfold xk;exact AN.mpr ⟨AB.mpr (by rw[sP,s.len];exact hwt),by simpa using e⟩
    simp[w2,this]
   rw[this] at hn;cases hn
 le:=λ p hp hw=>by
  rw[s.at hp hw];exact QO F p λ w w1 w2=>s.au w.t
theorem OP {EN fo:List Bd}(hl:fo.length=EN.length) (h:xk EN fo≠[]):fo≠EN:=λ e=>h (by
 subst e;unfold xk;simp)
def start (F:zy):List Bd:=List.replicate F.os.length xH
theorem St.start {F:zy}(ok:F.Ok):St F (start F) (List.range F.os.length) where
 len:=by unfold RN.start;simp
 gd:=λ b hb=>by rw[List.eq_of_mem_replicate hb];exact Gd.xH ok.a0 ok.b0
 fr:=λ p hp hn ⟨w,w1,w2⟩=>by
  have:uu F (List.range F.os.length) p=true:=by
   unfold uu;refine A9.mpr ⟨w,w1,?_⟩;have:=(ok.ws w w1).2;simp[w2,this]
  rw[this] at hn;cases hn
 le:=λ p hp hw=>by
  have e:(RN.start F).getD p []=xH:=by
   unfold RN.start;rw[AK,DL,if_pos hp];rfl
  rw[e];exact (dR ok _ p).Po
theorem eF {F:zy}(ok:F.Ok):∀ (n:Nat) (Fv:List (List Bd)) (EN:List Bd) (fresh:List Nat),St F EN fresh->vq EN<n->
  ∃ more G0,sM F n Fv EN fresh=some (Fv++EN::more)/\(∀ r∈EN::more,r.length=F.os.length/\∀ b∈r,Gd F.A F.B b)/\(EN::more).getLast?=some G0/\more.length<=vq EN
 | 0,_,_,_,_,h=>by lia
 | n+1,Fv,EN,fresh,s,h=>by
  unfold sM;split
  .exact⟨[],EN,rfl,λ r hr=>by cases AZ.mp hr;exact⟨s.len,s.gd⟩,rfl,AV _⟩
  .dsimp only;split
   .exact⟨[],EN,rfl,λ r hr=>by cases AZ.mp hr;exact⟨s.len,s.gd⟩,rfl,AV _⟩
   .rename_i hf;have s':=s.next ok;have An:vq (zZ F EN fresh)<vq EN:=jU ok.a1 ok.b1 (sP ..) s'.gd s.gd s.au (OP (sP ..) hf);obtain⟨more,G0,e1,e2,e3,e4⟩:=eF ok n (Fv++[EN]) _ _ s' (by lia);refine⟨zZ F EN fresh::more,G0,by rw[e1];simp,λ r hr=>?_,by rw[List.getLast?_cons_cons];exact e3,by rw[A4];lia⟩;rcases Ai.mp hr with e | e
    .subst e;exact⟨s.len,s.gd⟩
    .exact e2 r e
theorem OG {pu:Bool}{p q:Int×Int}:(p.1<=q.1/\p.2<=q.2)↔x9 pu p<=x9 pu q/\w_ pu p<=w_ pu q:=by
 cases pu
 .exact Iff.rfl
 .exact And.comm
noncomputable def zE (F:zy):Nat->List Bd
 | 0=>start F
 | k+1=>(List.range F.os.length).map λ p=>yc F (zE F k) p
theorem lp (F:zy):∀ k,(zE F k).length=F.os.length
 | 0=>by unfold zE start;simp
 | k+1=>by unfold zE;simp
theorem QM {F:zy}{EN:List Bd}{fresh:List Nat}(s:St F EN fresh) (hw:∀ p<F.os.length,∃ w∈F.ws,w.f=p):zZ F EN fresh=(List.range F.os.length).map λ p=>yc F EN p:=by
 refine BO (by rw[sP,s.len];simp) λ i h1 h2=>?_;have hi:i<F.os.length:=by simpa using h2
 have e:=s.at hi (hw i hi);rw[AK,AG h1] at e;simpa using e
theorem OQ {EN fo:List Bd}(hl:fo.length=EN.length) (h:xk EN fo=[]):fo=EN:=by
 refine BO hl λ i h1 h2=>?_;have:i∉xk EN fo:=by rw[h];simp
 unfold xk at this;rw[AN] at this;have e:fo.getD i []=EN.getD i []:=Classical.byContradiction λ Ao=>this ⟨AB.mpr h1,by simpa using Ao⟩;rw[AK,AG h1,AK,AG h2] at e;simpa using e
theorem eG {F:zy}(ok:F.Ok) (hw:∀ p<F.os.length,∃ w∈F.ws,w.f=p):∀ (n:Nat) (Fv:List (List Bd)) (k:Nat) (fresh:List Nat) (res:List (List Bd)),St F (zE F k) fresh->fresh≠[]->Fv=(List.range k).map (zE F)->
  sM F n Fv (zE F k) fresh=some res->∃ m,res=(List.range (m+1)).map (zE F)/\zE F (m+1)=zE F m
 | 0,_,_,_,_,_,_,_,h=>by cases h
 | n+1,Fv,k,fresh,res,s,hf,ht,h=>by
  unfold sM at h;rw[if_neg hf] at h;dsimp only at h;have e:zZ F (zE F k) fresh=zE F (k+1):=QM s hw;have et:Fv++[zE F k]=(List.range (k+1)).map (zE F):=by rw[ht,List.range_succ,Bp];rfl
  rw[e,et] at h;split at h
  .rename_i Bw;cases h;exact⟨k,rfl,OQ (by rw[lp,lp]) Bw⟩
  .rename_i Bw;have s':=s.next ok;rw[e] at s';exact eG ok hw n _ (k+1) _ res s' Bw rfl h
theorem cA {F:zy}{m:Nat}(h:zE F (m+1)=zE F m):∀ k,zE F (m+k)=zE F m
 | 0=>rfl
 | k+1=>by
  have ih:=cA h k;show (List.range F.os.length).map (λ p=>yc F (zE F (m+k)) p)=_;rw[ih];exact h
theorem M9 {A B A' B' a b a' b':Int}(hA:A<=A') (hB:B<=B') (ha:a<=a') (hb:b<=b') {bd Jx:Bd}(h:zM bd Jx):zM (uZ A B a b bd) (uZ A' B' a' b' Jx):=m_ λ p hp=>by
 obtain⟨h1,h2⟩:=AN.mp hp;obtain⟨x,hx,rfl⟩:=Ah.mp h1;obtain⟨r,hr,r1,r2⟩:=h.at hx;have e1:(yY a' b' r).1<=(yY a b x).1:=qF (by lia);have e2:(yY a' b' r).2<=(yY a b x).2:=qF (by lia);refine⟨yY a' b' r,AN.mpr ⟨Ah.mpr ⟨r,hr,rfl⟩,?_⟩,e1,e2⟩;unfold va at h2 ⊢;simp only[Bc,decide_eq_true_eq] at h2 ⊢
 lia
theorem ax (pu:Bool) {zG Ic give Hr get get':Int}(hb:zG<=Ic) (hg:Hr<=give) (ht:get<=get'):∀ (n:Nat) (g t g' t':Int),g'<=g->t'<=t->∀ e∈yX pu zG give get n g t,∃ r∈yX pu Ic Hr get' n g' t',r.1<=e.1/\r.2<=e.2
 | 0,g,t,g',t',_,_,e,he=>by simp[yX] at he
 | n+1,g,t,g',t',h1,h2,e,he=>by
  unfold yX at he ⊢;split at he
  .rw[if_pos (by lia)];rcases Ai.mp he with rfl | he
   .exact⟨_,Am,eZ h1 h2⟩
   .obtain⟨r,hr,h⟩:=ax pu hb hg ht n _ _ (g' + Hr) (xD (t'-get')) (by lia) (qF (by lia)) e he;exact⟨r,Av _ hr,h⟩
  .cases he
def r_ (w v:Wy):Prop:=v.f=w.f/\v.t=w.t/\w.a<=v.a/\w.b<=v.b
structure xa (F G:zy):Prop where
 len:G.os.length=F.os.length
 a:F.A<=G.A
 b:F.B<=G.B
 own:∀ p,F.os.getD p false=true->G.os.getD p false=true
 kw:∀ w∈F.ws,G.os.getD w.f false=true->∃ v∈G.ws,r_ w v
 tw:∀ v∈G.ws,G.os.getD v.f false=false->∃ w∈F.ws,r_ w v
 any:∀ p<F.os.length,F.os.getD p false=false->G.os.getD p false=true->∃ w∈F.ws,w.f=p
 st:∀ p s,F.E4 p=some s->∃ s',G.E4 p=some s'/\s'.pu=s.pu/\s'.gv<=s.gv/\s.gt<=s'.gt
theorem NR {F G:zy}(hA:F.A<=G.A) (hB:F.B<=G.B) {s s':Sl}(h1:s'.pu=s.pu) (h2:s'.gv<=s.gv) (h3:s.gt<=s'.gt) {b c:Bd}(h:zM b c):zM (u6 F s b) (u6 G s' c):=m_ λ p hp=>by
 obtain⟨x,hx,hp⟩:=BX.mp hp;obtain⟨r,hr,r1⟩:=h.at hx;have hb:F.zG s.pu<=G.zG s.pu:=by
  unfold zy.zG;split
  .exact hB
  .exact hA
 have hg:=(OG (pu:=s.pu)).mp r1;obtain⟨e,he,e1⟩:=ax s.pu hb h2 h3 100 _ _ _ _ hg.1 hg.2 p hp;refine⟨e,BX.mpr ⟨r,hr,?_⟩,e1⟩;unfold yF;rw[h1];exact he
theorem NN {G:zy}(s:Sl) {c:Bd}(hc:Gd G.A G.B c):zM c (u6 G s c):=λ q hq=>by
 unfold u6;rw[oA];obtain⟨r,hr,r1,r2⟩:=yO.mp hq;refine yO.mpr ⟨r,BX.mpr ⟨r,hr,?_⟩,r1,r2⟩;have h:=hc.vz r hr;unfold yF;have hb:x9 s.pu r<=G.zG s.pu:=by
  unfold x9 zy.zG;split <;> lia
 have e:uj s.pu (x9 s.pu r) (w_ s.pu r)=r:=by
  unfold uj x9 w_;split <;> rfl
 show r∈yX s.pu (G.zG s.pu) s.gv s.gt (99+1) (x9 s.pu r) (w_ s.pu r);unfold yX;rw[if_pos hb,e];exact Am
theorem QP {F G:zy}(L:xa F G) {l m:List Bd}{p:Nat}(hp:p<F.os.length) (h:∀ t,zM (l.getD t []) (m.getD t [])):zM (yc F l p) (yc G m p):=by
 have h0:∀ {w v:Wy},r_ w v->zM (uZ F.A F.B w.a w.b (l.getD w.t [])) (uZ G.A G.B v.a v.b (m.getD v.t [])):=λ{w v} g=>by
  rw[g.2.1];exact M9 L.a L.b g.2.2.1 g.2.2.2 (h w.t)
 have hk:G.os.getD p false=true->zM (wa (yZ F l p)) (wa (yZ G m p)):=λ ho q hq=>by
  unfold wa at hq ⊢;rw[lB] at hq ⊢;rcases hq with x | ⟨c,hc,x⟩
  .exact .inl x
  .obtain⟨w,hw,rfl⟩:=Ah.mp hc;obtain⟨w1,w2⟩:=AN.mp hw;have w2:w.f=p:=by simpa using w2
   obtain⟨v,v1,v2⟩:=L.kw w w1 (by rw[w2];exact ho);exact .inr ⟨_,Ah.mpr ⟨v,AN.mpr ⟨v1,by rw[v2.1,w2];simp⟩,rfl⟩,h0 v2 q x⟩
 have up:G.os.getD p false=true->zM (wa (yZ G m p)) (yc G m p):=λ ho=>by
  unfold yc;rw[if_pos ho];split
  .exact zM.refl _
  .exact NN _ (oV _ _ Gd.nil (kC G m p))
 by_cases hF:F.os.getD p false=true
 .have hG:=L.own p hF;cases hs:F.E4 p with
  | none=>
   have e:yc F l p=wa (yZ F l p):=by unfold yc;rw[if_pos hF,hs]
   rw[e];exact (hk hG).trans (up hG)
  | some s=>
   obtain⟨s',g1,g2,g3,g4⟩:=L.st p s hs;have e:yc F l p=u6 F s (wa (yZ F l p)):=by unfold yc;rw[if_pos hF,hs]
   have e':yc G m p=u6 G s' (wa (yZ G m p)):=by unfold yc;rw[if_pos hG,g1]
   rw[e,e'];exact NR L.a L.b g2 g3 g4 (hk hG)
 .have hF':F.os.getD p false=false:=by simpa using hF
  have e:yc F l p=rb (yZ F l p):=by unfold yc;rw[if_neg hF]
  rw[e];by_cases hG:G.os.getD p false=true
  .obtain⟨w,w1,w2⟩:=L.any p hp hF' hG;refine zM.trans (λ q hq=>?_) ((hk hG).trans (up hG));unfold rb at hq;unfold wa;rw[kr] at hq;rw[lB];have hm:uZ F.A F.B w.a w.b (l.getD w.t [])∈yZ F l p:=Ah.mpr ⟨w,AN.mpr ⟨w1,by simpa using w2⟩,rfl⟩;exact .inr ⟨_,hm,hq.2 _ hm⟩
  .have hG':G.os.getD p false=false:=by simpa using hG
   have e':yc G m p=rb (yZ G m p):=by unfold yc;rw[if_neg hG]
   rw[e'];intro q hq;unfold rb at hq ⊢;rw[kr] at hq ⊢;refine⟨hq.1,λ c hc=>?_⟩;obtain⟨v,hv,rfl⟩:=Ah.mp hc;obtain⟨v1,v2⟩:=AN.mp hv;have v2:v.f=p:=by simpa using v2
   obtain⟨w,w1,w2⟩:=L.tw v v1 (by rw[v2];exact hG');exact h0 w2 q (hq.2 _ (Ah.mpr ⟨w,AN.mpr ⟨w1,by rw[<- w2.1,v2];simp⟩,rfl⟩))
theorem iw {F G:zy}(L:xa F G):∀ (k t:Nat),zM ((zE F k).getD t []) ((zE G k).getD t [])
 | 0,t=>by
  show zM ((RN.start F).getD t []) ((RN.start G).getD t []);unfold RN.start;rw[L.len];exact zM.refl _
 | k+1,t=>by
  show zM (((List.range F.os.length).map (yc F (zE F k))).getD t []) (((List.range G.os.length).map (yc G (zE G k))).getD t []);rw[L.len];by_cases ht:t<F.os.length
  .rw[l6 _ _ _ _ ht,l6 _ _ _ _ ht];exact QP L ht (iw L k)
  .have e:∀ f:Nat->Bd,((List.range F.os.length).map f).getD t []=[]:=λ f=>by
    rw[AK,DG (by simp;lia)];rfl
   rw[e,e];exact zM.refl _
theorem r_.refl (w:Wy):r_ w w:=⟨rfl,rfl,Ax _,Ax _⟩
theorem pW {F G:zy}(h:∀ p,G.E4 p=F.E4 p):∀ p s,F.E4 p=some s->∃ s',G.E4 p=some s'/\s'.pu=s.pu/\s'.gv<=s.gv/\s.gt<=s'.gt:=λ p s e=>⟨s,by rw[h,e],rfl,Ax _,Ax _⟩
theorem xa.way {A B:Int}{os:List Bool}{ws Ff:List Wy}{ss:List Sl}{v:Wy}(hm:∀ w,w∈Ff↔w∈ws\/w=v) (hk:os.getD v.f false=true):xa ⟨A,B,os,ws,ss⟩ ⟨A,B,os,Ff,ss⟩:=
 ⟨rfl,Ax _,Ax _,λ _ h=>h,λ w h _=>⟨w,(hm w).mpr (.inl h),.refl w⟩,λ w h ho=>⟨w,(by
  rcases (hm w).mp h with x | rfl
  .exact x
  .dsimp only at ho;rw[hk] at ho;cases ho),.refl w⟩,λ p _ h h'=>(by dsimp only at h h';rw[h] at h';cases h'),pW λ _=>rfl⟩
theorem xa.YU {A B:Int}{os:List Bool}{ws Ff:List Wy}{ss:List Sl}{v:Wy}(hm:∀ w,w∈Ff↔w∈ws\/w=v) (hk:os.getD v.f false=false):xa ⟨A,B,os,Ff,ss⟩ ⟨A,B,os,ws,ss⟩:=
 ⟨rfl,Ax _,Ax _,λ _ h=>h,λ w h ho=>⟨w,(by
  rcases (hm w).mp h with x | rfl
  .exact x
  .dsimp only at ho;rw[hk] at ho;cases ho),.refl w⟩,λ w h _=>⟨w,(hm w).mpr (.inl h),.refl w⟩,λ p _ h h'=>(by dsimp only at h h';rw[h] at h';cases h'),pW λ _=>rfl⟩
theorem xa.Ju {A B:Int}{os:List Bool}{ws Ff:List Wy}{ss:List Sl}{w v:Wy}(hw:w∈ws) (g:r_ w v) (hm:∀ x,x∈Ff↔(x∈ws/\x≠w)\/x=v):xa ⟨A,B,os,ws,ss⟩ ⟨A,B,os,Ff,ss⟩:=
 ⟨rfl,Ax _,Ax _,λ _ h=>h,λ x h _=>(by
  by_cases z:x=w
  .subst z;exact⟨v,(hm v).mpr (.inr rfl),g⟩
  .exact⟨x,(hm x).mpr (.inl ⟨h,z⟩),.refl x⟩),λ x h _=>(by
  rcases (hm x).mp h with y | rfl
  .exact⟨x,y.1,.refl x⟩
  .exact⟨w,hw,g⟩),λ p _ h h'=>(by dsimp only at h h';rw[h] at h';cases h'),pW λ _=>rfl⟩
theorem bh {os:List Bool}{q p:Nat}:(os.set q true).getD p false=if p=q/\q<os.length then true else os.getD p false:=by
 rw[AK,AK,C6];by_cases h:q=p
 .subst h;by_cases h2:q<os.length
  .simp[h2]
  .simp[h2]
 .rw[if_neg h,if_neg (λ z=>h z.1.symm)]
theorem xa.owner {A B:Int}{os:List Bool}{ws:List Wy}{ss:List Sl}{q:Nat}(hw:∀ p<os.length,∃ w∈ws,w.f=p):xa ⟨A,B,os,ws,ss⟩ ⟨A,B,os.set q true,ws,ss⟩:=
 ⟨by simp,Ax _,Ax _,λ p h=>(by
  dsimp only at h ⊢;rw[bh];split
  .rfl
  .exact h),λ w h _=>⟨w,h,.refl w⟩,λ w h _=>⟨w,h,.refl w⟩,λ p hp _ _=>hw p hp,pW λ _=>rfl⟩
theorem xa.Jw {A B A' B':Int}{os:List Bool}{ws:List Wy}{ss:List Sl}(hA:A<=A') (hB:B<=B'):xa ⟨A,B,os,ws,ss⟩ ⟨A',B',os,ws,ss⟩:=
 ⟨rfl,hA,hB,λ _ h=>h,λ w h _=>⟨w,h,.refl w⟩,λ w h _=>⟨w,h,.refl w⟩,λ p _ h h'=>(by dsimp only at h h';rw[h] at h';cases h'),pW λ _=>rfl⟩
theorem xa.E4 {A B:Int}{os:List Bool}{ws:List Wy}{ss Gi:List Sl}{s':Sl}(hf:∀ p,(zy.mk A B os ws Gi).E4 p=if p=s'.p then some s' else (zy.mk A B os ws ss).E4 p) (hb:∀ s,(zy.mk A B os ws ss).E4 s'.p=some s->s'.pu=s.pu/\s'.gv<=s.gv/\s.gt<=s'.gt):xa ⟨A,B,os,ws,ss⟩ ⟨A,B,os,ws,Gi⟩:=
 ⟨rfl,Ax _,Ax _,λ _ h=>h,λ w h _=>⟨w,h,.refl w⟩,λ w h _=>⟨w,h,.refl w⟩,λ p _ h h'=>(by dsimp only at h h';rw[h] at h';cases h'),λ p s e=>(by
  rw[hf];by_cases z:p=s'.p
  .subst z;rw[if_pos rfl];exact⟨s',rfl,hb s e⟩
  .rw[if_neg z];exact⟨s,e,rfl,Ax _,Ax _⟩)⟩
end RN
namespace zW
open PySem L2 L3 L5
abbrev gY:Sm:=
 (retS (vE (FK "int" (zc 0)) (dE (FK "bool" (zc 0)))))
def sk:List T->Option T:=zI ["thing"] 1 gY
abbrev nA:Ev->Option T:=
 yg [none,none] (yL rD (za (zc 0) (za (mH (zc 0) (some (cI 1)) none) ze))) (wj 2 (y9 (zt 0) (y9 (zt 1) wY))) xm (zb wI (zc 0) (zc 1))
abbrev fg:Sm:=
 (retS (zi (vB λ bs=>bs.all id) (za nA ze)))
def su:List T->Option T:=zI ["things"] 1 fg
abbrev Lk:Sm:=
 (retS (vE (FK "str" (zc 0)) (zb (xq false) (zc 0) (tupS (za (cS (.str "keeper")) (za (cS (.str "taker")) ze))))))
def pB:List T->Option T:=zI ["thing"] 1 Lk
abbrev Yc:Sm:=
 (retS (zi zN (za (zb zf (zc 0) (cI 1)) ze)))
def tq:List T->Option T:=zI ["floor"] 1 Yc
abbrev Y3:Sm:=
 (retS (vE (zb oK (zb zf (zc 0) (cI 0)) (zb zf (zc 1) (cI 0))) (zb oK (zb zf (zc 0) (cI 1)) (zb zf (zc 1) (cI 1)))))
def r9:List T->Option T:=zI ["pair","other"] 2 Y3
abbrev nF:Sm:=
 (zX (sX (xr (y4 (zc 1))) (zP (zb wI (zb zf (zc 2) (cI 1)) (zb zf (zb zf (zc 1) (o3 (cI 1))) (cI 1))))) (xQ 1 (zk 2)) zY)
abbrev Yh:Sm:=
 (zp (vD 1 (xc ze))
 (zp (xY [2] (yk (zi vN (za (zc 0) ze))) (zt 2) nF)
 (retS (zi wg (za (zc 1) ze)))))
def sf:List T->Option T:=zI ["pairs","least","pair"] 1 Yh
abbrev rZ:Sm:=
 (zp (xQ 4 (cW (zP (zb (zq false) (zc 3) (cI 0))) (tupS (za (zk 5) (za (zk 6) ze))) (tupS (za (zk 6) (za (zk 5) ze)))))
 (zp (zH 5 (zb yb (zc 5) (zb zf (zc 1) (cI 2))))
 (zH 6 (zi rK (za (cI 0) (za (zb wW (zc 6) (zb zf (zc 1) (cI 3))) ze))))))
abbrev Ye:Sm:=
 (zp (zH 3 (zb zf (zc 1) (cI 1)))
 (zp (vD 4 (xc ze))
 (zp (zH 5 (zb zf (zc 2) (zc 3)))
 (zp (zH 6 (zb zf (zc 2) (zb wW (cI 1) (zc 3))))
 (zp (pK 1000000 [] (zP (zb tQ (zc 5) (zb zf (zc 0) (zc 3)))) rZ)
 (rH 4))))))
def nS:List T->Option T:=zI ["brims","stall","pair","purse","pairs","given","got"] 3 Ye
abbrev Yn:Sm:=
 (zp (zX (zP (zb wI (zc 1) (zi zN (za (zc 0) ze)))) (retS (zb zf (zc 0) (zc 1))) zY)
 (retS (cI 0)))
def vJ:List T->Option T:=zI ["_law_script","_law_k"] 2 Yn
abbrev aN:Sm:=
 (zp (xQ 2 (zb zS (zc 3) (zb xx (cI 10) (cI 6))))
 (zH 3 (zb xP (zc 3) (zb xx (cI 10) (cI 6)))))
abbrev aM:Sm:=
 (zp (zH 3 (zb zS (zb yb (zb yb (zb vp (zc 3) (cI 52027)) (zb xP (zc 3) (zb xx (cI 10) (cI 22)))) (zb vp (cI 13) (zc 4))) (zb yb (zb xx (cI 10) (cI 45)) (cI 9))))
 (xQ 2 (zb xP (zb vp (zc 3) (zb yb (zb xP (zc 3) (zb xx (cI 10) (cI 23))) (cI 7))) (zb xx (cI 10) (cI 9)))))
abbrev Yj:Sm:=
 (zp (vD 2 (xc ze))
 (zp (zH 3 (zi gr (za (zb xP (zc 0) (cI 2)) ze)))
 (zp (zX (zP (zb (zq false) (zb zS (zc 0) (cI 2)) (cI 1))) (zp (xY [4] (yL xw (za (zc 1) ze)) (zt 4) aN)
 (rH 2)) zY)
 (zp (zH 3 (zb yb (zb zS (zc 3) (zb yb (zb xx (cI 10) (cI 45)) (cI 9))) (cI 77003)))
 (zp (xY [4] (yL xw (za (zc 1) ze)) (zt 4) aM)
 (rH 2))))))
def xK:List T->Option T:=zI ["_law_cell","_law_count","_law_found","_law_number","_law_k"] 2 Yj
abbrev Yp:Sm:=
 (retS (zi vt (za (cI 12) (za (zb yb (zb wW (zb zS (zb zS (zc 0) (cI 25)) (zb yb (zb uK (cI 2) (zc 1)) (cI 1))) (zc 1)) (zb zS (zb w6 (zc 0) (cI 25)) (cI 2))) ze))))
def p7:List T->Option T:=zI ["_law_number","_law_most"] 2 Yp
abbrev Lj:Sm:=
 (retS (zb zf (xc (za (tupS (za (cI 3) (za (cI 2) ze))) (za (tupS (za (cI 2) (za (cI 3) ze))) (za (tupS (za (cI 4) (za (cI 1) ze))) (za (tupS (za (cI 1) (za (cI 4) ze))) (za (tupS (za (cI 3) (za (cI 2) ze))) (za (tupS (za (cI 2) (za (cI 3) ze))) (za (tupS (za (cI 8) (za (cI 1) ze))) (za (tupS (za (cI 3) (za (cI 2) ze))) (za (tupS (za (cI 2) (za (cI 3) ze))) (za (tupS (za (cI 4) (za (cI 1) ze))) ze))))))))))) (zb zS (zc 0) (cI 10))))
def nV:List T->Option T:=zI ["_law_number"] 1 Lj
abbrev kd:Ev->Option T:=
 yg [none,none,some 1] (yk (zc 0)) (wj 2 (y9 (zt 0) (y9 (zt 1) wY))) xm (vE (zb oK (zb zf (zc 2) (cI 0)) (zc 0)) (zb oK (zb zf (zc 2) (cI 1)) (zc 1)))
abbrev Yl:Sm:=
 (retS (zi (vB λ bs=>bs.any id) (za kd ze)))
def rq:List T->Option T:=zI ["_law_border","_law_pair"] 2 Yl
abbrev gX:Sm:=
 (retS (vE (zi sk (za (zk 0) ze)) (iZ tQ tQ (zc 1) (zc 0) (zc 2))))
def sj:List T->Option T:=zI ["thing","least","most"] 3 gX
abbrev km:Ev->Option T:=
 yg [none] (yk (zc 0)) (zt 0) xm (zi pB (za (zk 0) ze))
abbrev Y7:Sm:=
 (zp (zX (sX (xr (y4 (FK "tuple" (zc 0)))) (xr (zP (iZ tQ tQ (cI 1) (zi zN (za (zc 0) ze)) (cI 8))))) (retS (cS (.bl false))) zY)
 (retS (zi (vB λ bs=>bs.all id) (za km ze))))
def mh:List T->Option T:=zI ["thing"] 1 Y7
abbrev a9:Ev->Option T:=
 yg [none] (yk (zc 0)) (zt 0) xm (tupS (za (zb zf (zc 0) (cI 0)) (za (cI 0) (za (zb zf (zc 0) (cI 1)) ze))))
abbrev az:Ev->Option T:=
 yg [none] (yk (zc 1)) (zt 0) xm (tupS (za (zb zf (zc 0) (cI 0)) (za (cI 1) (za (zb zf (zc 0) (cI 1)) ze))))
abbrev k6:Sm:=
 (zp (bN 3 (zc 6) (zi vt (za (zc 7) (za (bP 3 (zc 6) (zk 7)) ze))))
 (zX (zP (zb (zq false) (iR 3) (cI 2))) (xQ 4 (tupS (za (zk 5) (za (zi rK (za (iT 3 (cI 0)) (za (iT 3 (cI 1)) ze))) ze)))) zY))
abbrev Yy:Sm:=
 (zp (zH 2 (zb yb a9 az))
 (zp (bO 3)
 (zp (vD 4 (xc ze))
 (zp (xY [5,6,7] (yk (zi vN (za (zc 2) ze))) (wj 3 (y9 (zt 5) (y9 (zt 6) (y9 (zt 7) wY)))) k6)
 (oO 4 (retS (zi sf (za (zk 4) ze))))))))
def nZ:List T->Option T:=zI ["border","other","steps","lows","shared","first","side","second"] 2 Yy
abbrev Yv:Sm:=
 (retS (zi sf (za (zb yb (zi listS (za (zc 0) ze)) (zi listS (za (zc 1) ze))) ze)))
def qo:List T->Option T:=zI ["border","other"] 2 Yv
abbrev kh:Ev->Option T:=
 yg [none,some 1] (yk (zc 2)) (zt 0) xm (tupS (za (zi rK (za (cI 0) (za (zb wW (zb zf (zc 0) (cI 0)) (zb zf (zc 1) (cI 2))) ze))) (za (zi rK (za (cI 0) (za (zb wW (zb zf (zc 0) (cI 1)) (zb zf (zc 1) (cI 3))) ze))) ze)))
abbrev lT:Ev->Option T:=
 yg [none,some 0] (yk (zc 3)) (zt 0) (y4 (zi r9 (za (zk 1) (za (zk 0) ze)))) (zk 0)
abbrev Y2:Sm:=
 (zp (zH 3 kh)
 (retS (zi sf (za lT ze))))
def md:List T->Option T:=zI ["brims","way","border","pairs"] 3 Y2
abbrev ke:Ev->Option T:=
 yg [none] (yk (zc 0)) (zt 0) xm (zi sk (za (zk 0) ze))
abbrev Ys:Sm:=
 (retS (vE (FK "tuple" (zc 0)) (vE (zb (zq false) (zi zN (za (zc 0) ze)) (cI 4)) (zi (vB λ bs=>bs.all id) (za ke ze)))))
def qm:List T->Option T:=zI ["thing"] 1 Ys
abbrev lZ:Ev->Option T:=
 yg [none,some 1] (yk (zc 0)) (zt 0) (y4 (zi r9 (za (zk 1) (za (zk 0) ze)))) (zk 0)
abbrev Yd:Sm:=
 (retS (zi wg (za lZ ze)))
def qj:List T->Option T:=zI ["border","brims"] 2 Yd
abbrev Yi:Sm:=
 (retS (tupS (za (zk 0) (za (zb zS (zb zS (zc 2) (cI 8)) (zc 1)) (za (zi p7 (za (zb zS (zb w6 (zc 2) (cI 8)) (cI 50)) (za (zk 3) ze))) (za (zi p7 (za (zb zS (zb w6 (zc 2) (cI 400)) (cI 50)) (za (zk 3) ze))) ze))))))
def rp:List T->Option T:=zI ["_law_place","_law_many","_law_number","_law_size"] 4 Yi
abbrev i_:Ev->Option T:=
 yg [none,none] (yL rD (za (zc 0) (za (zc 1) ze))) (wj 2 (y9 (zt 0) (y9 (zt 1) wY))) xm (zi sj (za (zk 0) (za (zb zf (zc 1) (cI 0)) (za (zb zf (zc 1) (cI 1)) ze))))
abbrev gZ:Sm:=
 (zp (zX (sX (xr (y4 (FK "tuple" (zc 0)))) (zP (zb (zq true) (zi zN (za (zc 0) ze)) (zi zN (za (zc 1) ze))))) (retS (cS (.bl false))) zY)
 (retS (zi (vB λ bs=>bs.all id) (za i_ ze))))
def ql:List T->Option T:=zI ["thing","bounds"] 2 gZ
abbrev Yx:Sm:=
 (zX (xr (y4 (zi sj (za (zk 1) (za (cI 0) (za (zb wW (zi tq (za (zk 0) ze)) (cI 1)) ze)))))) sO zY)
def qp:List T->Option T:=zI ["floor","place"] 2 Yx
abbrev k7:Sm:=
 (zH 1 (zi qo (za (zk 1) (za (zk 2) ze))))
abbrev Y0:Sm:=
 (zp (zH 1 (tupS ze))
 (zp (xY [2] (yk (zk 0)) (zt 2) k7)
 (retS (zk 1))))
def n_:List T->Option T:=zI ["borders","joined","border"] 1 Y0
abbrev k8:Sm:=
 (zH 1 (zi nZ (za (zk 1) (za (zk 2) ze))))
abbrev Y1:Sm:=
 (zp (zH 1 (tupS (za (tupS (za (cI 0) (za (cI 0) ze))) ze)))
 (zp (xY [2] (yk (zk 0)) (zt 2) k8)
 (retS (zk 1))))
def ma:List T->Option T:=zI ["borders","joined","border"] 1 Y1
abbrev Yr:Sm:=
 (retS (zi sj (za (zk 1) (za (cI 0) (za (zb wW (zi zN (za (zb zf (zc 0) (cI 2)) ze)) (cI 1)) ze)))))
def nW:List T->Option T:=zI ["floor","thing"] 2 Yr
abbrev gU:Sm:=
 (zp (zX (zP (zb (zq false) (zc 0) (zc 1))) (retS (cS (.str "alike"))) zY)
 (zp (zH 2 (zi qo (za (zk 0) (za (zk 1) ze))))
 (zp (zX (zP (zb (zq false) (zc 2) (zc 0))) (retS (cS (.str "first"))) zY)
 (zp (zX (zP (zb (zq false) (zc 2) (zc 1))) (retS (cS (.str "second"))) zY)
 (retS (cS (.str "neither")))))))
def pj:List T->Option T:=zI ["border","other","joined"] 2 gU
abbrev kz:Sm:=
 (xQ 6 (zi rp (za (zk 8) (za (zk 4) (za (zb zf (zc 3) (zb yb (zb yb (cI 3) (zb uK (cI 4) (zc 8))) (zc 11))) (za (zk 10) ze))))))
abbrev qZ:Sm:=
 (zp (zH 9 (zb zf (zc 3) (zb yb (cI 2) (zb uK (cI 4) (zc 8)))))
 (zp (xQ 5 (zb zf (xc (za (cS (.str "keeper")) (za (cS (.str "taker")) ze))) (zb zS (zc 9) (cI 2))))
 (zp (zH 10 (zb zf (xc (za (cI 2) (za (cI 3) (za (cI 3) (za (cI 12) ze))))) (zb zS (zb w6 (zc 9) (cI 2)) (cI 4))))
 (zp (xY [11] (yL xw (za (zb yb (cI 1) (zb zS (zb w6 (zc 9) (cI 8)) (cI 3))) ze)) (zt 11) kz)
 (zX (lC (zP (zb (zq false) (zb zf (zc 5) (zc 8)) (cS (.str "keeper")))) (zP (zb (zq false) (zb zS (zb w6 (zc 9) (cI 24)) (cI 3)) (cI 0)))) (xQ 7 (tupS (za (zk 8) (za (zb zS (zb w6 (zc 9) (cI 72)) (cI 2)) (za (zb yb (cI 1) (zb zS (zb w6 (zc 9) (cI 144)) (cI 4))) (za (zb zS (zb w6 (zc 9) (cI 576)) (cI 5)) ze)))))) zY)))))
abbrev kx:Sm:=
 (xQ 6 (zi rp (za (zb zS (zb zS (zb w6 (zb zf (zc 3) (cI 0)) (cI 64)) (cI 8)) (zc 4)) (za (zk 4) (za (zb zf (zc 3) (zb yb (cI 34) (zc 11))) (za (cI 3) ze))))))
abbrev Ym:Sm:=
 (zp (zH 3 (zi xK (za (zk 0) (za (cI 43) ze))))
 (zp (zH 4 (zb yb (cI 1) (zb zS (zb zf (zc 3) (cI 0)) (zc 1))))
 (zp (vD 5 (xc ze))
 (zp (vD 6 (xc ze))
 (zp (vD 7 (xc ze))
 (zp (xY [8,9,10,11] (yL xw (za (zc 4) ze)) (zt 8) qZ)
 (zp (zX (zP (zb (zq false) (zb zS (zb w6 (zb zf (zc 3) (cI 0)) (cI 8)) (cI 8)) (cI 1))) (xY [11] (yL xw (za (zi vt (za (cI 9) (za (zb wW (cI 24) (zi zN (za (zc 6) ze))) ze))) ze)) (zt 11) kx) zY)
 (zp (zH 12 (tupS (za (zb zS (zb zf (zc 3) (cI 1)) (zb yb (zc 2) (cI 1))) (za (zb zS (zb w6 (zb zf (zc 3) (cI 1)) (cI 13)) (zb yb (zc 2) (cI 1))) ze))))
 (retS (tupS (za (zk 12) (za (zi wg (za (zc 5) ze)) (za (zi wg (za (zi tF (za (zc 6) ze)) ze)) (za (zi wg (za (zc 7) ze)) ze))))))))))))))
def px:List T->Option T:=zI ["_law_cell","_law_most","_law_brim","_law_xs","_law_many","_law_owners","_law_ways","_law_stalls","_law_place","_law_number","_law_size","_law_k","_law_brims"] 3 Ym
abbrev kl:Ev->Option T:=
 yg [none,some 1] (yk (zc 0)) (zt 0) xm (zi ql (za (zk 0) (za (zk 1) ze)))
abbrev Y6:Sm:=
 (retS (vE (FK "tuple" (zc 0)) (zi (vB λ bs=>bs.all id) (za kl ze))))
def qq:List T->Option T:=zI ["thing","bounds"] 2 Y6
abbrev Y8:Sm:=
 (retS (zi ql (za (zk 0) (za (tupS (za (tupS (za (cI 0) (za (cI 12) ze))) (za (tupS (za (cI 0) (za (cI 12) ze))) ze))) ze))))
def mi:List T->Option T:=zI ["thing"] 1 Y8
abbrev lY:Ev->Option T:=
 yg [none,none,some 1] (yL sW (za (zb zf (zc 0) (cI 2)) ze)) (wj 2 (y9 (zt 0) (y9 (zt 1) wY))) (zP (zb (zq false) (zb zf (zc 1) (cI 0)) (zc 2))) (zk 0)
abbrev Z_:Sm:=
 (zp (lD (zi qp (za (zk 0) (za (zk 1) ze))))
 (retS lY))
def nR:List T->Option T:=zI ["floor","place"] 2 Z_
abbrev nE:Sm:=
 (zX (zP (zb (zq false) (zb zf (zc 2) (cI 0)) (zc 1))) (retS (zk 2)) zY)
abbrev Ya:Sm:=
 (zp (lD (zi qp (za (zk 0) (za (zk 1) ze))))
 (zp (xY [2] (yk (zb zf (zc 0) (cI 3))) (zt 2) nE)
 (retS (cS .zo))))
def qh:List T->Option T:=zI ["floor","place","stall"] 2 Ya
abbrev ki:Ev->Option T:=
 yg [none] (yk (zc 0)) (zt 0) xm (zb zf (zc 0) (cI 0))
abbrev lU:Ev->Option T:=
 yg [none,some 4] (yL xw (za (zc 1) ze)) (zt 0) xm (zb (xq false) (zc 0) (zc 1))
abbrev Y4:Sm:=
 (zp (zH 2 (tupS (za (cI 0) (za (zb wW (zc 1) (cI 1)) ze))))
 (zp (zH 3 (tupS (za (o3 (cI 12)) (za (cI 12) ze))))
 (zp (zX (xr (y4 (zi qq (za (zk 0) (za (tupS (za (zk 2) (za (zk 2) (za (zk 3) (za (zk 3) ze))))) ze))))) (retS (cS (.bl false))) zY)
 (zp (zH 4 ki)
 (retS (vE (zb tQ (zi zN (za (zc 0) ze)) (cI 24)) (vE (zi su (za (zk 0) ze)) (zi (vB λ bs=>bs.all id) (za lU ze)))))))))
def me:List T->Option T:=zI ["thing","places","place","coins","starts"] 2 Y4
abbrev kj:Ev->Option T:=
 yg [none] (yk (zc 0)) (zt 0) xm (zb zf (zc 0) (cI 0))
abbrev lV:Ev->Option T:=
 yg [none,some 1] (yk (zc 0)) (zt 0) xm (zb (zq false) (zb zf (zc 1) (zb zf (zc 0) (cI 0))) (cS (.str "keeper")))
abbrev Y5:Sm:=
 (zp (zH 2 (tupS (za (cI 0) (za (zb wW (zi zN (za (zc 1) ze)) (cI 1)) ze))))
 (zp (zX (xr (y4 (zi qq (za (zk 0) (za (tupS (za (zk 2) (za (tupS (za (cI 0) (za (cI 1) ze))) (za (tupS (za (cI 1) (za (cI 12) ze))) (za (tupS (za (cI 0) (za (cI 12) ze))) ze))))) ze))))) (retS (cS (.bl false))) zY)
 (retS (vE (zi su (za kj ze)) (zi (vB λ bs=>bs.all id) (za lV ze))))))
def mf:List T->Option T:=zI ["thing","owners","place"] 2 Y5
abbrev k9:Sm:=
 (iM 4 (zi nS (za (zb zf (zc 0) (cI 0)) (za (zk 3) (za (zk 5) ze)))))
abbrev g_:Sm:=
 (zp (zH 3 (zi qh (za (zk 0) (za (zk 1) ze))))
 (zp (zX (zP (zb (wZ false) (zc 3) (cS .zo))) (retS (zk 2)) zY)
 (zp (vD 4 (xc ze))
 (zp (xY [5] (yk (zk 2)) (zt 5) k9)
 (oO 4 (retS (zi sf (za (zk 4) ze))))))))
def pC:List T->Option T:=zI ["floor","place","border","stall","pairs","pair"] 3 g_
abbrev Yt:Sm:=
 (zp (zX (sX (xr (y4 (FK "tuple" (zc 0)))) (zP (zb (zq true) (zi zN (za (zc 0) ze)) (cI 4)))) (retS (cS (.bl false))) zY)
 (zp (zX (sX (xr (y4 (zi mi (za (zb zf (zc 0) (cI 0)) ze)))) (xr (y4 (zi mh (za (zb zf (zc 0) (cI 1)) ze))))) (retS (cS (.bl false))) zY)
 (retS (vE (zi me (za (zb zf (zc 0) (cI 2)) (za (zi zN (za (zb zf (zc 0) (cI 1)) ze)) ze))) (zi mf (za (zb zf (zc 0) (cI 3)) (za (zb zf (zc 0) (cI 1)) ze)))))))
def nX:List T->Option T:=zI ["thing"] 1 Yt
abbrev ka:Ev->Option T:=
 yg [none,some 0] (yk (zi nR (za (zk 0) (za (zk 1) ze)))) (zt 0) xm (zb zf (zb zf (zc 1) (cI 2)) (zc 0))
abbrev lQ:Ev->Option T:=
 yg [none,some 0,some 2] (yk (zc 3)) (zt 0) xm (zi md (za (zb zf (zc 1) (cI 0)) (za (zk 0) (za (zb zf (zc 2) (zb zf (zc 0) (cI 1))) ze))))
abbrev Yg:Sm:=
 (zp (zH 3 ka)
 (zp (zH 4 lQ)
 (zp (zX (zP (zb (zq false) (zb zf (zb zf (zc 0) (cI 1)) (zc 1)) (cS (.str "keeper")))) (retS (zi pC (za (zk 0) (za (zk 1) (za (zi n_ (za (zk 4) ze)) ze))))) zY)
 (retS (zi ma (za (zk 4) ze))))))
def nU:List T->Option T:=zI ["floor","place","last","ways","ahead"] 3 Yg
abbrev l_:Ev->Option T:=
 yg [none,some 2] (yk (zb zf (zc 0) (cI 2))) (zt 0) (zP (zb (xq false) (zb zf (zc 0) (cI 1)) (zc 1))) (zb zf (zc 0) (cI 0))
abbrev ky:Sm:=
 (mY 3 (zc 4) (zi nU (za (zk 0) (za (zk 4) (za (zk 1) ze)))))
abbrev Yf:Sm:=
 (zp (vD 3 (zi listS (za (zc 1) ze)))
 (zp (xY [4] (yk (zi tF (za l_ ze))) (zt 4) ky)
 (rH 3)))
def pk:List T->Option T:=zI ["floor","last","fresh","following","place"] 3 Yf
abbrev kf:Ev->Option T:=
 yg [none] (yk (zb yb (zc 2) (zc 3))) (zt 0) xm (zi qm (za (zk 0) ze))
abbrev Yu:Sm:=
 (zp (zX (xr (y4 (zi (vB λ bs=>bs.all id) (za kf ze)))) sO zY)
 (zp (zH 4 (tupS (za (zk 0) (za (zi wg (za (zc 1) ze)) (za (zi wg (za (zi vN (za (zc 2) ze)) ze)) (za (zi wg (za (zi vN (za (zc 3) ze)) ze)) ze))))))
 (zp (zX (xr (y4 (zi nX (za (zk 4) ze)))) sO zY)
 (retS (zk 4)))))
def vK:List T->Option T:=zI ["brims","owners","ways","stalls","floor"] 4 Yu
abbrev nv:Ev->Option T:=
 yg [none,none,some 3] (yL sW (za (zc 4) ze)) (wj 2 (y9 (zt 0) (y9 (zt 1) wY))) (zP (zb (zq true) (zc 1) (zb zf (zc 2) (zc 0)))) (zk 0)
abbrev uY:Sm:=
 (zp (zH 3 (zb zf (zc 1) (o3 (cI 1))))
 (zp (zH 4 (zi pk (za (zk 0) (za (zk 3) (za (zk 2) ze)))))
 (zp (zH 2 nv)
 (zX (y4 (zc 2)) (xQ 1 (zk 4)) zY))))
abbrev Yb:Sm:=
 (zp (vD 1 (xc (za (zb uK (xc (za (tupS (za (tupS (za (cI 0) (za (cI 0) ze))) ze)) ze)) (zi tq (za (zk 0) ze))) ze)))
 (zp (zH 2 (zi o8 (za (zi tq (za (zk 0) ze)) ze)))
 (zp (pK 1000000 [3,4] (y4 (zc 2)) uY)
 (rH 1))))
def tp:List T->Option T:=zI ["floor","told","fresh","last","following"] 1 Yb
abbrev ZV:Sm:=
 (retS (zi vK (za (zb zf (zc 0) (cI 0)) (za (zb zf (zc 0) (cI 1)) (za (zb yb (zi listS (za (zb zf (zc 0) (cI 2)) ze)) (xc (za (zk 1) ze))) (za (zi listS (za (zb zf (zc 0) (cI 3)) ze)) ze))))))
def nM:List T->Option T:=zI ["floor","way"] 2 ZV
abbrev ZY:Sm:=
 (zp (zX (xr (y4 (zi nW (za (zk 0) (za (zk 1) ze))))) sO zY)
 (zp (vD 4 (zi listS (za (zb zf (zc 0) (cI 2)) ze)))
 (zp (mY 4 (zc 1) (tupS (za (zb zf (zb zf (zc 4) (zc 1)) (cI 0)) (za (zb zf (zb zf (zc 4) (zc 1)) (cI 1)) (za (zk 2) (za (zk 3) ze))))))
 (oO 4 (retS (zi vK (za (zb zf (zc 0) (cI 0)) (za (zb zf (zc 0) (cI 1)) (za (zk 4) (za (zi listS (za (zb zf (zc 0) (cI 3)) ze)) ze))))))))))
def nP:List T->Option T:=zI ["floor","number","a","b","ways"] 4 ZY
abbrev lX:Ev->Option T:=
 yg [none,some 3] (yk (zb zf (zc 0) (cI 3))) (zt 0) (zP (zb (zq false) (zb zf (zc 1) (zb zf (zc 0) (cI 0))) (cS (.str "keeper")))) (zk 0)
abbrev ZX:Sm:=
 (zp (lD (zi qp (za (zk 0) (za (zk 1) ze))))
 (zp (zX (xr (y4 (zi pB (za (zk 2) ze)))) sO zY)
 (zp (vD 3 (zi listS (za (zb zf (zc 0) (cI 1)) ze)))
 (zp (mY 3 (zc 1) (zk 2))
 (oO 3 (retS (zi vK (za (zb zf (zc 0) (cI 0)) (za (zk 3) (za (zi listS (za (zb zf (zc 0) (cI 2)) ze)) (za lX ze)))))))))))
def nN:List T->Option T:=zI ["floor","place","owner","owners"] 3 ZX
abbrev ZZ:Sm:=
 (retS (zi vK (za (zk 1) (za (zb zf (zc 0) (cI 1)) (za (zi listS (za (zb zf (zc 0) (cI 2)) ze)) (za (zi listS (za (zb zf (zc 0) (cI 3)) ze)) ze))))))
def nQ:List T->Option T:=zI ["floor","brims"] 2 ZZ
abbrev lW:Ev->Option T:=
 yg [none,some 1] (yk (zb zf (zc 0) (cI 3))) (zt 0) (zP (zb (zq true) (zb zf (zc 0) (cI 0)) (zb zf (zc 1) (cI 0)))) (zk 0)
abbrev ZW:Sm:=
 (zp (zX (xr (y4 (zi qm (za (zk 1) ze)))) sO zY)
 (zp (zH 2 lW)
 (retS (zi vK (za (zb zf (zc 0) (cI 0)) (za (zb zf (zc 0) (cI 1)) (za (zi listS (za (zb zf (zc 0) (cI 2)) ze)) (za (zb yb (zc 2) (xc (za (zk 1) ze))) ze))))))))
def qg:List T->Option T:=zI ["floor","stall","others"] 2 ZW
abbrev Yz:Sm:=
 (retS (zb zf (zi tp (za (zk 0) ze)) (o3 (cI 1))))
def uA:List T->Option T:=zI ["floor"] 1 Yz
abbrev rX:Ev->Option T:=
 yg [none,some 0,some 2] (yL xw (za (zi zN (za (zb zf (zc 0) (cI 1)) ze)) ze)) (zt 0) (zP (zb (zq false) (zb zf (zb zf (zc 1) (cI 1)) (zc 0)) (zc 2))) (zk 0)
abbrev mn:Sm:=
 (zp (zH 3 rX)
 (zp (zX (sX (zP (zb (zq false) (zc 3) (xc ze))) (zP (zb cZ (zi zN (za (zb zf (zc 0) (cI 2)) ze)) (cI 23)))) (retS (cS .zo)) zY)
 (zp (zH 4 (tupS (za (zb zf (zc 3) (zb zS (zb zf (zc 1) (cI 0)) (zi zN (za (zc 3) ze)))) (za (zb zS (zb zf (zc 1) (cI 1)) (zi zN (za (zb zf (zc 0) (cI 1)) ze))) (za (zb wW (zb zS (zb zf (zc 1) (cI 2)) (cI 9)) (cI 4)) (za (zb wW (zb zS (zb zf (zc 1) (cI 3)) (cI 9)) (cI 4)) ze))))))
 (zp (zX (zP (zb (xq false) (zc 4) (zb zf (zc 0) (cI 2)))) (retS (cS .zo)) zY)
 (retS (zi nM (za (zk 0) (za (zk 4) ze))))))))
def u9:List T->Option T:=zI ["_law_floor_here","_law_xs","_law_owner","_law_places","_law_way_here"] 3 mn
abbrev gW:Sm:=
 (zp (zH 2 (zb zS (zb zf (zc 1) (cI 0)) (zi zN (za (zb zf (zc 0) (cI 2)) ze))))
 (zp (jj (zb zf (zb zf (zc 0) (cI 2)) (zc 2)) (wj 4 (y9 (zt 3) (y9 (zt 4) (y9 (zt 5) (y9 (zt 6) wY))))))
 (zp (zH 7 (tupS (za (zk 3) (za (zk 4) (za (zi vt (za (cI 12) (za (zb yb (zc 5) (zb zS (zb zf (zc 1) (cI 1)) (cI 4))) ze))) (za (zi vt (za (cI 12) (za (zb yb (zc 6) (zb zS (zb zf (zc 1) (cI 2)) (cI 4))) ze))) ze))))))
 (zp (zX (zP (zb (xq false) (zc 7) (zb zf (zc 0) (cI 2)))) (retS (cS .zo)) zY)
 (retS (zi nP (za (zk 0) (za (zk 2) (za (zb zf (zc 7) (cI 2)) (za (zb zf (zc 7) (cI 3)) ze))))))))))
def pz:List T->Option T:=zI ["_law_floor_here","_law_xs","_law_at","_law_start","_law_end","_law_first","_law_second","_law_more"] 2 gW
abbrev qY:Ev->Option T:=
 yg [none,some 0] (yL xw (za (zi zN (za (zb zf (zc 0) (cI 1)) ze)) ze)) (zt 0) (zP (zb (zq false) (zb zf (zb zf (zc 1) (cI 1)) (zc 0)) (cS (.str "keeper")))) (zk 0)
abbrev nr:Ev->Option T:=
 yg [none,some 3] (yk (zb zf (zc 0) (cI 3))) (zt 0) (zP (zb (zq false) (zb zf (zc 0) (cI 0)) (zc 1))) (zk 0)
abbrev kY:Sm:=
 (zp (zH 2 qY)
 (zp (zX (zP (zb (zq false) (zc 2) (xc ze))) (retS (cS .zo)) zY)
 (zp (zH 3 (zb zf (zc 2) (zb zS (zb zf (zc 1) (cI 0)) (zi zN (za (zc 2) ze)))))
 (zp (zH 4 nr)
 (zp (zX (zP (zb (zq false) (zc 4) (xc ze))) (retS (zi qg (za (zk 0) (za (tupS (za (zk 3) (za (zb zS (zb zf (zc 1) (cI 1)) (cI 2)) (za (zb yb (cI 1) (zb zS (zb zf (zc 1) (cI 2)) (cI 4))) (za (zb zS (zb zf (zc 1) (cI 3)) (cI 5)) ze))))) ze)))) zY)
 (zp (zH 5 (zi rK (za (cI 1) (za (zb wW (zb zf (zb zf (zc 4) (cI 0)) (cI 2)) (zb zS (zb zf (zc 1) (cI 1)) (cI 3))) ze))))
 (retS (zi qg (za (zk 0) (za (tupS (za (zk 3) (za (zb zf (zb zf (zc 4) (cI 0)) (cI 1)) (za (zk 5) (za (zi vt (za (cI 12) (za (zb yb (zb zf (zb zf (zc 4) (cI 0)) (cI 3)) (zb zS (zb zf (zc 1) (cI 2)) (cI 3))) ze))) ze))))) ze))))))))))
def qk:List T->Option T:=zI ["_law_floor_here","_law_xs","_law_places","_law_place","_law_known","_law_give"] 2 kY
abbrev kg:Ev->Option T:=
 yg [none,some 2] (yk (zi uA (za (zk 0) ze))) (zt 0) xm (zi qj (za (zk 0) (za (zk 1) ze)))
abbrev lS:Ev->Option T:=
 yg [none,some 2] (yk (zi uA (za (zk 1) ze))) (zt 0) xm (zi qj (za (zk 0) (za (zk 1) ze)))
abbrev lP:Ev->Option T:=
 yg [none,none] (yL rD (za (zc 3) (za (zc 4) ze))) (wj 2 (y9 (zt 0) (y9 (zt 1) wY))) xm (zi pj (za (zk 0) (za (zk 1) ze)))
abbrev Yw:Sm:=
 (zp (zX (zP (zb (zq true) (zi tq (za (zk 0) ze)) (zi tq (za (zk 1) ze)))) sO zY)
 (zp (zH 2 (tupS (za (zi vt (za (zb zf (zb zf (zc 0) (cI 0)) (cI 0)) (za (zb zf (zb zf (zc 1) (cI 0)) (cI 0)) ze))) (za (zi vt (za (zb zf (zb zf (zc 0) (cI 0)) (cI 1)) (za (zb zf (zb zf (zc 1) (cI 0)) (cI 1)) ze))) ze))))
 (zp (zH 3 kg)
 (zp (zH 4 lS)
 (retS lP)))))
def nY:List T->Option T:=zI ["one","other","brims","held","held_there"] 2 Yw
abbrev ny:Ev->Option T:=
 yg [none,some 0] (yL xw (za (zi zN (za (zb zf (zc 0) (cI 1)) ze)) ze)) (zt 0) (zP (zb (zq false) (zb zf (zb zf (zc 1) (cI 1)) (zc 0)) (cS (.str "taker")))) (zk 0)
abbrev Yo:Sm:=
 (zp (zH 3 (zi xK (za (zb w6 (zc 1) (cI 6)) (za (cI 5) ze))))
 (zp (zH 4 (zb zS (zc 1) (cI 6)))
 (zp (zX (zP (zb (zq false) (zc 4) (cI 0))) (retS (zi u9 (za (zk 0) (za (zk 3) (za (cS (.str "keeper")) ze))))) zY)
 (zp (zX (zP (zb (zq false) (zc 4) (cI 1))) (zp (zH 5 ny)
 (zp (zX (zP (zb (zq false) (zc 5) (xc ze))) (retS (cS .zo)) zY)
 (retS (zi nN (za (zk 0) (za (zb zf (zc 5) (zb zS (zb zf (zc 3) (cI 0)) (zi zN (za (zc 5) ze)))) (za (cS (.str "keeper")) ze))))))) zY)
 (zp (zX (zP (zb (zq false) (zc 4) (cI 2))) (retS (zi pz (za (zk 0) (za (zk 3) ze)))) zY)
 (zp (zX (zP (zb (zq false) (zc 4) (cI 3))) (retS (zi nQ (za (zk 0) (za (tupS (za (zi vt (za (zc 2) (za (zb yb (zb zf (zb zf (zc 0) (cI 0)) (cI 0)) (zb zS (zb zf (zc 3) (cI 0)) (cI 3))) ze))) (za (zi vt (za (zc 2) (za (zb yb (zb zf (zb zf (zc 0) (cI 0)) (cI 1)) (zb zS (zb zf (zc 3) (cI 1)) (cI 3))) ze))) ze))) ze)))) zY)
 (zp (zX (zP (zb (zq false) (zc 4) (cI 4))) (retS (zi qk (za (zk 0) (za (zk 3) ze)))) zY)
 (retS (cS .zo)))))))))
def p0:List T->Option T:=zI ["_law_floor_here","_law_cell","_law_limit","_law_xs","_law_way_here","_law_places"] 3 Yo
abbrev kc:Ev->Option T:=
 yg [none] (yk (zc 2)) (zt 0) (zP (zb (xq true) (zc 0) (xc (za (cS (.str "alike")) (za (cS (.str "first")) ze))))) (zk 0)
abbrev lR:Ev->Option T:=
 yg [none,some 3,some 5] (yk (zb zf (zc 4) (zc 5))) (zt 0) xm (zi rq (za (zb zf (zc 1) (zc 2)) (za (zk 0) ze)))
abbrev nG:Sm:=
 (zX (xr (y4 (zi (vB λ bs=>bs.all id) (za lR ze)))) (retS (cS (.bl false))) zY)
abbrev lO:Ev->Option T:=
 yg [none,some 3,some 6,some 5] (yk (zb zf (zb zf (zc 4) (zc 6)) (zc 5))) (zt 0) xm (zi rq (za (zb zf (zb zf (zc 1) (zc 2)) (zc 3)) (za (zk 0) ze)))
abbrev nD:Sm:=
 (zX (xr (y4 (zi (vB λ bs=>bs.all id) (za lO ze)))) (retS (cS (.bl false))) zY)
abbrev nC:Sm:=
 (xY [5] (yL xw (za (zi zN (za (zc 2) ze)) ze)) (zt 5) nD)
abbrev Yk:Sm:=
 (zp (zH 2 (zi nY (za (zk 0) (za (zk 1) ze))))
 (zp (zX (sX (zP (zb (zq true) kc (xc ze))) (zP (zb (zq true) (zi zN (za (zc 2) ze)) (zi zN (za (zb zf (zc 1) (cI 1)) ze))))) (retS (cS (.bl false))) zY)
 (zp (zH 3 (zi uA (za (zk 0) ze)))
 (zp (zH 4 (zi uA (za (zk 1) ze)))
 (zp (xY [5] (yL xw (za (zi zN (za (zc 2) ze)) ze)) (zt 5) nG)
 (zp (zH 3 (zi tp (za (zk 0) ze)))
 (zp (zH 4 (zi tp (za (zk 1) ze)))
 (zp (xY [5,6] (yL xw (za (zi vt (za (zi zN (za (zc 3) ze)) (za (zi zN (za (zc 4) ze)) ze))) ze)) (zt 6) nC)
 (retS (cS (.bl true)))))))))))
def sg:List T->Option T:=zI ["_law_better_here","_law_worse","_law_told","_law_here","_law_there","_law_place","_law_k"] 2 Yk
abbrev rg:Sm:=
 (zp (zH 5 (zi vJ (za (zk 0) (za (zk 4) ze))))
 (zp (zX (zP (zb (zq false) (zb zS (zc 5) (cI 7)) (cI 6))) (zp (zH 6 (zi u9 (za (zk 3) (za (zi xK (za (zb w6 (zc 5) (cI 7)) (za (cI 4) ze))) (za (cS (.str "taker")) ze)))))
 (zX (lC (zP (zb (wZ true) (zc 6) (cS .zo))) (xr (y4 (zi sg (za (zk 3) (za (zk 6) ze)))))) (retS (cS (.bl false))) zY)) (zp (zH 6 (zi p0 (za (zk 3) (za (zb w6 (zc 5) (cI 7)) (za (zb yb (zc 2) (zi qK (za (zb wI (zc 1) (cI 5)) ze))) ze)))))
 (zX (lC (zP (zb (wZ true) (zc 6) (cS .zo))) (xr (y4 (zi sg (za (zk 6) (za (zk 3) ze)))))) (retS (cS (.bl false))) zY)))
 (zX (zP (zb (wZ true) (zc 6) (cS .zo))) (zH 3 (zk 6)) zY)))
abbrev Yq:Sm:=
 (zp (jj (zi nV (za (zi vJ (za (zk 0) (za (cI 0) ze))) ze)) (wj 2 (y9 (zt 1) (y9 (zt 2) wY))))
 (zp (zH 3 (zi px (za (zi vJ (za (zk 0) (za (cI 1) ze))) (za (zk 1) (za (zk 2) ze)))))
 (zp (xY [4,5,6] (yL oa (za (cI 2) (za (zi rK (za (cI 3) (za (zi vt (za (zi zN (za (zc 0) ze)) (za (cI 50) ze))) ze))) (za (cI 16) ze)))) (zt 4) rg)
 (retS (cS (.bl true))))))
def p9:List T->Option T:=zI ["_law_script","_law_most","_law_brim","_law_floor_here","_law_k","_law_cell","_law_other"] 1 Yq
theorem XM (ps:List (Int×Int)) (h:ps.length<64):vN [.lst (ps.map zm)]=some (.lst ((tG ps).map zm)):=by
 show (vk (ps.map zm)).bind _=_;rw[Wi,Bu,if_pos ⟨by simpa using h,λ r hr=>by obtain⟨p,_,rfl⟩:=Ah.mp hr;simp[vm]⟩,<- fS,AF];rfl
theorem Oy {qs p:List (Int×Int)}{x:Int×Int}(hr:∀ r,qs++y8 r (qs.getLast?.map (·.2))=y8 (p++r) none) (hb:uX (qs.getLast?.map (·.2)) x.2=true) (r:List (Int×Int)):
  (qs++[x])++y8 r ((qs++[x]).getLast?.map (·.2))=y8 (p++[x]++r) none:=by
 have:=hr (x::r);rw[show y8 (x::r) (qs.getLast?.map (·.2))=x::y8 r (some x.2) by rw[y8,if_pos hb]] at this;simpa using this
theorem Oz {qs p:List (Int×Int)}{x:Int×Int}(hr:∀ r,qs++y8 r (qs.getLast?.map (·.2))=y8 (p++r) none) (hb:uX (qs.getLast?.map (·.2)) x.2=false) (r:List (Int×Int)):
  qs++y8 r (qs.getLast?.map (·.2))=y8 (p++[x]++r) none:=by
 have:=hr (x::r);rw[show y8 (x::r) (qs.getLast?.map (·.2))=y8 r (qs.getLast?.map (·.2)) by rw[y8,if_neg (by rw[hb];nofun)]] at this;simpa using this
theorem kR (ps:List (Int×Int)) (hl:ps.length<64):sf [.lst (ps.map zm)]=some (.tup ((wJ ps).map zm)):=by
 obtain⟨J',h1,qs,h2,h3,h4⟩:=ur (is:=[2]) (g:=zt 2) (b:=nF) zm (λ p J=>∃ qs:List (Int×Int),J=[some (.im (.lst (ps.map zm))),some (.own (.lst (qs.map zm))),none]/\qs.length<=p.length/\
   ∀ r,qs++y8 r (qs.getLast?.map (·.2))=y8 (p++r) none) (tG ps) [some (.im (.lst (ps.map zm))),some (.own (.lst [])),none] ⟨[],by simp,by simp,λ r=>by simp⟩ (by
  rintro p x q e J ⟨qs,rfl,hq,hr⟩;have hlen:p.length<64:=by
   have:=congrArg List.length e;rw[(ju ps).length_eq] at this;simp at this;lia
  have app:uX (qs.getLast?.map (·.2)) x.2=true->∃ JD:List (Int×Int),yq [2] [some (.im (.lst (ps.map zm))),some (.own (.lst (qs.map zm++[zm x]))),some (.im (zm x))]=[some (.im (.lst (ps.map zm))),some (.own (.lst (JD.map zm))),none]/\JD.length<=(p++[x]).length/\∀ r,JD++y8 r (JD.getLast?.map (·.2))=y8 (p++[x]++r) none:=λ hb=>
   ⟨qs++[x],by simp,by simp;lia,Oy hr hb⟩
  rcases List.eq_nil_or_concat qs with rfl | ⟨init,l,rfl⟩
  .refine⟨_,?_,app (by simp[uX])⟩;simp[turn,nF]
  .simp only[List.concat_eq_append] at *;by_cases hb:x.2<l.2
   .refine⟨_,?_,app (by simp[uX,hb])⟩;simp at hq;simp[turn,nF,zm,hb,wI]
    lia
   .refine⟨[some (.im (.lst (ps.map zm))),some (.own (.lst ((init++[l]).map zm))),some (.im (zm x))],?_,init++[l],by simp,by simp at hq ⊢;lia,Oz hr (by simp[uX];lia)⟩;simp[turn,nF,zm,hb,wI])
 have h5:=h4 [];simp[y8] at h5;unfold sf Yh;simp[XM ps hl,h1,h2,h5,wJ]
theorem MZ (b o:List (Int×Int)) (hl:b.length+o.length<64):qo [.tup (b.map zm),.tup (o.map zm)]=some (.tup ((wJ (b++o)).map zm)):=by
 have h:=kR (b++o) (by simpa using hl);rw[Bp] at h;have:b.length+o.length<=16777216:=by lia
 unfold qo Yv;simp[h,this]
noncomputable def r0 (p:Int×Int):List Int:=[p.1,0,p.2]
noncomputable def r1 (p:Int×Int):List Int:=[p.1,1,p.2]
noncomputable def yK (l:Option Int) (v:Int):Int:=match l with
 | none=>v
 | some m=>if m<v then m else v
noncomputable def vP (l:Option Int) (sh:List (Int×Int)) (f:Int->Int×Int):List (Int×Int):=match l with
 | some m=>sh++[f m]
 | none=>sh
structure Sw (b o:List (Int×Int)) (p:List (List Int)) (l0 l1:Option Int) (sh:List (Int×Int)):Prop where
 jY:∀ x,r0 x∈p->∃ m,l0=some m/\m<=x.2
 jX:∀ x,r1 x∈p->∃ m,l1=some m/\m<=x.2
 gh:∀ m,l0=some m->∃ x,r0 x∈p/\x.2=m
 gg:∀ m,l1=some m->∃ x,r1 x∈p/\x.2=m
 len:sh.length<=p.length
 snd:∀ s∈sh,(∃ x,r0 x∈p/\x.1<=s.1/\x.2<=s.2)/\∃ x,r1 x∈p/\x.1<=s.1/\x.2<=s.2
 all:∀ x y,r0 x∈p->r1 y∈p->∃ s∈sh,(s.1<=x.1\/s.1<=y.1)/\(s.2<=x.2\/s.2<=y.2)
theorem mO {x y:Int×Int}(h:r0 x=r0 y):x=y:=by
 unfold r0 at h;injection h with h1 h2;injection h2 with _ h2;injection h2 with h2 _;exact Prod.ext h1 h2
theorem mN {x y:Int×Int}(h:r1 x=r1 y):x=y:=by
 unfold r1 at h;injection h with h1 h2;injection h2 with _ h2;injection h2 with h2 _;exact Prod.ext h1 h2
theorem qz {x y:Int×Int}(h:r0 x=r1 y):False:=by
 unfold r0 r1 at h;injection h with h1 h2;injection h2 with h2 _;lia
theorem uL {p:List (List Int)}{a x:List Int}(h:a∈p++[x]):a∈p\/a=x:=by simpa using h
theorem Sw.XA {b o:List (Int×Int)}{p:List (List Int)}{l0 l1:Option Int}{sh:List (Int×Int)}(h:Sw b o p l0 l1 sh) (x:Int×Int) (hx:∀ y,r0 y∈p->y.1<=x.1) (hy:∀ y,r1 y∈p->y.1<=x.1):
  Sw b o (p++[r0 x]) (some (yK l0 x.2)) l1 (vP l1 sh λ m=>(x.1,if m>yK l0 x.2 then m else yK l0 x.2)):=by
 have lo:yK l0 x.2<=x.2/\∀ m,l0=some m->yK l0 x.2<=m:=by
  unfold yK;cases l0 with
  | none=>exact⟨Ax _,nofun⟩
  | some m=>dsimp only;split <;> refine⟨by lia,λ m' e=>?_⟩ <;> cases e <;> lia
 have la:∃ y,r0 y∈p++[r0 x]/\y.2=yK l0 x.2:=by
  unfold yK;cases l0 with
  | none=>exact⟨x,by simp,rfl⟩
  | some m=>
   dsimp only;split
   .obtain⟨y,h1,h2⟩:=h.gh m rfl;exact⟨y,by simp[h1],h2⟩
   .exact⟨x,by simp,rfl⟩
 have Hf:∀ s∈sh,(∃ x',r0 x'∈p++[r0 x]/\x'.1<=s.1/\x'.2<=s.2)/\∃ x',r1 x'∈p++[r0 x]/\x'.1<=s.1/\x'.2<=s.2:=λ s hs=>by
  obtain⟨⟨a,a1,a2⟩,c,c1,c2⟩:=h.snd s hs;exact⟨⟨a,by simp[a1],a2⟩,c,by simp[c1],c2⟩
 refine⟨λ y hm=>?_,λ y hm=>?_,λ m e=>?_,λ m e=>?_,?_,λ s hs=>?_,λ y z hm hz=>?_⟩
 .rcases uL hm with q | q
  .obtain⟨m,e,q2⟩:=h.jY y q;exact⟨_,rfl,by have:=lo.2 m e;lia⟩
  .cases mO q;exact⟨_,rfl,lo.1⟩
 .rcases uL hm with q | q
  .exact h.jX y q
  .exact (qz q.symm).elim
 .cases e;exact la
 .obtain⟨y,q1,q2⟩:=h.gg m e;exact⟨y,by simp[q1],q2⟩
 .have:=h.len;cases l1 <;> simp[vP] <;> lia
 .cases l1 with
  | none=>exact Hf s hs
  | some m=>
   rcases A2.mp hs with q | q
   .exact Hf s q
   .obtain rfl:s=_:=by simpa using q
    obtain⟨y,y1,y2⟩:=la;obtain⟨z,z1,z2⟩:=h.gg m rfl;have Ed:=hy z z1;refine⟨⟨y,y1,?_,by dsimp only;split <;> lia⟩,z,by simp[z1],Ed,by dsimp only;split <;> lia⟩;rcases uL y1 with w | w
    .exact hx y w
    .cases mO w;exact Ax _
 .have JK:r1 z∈p:=by
   rcases uL hz with q | q
   .exact q
   .exact (qz q.symm).elim
  rcases uL hm with q | q
  .obtain⟨s,s1,s2⟩:=h.all y z q JK;refine⟨s,?_,s2⟩;cases l1 <;> simp[vP,s1]
  .cases mO q;obtain⟨m,e,hm⟩:=h.jX z JK;subst e;refine⟨_,A3 _ Am,.inl (Ax _),?_⟩;have:=lo.1;dsimp only;split <;> lia
theorem Sw.swap {b o:List (Int×Int)}{p:List (List Int)}{l0 l1:Option Int}{sh:List (Int×Int)}(x:Int×Int) (h:Sw b o p l0 l1 sh) (hx:∀ y,r0 y∈p->y.1<=x.1) (hy:∀ y,r1 y∈p->y.1<=x.1):
  Sw b o (p++[r1 x]) l0 (some (yK l1 x.2)) (vP l0 sh λ m=>(x.1,if yK l1 x.2>m then yK l1 x.2 else m)):=by
 have lo:yK l1 x.2<=x.2/\∀ m,l1=some m->yK l1 x.2<=m:=by
  unfold yK;cases l1 with
  | none=>exact⟨Ax _,nofun⟩
  | some m=>dsimp only;split <;> refine⟨by lia,λ m' e=>?_⟩ <;> cases e <;> lia
 have la:∃ y,r1 y∈p++[r1 x]/\y.2=yK l1 x.2:=by
  unfold yK;cases l1 with
  | none=>exact⟨x,by simp,rfl⟩
  | some m=>
   dsimp only;split
   .obtain⟨y,h1,h2⟩:=h.gg m rfl;exact⟨y,by simp[h1],h2⟩
   .exact⟨x,by simp,rfl⟩
 have Hf:∀ s∈sh,(∃ x',r0 x'∈p++[r1 x]/\x'.1<=s.1/\x'.2<=s.2)/\∃ x',r1 x'∈p++[r1 x]/\x'.1<=s.1/\x'.2<=s.2:=λ s hs=>by
  obtain⟨⟨a,a1,a2⟩,c,c1,c2⟩:=h.snd s hs;exact⟨⟨a,by simp[a1],a2⟩,c,by simp[c1],c2⟩
 refine⟨λ y hm=>?_,λ y hm=>?_,λ m e=>?_,λ m e=>?_,?_,λ s hs=>?_,λ y z hm hz=>?_⟩
 .rcases uL hm with q | q
  .exact h.jY y q
  .exact (qz q).elim
 .rcases uL hm with q | q
  .obtain⟨m,e,q2⟩:=h.jX y q;exact⟨_,rfl,by have:=lo.2 m e;lia⟩
  .cases mN q;exact⟨_,rfl,lo.1⟩
 .obtain⟨y,q1,q2⟩:=h.gh m e;exact⟨y,by simp[q1],q2⟩
 .cases e;exact la
 .have:=h.len;cases l0 <;> simp[vP] <;> lia
 .cases l0 with
  | none=>exact Hf s hs
  | some m=>
   rcases A2.mp hs with q | q
   .exact Hf s q
   .obtain rfl:s=_:=by simpa using q
    obtain⟨y,y1,y2⟩:=la;obtain⟨z,z1,z2⟩:=h.gh m rfl;have Ed:=hx z z1;refine⟨⟨z,by simp[z1],Ed,by dsimp only;split <;> lia⟩,y,y1,?_,by dsimp only;split <;> lia⟩;rcases uL y1 with w | w
    .exact hy y w
    .cases mN w;exact Ax _
 .have JO:r0 y∈p:=by
   rcases uL hm with q | q
   .exact q
   .exact (qz q).elim
  rcases uL hz with q | q
  .obtain⟨s,s1,s2⟩:=h.all y z JO q;refine⟨s,?_,s2⟩;cases l0 <;> simp[vP,s1]
  .cases mN q;obtain⟨m,e,hm⟩:=h.jY y JO;subst e;refine⟨_,A3 _ Am,.inr (Ax _),?_⟩;have:=lo.1;dsimp only;split <;> lia
structure Lw (d:List (Key×T)) (l0 l1:Option Int):Prop where
 v0:xb d (.inl 0)=l0.map T.int
 v1:xb d (.inl 1)=l1.map T.int
 len:d.length=(if l0.isSome then 1 else 0)+if l1.isSome then 1 else 0
theorem Lw.W6 {d:List (Key×T)}{l0 l1:Option Int}(h:Lw d l0 l1) (v:Int):Lw (vO d (.inl 0) (.int v)) (some v) l1:=by
 refine⟨by rw[mr];simp,by rw[mr];simpa using h.v1,?_⟩;rw[cn,h.v0,h.len];cases l0 <;> cases l1 <;> simp
theorem Lw.W5 {d:List (Key×T)}{l0 l1:Option Int}(h:Lw d l0 l1) (v:Int):Lw (vO d (.inl 1) (.int v)) l0 (some v):=by
 refine⟨by rw[mr];simpa using h.v0,by rw[mr];simp,?_⟩;rw[cn,h.v1,h.len];cases l0 <;> cases l1 <;> simp
theorem l7 {rows p q:List (List Int)}{x:List Int}(e:L4.yT rows=p++x::q) {a:List Int}(ha:a∈p) {i j:Int}{as xs:List Int}(h1:a=i::as) (h2:x=j::xs):i<=j:=by
 have h:=L4.pX rows;rw[e,DA] at h;have:=h.2.2 a ha x Am;subst h1 h2;rw[HT.tP] at this;by_cases c:j=i
 .lia
 .rw[if_neg c] at this;have:=of_decide_eq_false this
  lia
theorem Lf (b o:List (Int×Int)) (hl:b.length+o.length<64):∃ sh:List (Int×Int),nZ [.tup (b.map zm),.tup (o.map zm)]=some (.tup ((wJ sh).map zm))/\sh.length<64/\∀ q,ya sh q=(ya b q&&ya o q):=by
 let a0:W:=.im (.tup (b.map zm))
 let a1:W:=.im (.tup (o.map zm))
 let rows:=b.map r0++o.map r1
 let a2:W:=.im (.lst (rows.map zx))
 have hlen:rows.length<64:=by simp[rows];exact hl
 have hs:vN [.lst (rows.map zx)]=some (.lst ((L4.yT rows).map zx)):=by
  show ((vk (rows.map zx)).bind λ rs=>_)=_;rw[mK,Bu,if_pos ⟨hlen,λ r hr=>by
   rcases A2.mp hr with h | h <;> obtain⟨_,_,rfl⟩:=Ah.mp h <;> simp[r0,r1]⟩]
 have J7:(L4.yT rows).length=rows.length:=(L4.uh rows).length_eq;obtain⟨J1,h1,d,l0,l1,sh,e1,w1,s1⟩:=ur (is:=[5,6,7]) (g:=wj 3 (y9 (zt 5) (y9 (zt 6) (y9 (zt 7) wY)))) (b:=k6) zx (λ p J=>∃ d l0 l1 sh,J=[some a0,some a1,some a2,some (.own (.z_ d)),some (.own (.lst (sh.map zm))),none,none,none]/\Lw d l0 l1/\Sw b o p l0 l1 sh) (L4.yT rows) [some a0,some a1,some a2,some (.own (.z_ [])),some (.own (.lst [])),none,none,none]
  ⟨[],none,none,[],by simp,⟨rfl,rfl,rfl⟩,⟨nofun,nofun,nofun,nofun,by simp,nofun,nofun⟩⟩ (by
  rintro p x q e J ⟨d,l0,l1,sh,rfl,hw,Cb⟩;have hx:x∈rows:=(L4.uh rows).mem_iff.mp (by rw[e];simp);have Aq:p.length<64:=by
   have:=congrArg List.length e;rw[J7] at this;simp at this;lia
  have Bz:sh.length<16777216:=by have:=Cb.len;lia
  have Cy:d.length<16777216:=by rw[hw.len];split <;> split <;> lia
  rcases A2.mp hx with hm | hm
  .obtain⟨y,_,rfl⟩:=Ah.mp hm;have st:=Cb.XA y (λ z hz=>l7 e hz rfl rfl) (λ z hz=>l7 e hz rfl rfl);have HE:=hw.W6 (yK l0 y.2);refine⟨[some a0,some a1,some a2,some (.own (.z_ (vO d (.inl 0) (.int (yK l0 y.2))))),some (.own (.lst ((vP l1 sh λ m=>(y.1,if m>yK l0 y.2 then m else yK l0 y.2)).map zm))),some (.im (.int y.1)),some (.im (.int 0)),some (.im (.int y.2))],?_,_,_,_,_,(by simp),HE,st⟩;have hr:zx (r0 y)=.tup [.int y.1,.int 0,.int y.2]:=rfl;have v0:=HE.v0;have v1:=HE.v1;have ln:=HE.len;cases l0 <;> cases l1 <;> simp[turn,k6,hr,hw.v0,Cy,Bz,yK,vP,zq,dep,eqT] at v0 v1 ln ⊢ <;> simp[v0,v1,ln,zm,vP]
  .obtain⟨y,_,rfl⟩:=Ah.mp hm;have st:=Cb.swap y (λ z hz=>l7 e hz rfl rfl) (λ z hz=>l7 e hz rfl rfl);have HE:=hw.W5 (yK l1 y.2);refine⟨[some a0,some a1,some a2,some (.own (.z_ (vO d (.inl 1) (.int (yK l1 y.2))))),some (.own (.lst ((vP l0 sh λ m=>(y.1,if yK l1 y.2>m then yK l1 y.2 else m)).map zm))),some (.im (.int y.1)),some (.im (.int 1)),some (.im (.int y.2))],?_,_,_,_,_,(by simp),HE,st⟩;have hr:zx (r1 y)=.tup [.int y.1,.int 1,.int y.2]:=rfl;have v0:=HE.v0;have v1:=HE.v1;have ln:=HE.len;cases l0 <;> cases l1 <;> simp[turn,k6,hr,hw.v1,Cy,Bz,yK,vP,zq,dep,eqT] at v0 v1 ln ⊢ <;> simp[v0,v1,ln,zm,vP])
 have DS:sh.length<64:=by have:=s1.len;lia
 refine⟨sh,?_,DS,λ q=>?_⟩
 .subst e1;have HI:a9 [some a0,some a1,none,none,none,none,none,none]=some (.lst ((b.map r0).map zx)):=by
   rw[AF];exact xj zm (zx ∘ r0) b (by simp[a0]) (by lia) λ y _=>by simp[zm,zx,r0]
  have F5:az [some a0,some a1,none,none,none,none,none,none]=some (.lst ((o.map r1).map zx)):=by
   rw[AF];exact xj zm (zx ∘ r1) o (by simp[a1]) (by lia) λ y _=>by simp[zm,zx,r1]
  have hF:=kR sh DS;have z:b.length+o.length<=16777216:=by lia
  simp only[a0,a1,a2,rows,Bp] at HI F5 hs h1;unfold nZ Yy;simp[HI,F5,z,hs,h1,hF] at HI F5 hs h1 ⊢;simp[HI,F5,z,hs,h1,hF]
 .have m0:∀ x,r0 x∈L4.yT rows↔x∈b:=λ x=>by
   rw[(L4.uh rows).mem_iff];constructor
   .intro h;rcases A2.mp h with h | h <;> obtain⟨y,hy,e⟩:=Ah.mp h
    .cases mO e;exact hy
    .exact (qz e.symm).elim
   .exact λ h=>CD _ (List.mem_map_of_mem h)
  have m1:∀ x,r1 x∈L4.yT rows↔x∈o:=λ x=>by
   rw[(L4.uh rows).mem_iff];constructor
   .intro h;rcases A2.mp h with h | h <;> obtain⟨y,hy,e⟩:=Ah.mp h
    .exact (qz e).elim
    .cases mN e;exact hy
   .exact λ h=>A3 _ (List.mem_map_of_mem h)
  rw[BN,Bc,yO,yO,yO];constructor
  .rintro⟨s,hs,g1,g2⟩;obtain⟨⟨x,x1,x2,x3⟩,y,y1,y2,y3⟩:=s1.snd s hs;exact⟨⟨x,(m0 x).mp x1,by lia,by lia⟩,y,(m1 y).mp y1,by lia,by lia⟩
  .rintro⟨⟨x,x1,x2,x3⟩,y,y1,y2,y3⟩;obtain⟨s,s1,g1,g2⟩:=s1.all x y ((m0 x).mpr x1) ((m1 y).mpr y1);exact⟨s,s1,by lia,by lia⟩
theorem qU {α:Type}(enc:α->T) (n:Nat) (h:∀ x,dep (enc x)<=n):∀ xs:List α,yW (xs.map enc)<=n
 | []=>by simp[yW]
 | x::xs=>by
  have:=h x;have:=qU enc n h xs;simp only[Au,yW]
  lia
theorem N4 (p:Int×Int):dep (zm p)<=1:=by simp[zm,dep,yW]
theorem lJ (ps:List (Int×Int)):dep (.tup (ps.map zm))<=60:=by
 have:=qU zm 1 N4 ps;simp only[dep]
 lia
theorem Nk {ps qs:List (Int×Int)}(h:ps=qs):zq false (.tup (ps.map zm)) (.tup (qs.map zm))=some (.bl true):=by
 subst h;unfold zq;rw[if_pos ⟨lJ ps,lJ ps⟩,iQ];rfl
end zW
namespace zW
open PySem L2 L3 L5 RN
def bT (b:Bd):T:=.tup (b.map zm)
def rT (r:List Bd):T:=.lst (r.map bT)
noncomputable def kt (b:Bool):T:=if b=true then .str "keeper" else .str "taker"
noncomputable def zu (w:Wy):T:=.tup [.int w.f,.int w.t,.int w.a,.int w.b]
noncomputable def xC (b:Bool):Int:=if b=true then 1 else 0
def zw (s:Sl):T:=.tup [.int s.p,.int (xC s.pu),.int s.gv,.int s.gt]
def zh (F:zy):T:=.tup [.tup [.int F.A,.int F.B],.tup (F.os.map kt),.tup (F.ws.map zu),.tup (F.ss.map zw)]
theorem eq_int (i j:Int) (neg:Bool):zq neg (.int i) (.int j)=some (.bl (cond neg (!decide (i=j)) (decide (i=j)))):=by
 simp[zq,dep,eqT];cases neg <;> simp[Bool.beq_eq_decide_eq]
theorem kQ (F:zy):tq [zh F]=some (.int F.os.length):=by
 simp[tq,Yc,zh]
theorem Zq (q p:Int×Int):r9 [zm q,zm p]=some (.bl (yU q p)):=by
 by_cases h1:p.1<=q.1 <;> by_cases h2:p.2<=q.2 <;> simp[r9,Y3,zm,yU,h1,h2]
theorem rf {α:Type}(g:α->Bool) (xs:List α):wQ (xs.map λ x=>T.bl (g x))=some (xs.map g):=by
 have:=aE (xs.map g)
 rwa [AF] at this
theorem Lh (A B:Int) (w:Wy) (bd:Bd) (hl:bd.length<64):md [.tup [.int A,.int B],zu w,bT bd]=some (bT (uZ A B w.a w.b bd)):=by
 have h1:kh [some (.im (.tup [.int A,.int B])),some (.im (zu w)),some (.im (bT bd)),none]=some (.lst ((bd.map (yY w.a w.b)).map zm)):=by
  rw[AF];unfold kh;refine xj zm _ bd (by simp[bT]) (by lia) λ p _=>?_;simp[zm,zu,yY,xD,qL]
 have h2:lT [some (.im (.tup [.int A,.int B])),some (.im (zu w)),some (.im (bT bd)),some (.im (.lst ((bd.map (yY w.a w.b)).map zm)))]=some (.lst (((bd.map (yY w.a w.b)).filter (va A B)).map zm)):=by
  have:=sQ zm (λ p=>if va A B p=true then some (zm p) else none) (pick:=[none,some 0]) (it:=yk (zc 3)) (g:=zt 0) (c:=y4 (zi r9 (za (zk 1) (za (zk 0) ze)))) (f:=zk 0) (J:=[some (.im (.tup [.int A,.int B])),some (.im (zu w)),some (.im (bT bd)),some (.im (.lst ((bd.map (yY w.a w.b)).map zm)))]) (bd.map (yY w.a w.b)) (by simp) (by simp;lia) (λ p _=>by
   have e:T.tup [.int A,.int B]=zm (A,B):=rfl;have ga:yU (A,B) p=va A B p:=rfl;simp only[wK,e];simp[Zq,ga];cases va A B p <;> simp)
  unfold lT;rw[this,show ∀ l:List (Int×Int),l.filterMap (λ p=>if va A B p=true then some (zm p) else none)=(l.filter (va A B)).map zm from λ l=>by
   induction l with
   | nil=>rfl
   | cons a l ih=>by_cases h:va A B a=true <;> simp[CF,h,ih]]
 have h3:=kR ((bd.map (yY w.a w.b)).filter (va A B)) (Nat.lt_of_le_of_lt (Co _ _) (by simpa using hl));unfold md Y2;generalize kh=d1 at h1 ⊢;generalize lT=d2 at h2 ⊢;generalize sf=ff at h3 ⊢;generalize (bd.map (yY w.a w.b)).map zm=L1 at h1 h2;generalize (((bd.map (yY w.a w.b)).filter (va A B)).map zm)=L2 at h2 h3;simp[h1,h2,h3];rfl
theorem Zo (b c:Bd) (hl:b.length+c.length<64):qo [bT b,bT c]=some (bT (vA b c)):=MZ b c hl
theorem Ld (b c:Bd) (hl:b.length+c.length<64):nZ [bT b,bT c]=some (bT (vC b c)):=by
 obtain⟨sh,h1,_,h2⟩:=Lf b c hl;have:wJ sh=vC b c:=y_.eq (lg _) (lg _) λ q=>by
  rw[oA,h2,<- aA]
 rw[<- this];exact h1
theorem MY {A B:Int}(hA:0<=A/\A<=12) (bs:List Bd) (h:∀ b∈bs,Gd A B b):n_ [.lst (bs.map bT)]=some (bT (wa bs)):=by
 obtain⟨J',h1,h2⟩:=ur (is:=[2]) (g:=zt 2) (b:=k7) bT (λ p J=>J=[some (.im (.lst (bs.map bT))),some (.im (bT (p.foldl vA []))),none]) bs [some (.im (.lst (bs.map bT))),some (.im (bT [])),none] rfl (by
  rintro p x q e J rfl;have g1:Gd A B (p.foldl vA []):=oV p [] Gd.nil λ c hc=>h c (by rw[e];simp[hc]);have g2:Gd A B x:=h x (by rw[e];simp);have l1:=g1.rN hA.1;have l2:=g2.rN hA.1;refine⟨[some (.im (.lst (bs.map bT))),some (.im (bT (vA (p.foldl vA []) x))),some (.im (bT x))],?_,by simp⟩;simp[turn,k7,Zo (p.foldl vA []) x (by lia)])
 subst h2;unfold n_ Y0;generalize k7=bb at h1 ⊢;have e:bT []=.tup []:=rfl;rw[e] at h1;simp[h1,wa]
theorem Lc {A B:Int}(hA:0<=A/\A<=12) (hB:0<=B) (bs:List Bd) (h:∀ b∈bs,Gd A B b):ma [.lst (bs.map bT)]=some (bT (rb bs)):=by
 obtain⟨J',h1,h2⟩:=ur (is:=[2]) (g:=zt 2) (b:=k8) bT (λ p J=>J=[some (.im (.lst (bs.map bT))),some (.im (bT (p.foldl vC xH))),none]) bs [some (.im (.lst (bs.map bT))),some (.im (bT xH)),none] rfl (by
  rintro p x q e J rfl;have g1:Gd A B (p.foldl vC xH):=hJ p xH (Gd.xH hA.1 hB) λ c hc=>h c (by rw[e];simp[hc]);have g2:Gd A B x:=h x (by rw[e];simp);have l1:=g1.rN hA.1;have l2:=g2.rN hA.1;refine⟨[some (.im (.lst (bs.map bT))),some (.im (bT (vC (p.foldl vC xH) x))),some (.im (bT x))],?_,by simp⟩;simp[turn,k8,Ld (p.foldl vC xH) x (by lia)])
 subst h2;unfold ma Y1;generalize k8=bb at h1 ⊢;have e:bT xH=.tup [.tup [.int 0,.int 0]]:=rfl;rw[e] at h1;simp[h1,rb]
theorem cf {α:Type}{is:List Nat}{g:T->Ev->Option Ev}{b:Sm}(enc ret:α->T) (test:α->Bool) (J0:Ev):∀ (xs:List α) (J:Ev),yq is J=J0->
  (∀ x∈xs,∃ J',yq is J'=J0/\turn g b (enc x) J0=some (if test x=true then .rt (ret x) else .nx J'))->
  x8 is g b (xs.map enc) J=some (match xs.find? test with | some x=>.rt (ret x) | none=>.nx J0)
 | [],J,h,_=>by rw[A_,List.find?_nil,x8,h]
 | x::xs,J,h,ht=>by
  rw[Au,jZ,h];obtain⟨J',h1,h2⟩:=ht x Am;rw[h2,Cq];by_cases c:test x=true
  .rw[if_pos c,c];rfl
  .rw[if_neg c];rw[Bool.not_eq_true] at c;rw[c];exact cf enc ret test J0 xs J' h1 λ y hy=>ht y (Av _ hy)
theorem Zh (i a b:Int):sj [.int i,.int a,.int b]=some (.bl (decide (a<=i)&&decide (i<=b))):=by
 have h:sk [.int i]=some (.bl true):=by simp[sk,gY,wx]
 by_cases h1:a<=i <;> by_cases h2:i<=b <;> simp[sj,gX,h,h1,h2]
theorem gD (F:zy) (p:Nat) (h:p<F.os.length):qp [zh F,.int p]=some .zo:=by
 have h1:=Zh p 0 ((F.os.length:Int)-1);rw[show decide ((0:Int)<=p)=true from K4 (by lia),show decide ((p:Int)<=(F.os.length:Int)-1)=true from K4 (by lia)] at h1;have h2:=kQ F;unfold qp Yx;generalize zh F=fl at *;simp[h1,h2]
theorem NL (pu:Bool) (A B:Int) (sp gv gt:Int) (x y:Int) (hg:1<=gv) (b0 b1:T) (hb:zf b0 (.int (xC pu))=some (.int (if pu=true then B else A))) (Hd:zf b1 (.int 2)=some (.int gv)) (hs3:zf b1 (.int 3)=some (.int gt)) (pr:T):
  ∀ (n m:Nat) (g t:Int) (acc:Bd),(if pu=true then B else A)+1-g<=n->n<m->acc.length+n<=1000->
  ∃ g' t',xX [] (zP (zb tQ (zc 5) (zb zf (zc 0) (zc 3)))) rZ m [some (.im b0),some (.im b1),some (.im pr),some (.im (.int (xC pu))),some (.own (.lst (acc.map zm))),some (.im (.int g)),some (.im (.int t))]
   = some (.nx [some (.im b0),some (.im b1),some (.im pr),some (.im (.int (xC pu))),some (.own (.lst ((acc++yX pu (if pu=true then B else A) gv gt n g t).map zm))),some (.im (.int g')),some (.im (.int t'))]):=by
 have Bm:∀ (m:Nat) (g t:Int) (acc:Bd),¬ g<=(if pu=true then B else A)->xX [] (zP (zb tQ (zc 5) (zb zf (zc 0) (zc 3)))) rZ (m+1) [some (.im b0),some (.im b1),some (.im pr),some (.im (.int (xC pu))),some (.own (.lst (acc.map zm))),some (.im (.int g)),some (.im (.int t))]
   = some (.nx [some (.im b0),some (.im b1),some (.im pr),some (.im (.int (xC pu))),some (.own (.lst (acc.map zm))),some (.im (.int g)),some (.im (.int t))]):=λ m g t acc hn=>by
  unfold xX;simp only[zf] at hb;simp[hb,hn]
 intro n
 induction n with
 | zero=>
  intro m g t acc h1 h2 h3;obtain⟨m,rfl⟩:∃ k,m=k+1:=⟨m-1,by lia⟩
  refine⟨g,t,?_⟩;rw[Bm m g t acc (by lia)];simp[yX]
 | succ n ih=>
  intro m g t acc h1 h2 h3;obtain⟨m,rfl⟩:∃ k,m=k+1:=⟨m-1,by lia⟩
  by_cases hc:g<=(if pu=true then B else A)
  .obtain⟨g',t',e⟩:=ih m (g+gv) (xD (t-gt)) (acc++[uj pu g t]) (by lia) (by lia) (by simp;lia);refine⟨g',t',?_⟩;have Hb:rZ [some (.im b0),some (.im b1),some (.im pr),some (.im (.int (xC pu))),some (.own (.lst (acc.map zm))),some (.im (.int g)),some (.im (.int t))]=some (.nx [some (.im b0),some (.im b1),some (.im pr),some (.im (.int (xC pu))),some (.own (.lst ((acc++[uj pu g t]).map zm))),some (.im (.int (g+gv))),some (.im (.int (xD (t-gt))))]):=by
    simp only[zf] at Hd hs3;have hl:acc.length<16777216:=by lia
    unfold rZ;cases pu <;> simp[xC,eq_int,Hd,hs3,hl,qL,xD,uj,zm]
   unfold xX;simp only[zf] at hb;generalize rZ=bb at *;have e2:yX pu (if pu=true then B else A) gv gt (n+1) g t=uj pu g t::yX pu (if pu=true then B else A) gv gt n (g+gv) (xD (t-gt)):=by
    rw[yX,if_pos hc]
   rw[e2];simp only[List.append_assoc,List.singleton_append] at e;simp[hb,hc,Hb];simpa using e
  .refine⟨g,t,?_⟩;rw[Bm m g t acc hc,yX,if_neg hc,C_]
theorem Lb {F:zy}(ok:F.Ok) (s:Sl) (hs:1<=s.gv/\0<=s.gt) (p:Int×Int) (h0:0<=p.1/\0<=p.2):nS [.tup [.int F.A,.int F.B],zw s,zm p]=some (.lst ((yF F s p).map zm)):=by
 obtain⟨sp,pu,gv,gt⟩:=s;have a1:=ok.a1;have b1:=ok.b1;obtain⟨g',t',h⟩:=NL pu F.A F.B sp gv gt p.1 p.2 hs.1 (.tup [.int F.A,.int F.B]) (zw ⟨sp,pu,gv,gt⟩) (by cases pu <;> simp[xC]) (by simp[zw]) (by simp[zw]) (zm p) 100 1000000 (x9 pu p) (w_ pu p) [] (by cases pu <;> simp[x9] <;> lia) (by decide) (by simp);unfold nS Ye pK;generalize hb:rZ=bb at h ⊢;unfold yF zy.zG;simp only[A_,List.nil_append] at h;cases pu <;> simp[zw,xC,zm,x9,w_] at h ⊢ <;> simp[h]
theorem MO (F:zy) (p:Nat) (h:p<F.os.length) (hl:F.ss.length<=60):qh [zh F,.int p]=some (match F.E4 p with | some s=>zw s | none=>.zo):=by
 have GN:=cf (is:=[2]) (g:=zt 2) (b:=nE) zw zw (λ s=>decide (s.p=p)) [some (.im (zh F)),some (.im (.int p)),none] F.ss [some (.im (zh F)),some (.im (.int p)),none] (by simp) λ s _=>⟨[some (.im (zh F)),some (.im (.int p)),some (.im (zw s))],by simp,by
  by_cases c:s.p=p
  .simp[turn,nE,zw,eq_int,c]
  .have c':¬ ((s.p:Int)=(p:Int)):=by lia
   simp[turn,nE,zw,eq_int,c,c']⟩
 have h1:=gD F p h;have h2:zf (zh F) (.int 3)=some (.tup (F.ss.map zw)):=by simp[zh]
 unfold qh Ya;generalize nE=bb at *;generalize zh F=fl at *;simp only[zf] at h2;unfold zy.E4;generalize F.ss.find? _=o at *;simp[h1,h2,GN];cases o <;> simp
theorem bG:∀ (ws:List Wy) (k:Nat),sV k (ws.map zu)=(ws.zipIdx k).map λ wi=>T.tup [.int (wi.2:Int),zu wi.1]
 | [],k=>rfl
 | w::ws,k=>by
  rw[Au,sV,bG ws (k+1),Dt,Au]
theorem k_ (f:Wy->Bool):∀ (ws:List Wy) (k:Nat),((ws.zipIdx k).filter λ wi=>f wi.1).map (λ wi=>wi.1)=ws.filter f
 | [],k=>rfl
 | w::ws,k=>by
  rw[Dt,List.filter_cons,List.filter_cons];by_cases c:f w=true
  .rw[if_pos (by exact c),if_pos c,Au,k_ f ws]
  .rw[if_neg (by exact c),if_neg c,k_ f ws]
theorem MN (F:zy) (p:Nat) (h:p<F.os.length) (hl:F.ws.length<=60):nR [zh F,.int p]=some (.lst (((F.ws.zipIdx).filter λ wi=>decide (wi.1.f=p)).map λ wi=>T.int (wi.2:Int))):=by
 have hc:lY [some (.im (zh F)),some (.im (.int p))]=some (.lst (((F.ws.zipIdx).filter λ wi=>decide (wi.1.f=p)).map λ wi=>T.int (wi.2:Int))):=by
  have:=sQ (λ wi:Wy×Nat=>T.tup [.int (wi.2:Int),zu wi.1]) (λ wi=>if wi.1.f=p then some (T.int (wi.2:Int)) else none) (pick:=[none,none,some 1]) (it:=yL sW (za (zb zf (zc 0) (cI 2)) ze)) (g:=wj 2 (y9 (zt 0) (y9 (zt 1) wY))) (c:=zP (zb (zq false) (zb zf (zc 1) (cI 0)) (zc 2))) (f:=zk 0) (J:=[some (.im (zh F)),some (.im (.int p))]) (F.ws.zipIdx) (by
   rw[<- bG];simp[zh]) (by simp;lia) (λ wi _=>by
   by_cases c:wi.1.f=p
   .simp[zu,eq_int,c]
   .have c':¬ ((wi.1.f:Int)=(p:Int)):=by lia
    simp[zu,eq_int,c,c'])
  unfold lY;rw[this];congr 2
  induction F.ws.zipIdx with
  | nil=>rfl
  | cons a l ih=>by_cases c:a.1.f=p <;> simp[CF,c,ih]
 have h1:=gD F p h;unfold nR Z_;generalize lY=cc at *;generalize zh F=fl at *;generalize List.map (λ wi:Wy×Nat=>T.int (wi.2:Int)) _=LL at *;simp[h1,hc]
theorem bE:∀ (b c:Bd),yV (b.map zm) (c.map zm)=decide (b=c)
 | [],[]=>by simp[yV]
 | [],_::_=>by simp[yV]
 | _::_,[]=>by simp[yV]
 | p::b,q::c=>by
  have h:=bE b c;have e:eqT (zm p) (zm q)=decide (p=q):=by
   obtain⟨p1,p2⟩:=p;obtain⟨q1,q2⟩:=q;by_cases h1:p1=q1 <;> by_cases h2:p2=q2 <;> simp[zm,eqT,yV,h1,h2]
  rw[Au,Au,yV,e,h];by_cases h1:p=q <;> by_cases h2:b=c <;> simp[h1,h2]
theorem dS (b c:Bd):zq true (bT b) (bT c)=some (.bl (decide (b≠c))):=by
 have h1:dep (bT b)<=60:=lJ b;have h2:dep (bT c)<=60:=lJ c;unfold zq;rw[if_pos ⟨h1,h2⟩];show some (T.bl (!(yV (b.map zm) (c.map zm))))=_;rw[bE];by_cases h:b=c <;> simp[h]
theorem qI (l:List Bd) (p:Nat) (h:p<l.length):zf (rT l) (.int p)=some (bT (l.getD p [])):=by
 show L2.zB (l.map bT) (p:Int)=_;refine xG ?_;rw[Ay,AG h,AK,AG h];rfl
theorem La {F:zy}(ok:F.Ok) (p:Nat) (hp:p<F.os.length) (b:Bd) (hb:Gd F.A F.B b):pC [zh F,.int p,bT b]=some (bT (match F.E4 p with | none=>b | some s=>u6 F s b)):=by
 have h1:=MO F p hp ok.s8;cases hs:F.E4 p with
 | none=>
  rw[hs] at h1;unfold pC g_;generalize qh=f1 at h1 ⊢;generalize zh F=fl at *;generalize bT b=bb at *;have is1:wZ false .zo .zo=some (.bl true):=rfl;simp[h1,is1]
 | some s=>
  rw[hs] at h1;replace h1:qh [zh F,.int p]=some (zw s):=h1;have AX:s∈F.ss:=List.mem_of_find?_eq_some hs;have hsz:=ok.ss s AX;have GB:(F.A+1)*(F.B+1)<64:=by
   rcases ok.sl with x | x
   .rw[x] at AX;cases AX
   .exact x
  have a0:=ok.a0;have b0:=ok.b0;have Ep:∀ x∈b,((yF F s x).length:Int)<=F.zG s.pu+1:=λ x hx=>by
   have q:=hb.vz x hx;have:=aw s.pu (F.zG s.pu) s.gv s.gt hsz.1 100 (x9 s.pu x) (w_ s.pu x) (by unfold zy.zG x9;split <;> lia);have g0:0<=x9 s.pu x:=by unfold x9;split <;> lia
   unfold yF;lia
  have AH:∀ q:Bd,(∀ x∈q,x∈b)->((q.flatMap (yF F s)).length:Int)<=q.length*(F.zG s.pu+1):=λ q=>by
   induction q with
   | nil=>intro _;simp
   | cons x q ih=>
    intro hq;have i1:=ih λ y hy=>hq y (Av _ hy);have i2:=Ep x (hq x Am);rw[List.flatMap_cons,Cv,A4,Int.natCast_add,Int.natCast_add,Int.add_mul]
    lia
  have hlen:(b.flatMap (yF F s)).length<64:=by
   have h2:=AH b λ _ h=>h;have l1:=hb.rN a0;have l2:=hb.Pl b0;have:((b.flatMap (yF F s)).length:Int)<64:=by
    refine D1 h2 (D1 ?_ GB);unfold zy.zG;split
    .exact D2 l1 (by lia)
    .rw[Int.mul_comm (F.A+1)];exact D2 l2 (by lia)
   lia
  have hbr:zf (zh F) (.int 0)=some (.tup [.int F.A,.int F.B]):=by simp[zh]
  obtain⟨J',h2,h3⟩:=ur (is:=[5]) (g:=zt 5) (b:=k9) zm (λ q J=>J=[some (.im (zh F)),some (.im (.int p)),some (.im (bT b)),some (.im (zw s)),some (.own (.lst ((q.flatMap (yF F s)).map zm))),none]) b [some (.im (zh F)),some (.im (.int p)),some (.im (bT b)),some (.im (zw s)),some (.own (.lst [])),none] rfl (by
   rintro q x r e J rfl;have hx:x∈b:=by rw[e];simp
   have q1:=hb.vz x hx;have hF:=Lb ok s hsz x ⟨q1.1.1,q1.2.1⟩;have Hx:(q.flatMap (yF F s)).length+(yF F s x).length<=16777216:=by
    have e2:(b.flatMap (yF F s)).length=(q.flatMap (yF F s)).length+((yF F s x).length+(r.flatMap (yF F s)).length):=by rw[e];simp
    lia
   refine⟨[some (.im (zh F)),some (.im (.int p)),some (.im (bT b)),some (.im (zw s)),some (.own (.lst (((q++[x]).flatMap (yF F s)).map zm))),some (.im (zm x))],?_,by simp⟩;have e3:((q++[x]).flatMap (yF F s)).map zm=(q.flatMap (yF F s)).map zm++(yF F s x).map zm:=by simp
   rw[e3];unfold turn k9;have l3:((q.flatMap (yF F s)).map zm).length+((yF F s x).map zm).length<=16777216:=by simpa using Hx
   generalize nS=ff at *;generalize (q.flatMap (yF F s)).map zm=L1 at *;generalize (yF F s x).map zm=L2 at *;generalize zh F=fl at *;simp only[zf] at hbr;simp[hbr,hF,l3])
  subst h3;have hF:=kR (b.flatMap (yF F s)) hlen;have nn:wZ false (zw s) .zo=some (.bl false):=rfl;unfold pC g_;generalize k9=bb at *;generalize sf=ff at *;generalize qh=f1 at *;generalize (b.flatMap (yF F s)).map zm=L1 at *;have hbT:xi (bT b)=some (b.map zm):=rfl;generalize bT b=bt at *;generalize zh F=fl at *;generalize zw s=st at *;simp[h1,nn,hbT,h2,hF];rfl
theorem MV {F:zy}(ok:F.Ok) (p:Nat) (hp:p<F.os.length) (l:List Bd) (hl:l.length=F.os.length) (hg:∀ b∈l,Gd F.A F.B b):nU [zh F,.int p,rT l]=some (bT (yc F l p)):=by
 have h1:=MN F p hp ok.pN;have Jc:zf (zh F) (.int 2)=some (.tup (F.ws.map zu)):=by simp[zh]
 have hw0:zf (zh F) (.int 0)=some (.tup [.int F.A,.int F.B]):=by simp[zh]
 have Kh:zf (zh F) (.int 1)=some (.tup (F.os.map kt)):=by simp[zh]
 have c1:ka [some (.im (zh F)),some (.im (.int p)),some (.im (rT l)),none,none]=some (.lst ((F.ws.filter λ w=>decide (w.f=p)).map zu)):=by
  rw[<- k_ (λ w=>decide (w.f=p)) F.ws 0,AF];unfold ka;refine xj (λ wi:Wy×Nat=>T.int (wi.2:Int)) _ ((F.ws.zipIdx).filter λ wi=>decide (wi.1.f=p)) ?_ (Br (Co _ _) (by rw[List.length_zipIdx];have:=ok.pN;lia)) λ wi Cw=>?_
  .generalize nR=ff at *;simp[h1]
  .have hm:=(AN.mp Cw).1;have hg:=List.mem_zipIdx_iff_getElem?.mp hm;have:L2.zB (F.ws.map zu) (wi.2:Int)=some (zu wi.1):=by
    exact xG (by rw[Ay,hg];rfl)
   generalize zh F=fl at *;simp only[zf] at Jc;simp[Jc,this]
 have c2:lQ [some (.im (zh F)),some (.im (.int p)),some (.im (rT l)),some (.im (.lst ((F.ws.filter λ w=>decide (w.f=p)).map zu))),none]=some (.lst ((yZ F l p).map bT)):=by
  unfold yZ;rw[AF];unfold lQ;refine xj zu _ (F.ws.filter λ w=>decide (w.f=p)) (by simp) (Br (Co _ _) (by have:=ok.pN;lia)) λ w hw=>?_;have hm:=(AN.mp hw).1;have ht:w.t<l.length:=by rw[hl];exact (ok.ws w hm).2
  have e1:=qI l w.t ht;have gb:Gd F.A F.B (l.getD w.t []):=by
   rw[AK,AG ht];exact hg _ (B4 ht)
  have l13:=gb.rN ok.a0;have a12:=ok.a1;have hF:=Lh F.A F.B w (l.getD w.t []) (by lia);have e2:zf (zu w) (.int 1)=some (.int (w.t:Int)):=by simp[zu]
  obtain⟨bd,hbd⟩:∃ bd,l.getD w.t []=bd:=⟨_,rfl⟩
  rw[hbd] at e1 gb hF;have EL:(l[w.t]?).getD []=bd:=by rw[<- hbd,AK]
  generalize md=ff at *;generalize zh F=fl at *;generalize rT l=rt at *;generalize zu w=wt at *;simp only[zf] at hw0 e1 e2;simp[hw0,e1,e2,hF,EL]
 have KD:=kC F l p;have c3:=MY ⟨ok.a0,ok.a1⟩ (yZ F l p) KD;have c4:=Lc ⟨ok.a0,ok.a1⟩ ok.b0 (yZ F l p) KD;have c5:=La ok p hp (wa (yZ F l p)) (oV _ _ Gd.nil KD);have ho:L2.zB (F.os.map kt) (p:Int)=some (kt (F.os.getD p false)):=by
  refine xG ?_;rw[Ay,AG hp,AK,AG hp];rfl
 have hk:∀ b:Bool,zq false (kt b) (.str "keeper")=some (.bl b):=λ b=>by cases b <;> rfl
 unfold nU Yg;generalize ka=d1 at *;generalize lQ=d2 at *;generalize n_=f1 at *;generalize ma=f2 at *;generalize pC=f3 at *;generalize ((F.ws.filter λ w=>decide (w.f=p)).map zu)=L1 at *;generalize zh F=fl at *;generalize rT l=rt at *;unfold yc;have G9:=hk (F.os.getD p false);generalize F.os.getD p false=kb at *;generalize kt kb=ktb at *;generalize (T.str "keeper")=ks at *;simp only[zf] at Kh;cases kb with
 | true=>
  simp[c1,c2,Kh,ho,G9,c3,c5]
  all_goals (cases F.E4 p <;> rfl)
 | false=>simp[c1,c2,Kh,ho,G9,c4]
theorem qS {α β:Type}(c:α->Bool) (g:α->β):∀ l:List α,l.filterMap (λ x=>if c x=true then some (g x) else none)=(l.filter c).map g
 | []=>rfl
 | a::l=>by by_cases h:c a=true <;> simp[CF,h,qS c g l]
theorem Oi (t:Nat) (fr:List Nat):xq false (.int t) (.lst (fr.map λ(k:Nat)=>T.int (k:Int)))=some (.bl (fr.contains t)):=by
 have d1:yW (fr.map λ(k:Nat)=>T.int (k:Int))<=60:=by
  refine qU _ 60 (λ x=>?_) fr;simp[dep]
 have d0:dep (.int (t:Int))<=60:=by simp[dep]
 unfold xq;show (if dep (.int (t:Int))<=60/\yW (fr.map λ(k:Nat)=>T.int (k:Int))<=60 then _ else _)=_;rw[if_pos ⟨d0,d1⟩];show some (T.bl ((fr.map λ(k:Nat)=>T.int (k:Int)).any λ x=>eqT x (.int t)))=_;congr 2;rw[BN,A9,List.contains_iff_mem];constructor
 .rintro⟨x,hx,h⟩;obtain⟨k,hk,rfl⟩:=Ah.mp hx;have:(k:Int)=(t:Int):=by simpa [eqT] using h
  have:k=t:=by lia
  subst this;exact hk
 .intro h;exact⟨_,Ah.mpr ⟨t,h,rfl⟩,by simp[eqT]⟩
theorem MU {F:zy}(ok:F.Ok) (EN:List Bd) (fr:List Nat) (hl:EN.length=F.os.length) (hg:∀ b∈EN,Gd F.A F.B b):
  pk [zh F,rT EN,.lst (fr.map λ(k:Nat)=>T.int (k:Int))]=some (rT (zZ F EN fr)):=by
 have Jc:zf (zh F) (.int 2)=some (.tup (F.ws.map zu)):=by simp[zh]
 have c1:l_ [some (.im (zh F)),some (.im (rT EN)),some (.im (.lst (fr.map λ(k:Nat)=>T.int (k:Int)))),some (.own (.lst (EN.map bT))),none]=some (.lst (((F.ws.filter λ w=>fr.contains w.t).map λ w=>(w.f:Int)).map T.int)):=by
  have:=sQ zu (λ w=>if fr.contains w.t=true then some (T.int (w.f:Int)) else none) (pick:=[none,some 2]) (it:=yk (zb zf (zc 0) (cI 2))) (g:=zt 0) (c:=zP (zb (xq false) (zb zf (zc 0) (cI 1)) (zc 1))) (f:=zb zf (zc 0) (cI 0)) (J:=[some (.im (zh F)),some (.im (rT EN)),some (.im (.lst (fr.map λ(k:Nat)=>T.int (k:Int)))),some (.own (.lst (EN.map bT))),none]) F.ws (by
    generalize zh F=fl at *;simp only[zf] at Jc;simp[Jc]) (by have:=ok.pN;lia) (λ w _=>by
   have hi:=Oi w.t fr;generalize (T.lst (fr.map λ(k:Nat)=>T.int (k:Int)))=ft at *;generalize fr.contains w.t=cb at *;cases cb <;> simp[zu,hi])
  unfold l_;rw[this];rw[qS (λ w:Wy=>fr.contains w.t) (λ w:Wy=>T.int (w.f:Int)),AF];rfl
 have DR:tF [.lst (((F.ws.filter λ w=>fr.contains w.t).map λ w=>(w.f:Int)).map T.int)]=some (.lst ((we ((F.ws.filter λ w=>fr.contains w.t).map λ w=>(w.f:Int))).map T.int)):=by
  show (match vS (((F.ws.filter λ w=>fr.contains w.t).map λ w=>(w.f:Int)).map T.int) with | some ns=>_ | none=>_)=_;rw[iz];refine if_pos ?_;have:=Co (λ w:Wy=>fr.contains w.t) F.ws;have:=ok.pN;simp only[AA];lia
 have AX:∀ k∈we ((F.ws.filter λ w=>fr.contains w.t).map λ w=>(w.f:Int)),∃ p:Nat,k=(p:Int)/\p<F.os.length/\uu F fr p=true:=λ k hk=>by
  obtain⟨w,hw,rfl⟩:=Ah.mp (mU.mp hk);obtain⟨w1,w2⟩:=AN.mp hw;exact⟨w.f,rfl,(ok.ws w w1).1,A9.mpr ⟨w,w1,by simpa using w2⟩⟩
 have Eh:∀ p:Nat,uu F fr p=true->(p:Int)∈we ((F.ws.filter λ w=>fr.contains w.t).map λ w=>(w.f:Int)):=λ p h=>by
  obtain⟨w,w1,w2⟩:=A9.mp h;have w3:w.f=p/\fr.contains w.t=true:=by simpa using w2
  exact mU.mpr (Ah.mpr ⟨w,AN.mpr ⟨w1,w3.2⟩,by rw[w3.1]⟩)
 generalize we ((F.ws.filter λ w=>fr.contains w.t).map λ w=>(w.f:Int))=up at *;have ft:∃ t,(T.lst (fr.map λ(k:Nat)=>T.int (k:Int)))=t:=⟨_,rfl⟩
 obtain⟨J',h1,h2⟩:=ur (is:=[4]) (g:=zt 4) (b:=ky) T.int (λ pre J=>J=[some (.im (zh F)),some (.im (rT EN)),some (.im (.lst (fr.map λ(k:Nat)=>T.int (k:Int)))),some (.own (.lst (((List.range EN.length).map λ(p:Nat)=>if (p:Int)∈pre then yc F EN p else EN.getD p []).map bT))),none]) up
   [some (.im (zh F)),some (.im (rT EN)),some (.im (.lst (fr.map λ(k:Nat)=>T.int (k:Int)))),some (.own (.lst (EN.map bT))),none] (by
  have e:(List.range EN.length).map (λ(p:Nat)=>if (p:Int)∈([]:List Int) then yc F EN p else EN.getD p [])=EN:=by
   refine BO (by simp) λ i h1 h2=>?_;simp[h2]
  rw[e];rfl) (by
  rintro pre k q e J rfl;obtain⟨p,rfl,hp,hw⟩:=AX k (by rw[e];simp);have hF:=MV ok p hp EN hl hg;refine⟨[some (.im (zh F)),some (.im (rT EN)),some (.im (.lst (fr.map λ(k:Nat)=>T.int (k:Int)))),some (.own (.lst (((List.range EN.length).map λ(i:Nat)=>if (i:Int)∈pre++[(p:Int)] then yc F EN i else EN.getD i []).map bT))),some (.im (.int p))],?_,by simp⟩;have BS:(((List.range EN.length).map λ(i:Nat)=>if (i:Int)∈pre then yc F EN i else EN.getD i []).map bT).set p (bT (yc F EN p))=((List.range EN.length).map λ(i:Nat)=>if (i:Int)∈pre++[(p:Int)] then yc F EN i else EN.getD i []).map bT:=by
   refine BO (by simp) λ i h1 h2=>?_;rw[List.getElem_set];simp only[List.getElem_map,DH,A2,AZ];by_cases c:p=i
   .subst c;simp
   .have c':¬ ((i:Int)=(p:Int)):=by lia
    simp[c,c']
  have BU:xF (((List.range EN.length).map λ(i:Nat)=>if (i:Int)∈pre then yc F EN i else EN.getD i []).map bT).length (p:Int)=some p:=by
   unfold xF;simp only[AA,B5];rw[if_pos (by lia),if_pos (by lia),Cz]
  rw[<- BS];unfold turn ky;generalize nU=ff at *;generalize (((List.range EN.length).map λ(i:Nat)=>if (i:Int)∈pre then yc F EN i else EN.getD i []).map bT)=LL at *;generalize zh F=fl at *;generalize rT EN=rl at *;generalize (T.lst (fr.map λ(k:Nat)=>T.int (k:Int)))=ftt at *;simp[hF,BU])
 subst h2;have fin:((List.range EN.length).map λ(p:Nat)=>if (p:Int)∈up then yc F EN p else EN.getD p [])=zZ F EN fr:=by
  unfold zZ;refine CB λ p hp=>?_;by_cases c:uu F fr p=true
  .rw[if_pos c,if_pos (Eh p c)]
  .rw[if_neg c,if_neg λ h=>c (by obtain⟨p',e,_,h'⟩:=AX _ h;exact (show p'=p by lia)▸h')]
 rw[fin] at h1;have Jj:listS [rT EN]=some (.lst (EN.map bT)):=rfl;unfold pk Yf;generalize l_=cc at *;generalize ky=bb at *;generalize (((F.ws.filter λ w=>fr.contains w.t).map λ w=>(w.f:Int)).map T.int)=L1 at *;generalize CV:up.map T.int=L2 at *;generalize EN.map bT=L3 at *;generalize zh F=fl at *;have CG:xi (rT EN)=some L3:=by simpa using Jj
 generalize rT EN=rl at *;generalize (T.lst (fr.map λ(k:Nat)=>T.int (k:Int)))=ftt at *;simp[CG,c1,DR,h1,rT]
theorem bH {α:Type}(enc:α->T) (d:α) (fo:List α):∀ (l:List α) (k:Nat),(∀ i,l.getD i d=fo.getD (k+i) d)->sV k (l.map enc)=(List.range l.length).map λ(p:Nat)=>T.tup [.int ((k+p:Nat):Int),enc (fo.getD (k+p) d)]
 | [],k,_=>rfl
 | b::l,k,h=>by
  have h0:=h 0;rw[Au,sV,bH enc d fo l (k+1) λ i=>by have:=h (i+1);rw[show k+1+i=k+(i+1) from by lia];simpa using this];rw[A4,C3,Au,AF];have e:b=fo.getD k d:=by simpa using h0
  congr 1
  .rw[e];rfl
  .refine CB λ p _=>?_;simp only[Function.comp];rw[show k+1+p=k+Nat.succ p from by lia]
noncomputable def xf (fr:List Nat):T:=.lst (fr.map λ(k:Nat)=>T.int (k:Int))
theorem Ms (a:T) (b c:Option L5.W) (EN fo:List Bd) (hl:fo.length=EN.length) (h16:fo.length<=10000):nv [some (.im a),b,c,some (.im (rT EN)),some (.im (rT fo))]=some (xf (xk EN fo)):=by
 have:=sQ (λ p:Nat=>T.tup [.int (p:Int),bT (fo.getD p [])]) (λ p=>if decide (fo.getD p []≠EN.getD p [])=true then some (T.int (p:Int)) else none) (pick:=[none,none,some 3]) (it:=yL sW (za (zc 4) ze)) (g:=wj 2 (y9 (zt 0) (y9 (zt 1) wY))) (c:=zP (zb (zq true) (zc 1) (zb zf (zc 2) (zc 0)))) (f:=zk 0) (J:=[some (.im a),b,c,some (.im (rT EN)),some (.im (rT fo))]) (List.range fo.length) (by
   have:=bH bT [] fo fo 0 λ i=>by rw[Nat.zero_add]
   simp only[Nat.zero_add] at this;have e:sW [rT fo]=some (sV 0 (fo.map bT)):=rfl;rw[<- this];generalize sW=en at *;simp[e]) (by simp;lia) (λ p hp=>by
  have G3:p<EN.length:=by rw[<- hl];exact AB.mp hp
  have h1:=qI EN p G3;have h2:=dS (fo.getD p []) (EN.getD p []);generalize fo.getD p []=x at *;generalize EN.getD p []=y at *;generalize rT EN=rl at *;generalize decide (x≠y)=d at *;simp only[zf] at h1;cases d <;> simp[h1,h2])
 unfold nv;rw[this,qS (λ p:Nat=>decide (fo.getD p []≠EN.getD p [])) (λ p:Nat=>T.int (p:Int))];rfl
theorem eE {F:zy}(ok:F.Ok):∀ (n:Nat) (pre:List (List Bd)) (EN:List Bd) (fr:List Nat) (res:List (List Bd)),St F EN fr->sM F n pre EN fr=some res->pre.length+n<=10000->∀ (m:Nat),n<m->∀ x3 x4:Option L5.W,
  ∃ JT,xX [3,4] (y4 (zc 2)) uY m [some (.im (zh F)),some (.own (.lst ((pre++[EN]).map rT))),some (.im (xf fr)),x3,x4]=some (.nx [some (.im (zh F)),some (.own (.lst (res.map rT))),some (.im JT),none,none])
 | 0,_,_,_,_,_,h,_,_,_,_,_=>by cases h
 | n+1,pre,EN,fr,res,s,h,hn,m,hm,x3,x4=>by
  have Bm:∀ (m:Nat) (Fv:List (List Bd)) (x3 x4:Option L5.W),xX [3,4] (y4 (zc 2)) uY (m+1) [some (.im (zh F)),some (.own (.lst (Fv.map rT))),some (.im (xf [])),x3,x4]=some (.nx [some (.im (zh F)),some (.own (.lst (Fv.map rT))),some (.im (xf [])),none,none]):=λ m Fv x3 x4=>by
   unfold xX;simp[xf]
  obtain⟨m,rfl⟩:∃ k,m=k+1:=⟨m-1,by lia⟩
  unfold sM at h;by_cases Bw:fr=[]
  .rw[if_pos Bw] at h;cases h;subst Bw;exact⟨_,Bm m _ x3 x4⟩
  .rw[if_neg Bw] at h;dsimp only at h;have hlen:=s.len;have n8:=ok.n8;have hF:=MU ok EN fr s.len s.gd;have FG:zf (.lst ((pre++[EN]).map rT)) (.int (-1))=some (rT EN):=by
    show L2.zB ((pre++[EN]).map rT) (-1)=_;rw[Bp];exact h_ _ _
   have hc:=λ b c=>Ms (zh F) b c EN (zZ F EN fr) (sP ..) (by rw[sP,s.len];lia);have Ao:sH (xf fr)=some true:=by
    cases fr with
    | nil=>exact absurd rfl Bw
    | cons a l=>rfl
   have hb:∃ GX,uY [some (.im (zh F)),some (.own (.lst ((pre++[EN]).map rT))),some (.im (xf fr)),none,none]=some (.nx [some (.im (zh F)),some (.own (.lst (GX.map rT))),some (.im (xf (xk EN (zZ F EN fr)))),some (.im (rT EN)),some (.im (rT (zZ F EN fr)))])/\GX=if xk EN (zZ F EN fr)=[] then pre++[EN] else pre++[EN]++[zZ F EN fr]:=by
    have Hx:((pre++[EN]).map rT).length<16777216:=by simp;lia
    by_cases hf:xk EN (zZ F EN fr)=[]
    .refine⟨pre++[EN],?_,by rw[if_pos hf]⟩;have ht:sH (xf (xk EN (zZ F EN fr)))=some false:=by rw[hf];rfl
     unfold uY;generalize nv=cc at *;generalize pk=ff at *;generalize (pre++[EN]).map rT=L1 at *;generalize xf (xk EN (zZ F EN fr))=f2 at *;unfold xf at *;simp only[zf] at FG;generalize (T.lst (fr.map λ(k:Nat)=>T.int (k:Int)))=f1 at *;generalize rT (zZ F EN fr)=r2 at *;generalize rT EN=r1 at *;simp only[xi] at FG;simp[-sH,FG,hF,hc,ht]
    .refine⟨pre++[EN]++[zZ F EN fr],?_,by rw[if_neg hf]⟩;have ht:sH (xf (xk EN (zZ F EN fr)))=some true:=by
      cases e:xk EN (zZ F EN fr) with
      | nil=>exact absurd e hf
      | cons a l=>rfl
     have e2:(pre++[EN]++[zZ F EN fr]).map rT=(pre++[EN]).map rT++[rT (zZ F EN fr)]:=by simp
     rw[e2];unfold uY;generalize nv=cc at *;generalize pk=ff at *;generalize (pre++[EN]).map rT=L1 at *;generalize xf (xk EN (zZ F EN fr))=f2 at *;unfold xf at *;simp only[zf] at FG;generalize (T.lst (fr.map λ(k:Nat)=>T.int (k:Int)))=f1 at *;generalize rT (zZ F EN fr)=r2 at *;generalize rT EN=r1 at *;simp only[xi] at FG;simp[-sH,FG,hF,hc,ht,Hx]
   obtain⟨GX,Hb,Iz⟩:=hb;have key:∀ R,xX [3,4] (y4 (zc 2)) uY m [some (.im (zh F)),some (.own (.lst (GX.map rT))),some (.im (xf (xk EN (zZ F EN fr)))),some (.im (rT EN)),some (.im (rT (zZ F EN fr)))]=R->xX [3,4] (y4 (zc 2)) uY (m+1) [some (.im (zh F)),some (.own (.lst ((pre++[EN]).map rT))),some (.im (xf fr)),x3,x4]=R:=λ R e=>by
    rw[xX];generalize hbb:uY=bb at *;generalize DT:xX [3,4] (y4 (zc 2)) bb m=lw at *;have hf:yq [3,4] [some (.im (zh F)),some (.own (.lst ((pre++[EN]).map rT))),some (.im (xf fr)),x3,x4]=[some (.im (zh F)),some (.own (.lst ((pre++[EN]).map rT))),some (.im (xf fr)),none,none]:=rfl;rw[hf];have ht:y4 (zc 2) [some (.im (zh F)),some (.own (.lst ((pre++[EN]).map rT))),some (.im (xf fr)),none,none]=some true:=by
     generalize xf fr=f1 at *;simp[-sH,Ao]
    rw[ht,Bu,if_pos rfl,Hb,Bu];exact e
   by_cases hf:xk EN (zZ F EN fr)=[]
   .rw[if_pos hf] at h Iz;cases h;subst Iz;rw[hf] at key;obtain⟨m,rfl⟩:∃ k,m=k+1:=⟨m-1,by lia⟩
    exact⟨_,key _ (Bm m _ _ _)⟩
   .rw[if_neg hf] at h Iz;subst Iz;obtain⟨JT,e⟩:=eE ok n (pre++[EN]) (zZ F EN fr) (xk EN (zZ F EN fr)) res (s.next ok) h (by simp;lia) m (by lia) (some (.im (rT EN))) (some (.im (rT (zZ F EN fr))));exact⟨JT,key _ e⟩
theorem MQ {F:zy}(ok:F.Ok):∃ more,tp [zh F]=some (.lst ((RN.start F::more).map rT))/\(∀ r∈RN.start F::more,r.length=F.os.length/\∀ b∈r,Gd F.A F.B b)/\more.length<=2000/\sM F 2000 [] (RN.start F) (List.range F.os.length)=some (RN.start F::more):=by
 have hmu:=dW (RN.start F);have Bz:(RN.start F).length=F.os.length:=by unfold RN.start;simp
 have n8:=ok.n8;have n1:=ok.n1;obtain⟨more,G0,e1,e2,_,e4⟩:=eF ok 2000 [] (RN.start F) (List.range F.os.length) (St.start ok) (by lia);obtain⟨JT,e⟩:=eE ok 2000 [] (RN.start F) (List.range F.os.length) _ (St.start ok) e1 (by simp) 1000000 (by decide) none none;refine⟨more,?_,e2,by lia,e1⟩;have hp:=kQ F;have AQ:rT (RN.start F)=.lst (List.replicate F.os.length (.tup [.tup [.int 0,.int 0]])):=by
  unfold rT RN.start;rw[List.map_replicate];rfl
 have hmul:uK (.lst [.tup [.tup [.int 0,.int 0]]]) (.int F.os.length)=some (rT (RN.start F)):=by
  rw[AQ];unfold uK;dsimp only;rw[if_pos ⟨by simp,by lia,by lia,Pg (by simp;lia)⟩];have:∀ n:Nat,(List.replicate n [T.tup [.tup [.int 0,.int 0]]]).flatten=List.replicate n (.tup [.tup [.int 0,.int 0]]):=λ n=>by
   induction n with
   | zero=>rfl
   | succ n ih=>rw[BZ,BZ,Cr,ih];rfl
  rw[Cz,this]
 have Cc:o8 [.int F.os.length]=some (xf (List.range F.os.length)):=by
  show (if 0<=(F.os.length:Int)/\(F.os.length:Int)<=16777216 then some (T.lst (rangeT 0 (F.os.length:Int).toNat)) else none)=_;rw[if_pos ⟨by lia,by lia⟩];show some (T.lst ((List.range (F.os.length:Int).toNat).map λ(k:Nat)=>T.int (0+(k:Int))))=_;rw[Cz];unfold xf;simp
 unfold tp Yb pK;generalize uY=bb at *;generalize tq=ff at *;generalize o8=lr at *;simp only[List.nil_append,Au,A_] at e;generalize xf (List.range F.os.length)=f1 at *;rw[Au];generalize rT (RN.start F)=r0 at *;generalize zh F=fl at *;generalize DT:xX [3,4] (y4 (zc 2)) bb 1000000=lw at *;generalize uK=mw at *;simp[hp,hmul,Cc,e]
theorem o4 (i j:Int):uK (.int i) (.int j)=if vL i j then some (.int (i*j)) else none:=rfl
theorem Og {r:List Int}{rs:List (List Int)}:vS ((r::rs).map zx)=none:=rfl
theorem XE (rs:List (List Int)) (h0:rs≠[]) (hl:rs.length<64) (hn:∀ r∈rs,r≠[]):tF [.lst (rs.map zx)]=some (.lst ((L4.yT (wq rs)).map zx)):=by
 cases rs with
 | nil=>exact absurd rfl h0
 | cons r rs=>
  show (match vS ((r::rs).map zx) with
   | some ns=>if ns.length<64 then some (T.lst ((we ns).map T.int)) else none
   | none=>mE [T.lst ((r::rs).map zx)])=_
  rw[Og];show (vk ((r::rs).map zx)).bind _=_;rw[mK,Bu,if_pos ⟨hl,hn⟩]
theorem dv {f:T->T->Option T}{fa fb:Ev->Option T}{J:Ev}{x y:T}{r:Option T}(h1:fa J=some x) (h2:fb J=some y) (h:f x y=r):zb f fa fb J=r:=by
 show (fa J).bind _=r;rw[h1];show (fb J).bind _=r;rw[h2];exact h
theorem WO (n:Nat) (h:n<=1000):xx (.int 10) (.int (n:Int))=some (.int (10 ^ n)):=by
 have hc:rC 10 (n:Int):=⟨by lia,by lia,by decide⟩
 show (if rC 10 (n:Int) then some (T.int (10 ^ (n:Int).toNat)) else none)=_;rw[if_pos hc,Cz]
theorem om (n:Nat) (h:n<=1000) (J:Ev):zb xx (cI 10) (cS (.int (n:Int))) J=some (.int (10 ^ n)):=dv rfl rfl (WO n h)
theorem X9 (c:Int) (n:Nat) (hn:n<=100) (o6:Ev->Option T) (q6:Int) (h6:∀ J,o6 J=some (.int q6)) (g6:0<q6/\q6<2 ^ 200) (GH:Int):
  ∃ (v:Int) (xs:List Int),x8 [4] (zt 4) (zp (xQ 2 (zb zS (zc 3) o6)) (zH 3 (zb xP (zc 3) o6))) ((List.range n).map λ(k:Nat)=>T.int (0+(k:Int))) [some (.im (.int c)),some (.im (.int n)),some (.own (.lst [])),some (.im (.int GH)),none]
   = some (.nx [some (.im (.int c)),some (.im (.int n)),some (.own (.lst (xs.map T.int))),some (.im (.int v)),none])/\xs.length=n:=by
 obtain⟨J',h1,v,xs,h2,h3⟩:=ur (is:=[4]) (g:=zt 4) (b:=(zp (xQ 2 (zb zS (zc 3) o6)) (zH 3 (zb xP (zc 3) o6)))) (λ k:Nat=>T.int (0+(k:Int))) (λ p J=>∃ (v:Int) (xs:List Int),J=[some (.im (.int c)),some (.im (.int n)),some (.own (.lst (xs.map T.int))),some (.im (.int v)),none]/\xs.length=p.length)
   (List.range n) [some (.im (.int c)),some (.im (.int n)),some (.own (.lst [])),some (.im (.int GH)),none] ⟨GH,[],rfl,rfl⟩ (by
  rintro p k q e J ⟨v,xs,rfl,r1⟩;have hp:p.length<n:=by have:=congrArg List.length e;simp at this;lia
  have hl:(xs.map T.int).length<16777216:=by simp;lia
  have d6:uC v q6:=g6;have p6:=g6.1;refine⟨[some (.im (.int c)),some (.im (.int n)),some (.own (.lst ((xs++[v%q6]).map T.int))),some (.im (.int (v/q6))),some (.im (.int (0+(k:Int))))],?_,v/q6,xs++[v%q6],by simp,by simp[r1]⟩;have e2:(xs++[v%q6]).map T.int=xs.map T.int++[.int (v%q6)]:=by simp
  rw[e2];generalize xs.map T.int=L at *;generalize (0+(k:Int))=kk at *;simp[turn,h6,hl,d6,p6])
 subst h2;exact⟨v,xs,h1,by simpa using h3⟩
theorem X8 (c:Int) (n:Nat) (hn:n<=100) (oM IY IX o9:Ev->Option T) (M Ii GZ q9:Int) (hM:∀ J,oM J=some (.int M)) (Jq:∀ J,IY J=some (.int Ii)) (IA:∀ J,IX J=some (.int GZ)) (h9:∀ J,o9 J=some (.int q9))
  (gM:0<M/\M<2 ^ 180) (KH:0<Ii/\Ii<2 ^ 200) (KG:0<GZ/\GZ<2 ^ 200) (g9:0<q9/\q9<2 ^ 200) (GH:Int) (Eu:0<=GH/\GH<2 ^ 181):
  ∃ (v:Int) (xs:List Int),x8 [4] (zt 4) (zp (zH 3 (zb zS (zb yb (zb yb (zb vp (zc 3) (cI 52027)) (zb xP (zc 3) IY)) (zb vp (cI 13) (zc 4))) oM)) (xQ 2 (zb xP (zb vp (zc 3) (zb yb (zb xP (zc 3) IX) (cI 7))) o9))) ((List.range n).map λ(k:Nat)=>T.int (0+(k:Int))) [some (.im (.int c)),some (.im (.int n)),some (.own (.lst [])),some (.im (.int GH)),none]
   = some (.nx [some (.im (.int c)),some (.im (.int n)),some (.own (.lst (xs.map T.int))),some (.im (.int v)),none])/\xs.length=n:=by
 obtain⟨J',h1,v,xs,h2,h3,h4⟩:=ur (is:=[4]) (g:=zt 4) (b:=(zp (zH 3 (zb zS (zb yb (zb yb (zb vp (zc 3) (cI 52027)) (zb xP (zc 3) IY)) (zb vp (cI 13) (zc 4))) oM)) (xQ 2 (zb xP (zb vp (zc 3) (zb yb (zb xP (zc 3) IX) (cI 7))) o9)))) (λ k:Nat=>T.int (0+(k:Int)))
   (λ p J=>∃ (v:Int) (xs:List Int),J=[some (.im (.int c)),some (.im (.int n)),some (.own (.lst (xs.map T.int))),some (.im (.int v)),none]/\xs.length=p.length/\0<=v/\v<2 ^ 181)
   (List.range n) [some (.im (.int c)),some (.im (.int n)),some (.own (.lst [])),some (.im (.int GH)),none] ⟨GH,[],rfl,rfl,Eu⟩ (by
  rintro p k q e J ⟨v,xs,rfl,r1,r2,r3⟩;have hp:p.length<n:=by have:=congrArg List.length e;simp at this;lia
  have hk:k<n:=AB.mp (by rw[e];simp);have hl:(xs.map T.int).length<16777216:=by simp;lia
  generalize hu:(v*52027+v/Ii+13*(0+(k:Int)))%M=u;have u0:0<=u:=by rw[<- hu];exact Bo _ (by lia)
  have u1:u<M:=by rw[<- hu];exact BK _ gM.1
  have d22:uC v Ii:=KH;have m1:sD v 52027:=⟨by lia,by decide⟩
  have m2:sD 13 (0+(k:Int)):=⟨by decide,by lia⟩
  have pM:=gM.1;have d23:uC u GZ:=KG;have w0:0<=u/GZ:=Int.ediv_nonneg u0 (by lia);have w1:u/GZ<=u:=Int.ediv_le_self _ u0;have m3:sD u (u/GZ+7):=⟨by lia,by lia⟩
  have d9:uC (u*(u/GZ+7)) q9:=g9;refine⟨[some (.im (.int c)),some (.im (.int n)),some (.own (.lst ((xs++[u*(u/GZ+7)/q9]).map T.int))),some (.im (.int u)),some (.im (.int (0+(k:Int))))],?_,u,xs++[u*(u/GZ+7)/q9],by simp,by simp[r1],u0,by lia⟩;have e2:(xs++[u*(u/GZ+7)/q9]).map T.int=xs.map T.int++[.int (u*(u/GZ+7)/q9)]:=by simp
  rw[e2];generalize xs.map T.int=L at *;generalize (0+(k:Int))=kk at *;simp[turn,hM,Jq,IA,h9,hl,d22,m1,m2,pM,hu,d23,m3,d9])
 subst h2;exact⟨v,xs,h1,by simpa using h3⟩
theorem ME (i:Int):0<=(if i<0 then -i else i):=by split <;> lia
theorem gC (c:Int) (n:Nat) (hn:n<=100):∃ xs:List Int,xK [.int c,.int n]=some (.lst (xs.map T.int))/\xs.length=n:=by
 obtain⟨q6,h6,g6⟩:∃ q:Int,(∀ J,zb xx (cI 10) (cI 6) J=some (.int q))/\0<q/\q<2 ^ 200:=⟨_,om 6 (by decide),AD⟩
 obtain⟨q9,h9,g9⟩:∃ q:Int,(∀ J,zb xx (cI 10) (cI 9) J=some (.int q))/\0<q/\q<2 ^ 200:=⟨_,om 9 (by decide),AD⟩
 obtain⟨Ii,Jq,KH⟩:∃ q:Int,(∀ J,zb xx (cI 10) (cI 22) J=some (.int q))/\0<q/\q<2 ^ 200:=⟨_,om 22 (by decide),AD⟩
 obtain⟨GZ,IA,KG⟩:∃ q:Int,(∀ J,zb xx (cI 10) (cI 23) J=some (.int q))/\0<q/\q<2 ^ 200:=⟨_,om 23 (by decide),AD⟩
 obtain⟨M,hM,gM⟩:∃ q:Int,(∀ J,zb yb (zb xx (cI 10) (cI 45)) (cI 9) J=some (.int q))/\0<q/\q<2 ^ 180:=⟨10 ^ 45+9,fun J=>dv (om 45 (by decide) J) rfl rfl,AD⟩
 have hr:=ui n (by lia);unfold xK Yj aN aM;have a0:=ME (c/2);generalize ha:(if c/2<0 then -(c/2) else c/2)=num at *;have hnm0:0<=num%M:=Bo _ (by lia);have hnm1:num%M<M:=BK _ gM.1;have pM:=gM.1;have d2:uC c 2:=⟨by decide,by decide⟩
 obtain⟨v1,Ga,e1,l1⟩:=X9 c n hn _ q6 h6 g6 num;obtain⟨v2,HK,e2,l2⟩:=X8 c n hn _ _ _ _ M Ii GZ q9 hM Jq IA h9 gM KH KG g9 (num%M+77003) ⟨by lia,by lia⟩;generalize zb yb (zb xx (cI 10) (cI 45)) (cI 9)=oM at *;generalize zb xx (cI 10) (cI 6)=o6 at *;generalize zb xx (cI 10) (cI 9)=o9 at *;generalize zb xx (cI 10) (cI 22)=IY at *;generalize zb xx (cI 10) (cI 23)=IX at *;generalize Hb:(zp (xQ 2 (zb zS (zc 3) o6)) (zH 3 (zb xP (zc 3) o6)))=b1 at *;generalize Iz:(zp (zH 3 (zb zS (zb yb (zb yb (zb vp (zc 3) (cI 52027)) (zb xP (zc 3) IY)) (zb vp (cI 13) (zc 4))) oM)) (xQ 2 (zb xP (zb vp (zc 3) (zb yb (zb xP (zc 3) IX) (cI 7))) o9)))=b2 at *;by_cases h:c%2=1
 .refine⟨Ga,?_,l1⟩;generalize Ga.map T.int=L1 at *;generalize (List.range n).map (λ(k:Nat)=>T.int (0+(k:Int)))=R at *;simp[d2,ha,h,hr,e1,eq_int]
 .refine⟨HK,?_,l2⟩;generalize HK.map T.int=L2' at *;generalize (List.range n).map (λ(k:Nat)=>T.int (0+(k:Int)))=R at *;simp[d2,ha,h,hr,hM,pM,e2,eq_int]
theorem Zp (x:Int) (m:Nat) (h:m<=12):∃ y,p7 [.int x,.int m]=some (.int y)/\-12<=y/\y<=12:=by
 have m1:vL 2 (m:Int):=.inl ⟨by decide,by decide⟩;have m2:(0:Int)<2*(m:Int)+1:=by lia
 have d:xA x 25:=⟨by decide,by decide⟩
 have a0:=Bo (x%25) (b:=2*(m:Int)+1) (by lia);have b0:0<=x/25%2:=Bo _ (by decide);refine⟨if x%25%(2*(m:Int)+1)-m+x/25%2<12 then x%25%(2*(m:Int)+1)-m+x/25%2 else 12,by simp[p7,Yp,o4,m1,m2,d],?_,?_⟩
 .split <;> lia
 .split <;> lia
def ug (many:Nat) (r:List Int):Prop:=∃ (f t:Nat) (a b:Int),r=[(f:Int),(t:Int),a,b]/\f<many/\t<many/\(-12<=a/\a<=12)/\-12<=b/\b<=12
theorem Zj (place many:Nat) (num:Int) (sz:Nat) (hp:place<many) (hs:sz<=12):∃ r,(ug many r/\r.head?=some (place:Int))/\rp [.int place,.int many,.int num,.int sz]=some (zx r):=by
 have d8:xA num 8:=⟨by decide,by decide⟩
 have KR:xA num 400:=⟨by decide,by decide⟩
 obtain⟨a,ha,a1⟩:=Zp (num/8%50) sz hs;obtain⟨b,hb,b1⟩:=Zp (num/400%50) sz hs;have Di:(0:Int)<many:=by lia
 have t0:0<=num%8%many:=Bo _ (by lia);have t1:num%8%many<many:=BK _ Di;have JO:0<many:=by lia
 refine⟨[(place:Int),((num%8%many).toNat:Int),a,b],⟨⟨place,(num%8%many).toNat,a,b,rfl,hp,by lia,a1,b1⟩,rfl⟩,?_⟩;rw[DN t0];have hr:zx [(place:Int),num%8%many,a,b]=.tup [.int place,.int (num%8%many),.int a,.int b]:=rfl;rw[hr];unfold rp Yi;generalize p7=fa at *;simp[d8,KR,ha,hb,JO]
theorem xE {xs:List Int}{j:Nat}(h:j<xs.length):∃ v,L2.zB (xs.map T.int) (j:Int)=some (.int v):=⟨xs.getD j 0,xG (by simp[h])⟩
theorem ik (b:Bool):zq false (kt b) (.str "keeper")=some (.bl b):=by
 have h:(("taker":Str) == ("keeper":Str))=false:=by decide
 cases b
 .show zq false (.str "taker") (.str "keeper")=_;simp[zq,dep,eqT,h]
 .show zq false (.str "keeper") (.str "keeper")=_;simp[zq,dep,eqT]
theorem aP (b:Sm) (n many pl:Nat) (E:List T->Option L5.W->Ev) (hE:∀ r x,yq [11] (E r x)=E r none) (hn:n<=100)
  (ht:∀ k<n,∀ rows:List T,rows.length<=1000->∃ r,(ug many r/\r.head?=some (pl:Int))/\turn (zt 11) b (.int (0+(k:Int))) (E rows none)=some (.nx (E (rows++[zx r]) (some (.im (.int (0+(k:Int))))))))
  (rows:List (List Int)) (hl:rows.length<=100) (hr:∀ r∈rows,ug many r):
  ∃ EW:List (List Int),x8 [11] (zt 11) b ((List.range n).map λ(k:Nat)=>T.int (0+(k:Int))) (E (rows.map zx) none)=some (.nx (E (EW.map zx) none))/\EW.length=rows.length+n/\(∀ r∈EW,ug many r)/\(∀ r∈rows,r∈EW)/\(0<n->∃ r∈EW,r.head?=some (pl:Int)):=by
 obtain⟨J',h1,EW,h2,h3,h4,h5,h6⟩:=ur (is:=[11]) (g:=zt 11) (b:=b) (λ k:Nat=>T.int (0+(k:Int))) (λ p J=>∃ EW:List (List Int),J=E (EW.map zx) none/\EW.length=rows.length+p.length/\(∀ r∈EW,ug many r)/\(∀ r∈rows,r∈EW)/\(0<p.length->∃ r∈EW,r.head?=some (pl:Int)))
   (List.range n) (E (rows.map zx) none) ⟨rows,hE _ _,rfl,hr,λ _ h=>h,λ h=>absurd h (by simp)⟩ (by
  rintro p k q e J ⟨EW,rfl,u1,u2,u3,u4⟩;have hp:p.length<n:=by have:=congrArg List.length e;simp at this;lia
  have hk:k<n:=AB.mp (by rw[e];simp);obtain⟨r,⟨v1,v3⟩,v2⟩:=ht k hk (EW.map zx) (by simp;lia);refine⟨_,v2,EW++[r],by rw[hE];simp,by simp only[Cv,List.length_singleton,u1];lia,λ r' G7=>?_,λ r' h=>CD _ (u3 r' h),λ _=>⟨r,by simp,v3⟩⟩;rcases A2.mp G7 with h | h
  .exact u2 r' h
  .cases AZ.mp h;exact v1)
 subst h2;exact⟨EW,h1,by simpa using h3,h4,h5,λ h=>h6 (by simpa using h)⟩
theorem WU (c mo br:T) (xs:List Int) (hx:xs.length=43) (many:Nat) (hm:many<=8) (os:List Bool) (rows:List (List Int)) (GG:List T) (k:Nat) (hk:k<many) (ho:os.length=k) (hrl:rows.length<=3*k) (hr:∀ r∈rows,ug many r) (hs:GG.length<=k):
  ∃ (b:Bool) (EW:List (List Int)) (Gw:List T) (nu sz:Int),turn (zt 8) qZ (.int (0+(k:Int))) [some (.im c),some (.im mo),some (.im br),some (.im (.lst (xs.map T.int))),some (.im (.int many)),some (.own (.lst (os.map kt))),some (.own (.lst (rows.map zx))),some (.own (.lst GG)),none,none,none,none,none]
   = some (.nx [some (.im c),some (.im mo),some (.im br),some (.im (.lst (xs.map T.int))),some (.im (.int many)),some (.own (.lst ((os++[b]).map kt))),some (.own (.lst (EW.map zx))),some (.own (.lst Gw)),some (.im (.int (0+(k:Int)))),some (.im (.int nu)),some (.im (.int sz)),none,none])
   /\ EW.length<=3*(k+1)/\(∀ r∈EW,ug many r)/\(∀ r∈rows,r∈EW)/\(∃ r∈EW,r.head?=some (k:Int))/\Gw.length<=k+1/\(Gw=GG\/(b=true/\∃ s:RN.Sl,(s.p=k/\(1<=s.gv/\s.gv<=12)/\0<=s.gt/\s.gt<=12)/\Gw=GG++[zw s])):=by
 obtain⟨v,hv⟩:=xE (xs:=xs) (j:=2+4*k) (by lia);have Hk:L2.zB (xs.map T.int) (2+4*(k:Int))=some (.int v):=hv;obtain⟨b,hb⟩:∃ b:Bool,L2.zB [T.str "keeper",T.str "taker"] (v%2)=some (kt b):=by
  rcases Int.emod_two_eq v with h | h <;> rw[h]
  .exact⟨true,rfl⟩
  .exact⟨false,rfl⟩
 obtain⟨sz,hsz,sz1⟩:∃ sz:Nat,L2.zB [T.int 2,T.int 3,T.int 3,T.int 12] (v/2%4)=some (.int (sz:Int))/\sz<=12:=by
  have h0:0<=v/2%4:=Bo _ (by decide);have h1:v/2%4<4:=BK _ (by decide);generalize v/2%4=z at *;obtain h | h | h | h:z=0\/z=1\/z=2\/z=3:=by lia
  all_goals subst h
  .exact⟨2,rfl,by decide⟩
  .exact⟨3,rfl,by decide⟩
  .exact⟨3,rfl,by decide⟩
  .exact⟨12,rfl,by decide⟩
 obtain⟨n1,Kq,n0,n3⟩:∃ n:Nat,1+v/8%3=(n:Int)/\0<n/\n<=3:=⟨(1+v/8%3).toNat,by lia,by lia,by lia⟩
 obtain⟨EW,g1,g2,g3,g4,g5⟩:=aP kz n1 many k (λ rs x=>[some (.im c),some (.im mo),some (.im br),some (.im (.lst (xs.map T.int))),some (.im (.int many)),some (.own (.lst ((os++[b]).map kt))),some (.own (.lst rs)),some (.own (.lst GG)),some (.im (.int (k:Int))),some (.im (.int v)),some (.im (.int sz)),x,none]) (λ _ _=>rfl) (by lia)
  (λ k' G9 rs hrs=>by
   obtain⟨v2,Ki⟩:=xE (xs:=xs) (j:=3+4*k+k') (by lia);have Il:L2.zB (xs.map T.int) (3+4*(k:Int)+(0+(k':Int)))=some (.int v2):=by rw[<- Ki];congr 1;lia
   obtain⟨r,Km,Kl⟩:=Zj k many v2 sz hk (by lia);refine⟨r,Km,?_⟩;have m1:vL 4 (k:Int):=.inl ⟨by decide,by decide⟩;have CH:rs.length<16777216:=by lia
   unfold turn kz;generalize rp=fw at *;generalize xs.map T.int=XL at *;generalize (os++[b]).map kt=OL at *;generalize zx r=rr at *;generalize (0+(k':Int))=kk at *;generalize hk4:(k:Int)=kI at *;simp[o4,m1,Il,Kl,CH])
  rows (by lia) hr
 have Cc:=ui n1 (by lia);have Ce:(os.map kt).length<16777216:=by simp;lia
 have BU:L2.zB ((os++[b]).map kt) (k:Int)=some (kt b):=xG (by rw[Bp,Ct (by simp;lia)];simp[ho]);have AQ:GG.length<16777216:=by lia
 have EA:=ik b;have m1:vL 4 (k:Int):=.inl ⟨by decide,by decide⟩;have d2:xA v 2:=⟨by decide,by decide⟩
 have d8:xA v 8:=⟨by decide,by decide⟩
 have d24:xA v 24:=⟨by decide,by decide⟩
 have d72:xA v 72:=⟨by decide,by decide⟩
 have KS:xA v 144:=⟨by decide,by decide⟩
 have KQ:xA v 576:=⟨by decide,by decide⟩
 have fin:∀ Gw:List T,(if b=true/\v/24%3=0 then GG++[.tup [.int k,.int (v/72%2),.int (1+v/144%4),.int (v/576%5)]] else GG)=Gw->turn (zt 8) qZ (.int (0+(k:Int))) [some (.im c),some (.im mo),some (.im br),some (.im (.lst (xs.map T.int))),some (.im (.int many)),some (.own (.lst (os.map kt))),some (.own (.lst (rows.map zx))),some (.own (.lst GG)),none,none,none,none,none]
   = some (.nx [some (.im c),some (.im mo),some (.im br),some (.im (.lst (xs.map T.int))),some (.im (.int many)),some (.own (.lst ((os++[b]).map kt))),some (.own (.lst (EW.map zx))),some (.own (.lst Gw)),some (.im (.int (0+(k:Int)))),some (.im (.int v)),some (.im (.int sz)),none,none]):=λ Gw he=>by
  have e2:(os++[b]).map kt=os.map kt++[kt b]:=by simp
  unfold turn qZ;rw[e2] at g1 BU ⊢;simp only[Int.zero_add] at g1 Cc ⊢;generalize kz=bb at *;generalize (List.range n1).map (λ(k:Nat)=>T.int (k:Int))=RR at *;generalize EW.map zx=L2' at *;generalize rows.map zx=L1' at *;generalize xs.map T.int=XL at *;generalize os.map kt=OL at *;generalize (T.str "taker")=s2 at *;generalize hs1:(T.str "keeper")=s1 at *;generalize kt b=kb at *;generalize hkI:(k:Int)=kI at *;generalize hee:zq=ee at *;have Iy:ee false (.int (v/24%3)) (.int 0)=some (.bl (decide (v/24%3=0))):=by rw[<- hee];exact eq_int _ _ _
  by_cases Hb:b=true
  .subst Hb;by_cases hz:v/24%3=0
   .rw[if_pos ⟨rfl,hz⟩] at he;subst he;rw[hz] at Iy;simp[o4,m1,Hk,hb,Ce,d2,hsz,d8,Kq,Cc,g1,BU,EA,d24,Iy,hz,AQ,d72,KS,KQ]
   .rw[if_neg (λ h=>hz h.2)] at he;subst he;simp[o4,m1,Hk,hb,Ce,d2,hsz,d8,Kq,Cc,g1,BU,EA,d24,Iy,hz]
  .have Iz:b=false:=by simpa using Hb
   subst Iz;rw[if_neg (λ h=>Hb h.1)] at he;subst he;simp[o4,m1,Hk,hb,Ce,d2,hsz,d8,Kq,Cc,g1,BU,EA]
 refine⟨b,EW,_,v,sz,fin _ rfl,by lia,g3,g4,g5 n0,?_,?_⟩
 .split
  .simp;lia
  .lia
 .split
  .rename_i EK;have hp:v/72%2=0\/v/72%2=1:=by lia
   refine .inr ⟨EK.1,⟨k,decide (v/72%2=1),1+v/144%4,v/576%5⟩,⟨rfl,by dsimp only;lia,by dsimp only;lia,by dsimp only;lia⟩,?_⟩;rcases hp with h | h <;> simp[zw,xC,h]
  .exact .inl rfl
noncomputable def yv (w:Wy):List Int:=[(w.f:Int),(w.t:Int),w.a,w.b]
theorem fj {w v:Wy}(h:yv w=yv v):w=v:=by
 obtain⟨f,t,a,b⟩:=w;obtain⟨f',t',a',b'⟩:=v;simp only[yv,List.cons.injEq,and_true] at h;obtain⟨h1,h2,rfl,rfl⟩:=h;have e1:f=f':=by lia
 have e2:t=t':=by lia
 subst e1 e2;rfl
theorem eC {many:Nat}:∀ l:List (List Int),(∀ r∈l,ug many r)->∃ ws:List Wy,l=ws.map yv/\∀ w∈ws,(w.f<many/\w.t<many)/\(-12<=w.a/\w.a<=12)/\-12<=w.b/\w.b<=12
 | [],_=>⟨[],rfl,nofun⟩
 | r::l,h=>by
  obtain⟨ws,e1,e2⟩:=eC l λ x hx=>h x (Av _ hx);obtain⟨f,t,a,b,rfl,hf,ht,hc⟩:=h r Am;refine⟨⟨f,t,a,b⟩::ws,by rw[e1];rfl,λ w hw=>?_⟩;rcases Ai.mp hw with x | x
  .subst x;exact⟨⟨hf,ht⟩,hc⟩
  .exact e2 w x
theorem XF {many:Nat}(rs:List (List Int)) (h0:rs≠[]) (hl:rs.length<64) (hw:∀ r∈rs,ug many r):
  ∃ ws:List Wy,tF [.lst (rs.map zx)]=some (.lst (ws.map zu))/\ws.length<=rs.length/\(∀ w∈ws,(w.f<many/\w.t<many)/\(-12<=w.a/\w.a<=12)/\-12<=w.b/\w.b<=12)/\(∀ w:Wy,w∈ws↔yv w∈rs)/\(ws.map yv).Pairwise (λ a b=>HT.lexLt b a=false/\a≠b):=by
 have hn:∀ r∈rs,r≠[]:=λ r hr=>by obtain⟨f,t,a,b,rfl,_⟩:=hw r hr;simp
 have hm:∀ r,r∈L4.yT (wq rs)↔r∈rs:=λ r=>by rw[(L4.uh _).mem_iff,o5]
 obtain⟨ws,e1,e2⟩:=eC (many:=many) (L4.yT (wq rs)) λ r hr=>hw r ((hm r).mp hr);refine⟨ws,?_,?_,e2,λ w=>?_,?_⟩
 .rw[XE rs h0 hl hn,e1,AF];rfl
 .have:=congrArg List.length e1;rw[(L4.uh _).length_eq,AA] at this;have:=jQ rs
  lia
 .rw[<- hm,e1];constructor
  .exact λ h=>Ah.mpr ⟨w,h,rfl⟩
  .intro h;obtain⟨v,hv,e⟩:=Ah.mp h;rw[<- fj e];exact hv
 .rw[<- e1];exact (L4.pX _).and ((L4.uh _).nodup_iff.mpr (mT rs))
structure Gf (os:List Bool) (ws:List Wy) (ss:List Sl):Prop where
 n1:1<=os.length
 n8:os.length<=8
 wr:∀ w∈ws,(w.f<os.length/\w.t<os.length)/\(-12<=w.a/\w.a<=12)/\-12<=w.b/\w.b<=12
 wl:ws.length<=24
 wp:(ws.map yv).Pairwise (λ a b=>HT.lexLt b a=false/\a≠b)
 way:∀ x<os.length,∃ w∈ws,w.f=x
 sr:∀ s∈ss,s.p<os.length/\os.getD s.p false=true/\(1<=s.gv/\s.gv<=12)/\0<=s.gt/\s.gt<=12
 sp:ss.Pairwise (λ a b=>a.p<b.p)
 sl:ss.length<=8
theorem MX (c:Int) (most zG:Nat) (h1:1<=most) (h8:most<=8) (hb:zG<=12):
  ∃ F:zy,px [.int c,.int most,.int zG]=some (zh F)/\Gf F.os F.ws F.ss/\(0<=F.A/\F.A<=zG)/\0<=F.B/\F.B<=zG:=by
 obtain⟨xs,Dd,hx⟩:=gC c 43 (by decide);have AO:xK [.int c,.int 43]=some (.lst (xs.map T.int)):=Dd;obtain⟨v0,hv0⟩:=xE (xs:=xs) (j:=0) (by lia);obtain⟨v1,hv1⟩:=xE (xs:=xs) (j:=1) (by lia);have Im:L2.zB (xs.map T.int) 0=some (.int v0):=hv0;have Jd:L2.zB (xs.map T.int) 1=some (.int v1):=hv1;have Ex:(0:Int)<most:=by lia
 have Jg:0<most:=h1;obtain⟨many,HU,m1,m8⟩:∃ n:Nat,1+v0%most=(n:Int)/\1<=n/\n<=8:=by
  have:=Bo v0 (b:=(most:Int)) (by lia);have:=BK v0 Ex;exact⟨(1+v0%most).toNat,by lia,by lia,by lia⟩
 obtain⟨J',g1,os,rows,GG,g2,g3,g4,g5,g6,g7,ss,DR,hsg,B6⟩:=ur (is:=[8,9,10,11]) (g:=zt 8) (b:=qZ) (λ k:Nat=>T.int (0+(k:Int)))
   (λ p J=>∃ (os:List Bool) (rows:List (List Int)) (GG:List T),J=[some (.im (.int c)),some (.im (.int most)),some (.im (.int zG)),some (.im (.lst (xs.map T.int))),some (.im (.int many)),some (.own (.lst (os.map kt))),some (.own (.lst (rows.map zx))),some (.own (.lst GG)),none,none,none,none,none]
    /\ os.length=p.length/\rows.length<=3*p.length/\(∀ r∈rows,ug many r)/\(∀ x∈p,∃ r∈rows,r.head?=some (x:Int))/\GG.length<=p.length/\∃ ss:List Sl,GG=ss.map zw/\(∀ s∈ss,s.p<os.length/\os.getD s.p false=true/\(1<=s.gv/\s.gv<=12)/\0<=s.gt/\s.gt<=12)/\ss.Pairwise (λ a b=>a.p<b.p))
   (List.range many) [some (.im (.int c)),some (.im (.int most)),some (.im (.int zG)),some (.im (.lst (xs.map T.int))),some (.im (.int many)),some (.own (.lst [])),some (.own (.lst [])),some (.own (.lst [])),none,none,none,none,none] ⟨[],[],[],rfl,rfl,by simp,nofun,nofun,by simp,[],rfl,nofun,.nil⟩ (by
  rintro p k q e J ⟨os,rows,GG,rfl,r1,r2,r3,r4,r5,ss,r6,r7,r8⟩;have hk:k<many:=AB.mp (by rw[e];simp);have hpk:p.length=k:=by
   have h2:=congrArg (λ l=>l[p.length]?) e;simp only[Ct (Af _),Nat.sub_self,D0] at h2;obtain⟨h3,h4⟩:=AL.mp h2;simpa using h4
  obtain⟨b,EW,Gw,nu,sz,t1,t2,t3,t4,t5,t6,t7⟩:=WU (.int c) (.int most) (.int zG) xs hx many m8 os rows GG k hk (by lia) (by lia) r3 (by lia);have grow:∀ s∈ss,s.p<(os++[b]).length/\(os++[b]).getD s.p false=true/\(1<=s.gv/\s.gv<=12)/\0<=s.gt/\s.gt<=12:=λ s hs=>by
   obtain⟨a1,a2,a3⟩:=r7 s hs;refine⟨by simp;lia,?_,a3⟩;rw[AK,Cs a1,<- AK];exact a2
  refine⟨_,t1,os++[b],EW,Gw,rfl,by simp[r1],by simp;lia,t3,λ x hx=>?_,by simp;lia,by
   rcases t7 with rfl | ⟨hb,s,⟨s0,s1⟩,rfl⟩
   .exact⟨ss,r6,grow,r8⟩
   .refine⟨ss++[s],by rw[r6];simp,λ z hz=>?_,DA.mpr ⟨r8,by simp,λ a ha c hc=>?_⟩⟩
    .rcases A2.mp hz with h | h
     .exact grow z h
     .cases AZ.mp h;refine⟨by simp;lia,?_,s1⟩;rw[s0,AK,Ct (by lia),show k-os.length=0 by lia,hb];rfl
    .cases AZ.mp hc;have:=(r7 a ha).1
     lia⟩
  rcases A2.mp hx with h | h
  .obtain⟨r,y1,y2⟩:=r4 x h;exact⟨r,t4 r y1,y2⟩
  .cases AZ.mp h;exact t5)
 subst g2;rw[B5] at g3 g4 g7;obtain⟨n9,hn9,n9'⟩:∃ n:Nat,(if 24-(rows.length:Int)<9 then 24-(rows.length:Int) else 9)=(n:Int)/\n<=9:=by
  split
  .exact⟨24-rows.length,by lia,by lia⟩
  .exact⟨9,rfl,by lia⟩
 obtain⟨pl,Aq,pl1⟩:∃ n:Nat,v0/64%8%many=(n:Int)/\n<many:=by
  have:=Bo (v0/64%8) (b:=(many:Int)) (by lia);have:=BK (v0/64%8) (b:=(many:Int)) (by lia);exact⟨(v0/64%8%many).toNat,by lia,by lia⟩
 have d64:xA v0 64:=⟨by decide,by decide⟩
 have Di:0<many:=m1;obtain⟨Hh,k1,k2,k3,k4,_⟩:=aP kx n9 many pl (λ rs x=>[some (.im (.int c)),some (.im (.int most)),some (.im (.int zG)),some (.im (.lst (xs.map T.int))),some (.im (.int many)),some (.own (.lst (os.map kt))),some (.own (.lst rs)),some (.own (.lst GG)),none,none,none,x,none]) (λ _ _=>rfl) (by lia)
  (λ k' G9 rs hrs=>by
   obtain⟨v2,Ki⟩:=xE (xs:=xs) (j:=34+k') (by lia);have Il:L2.zB (xs.map T.int) (34+(0+(k':Int)))=some (.int v2):=by rw[<- Ki];congr 1;lia
   obtain⟨r,Km,Kl⟩:=Zj pl many v2 3 pl1 (by lia);have Kk:rp [.int pl,.int many,.int v2,.int 3]=some (zx r):=Kl;refine⟨r,Km,?_⟩;have CH:rs.length<16777216:=by lia
   unfold turn kx;generalize rp=fw at *;generalize xs.map T.int=XL at *;generalize os.map kt=OL at *;generalize zx r=rr at *;generalize (0+(k':Int))=kk at *;simp[Im,d64,Di,Aq,Il,Kk,CH])
  rows (by lia) g5
 have fin:∃ Gj:List (List Int),(if v0/8%8=1 then Hh else rows)=Gj/\Gj≠[]/\Gj.length<=24/\(∀ r∈Gj,ug many r)/\∀ x<many,∃ r∈Gj,r.head?=some (x:Int):=by
  refine⟨_,rfl,?_⟩;have hx:∀ x<many,∃ r∈rows,r.head?=some (x:Int):=λ x hx=>g6 x (AB.mpr hx);have hx2:∀ x<many,∃ r∈Hh,r.head?=some (x:Int):=λ x hh=>by
   obtain⟨r,y1,y2⟩:=hx x hh;exact⟨r,k4 r y1,y2⟩
  split
  .refine⟨λ e=>?_,by lia,k3,hx2⟩;obtain⟨r,y,_⟩:=hx2 0 Di;rw[e] at y;cases y
  .refine⟨λ e=>?_,by lia,g5,hx⟩;obtain⟨r,y,_⟩:=hx 0 Di;rw[e] at y;cases y
 obtain⟨Gj,e3,r0,r1,r2,r3⟩:=fin;obtain⟨ws,w1,w2,w3,w4,w5⟩:=XF Gj r0 (by lia) r2;have DY:(0:Int)<(zG:Int)+1:=by lia
 have A0:=Bo v1 (b:=(zG:Int)+1) (by lia);have A1:=BK v1 DY;have B0:=Bo (v1/13) (b:=(zG:Int)+1) (by lia);have B1:=BK (v1/13) DY;have Bz:ss.length=GG.length:=by rw[DR,AA]
 refine⟨⟨v1%((zG:Int)+1),v1/13%((zG:Int)+1),os,ws,ss⟩,?_,⟨by dsimp only;lia,by dsimp only;lia,λ w hw=>by dsimp only;rw[g3];exact w3 w hw,by dsimp only;lia,w5,λ x hx=>?_,hsg,B6,by dsimp only;lia⟩,by dsimp only;lia⟩
 .have Cc:=ui many (by lia);have Kj:=ui n9 (by lia);have d8:xA v0 8:=⟨by decide,by decide⟩
  have d13:xA v1 13:=⟨by decide,by decide⟩
  have hlen:zN [.lst (rows.map zx)]=some (.int rows.length):=by simp
  have Ey:(os.map kt).length<=16777216:=by simp;lia
  have hls:GG.length<=16777216:=by lia
  have DT:(ws.map zu).length<=16777216:=by simp;lia
  have hq:=eq_int (v0/8%8) 1 false;show px _=some (.tup [.tup [.int (v1%((zG:Int)+1)),.int (v1/13%((zG:Int)+1))],.tup (os.map kt),.tup (ws.map zu),.tup (ss.map zw)]);rw[<- DR];unfold px Ym;generalize qZ=bb2 at *;generalize kx=bb3 at *;generalize xK=fs at *;generalize xs.map T.int=XL at *;generalize (List.range many).map (λ(k:Nat)=>T.int (0+(k:Int)))=R1 at *;generalize (List.range n9).map (λ(k:Nat)=>T.int (0+(k:Int)))=R9 at *;generalize os.map kt=OL at *;by_cases h:v0/8%8=1
  .rw[if_pos h] at e3;subst e3;rw[h] at hq;generalize ws.map zu=WL at *;generalize hrr:rows.map zx=RR at *;generalize Hh.map zx=RR2 at *;have B7:RR.length=rows.length:=by rw[<- hrr,AA]
   generalize zq=ee at *;generalize tF=sv at *;simp[AO,Im,Ex,Jg,HU,Cc,g1,d8,hq,h,B7,hn9,Kj,k1,Jd,DY,d13,w1,Ey,hls,DT]
  .rw[if_neg h] at e3;subst e3;generalize ws.map zu=WL at *;generalize rows.map zx=RR at *;generalize zq=ee at *;generalize tF=sv at *;simp[AO,Im,Ex,Jg,HU,Cc,g1,d8,hq,h,Jd,DY,d13,w1,Ey,hls,DT]
 .dsimp only at hx;rw[g3] at hx;obtain⟨r,y1,y2⟩:=r3 x hx;obtain⟨f,t,a,b,rfl,hf,ht,_⟩:=r2 r y1;refine⟨⟨f,t,a,b⟩,(w4 _).mpr y1,?_⟩;have:(f:Int)=(x:Int):=by simpa using y2
  dsimp only;lia
def uo (t:T):Bool:=!wy t&&(match t with | .tup ts=>ts.all (λ u=>!wy u) | _=>true)
theorem uo.top {t:T}(h:uo t=true):wy t=false:=by
 unfold uo at h;simp only[Bc,Bool.not_eq_true'] at h;exact h.1
theorem uo.mem {ts:List T}(h:uo (.tup ts)=true) {u:T}(hu:u∈ts):wy u=false:=by
 simp only[uo,Bc,B3,Bool.not_eq_true'] at h;exact h.2 u hu
noncomputable def wh (t:T) (a b:Int):Bool:=match t with
 | .int i=>decide (a<=i)&&decide (i<=b)
 | _=>false
theorem Zi (t:T) (he:wy t=false):sk [t]=some (.bl (match t with | .int _=>true | _=>false)):=by
 cases t with
 | err _ _ _=>cases he
 | _=>simp[sk,gY,wx]
theorem ML (t:T) (a b:Int) (he:wy t=false):sj [t,.int a,.int b]=some (.bl (wh t a b)):=by
 have h:=Zi t he;unfold sj gX;by_cases hi:∃ i,t=.int i
 .obtain⟨i,rfl⟩:=hi;unfold wh;by_cases h1:a<=i <;> by_cases h2:i<=b <;> simp[h,h1,h2]
 .have h':sk [t]=some (.bl false):=by
   rw[h];cases t with
   | int i=>exact absurd ⟨i,rfl⟩ hi
   | _=>rfl
  have e:wh t a b=false:=by
   cases t with
   | int i=>exact absurd ⟨i,rfl⟩ hi
   | _=>rfl
  rw[e];simp[h']
theorem mq {α:Type}(enc:α->T):∀ (ts:List T) (bs:List α),List.zipWith (λ a b=>T.tup [a,b]) ts (bs.map enc)=(ts.zip bs).map λ p=>T.tup [p.1,enc p.2]
 | [],bs=>by simp
 | t::ts,[]=>by simp
 | t::ts,b::bs=>by simp[mq enc ts bs]
theorem hV {α:Type}(g:α->Bool) (xs:List α):wQ (xs.map λ x=>T.bl (g x))=some (xs.map g):=by
 have:=aE (xs.map g);rw[AF] at this;exact this
theorem gk {α:Type}(g:α->Bool) (xs:List α):(xs.map g).all id=xs.all g:=by
 rw[List.all_map];rfl
def sL (t:T) (bs:List (Int×Int)):Bool:=match t with
 | .tup ts=>decide (ts.length=bs.length)&&(ts.zip bs).all λ p=>wh p.1 p.2.1 p.2.2
 | _=>false
theorem QG {t:T}(he:wy t=false) (h:¬ ∃ ts,t=.tup ts):∃ s,jg t=some s/\wx s "tuple"=false:=by
 cases t with
 | tup ts=>exact absurd ⟨ts,rfl⟩ h
 | err _ _ _=>cases he
 | _=>exact⟨_,rfl,by decide⟩
theorem Zl (t:T) (bs:List (Int×Int)) (hl:bs.length<=100) (he:uo t=true):ql [t,.tup (bs.map zm)]=some (.bl (sL t bs)):=by
 have it:wx "tuple" "tuple"=true:=by decide
 by_cases ht:∃ ts,t=.tup ts
 .obtain⟨ts,rfl⟩:=ht;unfold ql gZ sL;by_cases h:ts.length=bs.length
  .have hc:i_ [some (.im (.tup ts)),some (.im (.tup (bs.map zm)))]=some (.lst ((ts.zip bs).map λ p=>T.bl (wh p.1 p.2.1 p.2.2))):=by
    unfold i_;refine xj (λ p:T×(Int×Int)=>T.tup [p.1,zm p.2]) _ (ts.zip bs) ?_ ?_ λ p hp=>?_
    .simp[mq]
    .simp;lia
    .simp[wK,zm,ML _ _ _ (uo.mem he (CS hp).1)]
   simp[it,eq_int,h,hc,hV,gk]
  .have h':¬ (ts.length:Int)=bs.length:=by lia
   simp[it,eq_int,h,h']
 .obtain⟨s,s1,s2⟩:=QG (uo.top he) ht;have e:sL t bs=false:=by
   cases t with
   | tup ts=>exact absurd ⟨ts,rfl⟩ ht
   | _=>rfl
  rw[e];unfold ql gZ;simp[-jg,s1,s2]
noncomputable def pO:List (List Int)->Bool
 | a::b::l=>HT.lexLt a b&&pO (b::l)
 | _=>true
noncomputable def pP:List Int->Bool
 | a::b::l=>decide (a<b)&&pP (b::l)
 | _=>true
theorem kZ {α:Type}(lt:α->α->Bool) (up:List α->Bool) (h0:up []=true) (h1:∀ a,up [a]=true) (h2:∀ a b l,up (a::b::l)=(lt a b&&up (b::l))):∀ l:List α,((l.zip (l.drop 1)).all λ p=>lt p.1 p.2)=up l
 | []=>by simp[h0]
 | [a]=>by simp[h1]
 | a::b::l=>by
  have ih:=kZ lt up h0 h1 h2 (b::l);simp only[List.drop_succ_cons,List.drop_zero,Ea,List.all_cons] at ih ⊢;rw[h2,<- ih]
theorem aj {α:Type}(xs:List α):vZ xs (some 1) none=xs.drop 1:=by
 unfold vZ;have e:HT.zD xs.length 0 (some 1)=min 1 xs.length:=by simp[HT.zD]
 have e2:HT.zD xs.length xs.length none=xs.length:=rfl;rw[e,e2];cases xs with
 | nil=>rfl
 | cons x xs=>simp
theorem MR (rs:List (List Int)) (hl:rs.length<=16777216):su [.tup (rs.map zx)]=some (.bl (pO rs)):=by
 have hc:nA [some (.im (.tup (rs.map zx)))]=some (.lst ((rs.zip (rs.drop 1)).map λ p=>T.bl (HT.lexLt p.1 p.2))):=by
  unfold nA;refine xj (λ p:List Int×List Int=>T.tup [zx p.1,zx p.2]) _ (rs.zip (rs.drop 1)) ?_ ?_ λ p hp=>?_
  .simp only[yL,za,zc,mH,nB,cS,ze,rD,lN,Bu,aj,Wb,Option.map_some,D0];rw[<- CO,mq,List.zip_map_left,AF];rfl
  .simp;lia
  .simp[wK,zx,wI,iz]
 unfold su fg;simp[hc,hV,gk];have:=kZ (λ a b=>HT.lexLt a b) pO rfl (λ _=>rfl) (λ _ _ _=>rfl) rs;simpa using this
theorem MS (ns:List Int) (hl:ns.length<=16777216):su [.lst (ns.map T.int)]=some (.bl (pP ns)):=by
 have hc:nA [some (.im (.lst (ns.map T.int)))]=some (.lst ((ns.zip (ns.drop 1)).map λ p=>T.bl (decide (p.1<p.2)))):=by
  unfold nA;refine xj (λ p:Int×Int=>T.tup [T.int p.1,T.int p.2]) _ (ns.zip (ns.drop 1)) ?_ ?_ λ p hp=>?_
  .simp only[yL,za,zc,mH,nB,cS,ze,rD,lN,Bu,aj,ez,Option.map_some,D0];rw[<- CO,mq,List.zip_map_left,AF];rfl
  .simp;lia
  .simp[wK,wI]
 unfold su fg;simp[hc,hV,gk];have:=kZ (λ a b:Int=>decide (a<b)) pP rfl (λ _=>rfl) (λ _ _ _=>rfl) ns;simpa using this
theorem dN (r:List Int):uo (zx r)=true:=by
 simp[uo,zx,wy]
theorem Zk (rs:List (List Int)) (bs:List (Int×Int)) (hl:bs.length<=100) (hz:rs.length<=100) (h:∀ r∈rs,sL (zx r) bs=true):qq [.tup (rs.map zx),.tup (bs.map zm)]=some (.bl true):=by
 have hc:kl [some (.im (.tup (rs.map zx))),some (.im (.tup (bs.map zm)))]=some (.lst (rs.map λ _=>T.bl true)):=by
  unfold kl;refine xj zx _ rs (by simp) (by lia) λ r hr=>?_;have:=Zl (zx r) bs hl (dN r);rw[h r hr] at this;generalize zx r=rr at *;generalize bs.map zm=BB at *;simp[this]
 have it:wx "tuple" "tuple"=true:=by decide
 have hb:wQ (rs.map λ _=>T.bl true)=some (rs.map λ _=>true):=rf _ _;unfold qq Y6;generalize kl=cc at *;simp[it,hc,hb]
theorem MT (os:List Bool) (h1:1<=os.length) (h8:os.length<=8):mh [.tup (os.map kt)]=some (.bl true):=by
 have ho:∀ b,pB [kt b]=some (.bl true):=λ b=>by cases b <;> rfl
 have hc:km [some (.im (.tup (os.map kt)))]=some (.lst (os.map λ _=>T.bl true)):=by
  unfold km;refine xj kt _ os (by simp) (by lia) λ b _=>?_;have:=ho b;generalize kt b=kb at *;simp[this]
 have it:wx "tuple" "tuple"=true:=by decide
 have hb:wQ (os.map λ _=>T.bl true)=some (os.map λ _=>true):=rf _ _;have e1:(1:Int)<=((os.map kt).length:Int):=by simp;lia
 have e2:((os.map kt).length:Int)<=8:=by simp;lia
 unfold mh Y7;generalize km=cc at *;generalize os.map kt=O at *;simp[it,e1,e2,hc,hb]
theorem YK {rs:List (List Int)}(h:rs.Pairwise (λ a b=>HT.lexLt b a=false/\a≠b)):pO rs=true:=by
 induction rs with
 | nil=>rfl
 | cons a l ih=>
  cases l with
  | nil=>rfl
  | cons b l=>
   have h1:=Bg.mp h;have h2:=h1.1 b Am;have:HT.lexLt a b=true:=by
    cases e:HT.lexLt a b with
    | true=>rfl
    | false=>exact absurd (L4.ig a b e h2.1) h2.2
   simp[pO,this,ih h1.2]
theorem M7 (k:Nat) (ws:List Wy) (h:∃ w∈ws,w.f=k) (hl:ws.length<=100):xq false (.int (k:Int)) (.lst (ws.map λ w=>T.int (w.f:Int)))=some (.bl true):=by
 obtain⟨w,hw,e⟩:=h;have hd:yW (ws.map λ w=>T.int (w.f:Int))<=60:=by
  have:=qU (λ w:Wy=>T.int (w.f:Int)) 0 (λ _=>by simp[dep]) ws
  lia
 have ha:(ws.map λ w=>T.int (w.f:Int)).any (λ t=>eqT t (.int (k:Int)))=true:=by
  rw[A9];exact⟨_,Ah.mpr ⟨w,hw,rfl⟩,by simp[eqT,e]⟩
 unfold xq;simp only[ez];generalize (ws.map λ w=>T.int (w.f:Int))=L at *;simp[dep,hd,ha]
section
variable {os:List Bool}{ws:List Wy}{ss:List Sl}
theorem pH (ws:List Wy):ws.map zu=(ws.map yv).map zx:=by rw[AF];rfl
def wG (s:Sl):List Int:=[(s.p:Int),xC s.pu,s.gv,s.gt]
theorem mI (ss:List Sl):ss.map zw=(ss.map wG).map zx:=by rw[AF];rfl
theorem eD {x y z u:Int}{a b c d:Int×Int}(h1:a.1<=x/\x<=a.2) (h2:b.1<=y/\y<=b.2) (h3:c.1<=z/\z<=c.2) (h4:d.1<=u/\u<=d.2):sL (zx [x,y,z,u]) [a,b,c,d]=true:=by
 simp[sL,zx,wh,h1,h2,h3,h4]
theorem Gf.JX (G:Gf os ws ss):me [.tup (ws.map zu),.int (os.length:Int)]=some (.bl true):=by
 have hw:=Zk (ws.map yv) [(0,(os.length:Int)-1),(0,(os.length:Int)-1),(-12,12),(-12,12)] (by simp) (by have:=G.wl;simp;lia) (λ r hr=>by
  obtain⟨w,hw,rfl⟩:=Ah.mp hr;obtain⟨⟨a1,a2⟩,a3,a4⟩:=G.wr w hw;exact eD ⟨by dsimp only;lia,by dsimp only;lia⟩ ⟨by dsimp only;lia,by dsimp only;lia⟩ a3 a4)
 rw[<- pH] at hw;have eb:T.tup ([(0,(os.length:Int)-1),(0,(os.length:Int)-1),(-12,12),(-12,12)].map zm)=.tup [.tup [.int 0,.int ((os.length:Int)-1)],.tup [.int 0,.int ((os.length:Int)-1)],.tup [.int (-12),.int 12],.tup [.int (-12),.int 12]]:=rfl;rw[eb] at hw;have CV:=MR (ws.map yv) (by have:=G.wl;simp;lia);rw[YK G.wp,<- pH] at CV;have hl:(ws.map zu).length=ws.length:=by simp
 have wl:=G.wl;have n8:=G.n8;have HI:∀ a b c d,ki [some (.im (.tup (ws.map zu))),a,b,c,d]=some (.lst (ws.map λ w=>T.int (w.f:Int))):=λ a b c d=>by
  unfold ki;refine xj zu _ ws (by simp) (by lia) λ w _=>?_;simp[zu]
 have F5:∀ a c d,lU [a,some (.im (.int (os.length:Int))),c,d,some (.im (.lst (ws.map λ w=>T.int (w.f:Int))))]=some (.lst ((List.range os.length).map λ _=>T.bl true)):=λ a c d=>by
  unfold lU;refine xj (λ k:Nat=>T.int (0+(k:Int))) _ (List.range os.length) ?_ (by simp;lia) λ k hk=>?_
  .simp[ui os.length (by lia)]
  .have e:=M7 k ws (G.way k (AB.mp hk)) (by lia);generalize (ws.map λ w=>T.int (w.f:Int))=L at *;generalize xq false=ii at *;simp[e]
 have hb:wQ ((List.range os.length).map λ _=>T.bl true)=some ((List.range os.length).map λ _=>true):=rf _ _;have e24:(ws.length:Int)<=24:=by lia
 unfold me Y4;generalize ki=c1 at *;generalize lU=c2 at *;generalize (ws.map λ w=>T.int (w.f:Int))=L at *;generalize ws.map zu=WL at *;generalize (List.range os.length).map (λ _=>T.bl true)=RL at *;generalize qq=f1 at *;generalize su=f2 at *;simp[hw,HI,F5,CV,hb,hl,e24]
theorem YM {ns:List Int}(h:ns.Pairwise (· < ·)):pP ns=true:=by
 induction ns with
 | nil=>rfl
 | cons a l ih=>
  cases l with
  | nil=>rfl
  | cons b l=>
   have h1:=Bg.mp h;simp[pP,h1.1 b Am,ih h1.2]
theorem Gf.Ig (G:Gf os ws ss):mf [.tup (ss.map zw),.tup (os.map kt)]=some (.bl true):=by
 have hw:=Zk (ss.map wG) [(0,(os.length:Int)-1),(0,1),(1,12),(0,12)] (by simp) (by have:=G.sl;simp;lia) (λ r hr=>by
  obtain⟨s,hs,rfl⟩:=Ah.mp hr;obtain⟨a1,_,a3,a4⟩:=G.sr s hs;exact eD ⟨by dsimp only;lia,by dsimp only;lia⟩ (by unfold xC;split <;> decide) a3 a4)
 rw[<- mI] at hw;have eb:T.tup ([(0,(os.length:Int)-1),(0,1),(1,12),(0,12)].map zm)=.tup [.tup [.int 0,.int ((os.length:Int)-1)],.tup [.int 0,.int 1],.tup [.int 1,.int 12],.tup [.int 0,.int 12]]:=rfl;rw[eb] at hw;have sl:=G.sl;have CV:=MS (ss.map λ s=>(s.p:Int)) (by simp;lia);rw[YM (Bx.mpr (G.sp.imp λ h=>by lia)),AF] at CV;have HI:∀ a b,kj [some (.im (.tup (ss.map zw))),a,b]=some (.lst (ss.map (T.int ∘ λ s=>(s.p:Int)))):=λ a b=>by
  unfold kj;refine xj zw _ ss (by simp) (by lia) λ s _=>?_;simp[zw]
 have F5:∀ b,lV [some (.im (.tup (ss.map zw))),some (.im (.tup (os.map kt))),b]=some (.lst (ss.map λ _=>T.bl true)):=λ b=>by
  unfold lV;refine xj zw _ ss (by simp) (by lia) λ s hs=>?_;obtain⟨a1,a2,_⟩:=G.sr s hs;have ha:L2.zB (os.map kt) (s.p:Int)=some (kt true):=xG (by rw[Ay,AG a1];rw[AK,AG a1] at a2;simp only[Option.getD_some] at a2;rw[a2];rfl);have hk:=ik true;generalize os.map kt=O at *;generalize kt true=kk at *;generalize (T.str "keeper")=ks at *;generalize zq false=ee at *;simp[zw,ha,hk]
 have hb:wQ (ss.map λ _=>T.bl true)=some (ss.map λ _=>true):=rf _ _;have hl:((os.map kt).length:Int)=os.length:=by simp
 unfold mf Y5;generalize kj=c1 at *;generalize lV=c2 at *;generalize (ss.map (T.int ∘ λ s=>(s.p:Int)))=L at *;generalize ss.map zw=SL at *;generalize os.map kt=O at *;generalize (ss.map λ _=>T.bl true)=RL at *;generalize qq=f1 at *;generalize su=f2 at *;simp[hw,HI,F5,CV,hb,hl]
theorem Gf.floor (G:Gf os ws ss) {A B:Int}(hA:0<=A/\A<=12) (hB:0<=B/\B<=12):nX [zh ⟨A,B,os,ws,ss⟩]=some (.bl true):=by
 have h1:=Zl (zx [A,B]) [(0,12),(0,12)] (by simp) (dN _);have e1:sL (zx [A,B]) [(0,12),(0,12)]=true:=by simp[sL,zx,wh,hA,hB]
 rw[e1] at h1;have hb:mi [.tup [.int A,.int B]]=some (.bl true):=by
  have eb:T.tup ([((0:Int),(12:Int)),(0,12)].map zm)=.tup [.tup [.int 0,.int 12],.tup [.int 0,.int 12]]:=rfl;rw[eb] at h1;have er:zx [A,B]=.tup [.int A,.int B]:=rfl;rw[er] at h1;unfold mi Y8;generalize ql=ff at *;simp[h1]
 have h2:=MT os G.n1 G.n8;have h3:=G.JX;have h4:=G.Ig;have it:wx "tuple" "tuple"=true:=by decide
 have hl:((os.map kt).length:Int)=os.length:=by simp
 have g0:∀ a b c d:T,L2.zB [a,b,c,d] 0=some a:=λ _ _ _ _=>rfl;have g1:∀ a b c d:T,L2.zB [a,b,c,d] 1=some b:=λ _ _ _ _=>rfl;have g2:∀ a b c d:T,L2.zB [a,b,c,d] 2=some c:=λ _ _ _ _=>rfl;have g3:∀ a b c d:T,L2.zB [a,b,c,d] 3=some d:=λ _ _ _ _=>rfl;have e2:∀ i j:Int,zq true (.int i) (.int j)=some (.bl (!decide (i=j))):=λ i j=>eq_int i j true;unfold nX Yt zh;dsimp only;generalize mi=f1 at *;generalize mh=f2 at *;generalize me=f3 at *;generalize mf=f4 at *;generalize os.map kt=O at *;generalize ws.map zu=WL at *;generalize ss.map zw=SL at *;generalize zq true=ee at *;simp[it,e2,g0,g1,g2,g3,hb,h2,hl,h3,h4]
theorem fQ (rs out:List (List Int)) (hl:rs.length<64) (hn:∀ r∈rs,r≠[]) (hp:out.Perm rs) (hs:out.Pairwise λ a b=>HT.lexLt b a=false):vN [.lst (rs.map zx)]=some (.lst (out.map zx)):=by
 show ((vk (rs.map zx)).bind λ rs=>_)=_;rw[mK,Bu,if_pos ⟨hl,hn⟩,<- L4.jt hp hs]
theorem Zm {r:List Int}(h:r.length=4):qm [zx r]=some (.bl true):=by
 have hw:∀ x:Int,sk [.int x]=some (.bl true):=λ x=>Zi (.int x) rfl;have hc:ke [some (.im (zx r))]=some (.lst (r.map λ _=>T.bl true)):=by
  unfold ke;refine xj T.int _ r (by simp[zx]) (by lia) λ x _=>?_;simp[hw x]
 have it:wx "tuple" "tuple"=true:=by decide
 have hb:wQ (r.map λ _=>T.bl true)=some (r.map λ _=>true):=rf _ _;have hl:((r.map T.int).length:Int)=4:=by simp;lia
 unfold qm Ys;generalize ke=cc at *;unfold zx at *;generalize r.map T.int=R at *;simp[it,eq_int,hl,hc,hb]
theorem XU (h:ss.Pairwise (λ a b=>a.p<b.p)):(ss.map wG).Pairwise λ a b=>HT.lexLt b a=false:=by
 refine Bx.mpr (h.imp λ{a b} CN=>?_);unfold wG;rw[HT.tP,if_neg (by lia)];simp;lia
theorem o7 {ows:List Wy}{Gx:List Sl}(G:Gf os ws ss) {A B:Int}(hA:0<=A/\A<=12) (hB:0<=B/\B<=12) (hw:ows.Perm ws) (hs:Gx.Perm ss) (ow:T) (how:wg [ow]=some (.tup (os.map kt))):vK [zm (A,B),ow,.lst (ows.map zu),.lst (Gx.map zw)]=some (zh ⟨A,B,os,ws,ss⟩):=by
 have wl:=G.wl;have sl:=G.sl;have wl':=hw.length_eq;have sl':=hs.length_eq;have hc:kf [some (.im (zm (A,B))),some (.im ow),some (.im (.lst (ows.map zu))),some (.im (.lst (Gx.map zw))),none]=some (.lst ((ows.map yv++Gx.map wG).map λ _=>T.bl true)):=by
  unfold kf;refine xj zx _ (ows.map yv++Gx.map wG) ?_ (by simp;lia) λ r hr=>?_
  .have e:(ows.map yv++Gx.map wG).map zx=ows.map zu++Gx.map zw:=by rw[Bp,<- pH,<- mI]
   have hl:(ows.map zu).length+(Gx.map zw).length<=16777216:=by simp;lia
   rw[e];generalize ows.map zu=WL at *;generalize Gx.map zw=SL at *;simp[hl]
  .have h4:r.length=4:=by
    rcases A2.mp hr with h | h <;> obtain⟨x,_,rfl⟩:=Ah.mp h <;> rfl
   have:=Zm h4;generalize zx r=rr at *;simp[this]
 have hb:wQ ((ows.map yv++Gx.map wG).map λ _=>T.bl true)=some ((ows.map yv++Gx.map wG).map λ _=>true):=rf _ _;have hal:((ows.map yv++Gx.map wG).map λ _=>true).all id=true:=by rw[List.all_map];simp
 have s1:vN [.lst (ows.map zu)]=some (.lst (ws.map zu)):=by
  rw[pH,pH];exact fQ _ _ (by simp;lia) (λ r hr=>by obtain⟨x,_,rfl⟩:=Ah.mp hr;simp[yv]) (hw.map yv).symm (G.wp.imp λ h=>h.1)
 have s2:vN [.lst (Gx.map zw)]=some (.lst (ss.map zw)):=by
  rw[mI,mI];exact fQ _ _ (by simp;lia) (λ r hr=>by obtain⟨x,_,rfl⟩:=Ah.mp hr;simp[wG]) (hs.map wG).symm (XU G.sp)
 have hf:=G.floor hA hB;have l2:(ws.map zu).length<=16777216:=by simp;lia
 have l3:(ss.map zw).length<=16777216:=by simp;lia
 have ef:zh ⟨A,B,os,ws,ss⟩=.tup [zm (A,B),.tup (os.map kt),.tup (ws.map zu),.tup (ss.map zw)]:=rfl;rw[ef] at hf ⊢;have t2:wg [.lst (ws.map zu)]=some (.tup (ws.map zu)):=by simp[l2]
 have t3:wg [.lst (ss.map zw)]=some (.tup (ss.map zw)):=by simp[l3]
 unfold vK Yu;generalize kf=cc at *;generalize nX=f1 at *;generalize ((ows.map yv++Gx.map wG).map λ _=>T.bl true)=RL at *;generalize ((ows.map yv++Gx.map wG).map λ _=>true)=BL at *;generalize os.map kt=O at *;generalize ws.map zu=WL at *;generalize ss.map zw=SL at *;generalize ows.map zu=WL' at *;generalize Gx.map zw=SL' at *;generalize zm (A,B)=pp at *;generalize vN=so at *;generalize wg=tu at *;simp[hc,hb,hal,s1,s2,how,t2,t3,hf]
end
def yr (a c:Int) (b:Bd):Bd:=b.filter λ q=>yU (a,c) q
theorem Zn (b:Bd) (a c:Int) (hl:b.length<=100):qj [bT b,zm (a,c)]=some (bT (yr a c b)):=by
 have hc:lZ [some (.im (bT b)),some (.im (zm (a,c)))]=some (.lst ((yr a c b).map zm)):=by
  have:=sQ zm (λ q=>if yU (a,c) q=true then some (zm q) else none) (pick:=[none,some 1]) (it:=yk (zc 0)) (g:=zt 0) (c:=y4 (zi r9 (za (zk 1) (za (zk 0) ze)))) (f:=zk 0) (J:=[some (.im (bT b)),some (.im (zm (a,c)))]) b (by simp[bT]) (by lia) (λ q _=>by
   have h:=Zq (a,c) q;generalize r9=ff at *;generalize yU (a,c) q=g at *;generalize zm (a,c)=pa at *;generalize zm q=pq at *;cases g <;> simp[h])
  unfold lZ;rw[this,qS];rfl
 have GN:((yr a c b).map zm).length<=16777216:=by
  have:=Co (λ q=>yU (a,c) q) b;unfold yr;simp;lia
 have e:bT (yr a c b)=.tup ((yr a c b).map zm):=rfl;rw[e];unfold qj Yd;generalize lZ=cc at *;generalize (yr a c b).map zm=LL at *;simp[hc,GN]
theorem b6 {a c:Int}{b:Bd}(h:y_ b):y_ (yr a c b):=List.Pairwise.filter _ h
theorem O_ {a c:Int}{b d:Bd}(h:zM b d):zM (yr a c b) (yr a c d):=zM.of λ p hp=>by
 obtain⟨p1,p2⟩:=AN.mp hp;obtain⟨r,r1,r2,r3⟩:=h.at p1;refine⟨r,AN.mpr ⟨r1,?_⟩,r2,r3⟩;unfold yU at p2 ⊢;simp only[Bc,decide_eq_true_eq] at p2 ⊢
 lia
noncomputable def pJ (b d:Bd):Str:=if b=d then "alike" else "first"
theorem MK (b d:Bd) (hb:y_ b) (hd:y_ d) (h:zM d b) (hl:b.length+d.length<64):pj [bT b,bT d]=some (.str (pJ b d)):=by
 unfold pJ;have hj:=Zo b d hl;have he:vA b d=b:=y_.eq (lg _) hb λ q=>by
  rw[bK];cases h1:ya b q with
  | true=>rfl
  | false=>
   cases h2:ya d q with
   | false=>rfl
   | true=>rw[h q h2] at h1;cases h1
 rw[he] at hj;have e1:zq false (bT b) (bT b)=some (.bl true):=Nk rfl;by_cases z:b=d
 .subst z;rw[if_pos rfl];unfold pj gU;generalize bT b=bt at *;generalize zq false=ee at *;simp[e1]
 .have e2:zq false (bT b) (bT d)=some (.bl false):=by
   have:=dS b d;unfold zq at this ⊢;split at this
   .rename_i hdp;rw[if_pos hdp];simp only[cond_true,cond_false,Option.some.injEq,T.bl.injEq] at this ⊢;simpa [z] using this
   .cases this
  rw[if_neg z];unfold pj gU;generalize qo=f1 at *;generalize bT b=bt at *;generalize bT d=dt at *;generalize zq false=ee at *;simp[e1,e2,hj]
structure Good (F:zy):Prop where
 g:Gf F.os F.ws F.ss
 a:0<=F.A/\F.A<=5
 b:0<=F.B/\F.B<=5
theorem Good.ok {F:zy}(h:Good F):F.Ok:=
 ⟨h.a.1,by have:=h.a;lia,h.b.1,by have:=h.b;lia,h.g.n1,h.g.n8,λ w hw=>(h.g.wr w hw).1,by have:=h.g.wl;lia,λ s hs=>⟨(h.g.sr s hs).2.2.1.1,(h.g.sr s hs).2.2.2.1⟩,
  .inr (by have:=h.a;have:=h.b;exact D1 (Int.mul_le_mul (c:=6) (by lia) (by lia:_<=(6:Int)) (by lia) (by lia)) (by decide)),by have:=h.g.sl;lia⟩
theorem Lg {F:zy}{pre:List (List Bd)}{lst:List Bd}(hr:tp [zh F]=some (.lst ((pre++[lst]).map rT))):uA [zh F]=some (rT lst):=by
 have BU:L2.zB ((pre++[lst]).map rT) (-1)=some (rT lst):=by
  rw[Bp];exact h_
 unfold uA Yz;generalize (pre++[lst]).map rT=L at *;generalize tp=f1 at *;generalize zh F=fl at *;simp[hr,BU]
structure Rd (F:zy) (m:Nat):Prop where
 ro:tp [zh F]=some (.lst (((List.range (m+1)).map (zE F)).map rT))
 bo:uA [zh F]=some (rT (zE F m))
 st:∀ k,zE F (m+k)=zE F m
 gd:∀ k,k<=m->∀ t,(zE F k).getD t []=[]\/Gd F.A F.B ((zE F k).getD t [])
 m2:m<=2000
theorem Good.rd {F:zy}(h:Good F):∃ m,Rd F m:=by
 obtain⟨more,hr,hn,hm,hR⟩:=MQ h.ok;have n1:=h.ok.n1;have Ao:List.range F.os.length≠[]:=λ h=>by
  have h2:=congrArg List.length h;rw[B5] at h2;rw[h2] at n1;exact absurd n1 (by decide)
 obtain⟨m,e,AQ⟩:=eG h.ok h.g.way 2000 [] 0 (List.range F.os.length) _ (St.start h.ok) Ao rfl hR;have e':RN.start F::more=(List.range m).map (zE F)++[zE F m]:=by rw[e,List.range_succ,Bp];rfl
 have el:(RN.start F::more).length=m+1:=by rw[e];simp
 refine⟨m,by rw[<- e];exact hr,by rw[e'] at hr;exact Lg hr,λ k=>cA AQ k,λ k hk t=>?_,by simp at el;lia⟩;by_cases ht:t<(zE F k).length
 .refine .inr ((hn (zE F k) ?_).2 _ ?_)
  .rw[e];exact Ah.mpr ⟨k,AB.mpr (by lia),rfl⟩
  .rw[AK,AG ht];exact B4 ht
 .refine .inl ?_;rw[AK,DG (by lia)];rfl
theorem MW (b:Bd) (q:Int×Int) (hl:b.length<=100):rq [bT b,zm q]=some (.bl (ya b q)):=by
 have hc:kd [some (.im (bT b)),some (.im (zm q))]=some (.lst (b.map λ p=>T.bl (yU q p))):=by
  unfold kd;refine xj zm _ b (by simp[bT]) (by lia) λ p _=>?_;unfold yU;by_cases h:q.1≥p.1 <;> simp[wK,zm,h]
 unfold rq Yl;generalize kd=cc at *;generalize bT b=bt at *;generalize zm q=pq at *;simp[hc,rf];rfl
theorem fh:∀ (l m:List Bd),List.zipWith (λ a b=>T.tup [a,b]) (l.map bT) (m.map bT)=(l.zip m).map λ p=>T.tup [bT p.1,bT p.2]
 | [],_=>by simp
 | _::_,[]=>by simp
 | b::l,c::m=>by simp[fh l m]
def tB (A B:Int) (l m:List Bd):List Str:=((l.map (yr A B)).zip (m.map (yr A B))).map λ p=>pJ p.1 p.2
theorem Xh {A B:Int}{l m:List Bd}(h:m.length=l.length):(tB A B l m).length=l.length:=by
 unfold tB;simp[h]
theorem Xi {A B:Int}{l m:List Bd}{w:Str}(h:w∈tB A B l m):w="alike"\/w="first":=by
 obtain⟨p,_,rfl⟩:=Ah.mp h;unfold pJ;split
 .exact .inl rfl
 .exact .inr rfl
theorem M_ {F G:zy}{l m:List Bd}(hG:uA [zh G]=some (rT l)) (hF:uA [zh F]=some (rT m)) (en:G.os.length=F.os.length) (hA:F.A<=G.A) (hB:F.B<=G.B) (ln:l.length<=8/\m.length<=8)
  (gl:∀ b∈l,b.length<=13/\y_ b) (gm:∀ b∈m,b.length<=13/\y_ b) (hz:∀ p∈l.zip m,zM p.2 p.1):nY [zh G,zh F]=some (.lst ((tB F.A F.B l m).map T.str)):=by
 have pG:=kQ G;have pF:=kQ F;have e2:∀ i j:Int,zq true (.int i) (.int j)=some (.bl (!decide (i=j))):=λ i j=>eq_int i j true;have k1:zf (zh G) (.int 0)=some (zm (G.A,G.B)):=rfl;have k2:zf (zh F) (.int 0)=some (zm (F.A,F.B)):=rfl;have mA:(if F.A<G.A then F.A else G.A)=F.A:=by split <;> lia
 have mB:(if F.B<G.B then F.B else G.B)=F.B:=by split <;> lia
 have c1:kg [some (.im (zh G)),some (.im (zh F)),some (.im (zm (F.A,F.B))),none,none]=some (rT (l.map (yr F.A F.B))):=by
  unfold kg;rw[show rT (l.map (yr F.A F.B))=.lst (l.map λ b=>bT (yr F.A F.B b)) by unfold rT;rw[AF];rfl];have hq:xi (rT l)=some (l.map bT):=rfl;refine xj bT _ l (by simp[hG,hq]) (by lia) λ b hb=>?_;have:=Zn b F.A F.B (by have:=(gl b hb).1;lia);generalize qj=ff at *;generalize bT b=bt at *;generalize zm (F.A,F.B)=pp at *;simp[this]
 have c2:lS [some (.im (zh G)),some (.im (zh F)),some (.im (zm (F.A,F.B))),some (.im (rT (l.map (yr F.A F.B)))),none]=some (rT (m.map (yr F.A F.B))):=by
  unfold lS;rw[show rT (m.map (yr F.A F.B))=.lst (m.map λ b=>bT (yr F.A F.B b)) by unfold rT;rw[AF];rfl];have hq:xi (rT m)=some (m.map bT):=rfl;refine xj bT _ m (by simp[hF,hq]) (by lia) λ b hb=>?_;have:=Zn b F.A F.B (by have:=(gm b hb).1;lia);generalize qj=ff at *;generalize bT b=bt at *;generalize zm (F.A,F.B)=pp at *;simp[this]
 have c3:lP [some (.im (zh G)),some (.im (zh F)),some (.im (zm (F.A,F.B))),some (.im (rT (l.map (yr F.A F.B)))),some (.im (rT (m.map (yr F.A F.B))))]=some (.lst ((tB F.A F.B l m).map T.str)):=by
  unfold lP tB;rw[AF];have hq:∀ x:List Bd,xi (rT x)=some (x.map bT):=λ _=>rfl;refine xj (λ p:Bd×Bd=>T.tup [bT p.1,bT p.2]) _ _ ?_ (by simp;lia) λ p hp=>?_
  .have:=fh (l.map (yr F.A F.B)) (m.map (yr F.A F.B));have h1:=hq (l.map (yr F.A F.B));have h2:=hq (m.map (yr F.A F.B));generalize (l.map (yr F.A F.B))=L at *;generalize (m.map (yr F.A F.B))=M at *;generalize rT L=lt at *;generalize rT M=mt at *;simp[h1,h2,this]
  .rw[List.zip_map] at hp;obtain⟨r,hr,rfl⟩:=Ah.mp hp;have r1:=gl _ (CS hr).1;have r2:=gm _ (CS hr).2;have z:=hz r hr;have:=MK (yr F.A F.B r.1) (yr F.A F.B r.2) (b6 r1.2) (b6 r2.2) (O_ z) (by
    have:=Co (λ q=>yU (F.A,F.B) q) r.1;have:=Co (λ q=>yU (F.A,F.B) q) r.2;unfold yr
    lia)
   dsimp only[Prod.map,Function.comp];generalize pj=ff at *;generalize pJ (yr F.A F.B r.1) (yr F.A F.B r.2)=w at *;generalize bT (yr F.A F.B r.1)=b1 at *;generalize bT (yr F.A F.B r.2)=b2 at *;simp[wK,this]
 have ep:∀ a b:Int,zm (a,b)=.tup [.int a,.int b]:=λ _ _=>rfl;rw[ep] at k1 k2 c1 c2 c3;unfold nY Yw;generalize kg=cc1 at *;generalize lS=cc2 at *;generalize lP=cc3 at *;generalize tq=f1 at *;generalize zh G=gt at *;generalize zh F=ft at *;generalize zq true=ee at *;simp only[zf] at k1 k2;simp[pG,pF,en,e2,k1,k2,mA,mB,c1,c2,c3]
theorem cY (b c:Bd) (hb:b.length<=100) (h:zM c b):∀ q∈c,rq [bT b,zm q]=some (.bl true):=λ q hq=>by
 rw[MW b q hb,h q (yO.mpr ⟨q,hq,Ax _,Ax _⟩)]
theorem aR {α:Type}(c:List α):wQ (c.map λ _=>T.bl true)=some (c.map λ _=>true)/\(c.map λ _=>true).all id=true:=⟨rf _ _,by simp⟩
abbrev xy (gt ft:T) (to he th pl k:Option L5.W):Ev:=[some (.im gt),some (.im ft),to,he,th,pl,k]
theorem Xc (gt ft to:T) (l m:List Bd) (p:Nat) (hp:p<l.length) (G3:p<m.length) (hl:(l.getD p []).length<=13) (hm:(m.getD p []).length<=13) (h:zM (m.getD p []) (l.getD p [])):
  ∃ J',yq [5] J'=xy gt ft (some (.im to)) (some (.im (rT l))) (some (.im (rT m))) none none/\turn (zt 5) nG (.int (0+(p:Int))) (xy gt ft (some (.im to)) (some (.im (rT l))) (some (.im (rT m))) none none)=some (.nx J'):=by
 have x1:=qI l p hp;have x2:=qI m p G3;have hh:=cY (l.getD p []) (m.getD p []) (by lia) h;have hc:lR (xy gt ft (some (.im to)) (some (.im (rT l))) (some (.im (rT m))) (some (.im (.int (p:Int)))) none)=some (.lst ((m.getD p []).map λ _=>T.bl true)):=by
  unfold lR;generalize rT l=lt at *;generalize rT m=mt at *;refine xj zm _ (m.getD p []) ?_ (by lia) λ q hq=>?_
  .simp only[zf] at x2;have hs:xi (bT (m.getD p []))=some ((m.getD p []).map zm):=rfl;generalize (m.getD p []).map zm=MM at *;generalize bT (m.getD p [])=mb at *;simp[x2,hs]
  .have:=hh q hq;simp only[zf] at x1;generalize rq=ff at *;generalize bT (l.getD p [])=lb at *;generalize zm q=pq at *;simp[wK,x1,this]
 obtain⟨a1,a2⟩:=aR (m.getD p []);refine⟨xy gt ft (some (.im to)) (some (.im (rT l))) (some (.im (rT m))) (some (.im (.int (p:Int)))) none,by simp,?_⟩;unfold turn nG;generalize lR=cc at *;generalize (m.getD p []).map (λ _=>T.bl true)=TT at *;generalize (m.getD p []).map (λ _=>true)=BB at *;simp[hc,a1,a2]
theorem Xb (gt ft to L M:T) (l m:List Bd) (k p:Nat) (hL:zf L (.int (k:Int))=some (rT l)) (hM:zf M (.int (k:Int))=some (rT m)) (hp:p<l.length) (G3:p<m.length) (hl:(l.getD p []).length<=13) (hm:(m.getD p []).length<=13) (h:zM (m.getD p []) (l.getD p [])):
  ∃ J',yq [5] J'=xy gt ft (some (.im to)) (some (.im L)) (some (.im M)) none (some (.im (.int (k:Int))))/\turn (zt 5) nD (.int (0+(p:Int))) (xy gt ft (some (.im to)) (some (.im L)) (some (.im M)) none (some (.im (.int (k:Int)))))=some (.nx J'):=by
 have x1:=qI l p hp;have x2:=qI m p G3;have hh:=cY (l.getD p []) (m.getD p []) (by lia) h;have hc:lO (xy gt ft (some (.im to)) (some (.im L)) (some (.im M)) (some (.im (.int (p:Int)))) (some (.im (.int (k:Int)))))=some (.lst ((m.getD p []).map λ _=>T.bl true)):=by
  unfold lO;generalize rT l=lt at *;generalize rT m=mt at *;simp only[zf] at hL hM x1 x2;refine xj zm _ (m.getD p []) ?_ (by lia) λ q hq=>?_
  .have hs:xi (bT (m.getD p []))=some ((m.getD p []).map zm):=rfl;generalize (m.getD p []).map zm=MM at *;generalize bT (m.getD p [])=mb at *;simp[hM,x2,hs]
  .have:=hh q hq;generalize rq=ff at *;generalize bT (l.getD p [])=lb at *;generalize zm q=pq at *;simp[wK,hL,x1,this]
 obtain⟨a1,a2⟩:=aR (m.getD p []);refine⟨xy gt ft (some (.im to)) (some (.im L)) (some (.im M)) (some (.im (.int (p:Int)))) (some (.im (.int (k:Int)))),by simp,?_⟩;unfold turn nD;generalize lO=cc at *;generalize (m.getD p []).map (λ _=>T.bl true)=TT at *;generalize (m.getD p []).map (λ _=>true)=BB at *;simp[hc,a1,a2]
theorem Xa (gt ft:T) (ts:List T) (L M:T) (l m:List Bd) (n k:Nat) (hn:n<=8) (Df:ts.length=n) (hL:zf L (.int (k:Int))=some (rT l)) (hM:zf M (.int (k:Int))=some (rT m)) (nl:l.length=n) (nm:m.length=n) (h:∀ p,(l.getD p []).length<=13/\(m.getD p []).length<=13/\zM (m.getD p []) (l.getD p [])):
  ∃ J',yq [5,6] J'=xy gt ft (some (.im (.lst ts))) (some (.im L)) (some (.im M)) none none/\turn (zt 6) nC (.int (0+(k:Int))) (xy gt ft (some (.im (.lst ts))) (some (.im L)) (some (.im M)) none none)=some (.nx J'):=by
 have Bk:=mZ (is:=[5]) (g:=zt 5) (b:=nD) (λ k:Nat=>T.int (0+(k:Int))) (λ _=>false) (.bl false) (xy gt ft (some (.im (.lst ts))) (some (.im L)) (some (.im M)) none (some (.im (.int (k:Int))))) (List.range n) (xy gt ft (some (.im (.lst ts))) (some (.im L)) (some (.im M)) none (some (.im (.int (k:Int))))) (by simp) λ p hp=>by
  have hp:=AB.mp hp;obtain⟨J',r1,r2⟩:=Xb gt ft (.lst ts) L M l m k p hL hM (by lia) (by lia) (h p).1 (h p).2.1 (h p).2.2;exact⟨J',r1,by rw[if_neg (by decide)];exact r2⟩
 have Ck:(List.range n).any (λ _=>false)=false:=by simp
 rw[Ck,if_neg (by decide)] at Bk;have hr:=ui n (by lia);have hlen:zN [.lst ts]=some (.int (n:Int)):=by simp[Df]
 refine⟨xy gt ft (some (.im (.lst ts))) (some (.im L)) (some (.im M)) none (some (.im (.int (k:Int)))),by simp,?_⟩;unfold turn nC;generalize nD=bb at *;generalize (List.range n).map (λ(k:Nat)=>T.int (0+(k:Int)))=RR at *;generalize T.lst ts=TS at *;generalize zN=ll at *;generalize xw=rr at *;simp[hlen,hr,Bk]
theorem YA (ws:List Str) (h:∀ w∈ws,w="alike"\/w="first") (hl:ws.length<=100) (gt ft:T):kc (xy gt ft (some (.im (.lst (ws.map T.str)))) none none none none)=some (.lst []):=by
 have:=sQ T.str (λ _=>none) (pick:=[none]) (it:=yk (zc 2)) (g:=zt 0) (c:=zP (zb (xq true) (zc 0) (xc (za (cS (.str "alike")) (za (cS (.str "first")) ze))))) (f:=zk 0) (J:=xy gt ft (some (.im (.lst (ws.map T.str)))) none none none none) ws (by simp) (by lia) (λ w hw=>by
  rcases h w hw with rfl | rfl <;> rfl)
 unfold kc;rw[this];have:∀ l:List Str,l.filterMap (λ _=>(none:Option T))=[]:=λ l=>by induction l with
  | nil=>rfl
  | cons _ _ ih=>simp[ih]
 rw[this]
theorem Good.len {F:zy}(g:Good F) {b:Bd}(h:b=[]\/Gd F.A F.B b):b.length<=13/\y_ b:=by
 rcases h with rfl | h
 .exact⟨by simp,.nil⟩
 .exact⟨by have:=h.rN g.a.1;have:=g.a;lia,h.oE⟩
theorem dJ {F G:zy}(gF:Good F) (gG:Good G) (L:xa F G):sg [zh G,zh F]=some (.bl true):=by
 obtain⟨mG,RG⟩:=gG.rd;obtain⟨mF,RF⟩:=gF.rd;have lG:∀ k,(zE G k).length=F.os.length:=λ k=>by rw[lp];exact L.len
 have lF:∀ k,(zE F k).length=F.os.length:=λ k=>lp F k;have n8:=gF.g.n8;have FG:∀ t,zM ((zE F mF).getD t []) ((zE G mG).getD t []):=λ t=>by
  have:=iw L (mF+mG) t;rw[RF.st,Nat.add_comm mF mG,RG.st] at this;exact this
 have inG:∀ {k},k<=mG->∀ b∈zE G k,b.length<=13/\y_ b:=λ{k} hk b hb=>by
  obtain⟨i,hi,e⟩:=DZ hb;have:=gG.len (RG.gd k hk i);rw[AK,AG hi,e] at this;exact this
 have inF:∀ {k},k<=mF->∀ b∈zE F k,b.length<=13/\y_ b:=λ{k} hk b hb=>by
  obtain⟨i,hi,e⟩:=DZ hb;have:=gF.len (RF.gd k hk i);rw[AK,AG hi,e] at this;exact this
 have EI:=M_ RG.bo RF.bo L.len L.a L.b (by rw[lG,lF];lia) (inG (Af _)) (inF (Af _)) (λ p hp=>by
  obtain⟨i,hi,e⟩:=DZ hp;have h:=FG i;have h1:i<(zE G mG).length:=by simp at hi;lia
  have h2:i<(zE F mF).length:=by simp at hi;lia
  rw[List.getElem_zip] at e;rw[AK,AG h2,AK,AG h1] at h;rw[<- e];exact h)
 have tl:(tB F.A F.B (zE G mG) (zE F mF)).length=F.os.length:=by rw[Xh (by rw[lG,lF]),lG]
 have hw:=YA (tB F.A F.B (zE G mG) (zE F mF)) (λ w h=>Xi h) (by lia) (zh G) (zh F);generalize tB F.A F.B (zE G mG) (zE F mF)=HB at *;have tlT:(HB.map T.str).length=F.os.length:=by rw[AA,tl]
 have h1:=mZ (is:=[5]) (g:=zt 5) (b:=nG) (λ k:Nat=>T.int (0+(k:Int))) (λ _=>false) (.bl false) (xy (zh G) (zh F) (some (.im (.lst (HB.map T.str)))) (some (.im (rT (zE G mG)))) (some (.im (rT (zE F mF)))) none none) (List.range F.os.length) (xy (zh G) (zh F) (some (.im (.lst (HB.map T.str)))) (some (.im (rT (zE G mG)))) (some (.im (rT (zE F mF)))) none none) (by simp) λ p hp=>by
  have hp:=AB.mp hp;obtain⟨J',r1,r2⟩:=Xc (zh G) (zh F) (.lst (HB.map T.str)) (zE G mG) (zE F mF) p (by rw[lG];exact hp) (by rw[lF];exact hp) (gG.len (RG.gd _ (Af _) p)).1 (gF.len (RF.gd _ (Af _) p)).1 (FG p);exact⟨J',r1,by rw[if_neg (by decide)];exact r2⟩
 have Ck:∀ n,(List.range n).any (λ _=>false)=false:=λ n=>by simp
 rw[Ck,if_neg (by decide)] at h1;obtain⟨n,hn,n1,n2⟩:∃ n:Nat,(if ((mF+1:Nat):Int)<((mG+1:Nat):Int) then ((mF+1:Nat):Int) else ((mG+1:Nat):Int))=(n:Int)/\n<=mG+1/\n<=mF+1:=by
  split
  .exact⟨mF+1,rfl,by lia,by lia⟩
  .exact⟨mG+1,rfl,by lia,by lia⟩
 have KU:∀ (H:zy) (m k:Nat),k<m+1->zf (.lst (((List.range (m+1)).map (zE H)).map rT)) (.int (k:Int))=some (rT (zE H k)):=λ H m k hk=>by
  show L2.zB (((List.range (m+1)).map (zE H)).map rT) (k:Int)=_;refine xG ?_;rw[Ay,Ay,D5 hk];rfl
 have h2:=mZ (is:=[5,6]) (g:=zt 6) (b:=nC) (λ k:Nat=>T.int (0+(k:Int))) (λ _=>false) (.bl false) (xy (zh G) (zh F) (some (.im (.lst (HB.map T.str)))) (some (.im (.lst (((List.range (mG+1)).map (zE G)).map rT)))) (some (.im (.lst (((List.range (mF+1)).map (zE F)).map rT)))) none none) (List.range n) (xy (zh G) (zh F) (some (.im (.lst (HB.map T.str)))) (some (.im (.lst (((List.range (mG+1)).map (zE G)).map rT)))) (some (.im (.lst (((List.range (mF+1)).map (zE F)).map rT)))) none none) (by simp) λ k hk=>by
  have hk:=AB.mp hk;obtain⟨J',r1,r2⟩:=Xa (zh G) (zh F) (HB.map T.str) (.lst (((List.range (mG+1)).map (zE G)).map rT)) (.lst (((List.range (mF+1)).map (zE F)).map rT)) (zE G k) (zE F k) F.os.length k n8 tlT (KU G mG k (by lia)) (KU F mF k (by lia)) (lG k) (lF k) λ p=>⟨(gG.len (RG.gd _ (by lia) p)).1,(gF.len (RF.gd _ (by lia) p)).1,iw L k p⟩;exact⟨J',r1,by rw[if_neg (by decide)];exact r2⟩
 rw[Ck,if_neg (by decide)] at h2;have r1:=ui F.os.length (by lia);have m2:=RF.m2;have r2:=ui n (by lia);have e2:∀ i j:Int,zq true (.int i) (.int j)=some (.bl (!decide (i=j))):=λ i j=>eq_int i j true;have e3:zq true (.lst []) (.lst [])=some (.bl false):=rfl;have k1:zf (zh F) (.int 1)=some (.tup (F.os.map kt)):=rfl;have g1:zN [.tup (F.os.map kt)]=some (.int (F.os.length:Int)):=by simp
 have g2:zN [.lst (HB.map T.str)]=some (.int (F.os.length:Int)):=by simp[tl]
 have g3:zN [.lst (((List.range (mG+1)).map (zE G)).map rT)]=some (.int ((mG+1:Nat):Int)):=by simp
 have g4:zN [.lst (((List.range (mF+1)).map (zE F)).map rT)]=some (.int ((mF+1:Nat):Int)):=by simp
 have b1:=RG.bo;have b2:=RF.bo;have o1:=RG.ro;have o2:=RF.ro;clear RG RF FG inG inF KU;generalize ((mF+1:Nat):Int)=iF at *;generalize ((mG+1:Nat):Int)=iG at *;generalize T.lst (((List.range (mG+1)).map (zE G)).map rT)=ROG at *;generalize T.lst (((List.range (mF+1)).map (zE F)).map rT)=ROF at *;generalize rT (zE G mG)=BG at *;generalize rT (zE F mF)=BF at *;generalize T.tup (F.os.map kt)=OO at *;generalize T.lst (HB.map T.str)=TO at *;generalize (List.range F.os.length).map (λ(k:Nat)=>T.int (0+(k:Int)))=R1 at *;generalize (List.range n).map (λ(k:Nat)=>T.int (0+(k:Int)))=R2 at *;unfold sg Yk;generalize nY=f1 at *;generalize uA=f2 at *;generalize tp=f3 at *;generalize nG=bb1 at *;generalize nC=bb3 at *;generalize kc=cc1 at *;generalize zh F=ft at *;generalize zh G=gt at *;generalize zN=ll at *;generalize xw=rr at *;generalize zq true=ee at *;simp only[zf] at k1;unfold xy at *;simp[EI,hw,e3,k1,g1,g2,e2,b1,b2,r1,h1,o1,o2,g3,g4,hn,r2,h2]
noncomputable def sF:List Int->Wy
 | [f,t,a,b]=>⟨f.toNat,t.toNat,a,b⟩
 | _=>⟨0,0,0,0⟩
theorem fG (w:Wy):sF (yv w)=w:=by
 unfold sF yv;simp
theorem fP (ows:List Wy) (hn:ows.Nodup):∃ ws:List Wy,ows.Perm ws/\(ws.map yv).Pairwise (λ a b=>HT.lexLt b a=false/\a≠b):=by
 have hp:=L4.uh (ows.map yv);refine⟨(L4.yT (ows.map yv)).map sF,?_,?_⟩
 .have:=hp.map sF;rw[AF,show (sF ∘ yv)=id from funext fG,List.map_id] at this;exact this.symm
 .have e:((L4.yT (ows.map yv)).map sF).map yv=L4.yT (ows.map yv):=by
   rw[AF];have:∀ r∈L4.yT (ows.map yv),(yv ∘ sF) r=r:=λ r hr=>by
    obtain⟨w,_,rfl⟩:=Ah.mp (hp.mem_iff.mp hr);show yv (sF (yv w))=_;rw[fG]
   rw[CB this,List.map_id']
  rw[e];refine (L4.pX _).and (hp.nodup_iff.mpr ?_);exact Bx.mpr (hn.imp λ h z=>h (fj z))
theorem XJ (Gx:List Sl) (hn:Gx.Pairwise λ a b=>a.p≠b.p):∃ ss:List Sl,Gx.Perm ss/\ss.Pairwise λ a b=>a.p<b.p:=by
 have hp:=List.mergeSort_perm Gx λ a b=>decide (a.p<=b.p);have hs:=List.pairwise_mergeSort (le:=λ a b:Sl=>decide (a.p<=b.p)) (λ a b c h1 h2=>by simp at *;lia) (λ a b=>by simp;lia) Gx;refine⟨_,hp.symm,?_⟩;have:=(hp.symm.pairwise_iff (λ h z=>h z.symm)).mp hn;exact (hs.and this).imp λ{a b} h=>by
  have h1:a.p<=b.p:=by simpa using h.1
  have:=h.2
  lia
section
variable {os:List Bool}{ws:List Wy}{ss:List Sl}
theorem Gf.nd (G:Gf os ws ss):ws.Nodup:=(Bx.mp G.wp).imp λ h z=>h.2 (by rw[z])
theorem pS (h:os.length<=8):wg [.tup (os.map kt)]=some (.tup (os.map kt))/\wg [.lst (os.map kt)]=some (.tup (os.map kt)):=by
 have:(os.map kt).length<=16777216:=by simp;lia
 constructor <;> simp[this]
theorem vU (A B:Int):zf (zh ⟨A,B,os,ws,ss⟩) (.int 0)=some (zm (A,B))/\zf (zh ⟨A,B,os,ws,ss⟩) (.int 1)=some (.tup (os.map kt))/\zf (zh ⟨A,B,os,ws,ss⟩) (.int 2)=some (.tup (ws.map zu))/\zf (zh ⟨A,B,os,ws,ss⟩) (.int 3)=some (.tup (ss.map zw)):=⟨rfl,rfl,rfl,rfl⟩
theorem Gf.YE (G:Gf os ws ss) (A0 B0:Int) {A B:Int}(hA:0<=A/\A<=12) (hB:0<=B/\B<=12):nQ [zh ⟨A0,B0,os,ws,ss⟩,zm (A,B)]=some (zh ⟨A,B,os,ws,ss⟩):=by
 have hm:=o7 G hA hB (.refl ws) (.refl ss) _ (pS G.n8).1;obtain⟨_,k1,k2,k3⟩:=vU (os:=os) (ws:=ws) (ss:=ss) A0 B0;unfold nQ ZZ;generalize vK=f1 at *;generalize zh ⟨A0,B0,os,ws,ss⟩=fl at *;generalize zh ⟨A,B,os,ws,ss⟩=gl at *;generalize os.map kt=O at *;generalize ws.map zu=WL at *;generalize ss.map zw=SL at *;generalize zm (A,B)=pp at *;simp only[zf] at k1 k2 k3;simp[k1,k2,k3,hm]
theorem Gf.YB (G:Gf os ws ss) {A B:Int}(hA:0<=A/\A<=12) (hB:0<=B/\B<=12) (v:Wy) (hv:(v.f<os.length/\v.t<os.length)/\(-12<=v.a/\v.a<=12)/\-12<=v.b/\v.b<=12) (h24:ws.length<=23) (AW:v∉ws):
  ∃ Ff,nM [zh ⟨A,B,os,ws,ss⟩,zu v]=some (zh ⟨A,B,os,Ff,ss⟩)/\Gf os Ff ss/\∀ w,w∈Ff↔w∈ws\/w=v:=by
 obtain⟨Ff,p1,p2⟩:=fP (ws++[v]) (CZ.mpr ⟨G.nd,by simp,λ a ha b hb=>by
  cases AZ.mp hb;exact λ z=>AW (z▸ha)⟩)
 have hm:∀ w,w∈Ff↔w∈ws\/w=v:=λ w=>by rw[<- p1.mem_iff];simp
 have G':Gf os Ff ss:=⟨G.n1,G.n8,λ w hw=>by
  rcases (hm w).mp hw with h | rfl
  .exact G.wr w h
  .exact hv,by have:=p1.length_eq;simp at this;lia,p2,λ x hx=>by
  obtain⟨w,h1,h2⟩:=G.way x hx;exact⟨w,(hm w).mpr (.inl h1),h2⟩,G.sr,G.sp,G.sl⟩
 have BA:=o7 G' hA hB p1 (.refl ss) _ (pS G.n8).1;obtain⟨k0,k1,k2,k3⟩:=vU (os:=os) (ws:=ws) (ss:=ss) A B;have l2:(ws.map zu).length+1<=16777216:=by simp;lia
 refine⟨Ff,?_,G',hm⟩;rw[Bp] at BA;simp only[Au,A_] at BA;unfold nM ZV;generalize vK=f1 at *;generalize zh ⟨A,B,os,ws,ss⟩=fl at *;generalize zh ⟨A,B,os,Ff,ss⟩=gl at *;generalize os.map kt=O at *;generalize ws.map zu=WL at *;generalize ss.map zw=SL at *;generalize zm (A,B)=pp at *;generalize zu v=vv at *;simp only[zf] at k0 k1 k2 k3;simp[k0,k1,k2,k3,l2,BA]
theorem Gf.YD (G:Gf os ws ss) {A B:Int}(hA:0<=A/\A<=12) (hB:0<=B/\B<=12) {i:Nat}{w:Wy}(hi:ws[i]?=some w) (a b:Int) (ha:-12<=a/\a<=12) (hb:-12<=b/\b<=12) (AW:(⟨w.f,w.t,a,b⟩:Wy)∉ws):
  ∃ Ff,nP [zh ⟨A,B,os,ws,ss⟩,.int (i:Int),.int a,.int b]=some (zh ⟨A,B,os,Ff,ss⟩)/\Gf os Ff ss/\∀ x,x∈Ff↔(x∈ws/\x≠w)\/x=⟨w.f,w.t,a,b⟩:=by
 obtain⟨Bv,hie⟩:=AL.mp hi;have DP:w∈ws:=hie▸B4 Bv;have nd:=G.nd;have e1:ws=ws.take i++w::ws.drop (i+1):=by
  have h:=(Dy i ws).symm;rw[D9 Bv,hie] at h;exact h
 have e2:ws.set i ⟨w.f,w.t,a,b⟩=ws.take i++(⟨w.f,w.t,a,b⟩:Wy)::ws.drop (i+1):=by
  rw[List.set_eq_take_append_cons_drop,if_pos Bv]
 generalize hv:(⟨w.f,w.t,a,b⟩:Wy)=v at *;have vr:=G.wr w DP;have hvr:(v.f<os.length/\v.t<os.length)/\(-12<=v.a/\v.a<=12)/\-12<=v.b/\v.b<=12:=by
  subst hv;exact⟨vr.1,ha,hb⟩
 generalize hp:ws.take i=p at *;generalize hq:ws.drop (i+1)=q at *;have nd':=nd;rw[e1] at nd';obtain⟨n1,n2,n3⟩:=CZ.mp nd';obtain⟨n4,n5⟩:=A7.mp n2;have Ik:∀ x,x∈ws↔x∈p\/x=w\/x∈q:=λ x=>by
  conv=>lhs;rw[e1]
  simp
 have hnw:v∉p/\v∉q:=⟨λ h=>AW ((Ik v).mpr (.inl h)),λ h=>AW ((Ik v).mpr (.inr (.inr h)))⟩
 obtain⟨Ff,p1,p2⟩:=fP (p++v::q) (CZ.mpr ⟨n1,A7.mpr ⟨hnw.2,n5⟩,λ x hx y hy=>by
  rcases Ai.mp hy with rfl | hy
  .exact λ z=>hnw.1 (z▸hx)
  .exact n3 x hx y (Av _ hy)⟩)
 have hm:∀ x,x∈Ff↔(x∈ws/\x≠w)\/x=v:=λ x=>by
  rw[<- p1.mem_iff,Ik];simp only[A2,Ai];constructor
  .rintro (h | h | h)
   .exact .inl ⟨.inl h,λ z=>n3 x h w Am z⟩
   .exact .inr h
   .exact .inl ⟨.inr (.inr h),λ z=>n4 (z▸h)⟩
  .rintro (⟨h | h | h,h'⟩ | h)
   .exact .inl h
   .exact absurd h h'
   .exact .inr (.inr h)
   .exact .inr (.inl h)
 have hlen:Ff.length=ws.length:=by
  have:=p1.length_eq;rw[<- this,<- e2];simp
 have wl:=G.wl;have G':Gf os Ff ss:=⟨G.n1,G.n8,λ x hx=>by
  rcases (hm x).mp hx with h | rfl
  .exact G.wr x h.1
  .exact hvr,by lia,p2,λ x hx=>by
  obtain⟨y,h1,h2⟩:=G.way x hx;by_cases z:y=w
  .exact⟨v,(hm v).mpr (.inr rfl),by rw[<- h2,z,<- hv]⟩
  .exact⟨y,(hm y).mpr (.inl ⟨h1,z⟩),h2⟩,G.sr,G.sp,G.sl⟩
 have BA:=o7 G' hA hB p1 (.refl ss) _ (pS G.n8).1;rw[<- e2] at BA;obtain⟨k0,k1,k2,k3⟩:=vU (os:=os) (ws:=ws) (ss:=ss) A B;have B9:L2.zB (ws.map zu) (i:Int)=some (zu w):=xG (by rw[Ay,hi];rfl);have CM:xF (ws.map zu).length (i:Int)=some i:=by
  unfold xF;rw[if_pos (by lia),if_pos (by simp;lia)];simp
 have BS:(ws.map zu).set i (.tup [.int w.f,.int w.t,.int a,.int b])=(ws.set i v).map zu:=by
  rw[List.map_set,<- hv];rfl
 have hw:nW [zh ⟨A,B,os,ws,ss⟩,.int (i:Int)]=some (.bl true):=by
  have h1:=Zh (i:Int) 0 ((ws.length:Int)-1);have e:(decide ((0:Int)<=i)&&decide ((i:Int)<=(ws.length:Int)-1))=true:=by simp;lia
  rw[e] at h1;have hl:zN [.tup (ws.map zu)]=some (.int (ws.length:Int)):=by simp
  unfold nW Yr;generalize sj=ff at *;generalize zh ⟨A,B,os,ws,ss⟩=fl at *;generalize T.tup (ws.map zu)=WW at *;generalize zN=ll at *;simp only[zf] at k2;simp[k2,hl,h1]
 refine⟨Ff,?_,G',hm⟩;unfold nP ZY;have x0:zf (zu w) (.int 0)=some (.int w.f):=rfl;have x1:zf (zu w) (.int 1)=some (.int w.t):=rfl;generalize vK=f1 at *;generalize nW=f2 at *;generalize zh ⟨A,B,os,ws,ss⟩=fl at *;generalize zh ⟨A,B,os,Ff,ss⟩=gl at *;generalize os.map kt=O at *;generalize (ws.set i v).map zu=WV at *;generalize ws.map zu=WL at *;generalize ss.map zw=SL at *;generalize zm (A,B)=pp at *;generalize zu w=tw at *;simp only[zf] at k0 k1 k2 k3 x0 x1;simp[hw,k0,k1,k2,k3,B9,x0,x1,CM,BS,BA]
theorem ij {α:Type}(enc:α->T) {pick:List (Option Nat)}{it:Ev->Option (List T)}{g:T->Ev->Option Ev}{c:Ev->Option Bool}{f:Ev->Option T}{J:Ev}(test:α->Bool) (xs:List α) (hi:it J=some (xs.map enc)) (hl:xs.length<=100)
  (hh:∀ x∈xs,wK pick g c f J (enc x)=some (if test x=true then some (enc x) else none)):yg pick it g c f J=some (.lst ((xs.filter test).map enc)):=by
 rw[sQ enc (λ x=>if test x=true then some (enc x) else none) xs hi (by lia) hh,qS]
theorem Gf.YC (G:Gf os ws ss) {A B:Int}(hA:0<=A/\A<=12) (hB:0<=B/\B<=12) {q:Nat}(hq:q<os.length):nN [zh ⟨A,B,os,ws,ss⟩,.int (q:Int),.str "keeper"]=some (zh ⟨A,B,os.set q true,ws,ss⟩)/\Gf (os.set q true) ws ss:=by
 have n8:=G.n8;have sl:=G.sl;have own:∀ s∈ss,(os.set q true).getD s.p false=true:=λ s hs=>by
  rw[bh];split
  .rfl
  .exact (G.sr s hs).2.1
 have G':Gf (os.set q true) ws ss:=⟨by simp;exact G.n1,by simp;exact G.n8,by simp;exact G.wr,G.wl,G.wp,by simp;exact G.way,λ s hs=>⟨by simp;exact (G.sr s hs).1,own s hs,(G.sr s hs).2.2⟩,G.sp,G.sl⟩
 refine⟨?_,G'⟩;have BA:=o7 G' hA hB (.refl ws) (.refl ss) _ (pS G'.n8).2;obtain⟨k0,k1,k2,k3⟩:=vU (os:=os) (ws:=ws) (ss:=ss) A B;have cp:=gD ⟨A,B,os,ws,ss⟩ q hq;have io:pB [.str "keeper"]=some (.bl true):=rfl;have CM:xF (os.map kt).length (q:Int)=some q:=by
  unfold xF;rw[if_pos (by lia),if_pos (by simp;lia)];simp
 have BS:(os.map kt).set q (.str "keeper")=(os.set q true).map kt:=by
  rw[List.map_set];rfl
 have hc:lX [some (.im (zh ⟨A,B,os,ws,ss⟩)),some (.im (.int (q:Int))),some (.im (.str "keeper")),some (.im (.lst ((os.set q true).map kt)))]=some (.lst (ss.map zw)):=by
  unfold lX;have hf:ss.filter (λ _=>true)=ss:=by simp
  conv=>rhs;rw[<- hf]
  refine ij zw (λ _=>true) ss ?_ (by lia) λ s hs=>?_
  .generalize zh ⟨A,B,os,ws,ss⟩=fl at *;generalize ss.map zw=SL at *;simp only[zf] at k3;simp[k3]
  .have B9:L2.zB ((os.set q true).map kt) (s.p:Int)=some (kt true):=by
    refine xG ?_;have h1:=(G'.sr s hs).1;have h2:=own s hs;rw[AK,AG h1] at h2;rw[Ay,AG h1];show some (kt _)=_;rw[show (os.set q true)[s.p]=true from h2]
   have x0:zf (zw s) (.int 0)=some (.int (s.p:Int)):=rfl;have ek:=ik true;generalize (os.set q true).map kt=OO at *;generalize zw s=ts at *;generalize zq false=ee at *;generalize kt true=k at *;simp only[zf] at x0;simp[x0,B9,ek]
 unfold nN ZX;generalize lX=cc at *;generalize vK=f1 at *;generalize qp=f2 at *;generalize pB=f3 at *;generalize zh ⟨A,B,os,ws,ss⟩=fl at *;generalize zh ⟨A,B,os.set q true,ws,ss⟩=gl at *;generalize (os.set q true).map kt=O' at *;generalize os.map kt=O at *;generalize ws.map zu=WL at *;generalize ss.map zw=SL at *;generalize zm (A,B)=pp at *;simp only[zf] at k0 k1 k2 k3;simp[cp,io,k0,k1,k2,k3,CM,BS,hc,BA]
theorem pV (A B:Int) (os:List Bool) (ws:List Wy) (h:ss.Pairwise λ a b=>a.p<b.p) (p:Nat) (s:Sl):(zy.mk A B os ws ss).E4 p=some s↔s∈ss/\s.p=p:=by
 unfold zy.E4;dsimp only
 induction h with
 | nil=>simp
 | @cons a l h1 _ ih=>
  rw[Cq];by_cases z:a.p=p
  .rw[K4 z];dsimp only;constructor
   .intro e;cases e;exact⟨Am,z⟩
   .rintro⟨h2,h3⟩;rcases Ai.mp h2 with rfl | h2
    .rfl
    .have:=h1 s h2;lia
  .rw[KZ z];dsimp only;rw[ih];constructor
   .exact λ h=>⟨Av _ h.1,h.2⟩
   .rintro⟨h2,h3⟩;rcases Ai.mp h2 with rfl | h2
    .exact absurd h3 z
    .exact⟨h2,h3⟩
theorem p8:∀ {n:Nat}{ss:List Sl},(∀ s∈ss,s.p<n)->ss.Pairwise (λ a b=>a.p<b.p)->ss.length<=n:=λ{n ss} h hp=>by
 have h1:(ss.map (·.p)).Nodup:=Bx.mpr (hp.imp λ h=>by lia);have h2:ss.map (·.p) ⊆ List.range n:=λ x hx=>by
  obtain⟨s,hs,rfl⟩:=Ah.mp hx;exact AB.mpr (h s hs)
 have h3:∀ (l m:List Nat),l.Nodup->l ⊆ m->l.length<=m.length:=λ l=>by
  induction l with
  | nil=>intro m _ _;simp
  | cons a l ih=>
   intro m hn hs;obtain⟨n1,n2⟩:=A7.mp hn;have:=ih (m.erase a) n2 λ x hx=>(DC (λ z:x=a=>n1 (z▸hx))).mpr (hs (Av _ hx));rw[DB (hs Am)] at this;have:=C1 (hs Am);simp;lia
 have:=h3 _ _ h1 h2;simpa using this
theorem Gf.fm (G:Gf os ws ss) {A B:Int}(hA:0<=A/\A<=12) (hB:0<=B/\B<=12) (s':Sl) (hs:s'.p<os.length/\os.getD s'.p false=true/\(1<=s'.gv/\s'.gv<=12)/\0<=s'.gt/\s'.gt<=12):
  ∃ Gi,qg [zh ⟨A,B,os,ws,ss⟩,zw s']=some (zh ⟨A,B,os,ws,Gi⟩)/\Gf os ws Gi/\∀ p,(zy.mk A B os ws Gi).E4 p=if p=s'.p then some s' else (zy.mk A B os ws ss).E4 p:=by
 have sl:=G.sl;have n8:=G.n8;obtain⟨Gi,p1,p2⟩:=XJ (ss.filter (λ s=>decide (s.p≠s'.p))++[s']) (DA.mpr ⟨(G.sp.imp λ h=>by lia).filter _,by simp,λ a ha b hb=>by
  cases AZ.mp hb;have:=(AN.mp ha).2;simpa using this⟩)
 have hm:∀ s,s∈Gi↔(s∈ss/\s.p≠s'.p)\/s=s':=λ s=>by
  rw[<- p1.mem_iff];simp
 have sr':∀ s∈Gi,s.p<os.length/\os.getD s.p false=true/\(1<=s.gv/\s.gv<=12)/\0<=s.gt/\s.gt<=12:=λ s h=>by
  rcases (hm s).mp h with h | rfl
  .exact G.sr s h.1
  .exact hs
 have G':Gf os ws Gi:=⟨G.n1,G.n8,G.wr,G.wl,G.wp,G.way,sr',p2,by have:=p8 (λ s h=>(sr' s h).1) p2;lia⟩
 have BA:=o7 G' hA hB (.refl ws) p1 _ (pS G.n8).1;obtain⟨k0,k1,k2,k3⟩:=vU (os:=os) (ws:=ws) (ss:=ss) A B;refine⟨Gi,?_,G',λ p=>Option.ext λ s=>?_⟩
 .have ir:qm [zw s']=some (.bl true):=Zm (r:=wG s') rfl;have hc:lW [some (.im (zh ⟨A,B,os,ws,ss⟩)),some (.im (zw s')),none]=some (.lst ((ss.filter (λ s=>decide (s.p≠s'.p))).map zw)):=by
   unfold lW;refine ij zw (λ s=>decide (s.p≠s'.p)) ss ?_ (by lia) λ s h=>?_
   .generalize zh ⟨A,B,os,ws,ss⟩=fl at *;generalize ss.map zw=SL at *;simp only[zf] at k3;simp[k3]
   .have x0:zf (zw s) (.int 0)=some (.int (s.p:Int)):=rfl;have x1:zf (zw s') (.int 0)=some (.int (s'.p:Int)):=rfl;have e:=eq_int (s.p:Int) (s'.p:Int) true;generalize zw s=ts at *;generalize zw s'=ts' at *;generalize zq true=ee at *;simp only[zf] at x0 x1;by_cases z:s.p=s'.p
    .have z':(s.p:Int)=(s'.p:Int):=by lia
     simp[x0,x1,e,z,z'];rw[z'] at e x0;simp[x0,x1,e]
    .have z':¬ (s.p:Int)=(s'.p:Int):=by lia
     simp[x0,x1,e,z,z']
  have l2:((ss.filter (λ s=>decide (s.p≠s'.p))).map zw).length+1<=16777216:=by
   have:=Co (λ s=>decide (s.p≠s'.p)) ss;rw[AA]
   lia
  rw[Bp] at BA;simp only[Au,A_] at BA;unfold qg ZW;generalize lW=cc at *;generalize vK=f1 at *;generalize qm=f2 at *;generalize (ss.filter (λ s=>decide (s.p≠s'.p))).map zw=S1 at *;generalize zh ⟨A,B,os,ws,ss⟩=fl at *;generalize zh ⟨A,B,os,ws,Gi⟩=gl at *;generalize os.map kt=O at *;generalize ws.map zu=WL at *;generalize ss.map zw=SL at *;generalize zm (A,B)=pp at *;generalize zw s'=ts' at *;simp only[zf] at k0 k1 k2 k3;simp[ir,hc,k0,k1,k2,l2,BA]
 .rw[pV A B os ws p2 p s,hm];by_cases z:p=s'.p
  .rw[if_pos z];constructor
   .rintro⟨⟨_,h⟩ | h,h2⟩
    .exact absurd (h2.trans z) h
    .rw[h]
   .intro h;cases h;exact⟨.inr rfl,z.symm⟩
  .rw[if_neg z,pV A B os ws G.sp p s];constructor
   .rintro⟨⟨h1,_⟩ | h,h2⟩
    .exact⟨h1,h2⟩
    .rw[h] at h2;exact absurd h2.symm z
   .rintro⟨h1,h2⟩;exact⟨.inl ⟨h1,by rw[h2];exact z⟩,h2⟩
end
theorem il (a b:Bool):zq false (kt a) (kt b)=some (.bl (a == b)):=by
 have h:(("taker":Str) == ("keeper":Str))=false:=by decide
 have h':(("keeper":Str) == ("taker":Str))=false:=by decide
 cases a <;> cases b
 .show zq false (.str "taker") (.str "taker")=_;simp[zq,dep,eqT]
 .show zq false (.str "taker") (.str "keeper")=_;simp[zq,dep,eqT,h]
 .show zq false (.str "keeper") (.str "taker")=_;simp[zq,dep,eqT,h']
 .show zq false (.str "keeper") (.str "keeper")=_;simp[zq,dep,eqT]
theorem eq_nil {α:Type}(enc:α->T) (h:∀ x,dep (enc x)<=10) (xs:List α):zq false (.lst (xs.map enc)) (.lst [])=some (.bl xs.isEmpty):=by
 have h1:dep (.lst (xs.map enc))<=60:=by
  have:=qU enc 10 h xs;simp only[dep]
  lia
 have h2:dep (.lst [])<=60:=by simp[dep,yW]
 unfold zq;rw[if_pos ⟨h1,h2⟩];cases xs with
 | nil=>simp[eqT,yV]
 | cons a l=>simp[eqT,yV]
theorem bD (w v:Wy):eqT (zu w) (zu v)=true↔w=v:=by
 obtain⟨f,t,a,b⟩:=w;obtain⟨f',t',a',b'⟩:=v;simp[zu,eqT,yV]
 lia
theorem cU (v:Wy) (ws:List Wy):∃ z:Bool,xq false (zu v) (.tup (ws.map zu))=some (.bl z)/\(z=true↔v∈ws):=by
 have d0:∀ w:Wy,dep (zu w)<=60:=λ w=>by simp[zu,dep,yW]
 have d1:=qU zu 60 d0 ws;unfold xq;refine⟨(ws.map zu).any λ x=>eqT x (zu v),?_,?_⟩
 .show (if dep (zu v)<=60/\yW (ws.map zu)<=60 then _ else _)=_;rw[if_pos ⟨d0 v,d1⟩];rfl
 rw[A9];constructor
 .rintro⟨x,hx,h⟩;obtain⟨k,hk,rfl⟩:=Ah.mp hx;rw[bD] at h;exact h▸hk
 .intro h;exact⟨_,Ah.mpr ⟨v,h,rfl⟩,(bD v v).mpr rfl⟩
noncomputable def y7 (os:List Bool) (o:Bool):List Nat:=(List.range os.length).filter λ k=>os.getD k false == o
noncomputable def xN (pl:List Nat):T:=.lst (pl.map λ k:Nat=>T.int (k:Int))
theorem j9 {os:List Bool}{o:Bool}{p:Nat}(h:p∈y7 os o):p<os.length/\os.getD p false=o:=by
 obtain⟨h1,h2⟩:=AN.mp h;exact⟨AB.mp h1,by simpa using h2⟩
theorem jC (pl:List Nat):zq false (xN pl) (.lst [])=some (.bl pl.isEmpty):=eq_nil (λ k:Nat=>T.int (k:Int)) (λ _=>by simp[dep]) pl
theorem jD (pl:List Nat):zN [xN pl]=some (.int (pl.length:Int)):=by simp[xN]
theorem jB {pl:List Nat}(h:pl≠[]) (x:Int):∃ p∈pl,zf (xN pl) (.int (x%(pl.length:Int)))=some (.int (p:Int)):=by
 have hl:0<pl.length:=Dc.mpr h;have:=Bo x (b:=(pl.length:Int)) (by lia);have:=BK x (b:=(pl.length:Int)) (by lia);obtain⟨k,hk,hkl⟩:∃ k:Nat,x%(pl.length:Int)=(k:Int)/\k<pl.length:=⟨(x%(pl.length:Int)).toNat,by lia,by lia⟩
 refine⟨pl[k],B4 hkl,?_⟩;rw[hk];show L2.zB (pl.map λ k:Nat=>T.int (k:Int)) (k:Int)=_;exact xG (by simp[hkl])
theorem jE {os:List Bool}(o:Bool) {pick:List (Option Nat)}{it:Ev->Option (List T)}{c:Ev->Option Bool}{f:Ev->Option T}{J:Ev}(n8:os.length<=8) (hi:it J=some ((List.range os.length).map λ k:Nat=>T.int (0+(k:Int))))
  (hh:∀ k<os.length,wK pick (zt 0) c f J (T.int (0+(k:Int)))=some (if (os.getD k false == o)=true then some (T.int (k:Int)) else none)):yg pick it (zt 0) c f J=some (xN (y7 os o)):=by
 rw[sQ (λ k:Nat=>T.int (0+(k:Int))) (λ k=>if (os.getD k false == o)=true then some (T.int (k:Int)) else none) (List.range os.length) hi (by simp;lia) (λ k hk=>hh k (AB.mp hk)),qS];rfl
theorem jK {os:List Bool}{k:Nat}(h:k<os.length):L2.zB (os.map kt) (k:Int)=some (kt (os.getD k false)):=by
 refine xG ?_;rw[Ay,AG h,AK,AG h];rfl
section
variable {os:List Bool}{ws:List Wy}{ss:List Sl}
theorem oQ (A B:Int):zN [.tup (os.map kt)]=some (.int (os.length:Int))/\zN [.tup (ws.map zu)]=some (.int (ws.length:Int)):=by
 constructor <;> simp
theorem Mq (n8:os.length<=8) (A B:Int) (o:Bool) (xs:T):rX [some (.im (zh ⟨A,B,os,ws,ss⟩)),some (.im xs),some (.im (kt o)),none,none]=some (xN (y7 os o)):=by
 obtain⟨k0,k1,k2,k3⟩:=vU (os:=os) (ws:=ws) (ss:=ss) A B;have g1:=(oQ (os:=os) (ws:=ws) A B).1;have hr:=ui os.length (by lia);unfold rX;refine jE o n8 ?_ λ k hk=>?_
 .generalize (List.range os.length).map (λ k:Nat=>T.int (0+(k:Int)))=RR at *;generalize zh ⟨A,B,os,ws,ss⟩=fl at *;generalize os.map kt=O at *;generalize zN=ll at *;generalize xw=rr at *;simp only[zf] at k1;simp[k1,g1,hr]
 .have ha:=jK hk;have he:=il (os.getD k false) o;generalize (os.getD k false == o)=z at *;generalize zh ⟨A,B,os,ws,ss⟩=fl at *;generalize os.map kt=O at *;generalize kt (os.getD k false)=kk at *;generalize kt o=ko at *;generalize zq false=ee at *;simp only[zf] at k1;cases z <;> simp[k1,ha,he]
theorem Mr (n8:os.length<=8) (A B:Int) (xs:T):qY [some (.im (zh ⟨A,B,os,ws,ss⟩)),some (.im xs),none,none,none,none]=some (xN (y7 os true)):=by
 obtain⟨k0,k1,k2,k3⟩:=vU (os:=os) (ws:=ws) (ss:=ss) A B;have g1:=(oQ (os:=os) (ws:=ws) A B).1;have hr:=ui os.length (by lia);unfold qY;refine jE true n8 ?_ λ k hk=>?_
 .generalize (List.range os.length).map (λ k:Nat=>T.int (0+(k:Int)))=RR at *;generalize zh ⟨A,B,os,ws,ss⟩=fl at *;generalize os.map kt=O at *;generalize zN=ll at *;generalize xw=rr at *;simp only[zf] at k1;simp[k1,g1,hr]
 .have ha:=jK hk;have he:=il (os.getD k false) true;rw[show kt true=.str "keeper" from rfl] at he;generalize (os.getD k false == true)=z at *;generalize zh ⟨A,B,os,ws,ss⟩=fl at *;generalize os.map kt=O at *;generalize kt (os.getD k false)=kk at *;generalize zq false=ee at *;simp only[zf] at k1;cases z <;> simp[k1,ha,he]
theorem Mt (n8:os.length<=8) (A B:Int) (c l xs w:T):ny [some (.im (zh ⟨A,B,os,ws,ss⟩)),some (.im c),some (.im l),some (.im xs),some (.im w),none]=some (xN (y7 os false)):=by
 obtain⟨k0,k1,k2,k3⟩:=vU (os:=os) (ws:=ws) (ss:=ss) A B;have g1:=(oQ (os:=os) (ws:=ws) A B).1;have hr:=ui os.length (by lia);unfold ny;refine jE false n8 ?_ λ k hk=>?_
 .generalize (List.range os.length).map (λ k:Nat=>T.int (0+(k:Int)))=RR at *;generalize zh ⟨A,B,os,ws,ss⟩=fl at *;generalize os.map kt=O at *;generalize zN=ll at *;generalize xw=rr at *;simp only[zf] at k1;simp[k1,g1,hr]
 .have ha:=jK hk;have he:=il (os.getD k false) false;rw[show kt false=.str "taker" from rfl] at he;generalize (os.getD k false == false)=z at *;generalize zh ⟨A,B,os,ws,ss⟩=fl at *;generalize os.map kt=O at *;generalize kt (os.getD k false)=kk at *;generalize zq false=ee at *;simp only[zf] at k1;cases z <;> simp[k1,ha,he]
theorem Gf.fu (G:Gf os ws ss) {A B:Int}(hA:0<=A/\A<=12) (hB:0<=B/\B<=12) (o:Bool) (xs:List Int) (hx:4<=xs.length):∃ r,u9 [zh ⟨A,B,os,ws,ss⟩,.lst (xs.map T.int),kt o]=some r/\
  (r=.zo\/∃ Ff v,r=zh ⟨A,B,os,Ff,ss⟩/\Gf os Ff ss/\(∀ w,w∈Ff↔w∈ws\/w=v)/\os.getD v.f false=o):=by
 have hc:=Mq (ws:=ws) (ss:=ss) G.n8 A B o (.lst (xs.map T.int));obtain⟨x0,e0⟩:=xE (xs:=xs) (j:=0) (by lia);obtain⟨x1,e1⟩:=xE (xs:=xs) (j:=1) (by lia);obtain⟨x2,e2⟩:=xE (xs:=xs) (j:=2) (by lia);obtain⟨x3,e3⟩:=xE (xs:=xs) (j:=3) (by lia);have G5:L2.zB (xs.map T.int) 0=some (.int x0):=e0;have Hy:L2.zB (xs.map T.int) 1=some (.int x1):=e1;have Ia:L2.zB (xs.map T.int) 2=some (.int x2):=e2;have JU:L2.zB (xs.map T.int) 3=some (.int x3):=e3;obtain⟨k0,k1,k2,k3⟩:=vU (os:=os) (ws:=ws) (ss:=ss) A B;obtain⟨g1,g2⟩:=oQ (os:=os) (ws:=ws) A B;have pn:=jC (y7 os o);have pL:=jD (y7 os o);have n1:=G.n1;by_cases hn:y7 os o=[]
 .refine⟨.zo,?_,.inl rfl⟩;rw[hn] at pn hc;simp only[Ds] at pn;unfold u9 mn;generalize rX=cc at *;generalize xN []=P at *;generalize zq false=ee at *;generalize zh ⟨A,B,os,ws,ss⟩=fl at *;simp[hc,pn]
 .have ie:(y7 os o).isEmpty=false:=by
   cases h:y7 os o with
   | nil=>exact absurd h hn
   | cons _ _=>rfl
  rw[ie] at pn;by_cases IA:ws.length<=23
  .have HJ:¬ (ws.length:Int)>23:=by lia
   obtain⟨p,pm,pe⟩:=jB hn x0;obtain⟨pl,po⟩:=j9 pm;have Ir:0<(y7 os o).length:=Dc.mpr hn;have hoN:0<os.length:=n1;have Kp:(0:Int)<(os.length:Int):=by lia
   have:=Bo x1 (b:=(os.length:Int)) (by lia);have:=BK x1 Kp;obtain⟨t,ht,htl⟩:∃ t:Nat,x1%(os.length:Int)=(t:Int)/\t<os.length:=⟨(x1%(os.length:Int)).toNat,by lia,by lia⟩
   have ev:T.tup [.int (p:Int),.int (t:Int),.int (x2%9-4),.int (x3%9-4)]=zu ⟨p,t,x2%9-4,x3%9-4⟩:=rfl;obtain⟨z,Bk,hz⟩:=cU ⟨p,t,x2%9-4,x3%9-4⟩ ws;by_cases AW:(⟨p,t,x2%9-4,x3%9-4⟩:Wy)∈ws
   .rw[hz.mpr AW] at Bk;refine⟨.zo,?_,.inl rfl⟩;rw[<- ev] at Bk;unfold u9 mn;generalize rX=cc at *;generalize y7 os o=P0 at *;generalize xN P0=P at *;generalize zq false=ee at *;generalize xq false=ii at *;generalize zh ⟨A,B,os,ws,ss⟩=fl at *;generalize os.map kt=O at *;generalize ws.map zu=WL at *;generalize xs.map T.int=XL at *;generalize zN=ll at *;simp only[zf] at k1 k2 pe;simp[hc,pn,k1,k2,g1,g2,HJ,G5,Hy,Ia,JU,pL,Ir,pe,Kp,hoN,ht,Bk]
   .rw[show z=false by cases h:z with | true=>exact absurd (hz.mp h) AW | false=>rfl] at Bk;obtain⟨Ff,w1,w2,w3⟩:=G.YB hA hB ⟨p,t,x2%9-4,x3%9-4⟩ ⟨⟨pl,htl⟩,by dsimp only;lia,by dsimp only;lia⟩ IA AW;refine⟨_,?_,.inr ⟨Ff,_,rfl,w2,w3,po⟩⟩;rw[<- ev] at Bk w1;unfold u9 mn;generalize rX=cc at *;generalize nM=f1 at *;generalize y7 os o=P0 at *;generalize xN P0=P at *;generalize zq false=ee at *;generalize xq false=ii at *;generalize zh ⟨A,B,os,ws,ss⟩=fl at *;generalize zh ⟨A,B,os,Ff,ss⟩=gl at *;generalize os.map kt=O at *;generalize ws.map zu=WL at *;generalize xs.map T.int=XL at *;generalize zN=ll at *;simp only[zf] at k1 k2 pe;simp[hc,pn,k1,k2,g1,g2,HJ,G5,Hy,Ia,JU,pL,Ir,pe,Kp,hoN,ht,Bk,w1]
  .refine⟨.zo,?_,.inl rfl⟩;have HJ:(ws.length:Int)>23:=by lia
   unfold u9 mn;generalize rX=cc at *;generalize xN (y7 os o)=P at *;generalize zq false=ee at *;generalize zh ⟨A,B,os,ws,ss⟩=fl at *;generalize ws.map zu=WL at *;generalize zN=ll at *;simp only[zf] at k2;simp[hc,pn,k2,g2,HJ]
theorem Gf.NK (G:Gf os ws ss) {A B:Int}(hA:0<=A/\A<=12) (hB:0<=B/\B<=12) (xs:List Int) (hx:4<=xs.length):∃ r,pz [zh ⟨A,B,os,ws,ss⟩,.lst (xs.map T.int)]=some r/\
  (r=.zo\/∃ Ff w v,r=zh ⟨A,B,os,Ff,ss⟩/\Gf os Ff ss/\w∈ws/\r_ w v/\∀ x,x∈Ff↔(x∈ws/\x≠w)\/x=v):=by
 obtain⟨x0,e0⟩:=xE (xs:=xs) (j:=0) (by lia);obtain⟨x1,e1⟩:=xE (xs:=xs) (j:=1) (by lia);obtain⟨x2,e2⟩:=xE (xs:=xs) (j:=2) (by lia);have G5:L2.zB (xs.map T.int) 0=some (.int x0):=e0;have Hy:L2.zB (xs.map T.int) 1=some (.int x1):=e1;have Ia:L2.zB (xs.map T.int) 2=some (.int x2):=e2;obtain⟨k0,k1,k2,k3⟩:=vU (os:=os) (ws:=ws) (ss:=ss) A B;obtain⟨g1,g2⟩:=oQ (os:=os) (ws:=ws) A B;have hN:0<ws.length:=by
  obtain⟨w,hw,_⟩:=G.way 0 G.n1;exact C1 hw
 have hI:(0:Int)<(ws.length:Int):=by lia
 have:=Bo x0 (b:=(ws.length:Int)) (by lia);have:=BK x0 hI;obtain⟨i,hi,Bv⟩:∃ t:Nat,x0%(ws.length:Int)=(t:Int)/\t<ws.length:=⟨(x0%(ws.length:Int)).toNat,by lia,by lia⟩
 have B9:L2.zB (ws.map zu) (i:Int)=some (.tup [.int (ws[i].f:Int),.int (ws[i].t:Int),.int ws[i].a,.int ws[i].b]):=xG (by rw[Ay,AG Bv];rfl);have DP:ws[i]∈ws:=B4 Bv;have Cw:ws[i]?=some ws[i]:=AG Bv;generalize ws[i]=w at *;have wr:=G.wr w DP;obtain⟨a,ha,JP⟩:∃ a,(if w.a+x1%4<12 then w.a+x1%4 else 12)=a/\w.a<=a/\a<=12:=⟨_,rfl,by split <;> lia,by split <;> lia⟩
 obtain⟨b,hb,Hb⟩:∃ b,(if w.b+x2%4<12 then w.b+x2%4 else 12)=b/\w.b<=b/\b<=12:=⟨_,rfl,by split <;> lia,by split <;> lia⟩
 obtain⟨z,Bk,hz⟩:=cU ⟨w.f,w.t,a,b⟩ ws;have ev:zu ⟨w.f,w.t,a,b⟩=T.tup [.int (w.f:Int),.int (w.t:Int),.int a,.int b]:=rfl;rw[ev] at Bk;by_cases AW:(⟨w.f,w.t,a,b⟩:Wy)∈ws
 .rw[hz.mpr AW] at Bk;refine⟨.zo,?_,.inl rfl⟩;unfold pz gW;generalize xq false=ii at *;generalize zh ⟨A,B,os,ws,ss⟩=fl at *;generalize ws.map zu=WL at *;generalize xs.map T.int=XL at *;generalize zN=ll at *;simp only[zf] at k2;simp[G5,k2,g2,hN,hi,B9,Hy,Ia,ha,hb,Bk]
 .rw[show z=false by cases h:z with | true=>exact absurd (hz.mp h) AW | false=>rfl] at Bk;obtain⟨Ff,w1,w2,w3⟩:=G.YD hA hB Cw a b ⟨by lia,JP.2⟩ ⟨by lia,Hb.2⟩ AW;refine⟨_,?_,.inr ⟨Ff,w,⟨w.f,w.t,a,b⟩,rfl,w2,DP,⟨rfl,rfl,JP.1,Hb.1⟩,w3⟩⟩;unfold pz gW;generalize nP=f1 at *;generalize xq false=ii at *;generalize zh ⟨A,B,os,ws,ss⟩=fl at *;generalize zh ⟨A,B,os,Ff,ss⟩=gl at *;generalize ws.map zu=WL at *;generalize xs.map T.int=XL at *;generalize zN=ll at *;simp only[zf] at k2;simp[G5,k2,g2,hN,hi,B9,Hy,Ia,ha,hb,Bk,w1]
theorem Gf.XC (G:Gf os ws ss) {A B:Int}(hA:0<=A/\A<=12) (hB:0<=B/\B<=12) (xs:List Int) (hx:4<=xs.length):∃ r,qk [zh ⟨A,B,os,ws,ss⟩,.lst (xs.map T.int)]=some r/\
  (r=.zo\/∃ Gi,r=zh ⟨A,B,os,ws,Gi⟩/\Gf os ws Gi/\xa ⟨A,B,os,ws,ss⟩ ⟨A,B,os,ws,Gi⟩):=by
 obtain⟨x0,e0⟩:=xE (xs:=xs) (j:=0) (by lia);obtain⟨x1,e1⟩:=xE (xs:=xs) (j:=1) (by lia);obtain⟨x2,e2⟩:=xE (xs:=xs) (j:=2) (by lia);obtain⟨x3,e3⟩:=xE (xs:=xs) (j:=3) (by lia);have G5:L2.zB (xs.map T.int) 0=some (.int x0):=e0;have Hy:L2.zB (xs.map T.int) 1=some (.int x1):=e1;have Ia:L2.zB (xs.map T.int) 2=some (.int x2):=e2;have JU:L2.zB (xs.map T.int) 3=some (.int x3):=e3;obtain⟨k0,k1,k2,k3⟩:=vU (os:=os) (ws:=ws) (ss:=ss) A B;have hc:=Mr (ws:=ws) (ss:=ss) G.n8 A B (.lst (xs.map T.int));have pn:=jC (y7 os true);have pL:=jD (y7 os true);have sl:=G.sl;by_cases hn:y7 os true=[]
 .refine⟨.zo,?_,.inl rfl⟩;rw[hn] at pn hc;simp only[Ds] at pn;unfold qk kY;generalize qY=cc at *;generalize xN []=P at *;generalize zq false=ee at *;generalize zh ⟨A,B,os,ws,ss⟩=fl at *;simp[hc,pn]
 have ie:(y7 os true).isEmpty=false:=by
  cases h:y7 os true with
  | nil=>exact absurd h hn
  | cons _ _=>rfl
 rw[ie] at pn;obtain⟨p,pm,pe⟩:=jB hn x0;obtain⟨pl,po⟩:=j9 pm;have Ir:0<(y7 os true).length:=Dc.mpr hn;have F5:nr [some (.im (zh ⟨A,B,os,ws,ss⟩)),some (.im (.lst (xs.map T.int))),some (.im (xN (y7 os true))),some (.im (.int (p:Int))),none,none]=some (.lst ((ss.filter λ s=>decide (s.p=p)).map zw)):=by
  unfold nr;refine ij zw (λ s=>decide (s.p=p)) ss ?_ (by lia) λ s h=>?_
  .generalize zh ⟨A,B,os,ws,ss⟩=fl at *;generalize ss.map zw=SL at *;simp only[zf] at k3;simp[k3]
  .have x0:zf (zw s) (.int 0)=some (.int (s.p:Int)):=rfl;have e:=eq_int (s.p:Int) (p:Int) false;generalize zw s=ts at *;generalize zq false=ee at *;simp only[zf] at x0;by_cases z:s.p=p
   .subst z;simp[x0,e]
   .have z':¬ (s.p:Int)=(p:Int):=by lia
    simp[x0,e,z,z']
 have kn:=eq_nil zw (λ s=>by simp[zw,dep,yW]) (ss.filter λ s=>decide (s.p=p));have AX:∀ s,s∈(ss.filter λ s=>decide (s.p=p))↔s∈ss/\s.p=p:=λ s=>by rw[AN,decide_eq_true_eq]
 generalize (ss.filter λ s=>decide (s.p=p))=known at *;cases known with
 | nil=>
  have hpu:xC (decide (x1%2=1))=x1%2:=by
   unfold xC;by_cases h:x1%2=1
   .rw[K4 h,if_pos rfl,h]
   .rw[KZ h,if_neg (by decide)];lia
  obtain⟨Gi,w1,w2,w3⟩:=G.fm hA hB ⟨p,decide (x1%2=1),1+x2%4,x3%5⟩ ⟨pl,po,by dsimp only;lia,by dsimp only;lia⟩;refine⟨_,?_,.inr ⟨Gi,rfl,w2,xa.E4 w3 λ s hs=>?_⟩⟩
  .have ev:zw ⟨p,decide (x1%2=1),1+x2%4,x3%5⟩=.tup [.int (p:Int),.int (x1%2),.int (1+x2%4),.int (x3%5)]:=by
    show T.tup [.int (p:Int),.int (xC (decide (x1%2=1))),.int (1+x2%4),.int (x3%5)]=_;rw[hpu]
   rw[ev] at w1;simp only[A_,Ds] at kn F5;unfold qk kY;generalize qY=cc at *;generalize nr=cc2 at *;generalize qg=f1 at *;generalize y7 os true=P0 at *;generalize xN P0=P at *;generalize zq false=ee at *;generalize zh ⟨A,B,os,ws,ss⟩=fl at *;generalize zh ⟨A,B,os,ws,Gi⟩=gl at *;generalize xs.map T.int=XL at *;generalize zN=ll at *;simp only[zf] at pe;simp[hc,pn,G5,Hy,Ia,JU,pL,Ir,pe,F5,kn,w1]
  .exact absurd ((AX s).mpr ((pV A B os ws G.sp _ s).mp hs)) (by simp)
 | cons s l=>
  obtain⟨s1,s2⟩:=(AX s).mp Am;have sr:=G.sr s s1;obtain⟨gv,hgv,hg1⟩:∃ a,(if s.gv-x1%3>1 then s.gv-x1%3 else 1)=a/\a<=s.gv/\1<=a:=⟨_,rfl,by split <;> lia,by split <;> lia⟩
  obtain⟨gt,DV,GW⟩:∃ a,(if s.gt+x2%3<12 then s.gt+x2%3 else 12)=a/\s.gt<=a/\a<=12:=⟨_,rfl,by split <;> lia,by split <;> lia⟩
  obtain⟨Gi,w1,w2,w3⟩:=G.fm hA hB ⟨p,s.pu,gv,gt⟩ ⟨pl,po,by dsimp only;lia,by dsimp only;lia⟩;refine⟨_,?_,.inr ⟨Gi,rfl,w2,xa.E4 w3 λ r hr=>?_⟩⟩
  .have ev:zw ⟨p,s.pu,gv,gt⟩=.tup [.int (p:Int),.int (xC s.pu),.int gv,.int gt]:=rfl;rw[ev] at w1;have hk:L2.zB ((s::l).map zw) 0=some (.tup [.int (s.p:Int),.int (xC s.pu),.int s.gv,.int s.gt]):=xG (k:=0) rfl;simp only[List.isEmpty_cons] at kn;unfold qk kY;generalize qY=cc at *;generalize nr=cc2 at *;generalize qg=f1 at *;generalize y7 os true=P0 at *;generalize xN P0=P at *;generalize zq false=ee at *;generalize zh ⟨A,B,os,ws,ss⟩=fl at *;generalize zh ⟨A,B,os,ws,Gi⟩=gl at *;generalize xs.map T.int=XL at *;generalize (s::l).map zw=KN at *;generalize zN=ll at *;simp only[zf] at pe;simp[hc,pn,G5,Hy,Ia,pL,Ir,pe,F5,kn,hk,hgv,DV,w1]
  .have h1:=(pV A B os ws G.sp _ r).mp hr;have h2:=(pV A B os ws G.sp p s).mpr ⟨s1,s2⟩;rw[hr] at h2;cases h2;exact⟨rfl,hg1.1,GW.1⟩
theorem Gf.better (G:Gf os ws ss) {A B:Int}{lim:Nat}(hl:lim<=5) (hA:0<=A/\A<=lim) (hB:0<=B/\B<=lim) (c:Int):∃ r,p0 [zh ⟨A,B,os,ws,ss⟩,.int c,.int (lim:Int)]=some r/\
  (r=.zo\/∃ H:zy,r=zh H/\Gf H.os H.ws H.ss/\(0<=H.A/\H.A<=lim)/\(0<=H.B/\H.B<=lim)/\xa ⟨A,B,os,ws,ss⟩ H):=by
 have JS:0<=A/\A<=12:=by lia
 have JR:0<=B/\B<=12:=by lia
 obtain⟨xs,Dd,Ee⟩:=gC (c/6) 5 (by decide);have AO:xK [.int (c/6),.int 5]=some (.lst (xs.map T.int)):=Dd;have d6:xA c 6:=⟨by decide,by decide⟩
 have hq:=λ j=>eq_int (c%6) j false;obtain⟨k0,k1,k2,k3⟩:=vU (os:=os) (ws:=ws) (ss:=ss) A B;have hm:c%6=0\/c%6=1\/c%6=2\/c%6=3\/c%6=4\/c%6=5:=by lia
 unfold p0 Yo;rcases hm with hm | hm | hm | hm | hm | hm <;> rw[hm] at hq
 .obtain⟨r,r1,r2⟩:=G.fu JS JR true xs (by lia);refine⟨r,?_,?_⟩
  .rw[show kt true=.str "keeper" from rfl] at r1;generalize u9=f1 at *;generalize xK=f2 at *;generalize zq false=ee at *;generalize zh ⟨A,B,os,ws,ss⟩=fl at *;generalize xs.map T.int=XL at *;simp[d6,AO,hm,hq,r1]
  .rcases r2 with h | ⟨Ff,v,h1,h2,h3,h4⟩
   .exact .inl h
   .exact .inr ⟨_,h1,h2,hA,hB,xa.way h3 h4⟩
 .have hc:=Mt (ws:=ws) (ss:=ss) G.n8 A B (.int c) (.int (lim:Int)) (.lst (xs.map T.int)) (.int 1);have pn:=jC (y7 os false);have pL:=jD (y7 os false);obtain⟨x0,e0⟩:=xE (xs:=xs) (j:=0) (by lia);have G5:L2.zB (xs.map T.int) 0=some (.int x0):=e0;by_cases hn:y7 os false=[]
  .refine⟨.zo,?_,.inl rfl⟩;rw[hn] at pn hc;simp only[Ds] at pn;generalize ny=cc at *;generalize xN []=P at *;generalize xK=f2 at *;generalize zq false=ee at *;generalize zh ⟨A,B,os,ws,ss⟩=fl at *;generalize xs.map T.int=XL at *;simp[d6,AO,hm,hq,hc,pn]
  .have ie:(y7 os false).isEmpty=false:=by
    cases h:y7 os false with
    | nil=>exact absurd h hn
    | cons _ _=>rfl
   rw[ie] at pn;obtain⟨p,pm,pe⟩:=jB hn x0;obtain⟨pl,po⟩:=j9 pm;have Ir:0<(y7 os false).length:=Dc.mpr hn;obtain⟨w1,w2⟩:=G.YC JS JR pl;refine⟨_,?_,.inr ⟨_,rfl,w2,hA,hB,xa.owner G.way⟩⟩;generalize ny=cc at *;generalize nN=f1 at *;generalize xK=f2 at *;generalize y7 os false=P0 at *;generalize xN P0=P at *;generalize zq false=ee at *;generalize zh ⟨A,B,os,ws,ss⟩=fl at *;generalize zh ⟨A,B,os.set p true,ws,ss⟩=gl at *;generalize xs.map T.int=XL at *;generalize zN=ll at *;simp only[zf] at pe;simp[d6,AO,hm,hq,hc,pn,G5,pL,Ir,pe,w1]
 .obtain⟨r,r1,r2⟩:=G.NK JS JR xs (by lia);refine⟨r,?_,?_⟩
  .generalize pz=f1 at *;generalize xK=f2 at *;generalize zq false=ee at *;generalize zh ⟨A,B,os,ws,ss⟩=fl at *;generalize xs.map T.int=XL at *;simp[d6,AO,hm,hq,r1]
  .rcases r2 with h | ⟨Ff,w,v,h1,h2,h3,h4,h5⟩
   .exact .inl h
   .exact .inr ⟨_,h1,h2,hA,hB,xa.Ju h3 h4 h5⟩
 .obtain⟨x0,e0⟩:=xE (xs:=xs) (j:=0) (by lia);obtain⟨x1,e1⟩:=xE (xs:=xs) (j:=1) (by lia);have G5:L2.zB (xs.map T.int) 0=some (.int x0):=e0;have Hy:L2.zB (xs.map T.int) 1=some (.int x1):=e1;obtain⟨a,ha,JP⟩:∃ a,(if A+x0%3<lim then A+x0%3 else (lim:Int))=a/\A<=a/\a<=lim:=⟨_,rfl,by split <;> lia,by split <;> lia⟩
  obtain⟨b,hb,Hb⟩:∃ b,(if B+x1%3<lim then B+x1%3 else (lim:Int))=b/\B<=b/\b<=lim:=⟨_,rfl,by split <;> lia,by split <;> lia⟩
  have w1:=G.YE A B (A:=a) (B:=b) (by lia) (by lia);refine⟨_,?_,.inr ⟨⟨a,b,os,ws,ss⟩,rfl,G,by dsimp only;lia,by dsimp only;lia,xa.Jw JP.1 Hb.1⟩⟩;rw[show zm (A,B)=.tup [.int A,.int B] from rfl] at k0;rw[show zm (a,b)=.tup [.int a,.int b] from rfl] at w1;generalize nQ=f1 at *;generalize xK=f2 at *;generalize zq false=ee at *;generalize zh ⟨A,B,os,ws,ss⟩=fl at *;generalize zh ⟨a,b,os,ws,ss⟩=gl at *;generalize xs.map T.int=XL at *;simp only[zf] at k0;simp[d6,AO,hm,hq,k0,G5,Hy,ha,hb,w1]
 .obtain⟨r,r1,r2⟩:=G.XC JS JR xs (by lia);refine⟨r,?_,?_⟩
  .generalize qk=f1 at *;generalize xK=f2 at *;generalize zq false=ee at *;generalize zh ⟨A,B,os,ws,ss⟩=fl at *;generalize xs.map T.int=XL at *;simp[d6,AO,hm,hq,r1]
  .rcases r2 with h | ⟨Gi,h1,h2,h3⟩
   .exact .inl h
   .exact .inr ⟨_,h1,h2,hA,hB,h3⟩
 .refine⟨.zo,?_,.inl rfl⟩;generalize xK=f2 at *;generalize zq false=ee at *;generalize zh ⟨A,B,os,ws,ss⟩=fl at *;generalize xs.map T.int=XL at *;simp[d6,AO,hm,hq]
end
theorem gE (ns:List Int) (k:Nat):∃ v,vJ [xu ns,.int (k:Int)]=some (.int v):=by
 unfold vJ Yn xu;by_cases h:k<ns.length
 .have e:L2.zB (ns.map T.int) (k:Int)=some (.int (ns.getD k 0)):=xG (by simp[h]);exact⟨_,by simp[h,e,wI];rfl⟩
 .exact⟨0,by simp[h,wI]⟩
theorem MP (v:Int):∃ most zG lim:Nat,nV [.int v]=some (.tup [.int (most:Int),.int (zG:Int)])/\(1<=most/\most<=8)/\(zG:Int)+(if (most:Int)<5 then 1 else 0)=(lim:Int)/\zG<=lim/\lim<=5:=by
 obtain⟨m,hm,m10⟩:∃ m:Nat,v%10=(m:Int)/\m<10:=⟨(v%10).toNat,by lia,by lia⟩
 have hx:∀ (L:List T),L.length=10->zI ["_law_number"] 1 (retS (zb zf (λ _=>some (.lst L)) (zb zS (zc 0) (cI 10)))) [.int v]=L[m]?:=λ L hL=>by
  have:L2.zB L (m:Int)=L[m]?:=by
   rw[AG (by lia)];exact xG (AG (by lia))
  simp[hm,this];rw[AG (by lia)];rfl
 have h3:∀ (a b:Int),(T.tup [.int a,.int b])=zm (a,b):=λ _ _=>rfl;have hF:nV [.int v]=([(3,2),(2,3),(4,1),(1,4),(3,2),(2,3),(8,1),(3,2),(2,3),(4,1)].map zm)[m]?:=hx ([(3,2),(2,3),(4,1),(1,4),(3,2),(2,3),(8,1),(3,2),(2,3),(4,1)].map zm) rfl;rw[hF]
 match m,m10 with
 | 0,_=>exact⟨3,2,3,rfl,by decide,rfl,by decide,by decide⟩
 | 1,_=>exact⟨2,3,4,rfl,by decide,rfl,by decide,by decide⟩
 | 2,_=>exact⟨4,1,2,rfl,by decide,rfl,by decide,by decide⟩
 | 3,_=>exact⟨1,4,5,rfl,by decide,rfl,by decide,by decide⟩
 | 4,_=>exact⟨3,2,3,rfl,by decide,rfl,by decide,by decide⟩
 | 5,_=>exact⟨2,3,4,rfl,by decide,rfl,by decide,by decide⟩
 | 6,_=>exact⟨8,1,1,rfl,by decide,rfl,by decide,by decide⟩
 | 7,_=>exact⟨3,2,3,rfl,by decide,rfl,by decide,by decide⟩
 | 8,_=>exact⟨2,3,4,rfl,by decide,rfl,by decide,by decide⟩
 | 9,_=>exact⟨4,1,2,rfl,by decide,rfl,by decide,by decide⟩
def Inv (lim:Nat) (F:zy):Prop:=Gf F.os F.ws F.ss/\(0<=F.A/\F.A<=lim)/\0<=F.B/\F.B<=lim
theorem Inv.good {lim:Nat}{F:zy}(h:Inv lim F) (hl:lim<=5):Good F:=⟨h.1,by have:=h.2;lia,by have:=h.2;lia⟩
theorem PU:wZ true .zo .zo=some (.bl false)/\∀ F,wZ true (zh F) .zo=some (.bl true):=⟨rfl,λ _=>rfl⟩
theorem Pt (ns:List Int) {most zG lim:Nat}(BC:(zG:Int)+(if (most:Int)<5 then 1 else 0)=(lim:Int)) (hl:lim<=5) (F:zy) (hF:Inv lim F) (k:Nat):∃ J' F',turn (zt 4) rg (.int (k:Int)) [some (.im (xu ns)),some (.im (.int (most:Int))),some (.im (.int (zG:Int))),some (.im (zh F)),none,none,none]=some (.nx J')/\
  Inv lim F'/\yq [4,5,6] J'=[some (.im (xu ns)),some (.im (.int (most:Int))),some (.im (.int (zG:Int))),some (.im (zh F')),none,none,none]:=by
 obtain⟨c,hc⟩:=gE ns k;obtain⟨i1,i2⟩:=PU;have d7:xA c 7:=⟨by decide,by decide⟩
 have hq:=eq_int (c%7) 6 false;have gF:=hF.good hl;obtain⟨A,B,os,ws,ss⟩:=F;obtain⟨G,hA,hB⟩:=hF;dsimp only at G hA hB;have iF:=i2 ⟨A,B,os,ws,ss⟩;by_cases h6:c%7=6
 .rw[K4 h6,cond_false] at hq;obtain⟨xs,Dd,Ee⟩:=gC (c/7) 4 (by decide);have AO:xK [.int (c/7),.int 4]=some (.lst (xs.map T.int)):=Dd;obtain⟨r,r1,r2⟩:=G.fu (A:=A) (B:=B) (by lia) (by lia) false xs (by lia);rw[show kt false=.str "taker" from rfl] at r1;rcases r2 with rfl | ⟨Ff,v,rfl,h2,h3,h4⟩
  .refine⟨[some (.im (xu ns)),some (.im (.int (most:Int))),some (.im (.int (zG:Int))),some (.im (zh ⟨A,B,os,ws,ss⟩)),some (.im (.int (k:Int))),some (.im (.int c)),some (.im .zo)],⟨A,B,os,ws,ss⟩,?_,⟨G,hA,hB⟩,by simp⟩;unfold turn rg;generalize vJ=f1 at *;generalize u9=f2 at *;generalize xK=f3 at *;generalize sg=f4 at *;generalize zq false=ee at *;generalize wZ true=ii at *;generalize zh ⟨A,B,os,ws,ss⟩=fl at *;generalize xu ns=sc at *;generalize xs.map T.int=XL at *;simp[hc,hq,d7,AO,r1,i1]
  .have gG:Good ⟨A,B,os,Ff,ss⟩:=⟨h2,gF.a,gF.b⟩
   have nw:=dJ gG gF (xa.YU h3 h4);have iG:=i2 ⟨A,B,os,Ff,ss⟩;refine⟨[some (.im (xu ns)),some (.im (.int (most:Int))),some (.im (.int (zG:Int))),some (.im (zh ⟨A,B,os,Ff,ss⟩)),some (.im (.int (k:Int))),some (.im (.int c)),some (.im (zh ⟨A,B,os,Ff,ss⟩))],⟨A,B,os,Ff,ss⟩,?_,⟨h2,hA,hB⟩,by simp⟩;unfold turn rg;generalize vJ=f1 at *;generalize u9=f2 at *;generalize xK=f3 at *;generalize sg=f4 at *;generalize zq false=ee at *;generalize wZ true=ii at *;generalize zh ⟨A,B,os,ws,ss⟩=fl at *;generalize zh ⟨A,B,os,Ff,ss⟩=gl at *;generalize xu ns=sc at *;generalize xs.map T.int=XL at *;simp[hc,hq,d7,AO,r1,iG,nw]
 .rw[KZ h6,cond_false] at hq;obtain⟨r,r1,r2⟩:=G.better hl hA hB (c/7);have hi:qK [.bl (decide ((most:Int)<5))]=some (.int (if (most:Int)<5 then 1 else 0)):=by
   show some (T.int (if decide ((most:Int)<5)=true then 1 else 0))=_;simp
  have An:wI (.int (most:Int)) (.int 5)=some (.bl (decide ((most:Int)<5))):=rfl;generalize (if (most:Int)<5 then (1:Int) else 0)=dd at *;generalize decide ((most:Int)<5)=db at *;rcases r2 with rfl | ⟨H,rfl,h2,h3,h4,h5⟩
  .refine⟨[some (.im (xu ns)),some (.im (.int (most:Int))),some (.im (.int (zG:Int))),some (.im (zh ⟨A,B,os,ws,ss⟩)),some (.im (.int (k:Int))),some (.im (.int c)),some (.im .zo)],⟨A,B,os,ws,ss⟩,?_,⟨G,hA,hB⟩,by simp⟩;unfold turn rg;generalize vJ=f1 at *;generalize p0=f2 at *;generalize sg=f4 at *;generalize zq false=ee at *;generalize wZ true=ii at *;generalize zh ⟨A,B,os,ws,ss⟩=fl at *;generalize xu ns=sc at *;generalize wI=lt at *;generalize qK=it at *;simp[hc,hq,d7,An,hi,BC,r1,i1]
  .have gG:Good H:=Inv.good ⟨h2,h3,h4⟩ hl;have nw:=dJ gF gG h5;have iG:=i2 H;refine⟨[some (.im (xu ns)),some (.im (.int (most:Int))),some (.im (.int (zG:Int))),some (.im (zh H)),some (.im (.int (k:Int))),some (.im (.int c)),some (.im (zh H))],H,?_,⟨h2,h3,h4⟩,by simp⟩;unfold turn rg;generalize vJ=f1 at *;generalize p0=f2 at *;generalize sg=f4 at *;generalize zq false=ee at *;generalize wZ true=ii at *;generalize zh ⟨A,B,os,ws,ss⟩=fl at *;generalize zh H=gl at *;generalize xu ns=sc at *;generalize wI=lt at *;generalize qK=it at *;simp[hc,hq,d7,An,hi,BC,r1,iG,nw]
theorem Pu (ns:List Int) (CL:ns.length<=63):p9 [xu ns]=some (.bl true):=by
 obtain⟨v,hv⟩:=gE ns 0;have Hk:vJ [xu ns,.int 0]=some (.int v):=hv;obtain⟨u,hu⟩:=gE ns 1;have HR:vJ [xu ns,.int 1]=some (.int u):=hu;obtain⟨most,zG,lim,hz,hm,BC,hb,hl⟩:=MP v;obtain⟨F,hF,G,FA,FB⟩:=MX u most zG hm.1 hm.2 (by lia);obtain⟨n,hn⟩:∃ n:Nat,oa [.int 2,.int (if (if (50:Int)<ns.length then 50 else (ns.length:Int))>3 then (if (50:Int)<ns.length then 50 else (ns.length:Int)) else 3),.int 16]=some ((List.range n).map λ(k:Nat)=>T.int (2+(k:Int)*16)):=by
  generalize hz:(if (if (50:Int)<ns.length then 50 else (ns.length:Int))>3 then (if (50:Int)<ns.length then 50 else (ns.length:Int)) else 3)=z;have HD:0<=z/\z<=60:=by rw[<- hz];split <;> split <;> lia
  refine⟨uq 2 z 16,?_⟩;show (if (sS 2=true/\sS z=true)/\sS 16=true/\(0:Int)<16 then some (mM 2 16 (uq 2 z 16)) else none)=_;rw[if_pos ⟨⟨by decide,by simp[sS];lia⟩,by decide,by decide⟩];rfl
 obtain⟨J',Jh,F',_,rfl⟩:=ur (is:=[4,5,6]) (g:=zt 4) (b:=rg) (λ k:Nat=>T.int (2+(k:Int)*16))
  (λ _ J=>∃ F',Inv lim F'/\J=[some (.im (xu ns)),some (.im (.int (most:Int))),some (.im (.int (zG:Int))),some (.im (zh F')),none,none,none]) (List.range n)
  [some (.im (xu ns)),some (.im (.int (most:Int))),some (.im (.int (zG:Int))),some (.im (zh F)),none,none,none] ⟨F,⟨G,by lia,by lia⟩,rfl⟩ (by
   rintro _ k _ _ J ⟨F',hI,rfl⟩;obtain⟨J',F'',r1,r2,r3⟩:=Pt ns BC hl F' hI (2+k*16);have e:((2+k*16:Nat):Int)=2+(k:Int)*16:=by lia
   rw[e] at r1;exact⟨J',r1,F'',r2,r3⟩)
 have hlen:zN [xu ns]=some (.int (ns.length:Int)):=by simp[xu]
 unfold p9 Yq;generalize rg=bb at *;generalize vJ=f1 at *;generalize nV=f2 at *;generalize px=f3 at *;generalize (List.range n).map (λ(k:Nat)=>T.int (2+(k:Int)*16))=RR at *;generalize xu ns=sc at *;generalize zh F=fl at *;generalize zh F'=fl' at *;generalize zN=ll at *;generalize oa=rr at *;simp[Hk,HR,hz,hF,hlen,hn,Jh]
end zW
namespace PySem.W.Fast
def tw516957999215588913:=0
def tw93710654031620948:=0
def te700922504155949132:=0
def tw17550145097163695732:=0
def tw1734509320173807671:=0
def tw11823157284002265948:=0
def tw9585837848200432256:=0
def tw10870885241655632034:=0
def tw721711827795431084:=0
def tw2960158032830934952:=0
def tw5960359142295555373:=0
def tw7677440958770951705:=0
def tw17649970010615678476:=0
def tw1681746654848643016:=0
def tw12447970043565306350:=0
def tw8345391592088004646:=0
def tw15599183461610178444:=0
def tw16885654598926775888:=0
def tw17010514790050987187:=0
def tw13999280628107306081:=0
def tw12993715237978630113:=0
def tw12814178783992895369:=0
def tw1318477868649963022:=0
def tw7538697825174457262:=0
def tw541448520757435044:=0
def tw16268185001881507080:=0
def tw2087206708066622996:=0
def tw3564421930877788067:=0
def tw13450576848972429090:=0
def tw2824564445756161162:=0
def tw10508380374449204058:=0
def tw4112549121882536280:=0
def tw12873586546962222620:=0
def tw1285940414210103664:=0
def tw17401210554556248405:=0
def tw14656730428215436668:=0
def tw15252884515775905479:=0
def tw15431947356626427564:=0
def tw15942656399202566215:=0
def tw8237982944651910505:=0
def tw8656259626293580682:=0
def tw1292371235453430979:=0
def tw9663689587934809675:=0
def tw4674050371690403852:=0
def tw15010671782057562302:=0
def tw4897071252553792870:=0
def tw17503784849184450490:=0
def tw10617083973868290338:=0
def tw17181475246960535957:=0
def tw5787176887287707102:=0
def tw9677805326956348497:=0
def tw15915840584472050816:=0
def tw17731001490060255587:=0
def tw9624454192236660411:=0
def tw4006194727740119777:=0
def tw8884557966641434241:=0
def tw12717700625507792616:=0
def tw17935502685149660846:=0
def tw2743951420604468173:=0
def tw17846937629856417363:=0
def tw11132979493318541488:=0
def tw15905958303474485986:=0
def tw9678764993016470026:=0
def tw11340610832781340631:=0
def tw2291734448296511146:=0
def tw4478046594925015528:=0
def tw10437109127061045626:=0
def tw5469793999024613325:=0
def tw4837063652271117410:=0
def tw9630375354116150814:=0
def tw3211458567891002880:=0
def tw2581839239169800191:=0
def tw4826175956959073135:=0
def tw8656724081323746216:=0
def tw18311428034726889193:=0
def tw15530008792447441485:=0
def tw11229609618126877252:=0
def tw458603990834569185:=0
def tw15230899120566289210:=0
def tw4661679122887691521:=0
def tw8269950158266278402:=0
def tw4470942605414205433:=0
def tw15079125357328363611:=0
def tw11070246747415445723:=0
def tw11978638377696136359:=0
def tw17717226439417056973:=0
def tw15970067585843195014:=0
def tw1493834039567735345:=0
def tw10497417562276201020:=0
def tw17915485024277148321:=0
def tw11974302907097453095:=0
def tw16764695443824998887:=0
def tw15766981266592697127:=0
def tw18251631092273210859:=0
def tw14985360268952093736:=0
def tw3123202527946652599:=0
def tw11912674538780686078:=0
def tw4439243452282599442:=0
def tw3642126568458032719:=0
def tw17061539950912926019:=0
def tw5786138514173208037:=0
def tw14177721295340355561:=0
def tw13979915629000801974:=0
def tw16513661011079150636:=0
def tw4437265161285958823:=0
def tw5590170614022185152:=0
def tw12554862249492140225:=0
def tw115449854179322912:=0
def tw8416279369293081826:=0
def tw8575999466823155396:=0
def tw3876861872179910627:=0
def tw4391458660437499395:=0
def tw3853120678949302429:=0
def tw248063455036357024:=0
def tw9171041585852879558:=0
def tw10662692389162459603:=0
def tw9816141350482749081:=0
def tw10933423031772777183:=0
def tw7000951885377599219:=0
def tw16983128186355283129:=0
def tw16581277032276079481:=0
def tw7851461689017319903:=0
def tw18353532424420495648:=0
def tw9414198036713227602:=0
def tw11080903380137793498:=0
def tw2291524275776812391:=0
def tw3230654316458162812:=0
def tw6906060530382100580:=0
def tw13602786803042718923:=0
def tw285593272906278227:=0
def tw5102214034800955223:=0
def tw1173877378375519008:=0
def tw3467962835757576655:=0
def tw8864968188461845993:=0
def tw15233842736516618233:=0
def tw7632388723531300728:=0
def tw17067632372497574697:=0
def tw4289446632668770521:=0
def tw11676402666155771242:=0
def tw14311342881684151626:=0
def tw11385850520042036135:=0
def tw11851981762837388248:=0
def tw2648286937314400284:=0
def tw14931332064713693330:=0
def tw4513581860129911276:=0
def tw1014701936971623712:=0
def tw16954062245601432255:=0
def tw15147362379289897429:=0
def tw511745189340383377:=0
def tw16819937661775893720:=0
def tw16537449561546051319:=0
def tw13037775523238784317:=0
def tw10238882509386985744:=0
def tw6078837235388836025:=0
def tw16071223239109543053:=0
def tw5035622144584173313:=0
def tw1143267419074106337:=0
def tw17261425452557780083:=0
def tw14715377233664138867:=0
def tw16620750123837122628:=0
def tw17591429606011573926:=0
def tw17550720792665009054:=0
def tw7956163573092307824:=0
def tw11151269989551359644:=0
def tw17380700783128319925:=0
def tw5843212289284169694:=0
def tw6003533031048776262:=0
def tw16608795321615444284:=0
def tw14599517124584391465:=0
def tw2547498191256920691:=0
def tw6476794849301272948:=0
def tw1423220781304816076:=0
def tw16645971491050940334:=0
def tw9304979071843033962:=0
def tw8565459013576991473:=0
def tw12522147800463643676:=0
def tw1730937536320027860:=0
def tw14504401493642640859:=0
def tw5276510824814227893:=0
def tw5856637358309315565:=0
def tw4301149261249089989:=0
def tw5869260103071525273:=0
def tw14318875455501452640:=0
def tw5714570304711620080:=0
def tw7747645554058385225:=0
def tw6681644255678829978:=0
def tw8006839960472795710:=0
def tw10883997004442471735:=0
def tw11353394882731551440:=0
def tw7153579394194169108:=0
def tw3188343609340138952:=0
def tw6527080292230752066:=0
def tw11481651763522005715:=0
def tw10693856754908019863:=0
def tw12228178063622804941:=0
def tw1797421580973045575:=0
def tw3955141566461666392:=0
def tw10194442550784416222:=0
def tw1242607882838625454:=0
def tw14991557453449812012:=0
def tw11413500172271389261:=0
def tw14757096698534997629:=0
def tw1351483245674949306:=0
def tw17170289322571592039:=0
def tw4899614690327430139:=0
def tw16867012783814230767:=0
def tw16443281343747415026:=0
def tw8329795114853018280:=0
def tw876034947751922804:=0
def tw1344962920714414852:=0
def tw2982594626325925147:=0
def tw12868029700560531230:=0
def tw15729840456977382451:=0
def tw5234703284871692339:=0
def tw4514101306116849859:=0
def tw1216495188398678025:=0
def tw8904346916973627923:=0
def tw17041505051630986337:=0
def tw9424194146701983158:=0
def tw368467576316056980:=0
def tw143447095819834417:=0
def tw5280991545976477420:=0
def tw13129798680437175804:=0
def tw16586031424010693212:=0
def tw16804323562497393275:=0
def tw10288405740841324084:=0
def tw9438256358306595970:=0
def tw4907290391427801358:=0
def tw14561057289184844864:=0
def tw16615795661151863721:=0
def tw13972188413009004065:=0
def tw80802508620715969:=0
def tw6660606764255059660:=0
def tw14241982128948156036:=0
def tw5487109832772936689:=0
def tw1786740324554696972:=0
def tw2921789060865995201:=0
def tw11825418951271917328:=0
def tw15500456214046345752:=0
def tw134376571391078392:=0
def tw690980170317624908:=0
def tw5289334323809250551:=0
def tw3195486197879683542:=0
def tw15190894591503438964:=0
def tw4063435432489424521:=0
def tw1421098797576897170:=0
def tw9426770190080192672:=0
def tw8827917187833646437:=0
def tw9032910210609246413:=0
def tw1780203264873726690:=0
def tw12757840168507764708:=0
def tw3599608696227704114:=0
def tw5605889122798543633:=0
def tw15756805729836761831:=0
def tw14747973866614220538:=0
def tw14312797775081375981:=0
def tw18230797998476766412:=0
def tw14715193795009755110:=0
def tw7250433603777468233:=0
def tw8854487895929210948:=0
def tw2065638731613222999:=0
def tw15288615281149883166:=0
def tw3124207631037147480:=0
def tw10986752209754736302:=0
def tw14462360453318865884:=0
def tw9915100569724409906:=0
def tw13330630137402322561:=0
def tw12280394043862212662:=0
def tw12452246794126586233:=0
def tw11016391060610932021:=0
def tw6986308518494999261:=0
def tw9380418915515753439:=0
def tw13640484750055381320:=0
def tw12531931931532556208:=0
def tw16760559353139601261:=0
def tw15823144487077692482:=0
def tw8357448305663190422:=0
def tw5485260811522797502:=0
def tw7361164589702990987:=0
def tw10977904042019840104:=0
def tw2145804396217628070:=0
def tw15899185068404083853:=0
def tw9418411455072644878:=0
def tw11273511259666935394:=0
def tw18398064806628632819:=0
def tw8891136009795048582:=0
def tw14955461232466812583:=0
def tw4543340559314426753:=0
def tw12150067088490772162:=0
def tw8002122965675857324:=0
def tw15717893685822020480:=0
def tw2730767156418598530:=0
def tw11263348974214723989:=0
def tw1404202518864322655:=0
def tw3790707616976975658:=0
def tw17232608940517161655:=0
def tw1869003011328985:=0
def tw12957038677009611926:=0
def tw16096600274044948835:=0
def tw8480993083819881927:=0
def tw14824150582971705751:=0
def tw8962001098594293922:=0
def tw14205186543046012575:=0
def tw12301500876373515792:=0
def tw4096531855067697341:=0
def tw12384198097479288094:=0
def tw16888594976100887527:=0
def tw10556115853743761919:=0
def tw1143812368321819537:=0
def tw13444621592670083133:=0
def tw8731009024613664667:=0
def tw18254214001041741156:=0
def tw11023244571644451126:=0
def tw7473591211826015528:=0
def tw1292537624429334996:=0
def tw10667197286560597129:=0
def tw4956186730146359706:=0
def tw12426083173745529447:=0
def tw4774965472446028666:=0
def tw14364163299576454335:=0
def tw13764963780314288329:=0
def tw5603272700105441341:=0
def tw8517336167184080995:=0
def tw8887315930465250571:=0
def tw2209669145790668365:=0
def tw11300753829405594400:=0
def tw18441241269289624464:=0
def tw13492547028121363891:=0
def tw14968555535238390089:=0
def tw5847406022771458606:=0
def tw13695244156723501754:=0
def tw4546510221743520326:=0
def tw12339179389351577249:=0
def tw15727547188819064358:=0
def tw15448609520871474495:=0
def tw7835962754974585877:=0
def tw843987150513741359:=0
def tw313391225129639077:=0
def tw14992560881526710552:=0
def tw13835883214376727672:=0
def tw12519595055023972925:=0
def tw14230500922091299788:=0
def tw4193255669121779043:=0
def tw16710299011423048511:=0
def tw15333429983358277697:=0
def tw5013324234312734484:=0
def tw11457387267648028711:=0
def tw10658901935860747528:=0
def tw4862006484162450771:=0
def tw6742974239975490859:=0
def tw4685098117430192877:=0
def tw13763419878337672984:=0
def tw14710002853430755383:=0
def tw15038833009068635694:=0
def tw3945568826514168805:=0
def tw10949326634269436456:=0
def tw2961084586317760817:=0
def tw12706023393024331087:=0
def tw13749299679138867717:=0
end PySem.W.Fast
namespace zW
open PySem L2 L3 L5
open PyProof.Rows hiding St
def top (i:Nat):Stmt:=PySem.Challenge.pw_purseborder_k64_whole_what_helps.main.body.getD i (.Pass ⟨0,0,0,0⟩)
set_option maxHeartbeats 0
section
variable (P:Program)(w:World)(K:Ab)(mg:AI)(base:Heap)
abbrev gJ:=FD P w K mg base "is_whole" 1 ["thing"] (zF zC sk)
abbrev gS:=FD P w K mg base "are_rising" 1 ["things"] (zF zC su)
abbrev gN:=FD P w K mg base "is_owner" 1 ["thing"] (zF zC pB)
abbrev kT:=FD P w K mg base "places_of" 1 ["floor"] (zF zC tq)
abbrev gQ:=FD P w K mg base "at_or_above" 1 ["pair","other"] (zF zC r9)
abbrev ml:=FD P w K mg base "least_pairs" 1 ["pairs"] (zF zC sf)
abbrev Z2:=FD P w K mg base "pairs_ahead_of_changes" 1 ["brims","stall","pair"] (zF zC nS)
abbrev ZE:=FD P w K mg base "_law_cell_at" 1 ["_law_script","_law_k"] (zF yC vJ)
abbrev kU:=FD P w K mg base "_law_stirred" 1 ["_law_cell","_law_count"] (zF zC xK)
abbrev ZG:=FD P w K mg base "_law_amount" 1 ["_law_number","_law_most"] (zF zC p7)
abbrev Z8:=FD P w K mg base "_law_sized" 1 ["_law_number"] (zF yC nV)
abbrev ZA:=FD P w K mg base "_law_held" 1 ["_law_border","_law_pair"] (zF zC rq)
abbrev kW:=FD P w K mg base "is_whole_within" 2 ["thing","least","most"] (zF zC sj)
abbrev ZS:=FD P w K mg base "are_owners" 2 ["thing"] (zF zC mh)
abbrev ZK:=FD P w K mg base "both" 2 ["border","other"] (zF zC nZ)
abbrev gO:=FD P w K mg base "either" 2 ["border","other"] (zF zC qo)
abbrev ZN:=FD P w K mg base "border_ahead_of_way" 2 ["brims","way","border"] (zF zC md)
abbrev gL:=FD P w K mg base "is_row" 2 ["thing"] (zF zC qm)
abbrev Zz:=FD P w K mg base "pairs_inside" 2 ["border","brims"] (zF zC qj)
abbrev Z6:=FD P w K mg base "_law_way" 2 ["_law_place","_law_many","_law_number","_law_size"] (zF zC rp)
abbrev gK:=FD P w K mg base "is_row_within" 3 ["thing","bounds"] (zF zC ql)
abbrev kX:=FD P w K mg base "check_place" 3 ["floor","place"] (zF zC qp)
abbrev ZL:=FD P w K mg base "border_of_either" 3 ["borders"] (zF yC n_)
abbrev ZM:=FD P w K mg base "border_of_all" 3 ["borders"] (zF yC ma)
abbrev ZH:=FD P w K mg base "is_way" 3 ["floor","thing"] (zF zC nW)
abbrev Zr:=FD P w K mg base "word_for" 3 ["border","other"] (zF yC pj)
abbrev ZC:=FD P w K mg base "_law_floor" 3 ["_law_cell","_law_most","_law_brim"] (zF zC px)
abbrev gR:=FD P w K mg base "are_rows_within" 4 ["thing","bounds"] (zF zC qq)
abbrev ZT:=FD P w K mg base "are_brims" 4 ["thing"] (zF zC mi)
abbrev Zx:=FD P w K mg base "ways_from" 4 ["floor","place"] (zF zC nR)
abbrev Zy:=FD P w K mg base "stall_at" 4 ["floor","place"] (zF yC qh)
abbrev ZQ:=FD P w K mg base "are_ways" 5 ["thing","places"] (zF zC me)
abbrev ZR:=FD P w K mg base "are_stalls" 5 ["thing","owners"] (zF zC mf)
abbrev ZO:=FD P w K mg base "border_ahead_of_changes" 5 ["floor","place","border"] (zF yC pC)
abbrev ZI:=FD P w K mg base "is_floor" 6 ["thing"] (zF zC nX)
abbrev Z5:=FD P w K mg base "next_border" 6 ["floor","place","last"] (zF yC nU)
abbrev Z4:=FD P w K mg base "next_round" 7 ["floor","last","fresh"] (zF zC pk)
abbrev pD:=FD P w K mg base "floor_of" 7 ["brims","owners","ways","stalls"] (zF yC vK)
abbrev gH:=FD P w K mg base "rounds" 8 ["floor"] (zF zC tp)
abbrev Zs:=FD P w K mg base "with_way" 8 ["floor","way"] (zF yC nM)
abbrev Zv:=FD P w K mg base "with_coins" 8 ["floor","number","a","b"] (zF yC nP)
abbrev Zu:=FD P w K mg base "with_owner" 8 ["floor","place","owner"] (zF yC nN)
abbrev Zw:=FD P w K mg base "with_brims" 8 ["floor","brims"] (zF yC nQ)
abbrev Zt:=FD P w K mg base "with_stall" 8 ["floor","stall"] (zF yC qg)
abbrev gP:=FD P w K mg base "borders" 9 ["floor"] (zF yC uA)
abbrev gI:=FD P w K mg base "_law_way_more" 9 ["_law_floor_here","_law_xs","_law_owner"] (zF yC u9)
abbrev ZD:=FD P w K mg base "_law_coins_more" 9 ["_law_floor_here","_law_xs"] (zF yC pz)
abbrev Z7:=FD P w K mg base "_law_stall_better" 9 ["_law_floor_here","_law_xs"] (zF yC qk)
abbrev ZJ:=FD P w K mg base "compare" 10 ["one","other"] (zF zC nY)
abbrev ZF:=FD P w K mg base "_law_better" 10 ["_law_floor_here","_law_cell","_law_limit"] (zF yC p0)
abbrev Z9:=FD P w K mg base "_law_no_worse" 11 ["_law_better_here","_law_worse"] (zF zC sg)
variable {K mg}(T:Bt mg)(U:ZU mg)
include T U
theorem Qe (F:Fy K mg "is_whole" (top 11)):gJ P w K mg base:=
 zT [] F
theorem QA (F:Fy K mg "are_rising" (top 15)):gS P w K mg base:=
 zT [(["one","other"],[none,none])] F
theorem Qi (F:Fy K mg "is_owner" (top 17)) (E7:Cm mg "KEEPER" (.str "keeper")) (Gb:Cm mg "TAKER" (.str "taker")):gN P w K mg base:=
 zT [] F
theorem R8 (F:Fy K mg "places_of" (top 22)):kT P w K mg base:=
 zT [] F
theorem Q6 (F:Fy K mg "at_or_above" (top 27)):gQ P w K mg base:=
 zT [] F
theorem RO (F:Fy K mg "least_pairs" (top 28)):ml P w K mg base:=
 zT [] F
theorem RB (F:Fy K mg "pairs_ahead_of_changes" (top 33)):Z2 P w K mg base:=
 zT [] F
theorem R_ (F:Fy K mg "_law_cell_at" (top 60)):ZE P w K mg base:=
 zT [] F
theorem RT (F:Fy K mg "_law_stirred" (top 61)):kU P w K mg base:=
 zT [] F (by intro f Ak A outer s H E hc nd hN hS hr;have hB:=trivial;exact⟨_,pA,jO⟩)
theorem Qb (F:Fy K mg "_law_amount" (top 62)):ZG P w K mg base:=
 zT [] F
theorem RV (F:Fy K mg "_law_sized" (top 65)):Z8 P w K mg base:=
 zT [] F
theorem RX (F:Fy K mg "_law_held" (top 66)):ZA P w K mg base:=
 zT [(["_law_x","_law_y","_law_pair"],[none,none,some 1])] F
theorem Qd (F:Fy K mg "is_whole_within" (top 12)) (Fs:gJ P w K mg base):kW P w K mg base:=
 zT [] F
theorem QB (F:Fy K mg "are_owners" (top 18)) (Fd:Cm mg "MOST_PLACES" (.int 8)) (Ft:gN P w K mg base):ZS P w K mg base:=
 zT [(["owner"],[none])] F
theorem Qz (F:Fy K mg "both" (top 29)) (ES:ml P w K mg base):ZK P w K mg base:=
 zT [(["pair"],[none])] F
theorem Qs (F:Fy K mg "either" (top 30)) (ES:ml P w K mg base):gO P w K mg base:=
 zT [] F
theorem Q3 (F:Fy K mg "border_ahead_of_way" (top 32)) (ES:ml P w K mg base) (Fe:gQ P w K mg base):ZN P w K mg base:=
 zT [(["pair","way"],[none,some 1]),(["pair","brims"],[none,some 0])] F
theorem Qh (F:Fy K mg "is_row" (top 49)) (Fs:gJ P w K mg base):gL P w K mg base:=
 zT [(["number"],[none])] F
theorem RA (F:Fy K mg "pairs_inside" (top 56)) (Fe:gQ P w K mg base):Zz P w K mg base:=
 zT [(["pair","brims"],[none,some 1])] F
theorem RS (F:Fy K mg "_law_way" (top 63)) (FW:ZG P w K mg base):Z6 P w K mg base:=
 zT [] F
theorem Qg (F:Fy K mg "is_row_within" (top 13)) (EO:kW P w K mg base):gK P w K mg base:=
 zT [(["number","bound"],[none,none])] F
theorem Qw (F:Fy K mg "check_place" (top 23)) (EO:kW P w K mg base) (E_:kT P w K mg base):kX P w K mg base:=
 zT [] F
theorem Q1 (F:Fy K mg "border_of_either" (top 35)) (FY:gO P w K mg base):ZL P w K mg base:=
 zT [] F
theorem Q2 (F:Fy K mg "border_of_all" (top 36)) (Hu:ZK P w K mg base):ZM P w K mg base:=
 zT [] F
theorem Qf (F:Fy K mg "is_way" (top 41)) (EO:kW P w K mg base):ZH P w K mg base:=
 zT [] F
theorem Rn (F:Fy K mg "word_for" (top 57)) (Gg:Cm mg "ALIKE" (.str "alike")) (Ge:Cm mg "FIRST" (.str "first")) (FE:Cm mg "NEITHER" (.str "neither")) (FL:Cm mg "SECOND" (.str "second")) (FY:gO P w K mg base):Zr P w K mg base:=
 zT [] F
theorem RY (F:Fy K mg "_law_floor" (top 64)) (EX:kU P w K mg base) (GD:Z6 P w K mg base):ZC P w K mg base:=
 zT [] F
theorem Q9 (F:Fy K mg "are_rows_within" (top 14)) (E9:gK P w K mg base):gR P w K mg base:=
 zT [(["row","bounds"],[none,some 1])] F
theorem QC (F:Fy K mg "are_brims" (top 16)) (EU:Cm mg "MOST_COINS" (.int 12)) (E9:gK P w K mg base):ZT P w K mg base:=
 zT [] F
theorem Ru (F:Fy K mg "ways_from" (top 24)) (EY:kX P w K mg base):Zx P w K mg base:=
 zT [(["number","way","place"],[none,none,some 1])] F
theorem R4 (F:Fy K mg "stall_at" (top 25)) (EY:kX P w K mg base):Zy P w K mg base:=
 zT [] F
theorem Q7 (F:Fy K mg "are_ways" (top 19)) (EU:Cm mg "MOST_COINS" (.int 12)) (Fn:Cm mg "MOST_WAYS" (.int 24)) (EZ:gR P w K mg base) (Fh:gS P w K mg base):ZQ P w K mg base:=
 zT [(["way"],[none]),(["start","starts"],[none,some 4])] F
theorem Q8 (F:Fy K mg "are_stalls" (top 20)) (E7:Cm mg "KEEPER" (.str "keeper")) (EU:Cm mg "MOST_COINS" (.int 12)) (EZ:gR P w K mg base) (Fh:gS P w K mg base):ZR P w K mg base:=
 zT [(["stall"],[none]),(["stall","owners"],[none,some 1])] F
theorem Q4 (F:Fy K mg "border_ahead_of_changes" (top 34)) (Gr:Zy P w K mg base) (ES:ml P w K mg base) (E8:Z2 P w K mg base):ZO P w K mg base:=
 zT [] F
theorem Qj (F:Fy K mg "is_floor" (top 21)) (Gv:ZQ P w K mg base) (FZ:ZR P w K mg base) (F_:ZT P w K mg base) (F0:ZS P w K mg base):ZI P w K mg base:=
 zT [] F
theorem RH (F:Fy K mg "next_border" (top 37)) (E7:Cm mg "KEEPER" (.str "keeper")) (Fu:ZM P w K mg base) (Fc:ZN P w K mg base) (E5:ZO P w K mg base) (F7:Zx P w K mg base) (Fm:ZL P w K mg base):Z5 P w K mg base:=
 zT [(["number","floor"],[none,some 0]),(["way","floor","last"],[none,some 0,some 2])] F
theorem RE (F:Fy K mg "next_round" (top 38)) (FH:Z5 P w K mg base):Z4 P w K mg base:=
 zT [(["way","fresh"],[none,some 2])] F
theorem Qn (F:Fy K mg "floor_of" (top 50)) (Gu:ZI P w K mg base) (FX:gL P w K mg base):pD P w K mg base:=
 zT [(["row"],[none])] F
theorem R6 (F:Fy K mg "rounds" (top 39)) (FU:Z4 P w K mg base) (E_:kT P w K mg base):gH P w K mg base:=
 zT [(["place","border","last"],[none,none,some 3])] F
theorem Ro (F:Fy K mg "with_way" (top 51)) (EV:pD P w K mg base):Zs P w K mg base:=
 zT [] F
theorem Rr (F:Fy K mg "with_coins" (top 52)) (EV:pD P w K mg base) (GP:ZH P w K mg base):Zv P w K mg base:=
 zT [] F
theorem Rq (F:Fy K mg "with_owner" (top 53)) (E7:Cm mg "KEEPER" (.str "keeper")) (EY:kX P w K mg base) (EV:pD P w K mg base) (Ft:gN P w K mg base):Zu P w K mg base:=
 zT [(["stall","owners"],[none,some 3])] F
theorem Rt (F:Fy K mg "with_brims" (top 54)) (EV:pD P w K mg base):Zw P w K mg base:=
 zT [] F
theorem Rp (F:Fy K mg "with_stall" (top 55)) (EV:pD P w K mg base) (FX:gL P w K mg base):Zt P w K mg base:=
 zT [(["other","stall"],[none,some 1])] F
theorem Q0 (F:Fy K mg "borders" (top 43)) (FT:gH P w K mg base):gP P w K mg base:=
 zT [] F
theorem RQ (F:Fy K mg "_law_way_more" (top 67)) (Gq:Zs P w K mg base):gI P w K mg base:=
 zT [(["_law_place","_law_floor_here","_law_owner"],[none,some 0,some 2])] F
theorem RZ (F:Fy K mg "_law_coins_more" (top 68)) (FP:Zv P w K mg base):ZD P w K mg base:=
 zT [] F
theorem RU (F:Fy K mg "_law_stall_better" (top 69)) (FN:Zt P w K mg base):Z7 P w K mg base:=
 zT [(["_law_place","_law_floor_here"],[none,some 0]),(["_law_stall","_law_place"],[none,some 3])] F
theorem Qv (F:Fy K mg "compare" (top 58)) (E_:kT P w K mg base) (Fz:Zz P w K mg base) (Gp:Zr P w K mg base) (FF:gP P w K mg base):ZJ P w K mg base:=
 zT [(["border","brims"],[none,some 2]),(["here","there"],[none,none])] F
theorem Qa (F:Fy K mg "_law_better" (top 70)) (EX:kU P w K mg base) (Fb:gI P w K mg base) (FO:Zu P w K mg base) (Fq:ZD P w K mg base) (FQ:Zw P w K mg base) (Fj:Z7 P w K mg base):ZF P w K mg base:=
 zT [(["_law_place","_law_floor_here"],[none,some 0])] F
theorem RW (F:Fy K mg "_law_no_worse" (top 71)) (GF:ZJ P w K mg base) (FF:gP P w K mg base) (FT:gH P w K mg base) (Gs:ZA P w K mg base):Z9 P w K mg base:=
 zT [(["_law_word"],[none]),(["_law_pair","_law_here","_law_place"],[none,some 3,some 5]),(["_law_pair","_law_here","_law_k","_law_place"],[none,some 3,some 6,some 5])] F
theorem Qc {f:Addr}{fd:FuncData}(F:ue K "law" "law" (top 72) f fd) (F8:Z8 P w K mg base) (F9:ZC P w K mg base) (FI:ZE P w K mg base) (Fb:gI P w K mg base) (FV:ZF P w K mg base) (EX:kU P w K mg base) (FC:Z9 P w K mg base):vI P w K mg base xt 12 f fd ["_law_script"] (uE K (zF zC p9)):=
 OV [] F
end
theorem all_mk {l:PySem.W.OpenLaw}{w:World}{K:Ab}{h:Heap}{mg:AI}{fa:Addr}(X:K.In h) (G:h.Ns mainGlobals mg) (EF:mg "law"=some (.ref fa))
  (h0:Fx K "is_whole" (top 11)) (h1:Fx K "is_whole_within" (top 12)) (h2:Fx K "is_row_within" (top 13)) (h3:Fx K "are_rows_within" (top 14)) (h4:Fx K "are_rising" (top 15)) (h5:Fx K "are_brims" (top 16)) (h6:Fx K "is_owner" (top 17)) (h7:Fx K "are_owners" (top 18)) (h8:Fx K "are_ways" (top 19)) (h9:Fx K "are_stalls" (top 20)) (h10:Fx K "is_floor" (top 21)) (h11:Fx K "places_of" (top 22)) (h12:Fx K "check_place" (top 23)) (h13:Fx K "ways_from" (top 24)) (h14:Fx K "stall_at" (top 25)) (h15:Fx K "at_or_above" (top 27)) (h16:Fx K "least_pairs" (top 28)) (h17:Fx K "both" (top 29)) (h18:Fx K "either" (top 30)) (h19:Fx K "border_ahead_of_way" (top 32)) (h20:Fx K "pairs_ahead_of_changes" (top 33)) (h21:Fx K "border_ahead_of_changes" (top 34)) (Jq:Fx K "border_of_either" (top 35)) (IA:Fx K "border_of_all" (top 36)) (h24:Fx K "next_border" (top 37)) (h25:Fx K "next_round" (top 38)) (h26:Fx K "rounds" (top 39)) (h27:Fx K "is_way" (top 41)) (h28:Fx K "borders" (top 43)) (h29:Fx K "is_row" (top 49)) (h30:Fx K "floor_of" (top 50)) (h31:Fx K "with_way" (top 51)) (h32:Fx K "with_coins" (top 52)) (h33:Fx K "with_owner" (top 53)) (h34:Fx K "with_brims" (top 54)) (h35:Fx K "with_stall" (top 55)) (h36:Fx K "pairs_inside" (top 56)) (h37:Fx K "word_for" (top 57)) (h38:Fx K "compare" (top 58)) (h39:Fx K "_law_cell_at" (top 60)) (h40:Fx K "_law_stirred" (top 61)) (h41:Fx K "_law_amount" (top 62)) (h42:Fx K "_law_way" (top 63)) (h43:Fx K "_law_floor" (top 64)) (h44:Fx K "_law_sized" (top 65)) (h45:Fx K "_law_held" (top 66)) (h46:Fx K "_law_way_more" (top 67)) (h47:Fx K "_law_coins_more" (top 68)) (h48:Fx K "_law_stall_better" (top 69)) (h49:Fx K "_law_better" (top 70)) (h50:Fx K "_law_no_worse" (top 71)) (h51:Fx K "law" (top 72))
  (Gg:Cn K "ALIKE" (.str "alike"))
  (Ge:Cn K "FIRST" (.str "first"))
  (E7:Cn K "KEEPER" (.str "keeper"))
  (EU:Cn K "MOST_COINS" (.int 12))
  (Fd:Cn K "MOST_PLACES" (.int 8))
  (Fn:Cn K "MOST_WAYS" (.int 24))
  (FE:Cn K "NEITHER" (.str "neither"))
  (FL:Cn K "SECOND" (.str "second"))
  (Gb:Cn K "TAKER" (.str "taker"))
  (y0:PySem.W.nsIn K mainGlobals "set"=some none) (y1:PySem.W.nsIn K mainGlobals "zip"=some none) (y2:PySem.W.nsIn K mainGlobals "enumerate"=some none) (y3:PySem.W.nsIn K mainGlobals "abs"=some none)
  (z0:PySem.W.nsIn K mainGlobals "len"=some none) (z1:PySem.W.nsIn K mainGlobals "range"=some none) (z2:PySem.W.nsIn K mainGlobals "any"=some none) (z3:PySem.W.nsIn K mainGlobals "all"=some none) (z4:PySem.W.nsIn K mainGlobals "sorted"=some none) (z5:PySem.W.nsIn K mainGlobals "isinstance"=some none) (z6:PySem.W.nsIn K mainGlobals "bool"=some none) (z7:PySem.W.nsIn K mainGlobals "int"=some none) (z8:PySem.W.nsIn K mainGlobals "str"=some none) (z9:PySem.W.nsIn K mainGlobals "list"=some none) (z10:PySem.W.nsIn K mainGlobals "tuple"=some none) (z11:PySem.W.nsIn K mainGlobals "max"=some none) (z12:PySem.W.nsIn K mainGlobals "min"=some none):
  ∃ fd:FuncData,(∀ (s:Shared) (v:Value),BindsTo s fd ⟨[v],[]⟩ [("_law_script",v)])/\∀ base:Heap,K.In base->base.Ns mainGlobals mg->vI l.prog w K mg base xt 12 fa fd ["_law_script"] (uE K (zF zC p9)):=by
 have T:Bt mg:=⟨Ba X G z0,Ba X G z1,Ba X G z2,Ba X G z3,Ba X G z4,Ba X G z5,Ba X G z6,Ba X G z7,Ba X G z8,Ba X G z9,Ba X G z10,Ba X G z11,Ba X G z12⟩
 have U:ZU mg:=⟨⟨Ba X G y0,Ba X G y1,Ba X G y2⟩,Ba X G y3⟩
 replace Gg:=Gg.mk X G;replace Ge:=Ge.mk X G;replace E7:=E7.mk X G;replace EU:=EU.mk X G;replace Fd:=Fd.mk X G;replace Fn:=Fn.mk X G;replace FE:=FE.mk X G;replace FL:=FL.mk X G;replace Gb:=Gb.mk X G;obtain⟨fd,Fl,hb⟩:=h51.law X G EF λ _ _ _ _ _ _ _ _=>.of_eq rfl;refine⟨fd,hb,λ base _ _=>?_⟩;have Fs:=Qe l.prog w base T U (h0.mk X G);have Fh:=QA l.prog w base T U (h4.mk X G);have Ft:=Qi l.prog w base T U (h6.mk X G) E7 Gb;have E_:=R8 l.prog w base T U (h11.mk X G);have Fe:=Q6 l.prog w base T U (h15.mk X G);have ES:=RO l.prog w base T U (h16.mk X G);have E8:=RB l.prog w base T U (h20.mk X G);have FI:=R_ l.prog w base T U (h39.mk X G);have EX:=RT l.prog w base T U (h40.mk X G);have FW:=Qb l.prog w base T U (h41.mk X G);have F8:=RV l.prog w base T U (h44.mk X G);have Gs:=RX l.prog w base T U (h45.mk X G);have EO:=Qd l.prog w base T U (h1.mk X G) Fs;have F0:=QB l.prog w base T U (h7.mk X G) Fd Ft;have Hu:=Qz l.prog w base T U (h17.mk X G) ES;have FY:=Qs l.prog w base T U (h18.mk X G) ES;have Fc:=Q3 l.prog w base T U (h19.mk X G) ES Fe;have FX:=Qh l.prog w base T U (h29.mk X G) Fs;have Fz:=RA l.prog w base T U (h36.mk X G) Fe;have GD:=RS l.prog w base T U (h42.mk X G) FW;have E9:=Qg l.prog w base T U (h2.mk X G) EO;have EY:=Qw l.prog w base T U (h12.mk X G) EO E_;have Fm:=Q1 l.prog w base T U (Jq.mk X G) FY;have Fu:=Q2 l.prog w base T U (IA.mk X G) Hu;have GP:=Qf l.prog w base T U (h27.mk X G) EO;have Gp:=Rn l.prog w base T U (h37.mk X G) Gg Ge FE FL FY;have F9:=RY l.prog w base T U (h43.mk X G) EX GD;have EZ:=Q9 l.prog w base T U (h3.mk X G) E9;have F_:=QC l.prog w base T U (h5.mk X G) EU E9;have F7:=Ru l.prog w base T U (h13.mk X G) EY;have Gr:=R4 l.prog w base T U (h14.mk X G) EY;have Gv:=Q7 l.prog w base T U (h8.mk X G) EU Fn EZ Fh;have FZ:=Q8 l.prog w base T U (h9.mk X G) E7 EU EZ Fh;have E5:=Q4 l.prog w base T U (h21.mk X G) Gr ES E8;have Gu:=Qj l.prog w base T U (h10.mk X G) Gv FZ F_ F0;have FH:=RH l.prog w base T U (h24.mk X G) E7 Fu Fc E5 F7 Fm;have FU:=RE l.prog w base T U (h25.mk X G) FH;have EV:=Qn l.prog w base T U (h30.mk X G) Gu FX;have FT:=R6 l.prog w base T U (h26.mk X G) FU E_;have Gq:=Ro l.prog w base T U (h31.mk X G) EV;have FP:=Rr l.prog w base T U (h32.mk X G) EV GP;have FO:=Rq l.prog w base T U (h33.mk X G) E7 EY EV Ft;have FQ:=Rt l.prog w base T U (h34.mk X G) EV;have FN:=Rp l.prog w base T U (h35.mk X G) EV FX;have FF:=Q0 l.prog w base T U (h28.mk X G) FT;have Fb:=RQ l.prog w base T U (h46.mk X G) Gq;have Fq:=RZ l.prog w base T U (h47.mk X G) FP;have Fj:=RU l.prog w base T U (h48.mk X G) FN;have GF:=Qv l.prog w base T U (h38.mk X G) E_ Fz Gp FF;have FV:=Qa l.prog w base T U (h49.mk X G) EX Fb FO Fq FQ Fj;have FC:=RW l.prog w base T U (h50.mk X G) GF FF FT Gs;exact Qc l.prog w base T U Fl F8 F9 FI Fb FV EX FC
theorem walk {l:PySem.W.OpenLaw}{q:Program}{loose:List Str}{XP:(Str->Option Value)->Heap->Prop}{YP:World->Heap->Prop}{d:DefRec}{K:Params->Ab}(hn:l.most=some 63) (Dq:d.params.defaults=[])
  (hY:∀ (w:World) (h:Heap),YP w h->(K w.params).In h)
  (F:∀ (w:World) (mg:AI) (fa:Addr) (h:Heap),(K w.params).In h->h.Ns mainGlobals mg->mg d.name=some (.ref fa)->
   ∃ fd:FuncData,(∀ (s:Shared) (u:Value),BindsTo s fd ⟨[u],[]⟩ [("_law_script",u)])/\∀ base:Heap,(K w.params).In base->base.Ns mainGlobals mg->vI l.prog w (K w.params) mg base xt 12 fa fd ["_law_script"] (uE (K w.params) (zF zC p9))):
  PySem.W.WalkO q loose XP YP l.row.toRowW d [] (λ f vs=>PySem.call f vs):=
 L2.YH (n:=63) (k:=12) (x:="_law_script") (CX:=λ _=>xt) (sp:=λ w=>uE (K w.params) (zF zC p9)) hn (by decide) Dq ⟨rfl,by decide,by decide⟩ hY F (λ _ _ a ns hl hO hS=>Px Pu hO hS hl) λ _ _ _ _ _ z=>z
end zW
open PySem PySem.W PyProof.Rows
set_option maxHeartbeats 0 in
theorem PySem.Challenge.cw_purseborder_k64_whole_what_helps_holds : PySem.Challenge.rw_purseborder_k64_whole_what_helps.Holds := by
 w_on;o_law;k_head;(case hw=>w_witness2)
 k_fill
 refine zW.walk (l:=PySem.Challenge.rw_purseborder_k64_whole_what_helps) rfl rfl (λ w h Y=>PySem.W.kIn_of Y) ?F
 case F=>
  intro w mg fa h KX G Dj;refine' zW.all_mk KX G Dj ?_ ?_ ?_ ?_ ?_ ?_ ?_ ?_ ?_ ?_ ?_ ?_ ?_ ?_ ?_ ?_ ?_ ?_ ?_ ?_ ?_ ?_ ?_ ?_ ?_ ?_ ?_ ?_ ?_ ?_ ?_ ?_ ?_ ?_ ?_ ?_ ?_ ?_ ?_ ?_ ?_ ?_ ?_ ?_ ?_ ?_ ?_ ?_ ?_ ?_ ?_ ?_ ?_ ?_ ?_ ?_ ?_ ?_ ?_ ?_ ?_ ?_ ?_ ?_ ?_ ?_ ?_ ?_ ?_ ?_ ?_ ?_ ?_ ?_ ?_ ?_ ?_ ?_
  all_goals first | exact L3.Ei.i (by k_is) (by k_is) (by k_is) (by k_is) (by kernel_rfl) (by k_is) (by k_is) (by k_is) (by k_is) (by k_is) (by k_is) | exact L3.Ec.i (by k_is) (by k_is) (by k_is) (by k_is) (by kernel_rfl) | exact L5.Fx.i (by k_is) (by k_is) (by k_is) (by k_is) | k_is | exact L5.Cn.i (by k_is) (by exact⟨_,rfl⟩)
