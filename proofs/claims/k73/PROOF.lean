import PyProof.Rows.All
import Wide.All
import OpenK.AllK
import Wide.FinOn
import Lean
import PyProof.EqAt
import PyProof.EqKinds
import PyProof.TupleCall
import PySem.SetOps
import PyProof.SetScanFacts
import PyProof.TupleKey
import PyProof.SetKind
import PyProof.SetRoads
import PyProof.IsRules
import PyProof.ZipIter
import PyProof.TupleIter
import PyProof.ListMulRoad
import PyProof.FactsAll.tuple
import PyProof.ListRange
import PyProof.Draws
import PyProof.EnumFor
import PyProof.Rows.ListMul
import PyProof.AutoListH
import PyProof.ExcInit
import PyProof.ExcClass2
import PyProof.InstStore
import PyProof.InstStoreFacts
import PyProof.ExcArgsOwn
import PyProof.IsInstance
import PyProof.IsInstanceH
import PyProof.StationsW
import PyProof.Rows.CatchOwn
import PyProof.FactsAll.dict_1
import PyProof.Rows.Range3
import PyProof.FitsBits
import PyProof.Rows.CallKwBuiltin
import PyProof.MinMaxWalk
import PyProof.WalkInts
import PyProof.Rows.MinMaxN
import PySem.Challenge.RW_purseborder_k73_worth_refused
set_option Elab.async false
set_option linter.all false
set_option maxRecDepth 100000
set_option genSizeOf false
set_option compiler.extract_closed false
set_option bootstrap.genMatcherCode false
abbrev Af:=PySem.Value->PySem.Shared->Prop
abbrev Ai:=List (PySem.Addr×PySem.Obj)
abbrev Ae:=List PySem.Value
abbrev Au:=PySem.Str->Option PySem.Value
abbrev Aq:=Array PySem.Value
def AI {p:Prop}[Decidable p](h:decide p=true:=by decide +kernel):p:=of_decide_eq_true h
noncomputable section
def gV:=@PySem.wpAny_bind
def za1:=@PySem.Heap.get?_push_of_some
def za2:=@PySem.wpAny_loadPart_at
def za3:=@PySem.wpAny_mono
def za4:=@PySem.wpAny_field
def za5:=@decide_eq_false
def za6:=@PySem.Heap.get?_update_other
def za7:=@PySem.wpAny_holding
def za8:=@PySem.Heap.get?_update_self
def za9:=@PySem.wpAny_newObj_type
def zaA:=@decide_eq_true
def zaB:=@PySem.wpAny_call_entry
def zaC:=@PySem.wpAny_seqItems
def zaD:=@PySem.wpAny_setState_of
def zaE:=@PySem.wpAny_setField
def zaF:=@PySem.wpAny_isSubtype_exc
def zaG:=@PySem.wpAny_truthy_bool
def zaH:=@PySem.wpAny_callSpecial?_slot
def zaI:=@PySem.wpAny_typeOf
def zaJ:=@PySem.wpAny_rule
def zaK:=@PySem.wpAny_execs_nil
def zaL:=@PySem.wpAny_passesOwn
def zaM:=@PySem.wpAny_letGo
def zaN:=@PySem.wpAny_Call_Name_kw
def zaO:=@PySem.wpAny_pyIter_list
def zaP:=@PySem.Heap.get?_update_ne
def zaQ:=@PySem.wpAny_setField_rec
def zaR:=@PySem.wpAny_forIn_list
def zaS:=@PySem.wpAny_askSetting
def zaT:=@PySem.Heap.get?_none_of_le
def An:=@Option.bind_eq_some_iff
def Av:=@List.mem_cons_self
def AD:=@List.mem_cons_of_mem
def AK:=@Option.map_eq_some_iff
def AY:=@List.not_mem_nil
def Bj:=@List.map_nil
def Bs:=@List.lookup_cons
def Br:=@List.pairwise_cons
def Bp:=@List.contains_cons
def BF:=@List.nodup_cons
def BE:=@List.find?_cons
def BM:=@Nat.ne_of_gt
def BS:=@Nat.lt_or_ge
def BR:=@List.any_cons
def B3:=@Bool.false_ne_true
def B2:=@Nat.lt_succ_of_lt
def Cc:=@List.replicate_succ
def Ce:=@List.mem_iff_getElem
def CB:=@List.getElem?_append_right
def CA:=@List.getElem?_append_left
def Cz:=@List.length_nil
def Cy:=@List.flatten_cons
def Cw:=@Array.getElem_toList
def Cv:=@List.mem_flatMap
def CG:=@List.filterMap_cons
def CF:=@List.append_nil
def CD:=@List.pairwise_map
def CC:=@Int.toNat_natCast
def C3:=@List.mem_append_left
def C2:=@List.mem_filterMap
def C1:=@List.length_set
def C0:=@Bool.and_false
def CZ:=@List.getElem?_set
def CY:=@Array.getElem?_eq_none
def CW:=@List.map_drop
def CV:=@Nat.le_add_right
def CU:=@Bool.or_true
def Dk:=@List.of_mem_zip
def Dj:=@List.length_take
def Di:=@Nat.lt_trans
def Dh:=@Array.size_map
def Dg:=@List.pairwise_iff_getElem
def Df:=@Nat.mod_lt
def De:=@List.toList_toArray
def Dd:=@List.length_filter_le
def Dc:=@Int.lt_of_le_of_lt
def DY:=@Option.isSome_iff_exists
def DX:=@List.getElem?_replicate
def DW:=@List.forIn_cons
def DV:=@List.getElem_range
def DU:=@Array.getD_eq_getD_getElem?
def DT:=@Bool.and_self
def DS:=@List.all_map
def DR:=@List.map_congr_left
def DQ:=@Nat.mul_comm
def DP:=@Nat.lt_trichotomy
def DN:=@Array.getElem?_setIfInBounds
def DM:=@List.foldl_cons
def DL:=@List.map_take
def DJ:=@List.zipIdx_cons
def DI:=@Nat.le_succ
def Eu:=@Array.append_assoc
def Et:=@List.getElem?_set_self
def Es:=@List.getElem?_set_ne
def Er:=@List.zip_cons_cons
def Ep:=@List.length_drop
def Eo:=@Bool.not_eq_true'
def En:=@List.ext_getElem
def Em:=@List.range_succ_eq_map
def El:=@Nat.eq_zero_or_pos
def Ek:=@List.nodup_range
def Ej:=@List.pairwise_append
def Eh:=@List.getElem?_cons_succ
def Eg:=@List.take_append_drop
def Ef:=@List.perm_ext_iff_of_nodup
def Ee:=@List.getElem?_toArray
def Ed:=@List.mem_iff_getElem?
def Eb:=@Bool.or_eq_true
def Ea:=@Int.mul_le_mul_of_nonneg_right
def D_:=@List.getElem?_cons_zero
def zc8:=@Array.getElem?_setIfInBounds_ne
def AB:=@List.size_toArray
def Be:=@List.getElem?_eq_getElem
def AQ:=@List.getElem?_eq_some_iff
def AM:=@List.getElem?_map
def Ak:=@Nat.le_refl
def Ao:=@List.mem_cons
def Ax:=@List.map_cons
def AH:=@List.length_map
def Ap:=@PySem.Heap.lt_size
def AJ:=@PySem.Heap.get?_push_size
def Ar:=@List.mem_map
def BJ:=@List.getD_eq_getElem?_getD
def C6:=@Bool.not_false
def Aw:=@Nat.ne_of_lt
def A5:=@List.mem_append_right
def C5:=@Bool.not_true
def AX:=@List.mem_singleton
def B6:=@List.mem_of_getElem?
def Bu:=@Array.getElem?_eq_getElem
def A4:=@List.mem_append
def Bb:=@List.length_cons
def AO:=@List.mem_range
def Bi:=@PySem.W.mg_none_of
def Ba:=@Nat.lt_of_lt_of_le
def Bh:=@Bool.false_eq_true
def C4:=@List.length_range
def A3:=@Int.le_refl
def BX:=@Bool.eq_iff_iff
def BI:=@List.mem_filter
def BH:=@Option.bind_some
def Bl:=@List.any_eq_true
def Ad:=@PySem.wpAny_pure
def BG:=@Array.length_toList
def BW:=@Array.getElem?_toList
def A2:=@Nat.zero_le
def A_:=@Option.some.inj
def AU:=@List.map_map
def Cj:=@List.length_append
def Ci:=@List.getElem_mem
def Bk:=@Nat.le_trans
def Cg:=@Nat.lt_irrefl
def CI:=@Nat.lt_succ_self
def BV:=@Nat.le_of_lt
def B5:=@List.all_eq_true
def Bc:=@Bool.and_eq_true
def Cf:=@List.map_append
def BU:=@Int.emod_nonneg
def B4:=@Int.emod_lt_of_pos
def CH:=@Int.toNat_of_nonneg
open Lean in
def zR:Nat->Term->MacroM (TSyntax `rcasesPat)
|0,_=>Macro.throwUnsupported
|n+1,t=>match t with
 |`(#[$xs,*])=>do let ys<-xs.getElems.mapM (zR n);`(rcasesPat|⟨$[$ys:rcasesPat],*⟩)
 |`(_)=>`(rcasesPat|_)
 |`($x:ident)=>`(rcasesPat|$x:ident)
 |_=>Macro.throwUnsupported
local macro_rules|`(tactic|let $p:term:=$e)=>do let q<-zR 9 p;`(tactic|obtain $q:rcasesPat:=$e)
local macro_rules|`(tactic|simp! [$a,*] $[$l:location]?)=>`(tactic|simp only [$a,*] $[$l:location]?)
local macro_rules|`(tactic|exists $e)=>`(tactic|simpa using $e)
local macro_rules|`(tactic|show $e)=>`(tactic|refine $e)
local macro_rules|`(tactic|exact $e)=>`(tactic|refine $e)
local macro_rules|`(#[])=>`(by simp)|`(#[$xs,*])=>`(⟨$xs,*⟩)
local macro_rules|`(↑$x)=>`(some $x)
local macro_rules|`(⋯)=>`(by lia)
local macro_rules|`(())=>`(by decide)
abbrev Ac:=PySem.W.Frag
local macro_rules(kind:=Lean.Parser.Command.declaration)|s=>do
 if s[0][4].getNumArgs>0||![``Lean.Parser.Command.definition,``Lean.Parser.Command.abbrev].contains s[1].getKind then Lean.Macro.throwUnsupported
 return s.setArg 0 (s[0].setArg 4 (Lean.mkNullNode [Lean.mkNode ``Lean.Parser.Command.noncomputable [Lean.mkAtom "noncomputable"].toArray].toArray))
namespace L2
open PySem PySem.Spec PyProof.Rows
abbrev Key:=Sum Int Str
def pL:Key->Value->Bool
 | .inl k,v=>Value.isInt k v
 | .inr x,v=>Value.isStrOf x v
def My (w:World):Key->Int
 | .inl k=>hashInt k
 | .inr x=>hashStr w x
theorem sk:∀ {k:Key}{v:Value},pL k v=true->(∃ i t,k=Sum.inl i/\v=Value.int i t)\/(∃ x t,k=Sum.inr x/\v=Value.str x t)
 | .inl i,v,h=>by
  let#[t,e]:=Value.isInt_shape (k:=i) (v:=v) h;show .inl #[i,t,rfl,e]
 | .inr x,v,h=>by
  let#[t,e]:=Value.isStrOf_shape (x:=x) (v:=v) h;show .inr #[x,t,rfl,e]
def Mx (i:Int) (t:Tok):pL (.inl i) (.int i t)=true:=by simp[pL,Value.isInt]
def Mw (x:Str) (t:Tok):pL (.inr x) (.str x t)=true:=by simp[pL,Value.isStrOf]
def Mu (a b:Int):decide ((Sum.inl a:Key)=Sum.inl b)=(a == b):=by
 by_cases e:a=b
 .subst e;simp
 .have h:¬ (Sum.inl a:Key)=Sum.inl b:=λ q=>e (Sum.inl.inj q);rw[za5 h];show (beq_eq_false_iff_ne.mpr e).symm
def Mr (a b:Str):decide ((Sum.inr a:Key)=Sum.inr b)=decide (a=b):=by
 by_cases e:a=b
 .subst e;simp
 .have h:¬ (Sum.inr a:Key)=Sum.inr b:=λ q=>e (Sum.inr.inj q);rw[za5 h,za5 e]
def Mt (a:Int) (b:Str):decide ((Sum.inl a:Key)=Sum.inr b)=false:=za5 (λ q=>nomatch q)
def Ms (a:Str) (b:Int):decide ((Sum.inr a:Key)=Sum.inl b)=false:=za5 (λ q=>nomatch q)
def we (prog:Program) (w:World):PySem.KeyKind prog w Key where
 is:=pL
 hash:=My w
 inj:=λ v a b ha hb=>by
  rcases sk ha with ⟨i,t,rfl,rfl⟩ | ⟨x,t,rfl,rfl⟩
  .rcases sk hb with ⟨j,u,rfl,e⟩ | ⟨y,u,rfl,e⟩
   .injection e with e1 _;rw[e1]
   .show nomatch e
  .rcases sk hb with ⟨j,u,rfl,e⟩ | ⟨y,u,rfl,e⟩
   .show nomatch e
   .injection e with e1 _;rw[e1]
 byValue:=λ k v h=>by
  rcases sk h with ⟨i,t,rfl,rfl⟩ | ⟨x,t,rfl,rfl⟩ <;> rfl
 pyHash:=λ hv h=>by
  rcases sk hv with ⟨i,t,rfl,rfl⟩ | ⟨x,t,rfl,rfl⟩
  .show wpAny_pyHash_int h
  .show wpAny_pyHash_str h
 eqBool:=λ hu hv h=>by
  rcases sk hu with ⟨i,t,rfl,rfl⟩ | ⟨x,t,rfl,rfl⟩
  .rcases sk hv with ⟨j,u,rfl,rfl⟩ | ⟨y,u,rfl,rfl⟩
   .rw[Mu] at h;show wpAny_eqBool_int h
   .rw[Mt] at h;show SeqAt.EqAt.int_str i t y u _ _ _ _ h
  .rcases sk hv with ⟨j,u,rfl,rfl⟩ | ⟨y,u,rfl,rfl⟩
   .rw[Ms] at h;show SeqAt.EqAt.str_int x t j u _ _ _ _ h
   .rw[Mr] at h;show wpAny_eqBool_str h
 «strs»:=λ k x t v h=>by
  rcases sk h with ⟨i,u,rfl,e⟩ | ⟨y,u,rfl,e⟩
  .show nomatch e
  .injection e with e1 _
   subst e1;cases v <;> rfl
def NC (prog:Program) (w:World) (i:Int) (t:Tok):(we prog w).is (.inl i) (.int i t)=true:=Mx i t
def NB (prog:Program) (w:World) (x:Str) (t:Tok):(we prog w).is (.inr x) (.str x t)=true:=Mw x t
inductive V where
 | zo | bl (b:Bool) | int (i:Int) | str (x:Str) | mq (b:Array UInt8) | gK (b:UInt64) | ref (a:Addr) | ty (n:String)
 deriving DecidableEq
def RelV:V->Value->Prop
 | .zo,u=>u=Value.none
 | .bl b,u=>u=Value.bool b
 | .int i,u=>∃ t,u=Value.int i t
 | .str x,u=>∃ t,u=Value.str x t
 | .mq b,u=>∃ t,u=Value.bytes b t
 | .gK b,u=>∃ t,u=Value.float b t
 | .ref a,u=>u=Value.ref a
 | .ty n,u=>u=Value.type n
abbrev Vals:List V->List Value->Prop:=Paired RelV
theorem Vals.length {xs:List V}{us:Ae}(r:Vals xs us):xs.length=us.length:=Paired.length r
theorem Vals.get:∀ {xs:List V}{us:Ae}{i:Nat}{x:V},Vals xs us->xs[i]?=↑x->∃ u,us[i]?=↑u/\RelV x u
 | _,_,_,_,.nil,e=>by simp at e
 | _,_,0,_,.cons r _,e=>by simp at e;subst e;show#[_,rfl,r]
 | _,_,i+1,x,.cons _ t,e=>by
  let#[u,h1,h2]:=Vals.get (i:=i) (x:=x) t (by exists e);show#[u,by simpa using h1,h2]
theorem Vals.set {x:V}{u:Value}(r:RelV x u):∀ {xs:List V}{us:Ae}(i:Nat),Vals xs us->Vals (xs.set i x) (us.set i u)
 | _,_,_,.nil=>.nil
 | _,_,0,.cons _ t=>.cons r t
 | _,_,i+1,.cons q t=>.cons q (Vals.set r i t)
theorem Vals.append:∀ {xs ys:List V}{us ws:Ae},Vals xs us->Vals ys ws->Vals (xs++ys) (us++ws)
 | _,_,_,_,.nil,s=>s
 | _,_,_,_,.cons r t,s=>.cons r (Vals.append t s)
theorem Vals.take:∀ {xs:List V}{us:Ae}(n:Nat),Vals xs us->Vals (xs.take n) (us.take n)
 | _,_,0,_=>.nil
 | _,_,_+1,.nil=>.nil
 | _,_,n+1,.cons r t=>.cons r (Vals.take n t)
theorem Vals.drop:∀ {xs:List V}{us:Ae}(n:Nat),Vals xs us->Vals (xs.drop n) (us.drop n)
 | _,_,0,r=>r
 | _,_,_+1,.nil=>.nil
 | _,_,n+1,.cons _ t=>Vals.drop n t
def vH:Option V->Option Value->Prop
 | some v,↑u=>RelV v u
 | none,none=>True
 | _,_=>False
def KV {κ:Type}:List (κ × V)->List (κ × Value)->Prop:=Paired λ(p:κ × V) (q:κ × Value)=>p.1=q.1/\RelV p.2 q.2
def kV:Key->V
 | .inl i=>.int i
 | .inr x=>.str x
inductive HO where
 /-- a list -/
 | lst (xs:List V)
 /-- a tuple (never changes) -/
 | tup (xs:List V)
 /-- a dict whose keys are ints and texts;one whose keys are tuples of ints and texts (the empty one is both) -/
 | dK (Ab:List (Key×V)) | dT (Ab:List (List Key×V))
 /-- a set of ints: Aa members,Aa size -/
 | set (S:Int->Bool) (n:Nat)
 /-- an instance of the class at C,Aa dict at dx,Aa attributes -/
 | ins (C dx:Addr) (fs:List (Str×V))
 /-- the dict of the instance at x -/
 | own (x:Addr)
 /-- the dict of an exception -/
 | xd (fs:List (Str×V))
 /-- a bound method,f of x -/
 | met (f x:Addr)
 /-- a range object lo,lo+1,.. below hi -/
 | ik (lo hi:Int)
 /-- a thing that is known to the object (the script;a dict while a loop walks it): read,never written while it is so -/
 | xK (o:Obj) (u:HO)
 /-- a code object's table -/
 | qg (ps:Aq)
 /-- any other thing,by what is true of Aa one object (a def of one's own: yB a S n:=HO.ext λ h=>..) -/
 | ext (φ:Heap->Prop)
abbrev Hp:=Addr->Option HO
def upd (H:Hp) (a:Addr) (o:HO):Hp:=λ b=>if b=a then ↑o else H b
def zX {H:Hp}{a:Addr}{o:HO}:upd H a o a=↑o:=by unfold upd;rw[if_pos rfl]
def zE {H:Hp}{a b:Addr}{o:HO}(h:b≠a):upd H a o b=H b:=by unfold upd;rw[if_neg h]
def vX {H:Hp}{a b:Addr}{o u:HO}(h:H a=↑o) (h':H b=↑u) (d:o≠u):a≠b:=by
 intro e;subst e;rw[h] at h';show d (A_ h')
def xj {H:Hp}{a b:Addr}{o:HO}(h:H a=↑o) (h':H b=none):a≠b:=by
 intro e;subst e;rw[h] at h';cases h'
def fX (h:Heap) (a:Addr):Prop:=∃ o,h.get? a=↑o/\o.dict=none
def fX.new (h:Heap) {d:Aq}{n:Nat}:fX (h.push { cls:=.type "tuple",data:=.seq d n }) h.objs.size:=#[_,AJ _ rfl,rfl]
section
variable (P:Program)(w:World)
def yI (H:Hp) (h:Heap) (a:Addr):HO->Prop
 | .lst xs=>xs.length<=sizeLine/\∃ (Aa:Ae) (n:Nat),Vals xs Aa/\h.get? a=↑{ cls:=.type "list",data:=.seq Aa.toArray n }
 | .tup xs=>(xs.length<=sizeLine/\fX h a)/\∃ Aa:List Value,Vals xs Aa/\IsTup h a Aa.toArray
 | .dK Ab=>Ab.length<=sizeLine/\(a == sysModules)=false/\∃ vs,KV Ab vs/\h.DictOf (we P w) a vs
 | .dT Ab=>Ab.length<=sizeLine/\(a == sysModules)=false/\∃ xs:List (List Key×Addr×Value),
   Paired (λ(p:List Key×V) (q:List Key×Addr×Value)=>p.1=q.1/\H q.2.1=↑(.tup (p.1.map kV))/\RelV p.2 q.2.2) Ab xs/\
   ∃ o es ep,h.get? a=↑o/\o.ExactDict/\o.data=.dict es ep/\es.toList=xs.map (entryOfKey (tupleKind (we P w)))/\(xs.map (·.1)).Nodup
 | .set S n=>h.SetOf (intKind P w) a S n
 | .ins C dx fs=>H dx=↑(.own a)/\fs.length<=1000/\dx≠a/\h.get? a=↑(PySem.W.instObj C dx)/\
   ∃ mA,h.Ns1 dx mA/\(∀ f,vH (fs.lookup f) (mA f))/\PySem.Within mA (fs.map (·.1))
 | .own _=>∃ o,h.get? a=↑o
 | .xd fs=>∃ mA,h.Ns1 a mA/\∀ f,vH (fs.lookup f) (mA f)
 | .ik lo hi=>∃ t u v,h.get? a=↑{ cls:=.type "range",data:=.fields [.int lo t,.int hi u,.int 1 v].toArray }
 | .xK o u=>h.get? a=↑o/\yI H h a u
 | .qg ps=>h.get? a=↑{ cls:=.none,data:=.fields ps }
 | .met f x=>h.get? a=↑(PySem.W.methodObj (.ref f) (.ref x))
 | .ext φ=>φ h/\(∃ o,h.get? a=↑o)/\∀ h1 h2:Heap,φ h1->(∀ o,h1.get? a=↑o->h2.get? a=↑o)->φ h2
def yc (H:Hp) (h:Heap):Prop:=∀ a o,H a=↑o->yI P w H h a o
end
section
variable {P:Program}{w:World}{H H':Hp}{h h':Heap}{a:Addr}{o:HO}
theorem yI.lt (x:yI P w H h a o):a<h.objs.size:=by
 cases o with
 | lst xs=>let#[_,_,_,_,e]:=x;show Ap e
 | tup xs=>let#[_,_,_,p]:=x;show p.lt
 | dK Ab=>let#[_,_,_,_,o,_,_,e,_]:=x;show Ap e
 | dT Ab=>let#[_,_,_,_,o,_,_,e,_]:=x;show Ap e
 | set S n=>let#[o,_,_,_,e,_]:=x;show Ap e
 | ins C dx fs=>let#[_,_,_,e,_]:=x;show Ap e
 | own y=>let#[_,e]:=x;show Ap e
 | xd fs=>let#[_,#[_,_,_,e,_],_]:=x;show Ap e
 | ik lo hi=>let#[_,_,_,e]:=x;show Ap e
 | xK ob u=>let#[e,_]:=x;show Ap e
 | qg ps=>show Ap (show h.get? a=↑_ from x)
 | met f y=>show Ap (show h.get? a=↑_ from x)
 | ext φ=>let#[_,#[_,e],_]:=x;show Ap e
theorem Paired.ka {α β:Type}{F G:α->β->Prop}:∀ {l₁:List α}{l₂:List β},Paired F l₁ l₂->(∀ a b,F a b->G a b)->Paired G l₁ l₂
 | _,_,.nil,_=>.nil
 | _,_,.cons r t,f=>.cons (f _ _ r) (Paired.ka t f)
def yI.wK (x:yI P w H h a o) (k:∀ b u,(b=a\/H b=↑(.own a))->h.get? b=↑u->h'.get? b=↑u)
  (ho:∀ b,H b=↑(.own a)->H' b=↑(.own a)) (ht:∀ b xs,H b=↑(.tup xs)->H' b=↑(.tup xs)):yI P w H' h' a o:=by
 induction o with
 | lst xs=>let#[z,Aa,n,r,e]:=x;show#[z,Aa,n,r,k _ _ (.inl rfl) e]
 | tup xs=>let#[#[z,y,u,v],Aa,r,ob,e,c]:=x;show#[#[z,y,k _ _ (.inl rfl) u,v],Aa,r,ob,k _ _ (.inl rfl) e,c]
 | dK Ab=>let#[z,y,vs,r,ob,es,ep,e,c]:=x;show#[z,y,vs,r,ob,es,ep,k _ _ (.inl rfl) e,c]
 | dT Ab=>
  let#[z,y,xs,r,ob,es,ep,e,c]:=x;show#[z,y,xs,Paired.ka r λ p q z=>#[z.1,ht _ _ z.2.1,z.2.2],ob,es,ep,k _ _ (.inl rfl) e,c]
 | set S n=>let#[ob,es,ep,t,e,c]:=x;show#[ob,es,ep,t,k _ _ (.inl rfl) e,c]
 | ins C dx fs=>
  let#[d,z,ne,e,mA,#[od,es,ep,e2,c],r]:=x;show#[ho _ d,z,ne,k _ _ (.inl rfl) e,mA,#[od,es,ep,k _ _ (.inr d) e2,c],r]
 | own y=>let#[ob,e]:=x;show#[ob,k _ _ (.inl rfl) e]
 | xd fs=>let#[mA,#[od,es,ep,e,c],r]:=x;show#[mA,#[od,es,ep,k _ _ (.inl rfl) e,c],r]
 | ik lo hi=>let#[t,u,v,e]:=x;show#[t,u,v,k _ _ (.inl rfl) e]
 | xK ob u ih=>let#[e,q]:=x;show#[k _ _ (.inl rfl) e,ih q]
 | qg ps=>
  have e:h.get? a=↑{ cls:=.none,data:=.fields ps }:=x;change h'.get? a=↑{ cls:=.none,data:=.fields ps };show k a _ (.inl rfl) e
 | met f y=>
  have e:h.get? a=↑(PySem.W.methodObj (.ref f) (.ref y)):=x;change h'.get? a=↑(PySem.W.methodObj (.ref f) (.ref y));show k a _ (.inl rfl) e
 | ext φ=>let#[p,#[o,e],st]:=x;show#[st _ _ p λ o q=>k _ _ (.inl rfl) q,#[o,k _ _ (.inl rfl) e],st]
theorem yc.lt (x:yc P w H h) (e:H a=↑o):a<h.objs.size:=(x a o e).lt
def yc.fresh (x:yc P w H h) (e:h.objs.size<=a):H a=none:=by
 cases q:H a with
 | none=>rfl
 | some u=>show absurd (Ba (x.lt q) e) (Cg _)
def yc.kept (x:yc P w H h) (k:∀ b u,h.get? b=↑u->h'.get? b=↑u):yc P w H h':=λ a o e=>
 (x a o e).wK (λ b u _ q=>k b u q) (λ _ q=>q) λ _ _ q=>q
def yc.laid (x:yc P w H h) (k:∀ b u,h.get? b=↑u->h'.get? b=↑u) (hp:h.objs.size<=a) (new:yI P w (upd H a o) h' a o):yc P w (upd H a o) h':=λ b u e=>by
 have hn:=x.fresh hp;by_cases hb:b=a
 .subst hb;rw[zX] at e;cases e;show new
 .rw[zE hb] at e;show (x b u e).wK (λ c v _ q=>k c v q) (λ c q=>by rw[zE (xj q hn)];show q) λ c xs q=>by rw[zE (xj q hn)];show q
end
def Rd (H:Hp) (a:Addr) (u:HO):Prop:=H a=↑u\/∃ o,H a=↑(.xK o u)
def Rd.ok {P:Program}{w:World}{H:Hp}{h:Heap}{a:Addr}{u:HO}(r:Rd H a u) (x:yc P w H h):yI P w H h a u:=by
 rcases r with r | ⟨o,r⟩
 .show x a u r
 .let#[_,q]:=x a _ r;show q
def mB:Option HO->Prop
 | some (.lst _)=>True
 | some (.dK _)=>True
 | some (.dT _)=>True
 | some (.set _ _)=>True
 | some (.ins _ _ _)=>True
 | some (.ext _)=>True
 | _=>False
section
variable {P:Program}{w:World}{H:Hp}{h h':Heap}{x e:Addr}{o':HO}
def yc.write (ok:yc P w H h) (mu:mB (H x)) (he:e=x\/H e=↑(.own x)) (k:∀ b u,b≠e->h.get? b=↑u->h'.get? b=↑u) (Cs:∃ u,h'.get? e=↑u)
  (new:yI P w (upd H x o') h' x o'):yc P w (upd H x o') h':=λ b u q=>by
 have nown:∀ c y,H c=↑(.own y)->c≠x:=λ c y r z=>by subst z;rw[r] at mu;show mu
 have ntup:∀ c xs,H c=↑(.tup xs)->c≠x:=λ c xs r z=>by subst z;rw[r] at mu;show mu
 by_cases hb:b=x
 .subst hb;rw[zX] at q;cases q;show new
 .rw[zE hb] at q;by_cases BD:b=e
  .have q':H b=↑(.own x):=by
    rcases he with z | z
    .show absurd (BD.trans z) hb
    .rw[BD];show z
   rw[q] at q';cases q';let#[v,hv]:=Cs;show#[v,by rw[BD];show hv]
  .exact (ok b u q).wK (λ c v hc r=>k c v ?_ r) (λ c r=>by rw[zE (nown c b r)];show r) λ c xs r=>by rw[zE (ntup c xs r)];show r
   rcases hc with rfl | hc
   .show BD
   .rintro rfl;rcases he with z | z
    .show nown c b hc z
    .rw[hc] at z;cases z;show hb rfl
end
structure Un (fs ex:List Addr) (H H':Hp) (h h':Heap):Prop where
 keep:∀ b o,h.get? b=↑o->H b=none->b∉fs->b∉ex->h'.get? b=↑o
 slot:∀ b o,h.get? b=↑o->H b=none->b∈fs->b∉ex->∃ sl,h'.get? b=↑{ o with slots:=sl }
 free:∀ b o,h.get? b=↑o->H b=none->b∉ex->H' b=none
 there:∀ b o,h.get? b=↑o->b∉ex->∃ o',h'.get? b=↑o'
 wJ:∀ b xs,H b=↑(.tup xs)->H' b=↑(.tup xs)
 v8:∀ b o u,H b=↑(.xK o u)->H' b=↑(.xK o u)
 vO:∀ b ps,H b=↑(.qg ps)->∃ more,H' b=↑(.qg (ps++more))
section
variable {fs ex:List Addr}{H H1:Hp}{h h1 h':Heap}{a x e:Addr}{o:HO}
def Un.any (u:Un fs ex H H1 h h1) {b:Addr}{ob:Obj}(q:h.get? b=↑ob) (n:H b=none) (hx:b∉ex):∃ sl,h1.get? b=↑{ ob with slots:=sl }:=by
 by_cases hb:b∈fs
 .show u.slot b ob q n hb hx
 .show#[ob.slots,u.keep b ob q n hb hx]
def Un.kept (k:∀ b u,h.get? b=↑u->h'.get? b=↑u):Un fs ex H H h h':=
 #[λ b ob q _ _ _=>k b ob q,λ b ob q _ _ _=>#[ob.slots,k b ob q],λ _ _ _ n _=>n,λ b ob q _=>#[ob,k b ob q],λ _ _ q=>q,λ _ _ _ q=>q,λ _ ps q=>#[[].toArray,by rw[q];simp]]
def Un.refl:Un fs ex H H h h:=Un.kept λ _ _ q=>q
def Un.laid (k:∀ b u,h.get? b=↑u->h'.get? b=↑u) (hp:h.objs.size<=a) (hn:H a=none):Un fs ex H (upd H a o) h h' where
 keep:=λ b u q _ _ _=>k b u q
 slot:=λ b u q _ _ _=>#[u.slots,k b u q]
 free:=λ b u q n _=>by rw[zE (Aw (Ba (Ap q) hp))];show n
 there:=λ b u q _=>#[u,k b u q]
 wJ:=λ b xs q=>by rw[zE (xj q hn)];show q
 v8:=λ b u xs q=>by rw[zE (xj q hn)];show q
 vO:=λ b ps q=>#[[].toArray,by rw[zE (xj q hn),q];simp]
def Un.write (mu:mB (H x)) (he:e=x\/H e=↑(.own x)) (k:∀ b u,b≠e->h.get? b=↑u->h'.get? b=↑u) (Cs:∃ u,h'.get? e=↑u):Un fs ex H (upd H x o) h h':=by
 have hx:∀ b,H b=none->b≠x:=λ b n z=>by subst z;rw[n] at mu;show mu
 have hb:∀ b,H b=none->b≠e:=λ b n z=>by
  subst z;rcases he with r | r
  .show hx b n r
  .rw[n] at r;cases r
 have hm:∀ b u,H b=↑u->¬ mB ↑u->b≠x:=λ b u q nm z=>by subst z;rw[q] at mu;show nm mu
 exact#[λ b u q n _ _=>k b u (hb b n) q,λ b u q n _ _=>#[u.slots,k b u (hb b n) q],λ b u q n _=>by rw[zE (hx b n)];show n,λ b u q _=>?_,
  λ b xs q=>by rw[zE (hm b _ q λ z=>z)];show q,λ b u xs q=>by rw[zE (hm b _ q λ z=>z)];show q,λ b ps q=>#[[].toArray,by rw[zE (hm b _ q λ z=>z),q];simp]]
 by_cases BD:b=e
 .subst BD;show Cs
 .show#[u,k b u BD q]
end
def l8 (h:Heap) (H:Hp):List Addr:=(List.range h.objs.size).filter λ a=>(H a).isSome
def sy (h:Heap) (H:Hp):Heap:=PySem.W.hideAll h (l8 h H)
def MW (h:Heap) (H:Hp):(sy h H).objs.size=h.objs.size:=PySem.W.hideAll_size _ _
def MY {h:Heap}{H:Hp}{b:Addr}{o:Obj}(e:h.get? b=↑o) (n:H b=none):(sy h H).get? b=↑o:=
 PySem.W.hideAll_get _ e λ hm=>by
  have q:(H b).isSome=true:=(BI.mp hm).2;rw[n] at q;simp at q
def Nr {h:Heap}{H:Hp}{b:Addr}{o:Obj}(e:(sy h H).get? b=↑o):h.get? b=↑o/\H b=none:=by
 have e':h.get? b=↑o:=PySem.W.of_hideAll (l8 h H) e;exact#[e',?_];cases q:H b with
 | none=>rfl
 | some x=>
  have hm:b∈l8 h H:=BI.mpr #[AO.mpr (Ap e'),by simp[q]];have z:(sy h H).get? b=none:=PySem.W.hideAll_none (l8 h H) hm;rw[z] at e;cases e
structure Mod (K:Ac) (mg:Au) (base:Heap):Prop where
 pH:K.In base
 glob:base.Ns mainGlobals mg
 blt:∃ mb,base.Ns builtinsNs mb/\∀ x:Str,x≠"__name__"->mb x=bootBuiltins x
 nolimit:base.NoLimit
structure Cx where
 prog:Program
 w:World
 K:Ac
 mg:Str->Option Value
 base:Heap
 A:Around
 N:List Str
 s₀:Shared
 H₀:Hp
 env:Env
 outer:List Env
 stack:List Env
 ex:List Addr
 fn:Str->Bool
 calm:Bool
 pn:Ai
 xe:Af
def yC (l:List Env):List Addr:=l.filterMap (·.frame)
abbrev AA (X:Cx) (e:Expr) (es:List Expr):Prop:=starEach (e::es) X.env=(false,eval e X.env)::starEach es X.env
abbrev AF (X:Cx) (p:Pos) (es:List Expr):Prop:=(backTo p (starEach es X.env)).any (·.1)=false
abbrev Cx.fs (X:Cx):List Addr:=yC X.outer
def m6 (sc:Scope) (x:Str):Prop:=sc.names.lookup x=↑.local\/sc.names.lookup x=↑.cell\/sc.names.lookup x=↑.free
def Loc (sc:Scope) (x:Str):Prop:=sc.names.lookup x=↑.local\/sc.names.lookup x=↑.cell
def Look (env:Env) (h:Heap) (m:Au) (x:Str) (u:Value):Prop:=
 (env.kindOf x=↑.local/\m x=↑u)\/((env.kindOf x=↑.cell\/env.kindOf x=↑.free)/\∃ c,env.cells.lookup x=↑c/\h.IsCell c ↑u)
structure Cx.Ok (X:Cx):Prop where
 mod:Mod X.K X.mg X.base
 kind:X.env.scope.kind=.function
 glob:X.env.globals=mainGlobals
 blt:X.env.builtins=builtinsNs
 above:X.s₀.heap.objs.size<=X.env.locals
 inj:∀ x y c,X.env.cells.lookup x=↑c->X.env.cells.lookup y=↑c->x=y
 has:∀ x,(X.env.kindOf x=↑.cell\/X.env.kindOf x=↑.free)->∃ c,X.env.cells.lookup x=↑c
 qA:∀ x c,X.fn x=true->X.env.cells.lookup x=↑c->X.s₀.heap.objs.size<=c
 hd:X.calm=true->X.A.handled=none
 frames:X.A.frames=↑X.stack
 qY:X.stack=X.outer\/(X.stack=X.env::X.outer/\X.env.frame=↑X.env.locals)
 nW:∀ b∈X.ex,b≠X.env.locals/\∀ x c,X.env.cells.lookup x=↑c->c≠b
 bs:∀ b o,X.base.get? b=↑o->X.s₀.heap.get? b=↑o/\X.H₀ b=none
 tF:X.base.objs.size<=X.s₀.heap.objs.size
 ql:∀ b o,X.base.get? b=↑o->b∉X.ex
 qv:∀ b∈X.ex,b∉X.fs
 wN:X.s₀.heap.FunFrames X.base X.outer
 sC:∀ b∈X.fs,X.H₀ b=none
structure Inv (X:Cx) (Fd:Ai) (O:List (Option V)) (H:Hp) (s:Shared):Prop where
 ok:X.Ok
 os:s.os=X.s₀.os
 bare:AllBare s.gens
 base:Un X.fs X.ex X.H₀ H X.s₀.heap s.heap
 loc:∃ m,s.heap.Ns X.env.locals m/\∀ (i:Nat) (x:Str) (v:V),X.N[i]?=↑x->O[i]?=↑↑v->m6 X.env.scope x->∃ u,RelV v u/\Look X.env s.heap m x u
 cell:∀ x c,X.env.cells.lookup x=↑c->∃ v,s.heap.IsCell c v
 free:H X.env.locals=none
 wF:∀ x c,X.env.cells.lookup x=↑c->H c=none
 pin:∀ p∈X.pn++Fd,s.heap.get? p.1=↑p.2/\H p.1=none/\p.1≠X.env.locals/\p.1∉X.fs/\∀ v,p.2.data≠.cell v
 zl:yc X.prog X.w H s.heap
 len:O.length=X.N.length
section
variable {X:Cx}{Fd:Ai}{O:List (Option V)}{H H':Hp}{s:Shared}{h':Heap}
def Cx.Ok.Nz (ok:X.Ok) {b:Addr}{o:Obj}(e:X.base.get? b=↑o):b∉X.fs:=λ hb=>by
 have:=(ok.wN.mem hb).1;rw[e] at this;cases this
theorem Inv.bs (I:Inv X Fd O H s):∀ b o,X.base.get? b=↑o->s.heap.get? b=↑o/\H b=none:=λ b o e=>
 #[I.base.keep b o (I.ok.bs b o e).1 (I.ok.bs b o e).2 (I.ok.Nz e) (I.ok.ql b o e),I.base.free b o (I.ok.bs b o e).1 (I.ok.bs b o e).2 (I.ok.ql b o e)]
def Inv.bk (I:Inv X Fd O H s):∀ b o,X.base.get? b=↑o->s.heap.get? b=↑o:=λ b o e=>(I.bs b o e).1
theorem Inv.mod (I:Inv X Fd O H s):Mod X.K X.mg X.base:=I.ok.mod
def Inv.yx (I:Inv X Fd O H s):X.K.In s.heap:=I.ok.mod.pH.keeps I.bk
theorem Inv.lt (I:Inv X Fd O H s):X.env.locals<s.heap.objs.size:=let #[_,hn,_]:=I.loc;hn.lt
def Inv.sz (I:Inv X Fd O H s):X.s₀.heap.objs.size<=s.heap.objs.size:=Bk I.ok.above (BV I.lt)
def Inv.bE (I:Inv X Fd O H s) {a:Addr}(h:s.heap.objs.size<=a):a∉X.fs:=λ hb=>by
 let#[_,o,ho,_]:=I.ok.wN.mem hb;show absurd (Ba (Ap ho) (Bk I.sz h)) (Cg _)
def Inv.uO (I:Inv X Fd O H s):∀ x c,X.env.cells.lookup x=↑c->c≠X.env.locals:=λ x c e z=>by
 let#[v,o,ho,hd]:=I.cell x c e;let#[m,#[o',es,ep,FY,IA,_],_]:=I.loc;rw[z,FY] at ho;cases ho;rw[IA] at hd;cases hd
theorem Inv.wN (I:Inv X Fd O H s):s.heap.FunFrames X.base X.outer:=by
 have all:∀ (l:List Env),(∀ b∈yC l,b∈X.fs)->X.s₀.heap.FunFrames X.base l->s.heap.FunFrames X.base l:=by
  intro l
  induction l with
  | nil=>intro _ _;trivial
  | cons env r ih=>
   intro hs hl;let#[hk,#[L,o,hf,hn,ho,hd],hr]:=hl;have hL:L∈X.fs:=hs L (by unfold yC;rw[CG,hf];show Av);let#[sl,e]:=I.base.slot L o ho (I.ok.sC L hL) hL λ z=>I.ok.qv L z hL;show#[hk,#[L,_,hf,hn,e,hd],ih (λ b hb=>hs b (by unfold yC;rw[CG,hf];show AD _ hb)) hr]
 show all X.outer (λ _ hb=>hb) I.ok.wN
theorem Inv.stack (I:Inv X Fd O H s):s.heap.FunFrames X.base X.stack:=by
 rcases I.ok.qY with e | ⟨e,hf⟩
 .rw[e];show I.wN
 .rw[e];let#[m,hn,_]:=I.loc;exact .cons (by rw[I.ok.kind];decide) hf hn ?_ I.wN;show zaT (Bk I.ok.tF I.ok.above)
def Inv.jX (I:Inv X Fd O H s):∀ b∈yC X.stack,b∈X.env.locals::X.fs:=λ b hb=>by
 rcases I.ok.qY with e | ⟨e,hf⟩
 .rw[e] at hb;show AD _ hb
 .rw[e] at hb;unfold yC at hb;rw[CG,hf] at hb;show hb
def Inv.jY (I:Inv X Fd O H s):∀ b∈yC X.stack,H b=none:=λ b hb=>by
 rcases Ao.mp (I.jX b hb) with e | hb
 .rw[e];show I.free
 .let#[_,o,ho,_]:=I.ok.wN.mem hb;show I.base.free b o ho (I.ok.sC b hb) λ z=>I.ok.qv b z hb
def Inv.step {g':Array GenState}{t':Nat}{d':Drawn}{ch:List Addr}(I:Inv X Fd O H s)
  (Cd:∀ b∈ch,(b∈X.ex\/X.s₀.heap.objs.size<=b)/\b≠X.env.locals/\(∀ x c,X.env.cells.lookup x=↑c->c≠b)/\∀ p∈X.pn++Fd,p.1≠b)
  (keep:∀ b o,b≠X.env.locals->b∉X.fs->b∉ch->s.heap.get? b=↑o->H b=none->h'.get? b=↑o)
  (slot:∀ b o,b≠X.env.locals->b∈X.fs->b∉ch->s.heap.get? b=↑o->H b=none->∃ sl,h'.get? b=↑{ o with slots:=sl }) (free:∀ b o,b∉ch->s.heap.get? b=↑o->H b=none->H' b=none)
  (there:∀ b o,b∉ch->s.heap.get? b=↑o->∃ o',h'.get? b=↑o')
  (wJ:∀ b xs,H b=↑(.tup xs)->H' b=↑(.tup xs)) (v8:∀ b o u,H b=↑(.xK o u)->H' b=↑(.xK o u)) (vO:∀ b ps,H b=↑(.qg ps)->∃ more,H' b=↑(.qg (ps++more)))
  (ns:∀ m,s.heap.Ns X.env.locals m->h'.Ns X.env.locals m) (zl:yc X.prog X.w H' h') (hg:AllBare g'):
  Inv X Fd O H' { s with heap:=h',gens:=g',drawn:=d',toks:=t' }:=by
 have neL:∀ b o,X.s₀.heap.get? b=↑o->b≠X.env.locals:=λ b o e=>Aw (Ba (Ap e) I.ok.above);have neC:∀ b o,X.s₀.heap.get? b=↑o->b∉X.ex->b∉ch:=λ b o e hx hb=>by
  rcases (Cd b hb).1 with z | z
  .show hx z
  .show absurd (Ba (Ap e) z) (Cg _)
 have cellK:∀ x c,X.env.cells.lookup x=↑c->∀ v,s.heap.IsCell c v->h'.IsCell c v:=λ x c e v #[o,ho,hd]=>by
  have nch:c∉ch:=λ z=>(Cd c z).2.2.1 x c e rfl;by_cases hc:c∈X.fs
  .let#[sl,q]:=slot c o (I.uO x c e) hc nch ho (I.wF x c e);show#[_,q,hd]
  .show#[o,keep c o (I.uO x c e) hc nch ho (I.wF x c e),hd]
 exact#[I.ok,I.os,hg,#[λ b o e n hb hx=>?_,λ b o e n hb hx=>?_,λ b o e n hx=>?_,λ b o e hx=>?_,λ b xs e=>wJ b xs (I.base.wJ b xs e),λ b o xs e=>v8 b o xs (I.base.v8 b o xs e),λ b ps e=>?_],?_,λ x c e=>?_,?_,λ x c e=>?_,λ p hp=>?_,zl,I.len]
 .show keep b o (neL b o e) hb (neC b o e hx) (I.base.keep b o e n hb hx) (I.base.free b o e n hx)
 .let#[sl,e1]:=I.base.slot b o e n hb hx;let#[sl',e2]:=slot b _ (neL b o e) hb (neC b o e hx) e1 (I.base.free b o e n hx);show#[sl',e2]
 .let#[o',e1]:=I.base.there b o e hx;show free b o' (neC b o e hx) e1 (I.base.free b o e n hx)
 .let#[o',e1]:=I.base.there b o e hx;show there b o' (neC b o e hx) e1
 .let#[m1,e1]:=I.base.vO b ps e;let#[m2,e2]:=vO b _ e1;show#[m1++m2,by rw[e2,Eu]]
 .let#[m,hn,hl]:=I.loc;exact#[m,ns m hn,λ i x v e1 e2 e3=>?_];let#[u,r,l]:=hl i x v e1 e2 e3;exact#[u,r,?_];rcases l with l | ⟨k,c,e,z⟩
  .show .inl l
  .show .inr #[k,c,e,cellK x c e _ z]
 .let#[v,z]:=I.cell x c e;show#[v,cellK x c e v z]
 .let#[m,#[o,_,_,ho,_],_]:=I.loc;show free _ o (λ z=>(Cd _ z).2.1 rfl) ho I.free
 .let#[v,o,ho,hd]:=I.cell x c e;show free c o (λ z=>(Cd c z).2.2.1 x c e rfl) ho (I.wF x c e)
 .let#[e,n,ne,nf,d]:=I.pin p hp;have nch:p.1∉ch:=λ z=>(Cd p.1 z).2.2.2 p hp rfl;show#[keep p.1 p.2 ne nf nch e n,free p.1 p.2 nch e n,ne,nf,d]
theorem Inv.un {t':Nat}(I:Inv X Fd O H s) (u:Un X.fs [] H H' s.heap h') (zl:yc X.prog X.w H' h'):Inv X Fd O H' { s with heap:=h',toks:=t' }:=by
 let#[m,#[o,es,ep,ho,r],_]:=id I.loc;let#[sl,hL]:=u.any ho I.free #[];show I.step (g':=s.gens) (d':=s.drawn) (ch:=[]) (λ _ z=>nomatch z) (λ b o _ hb _ e n=>u.keep b o e n hb #[]) (λ b o _ hb _ e n=>u.slot b o e n hb #[]) (λ b o _ e n=>u.free b o e n #[]) (λ b o _ e=>u.there b o e #[]) u.wJ u.v8 u.vO (λ m' hm=>by
  let#[o',Gr,ep',FY,r']:=hm;rw[ho] at FY;cases FY;show#[_,Gr,ep',hL,r']) zl I.bare
def Inv.call {g':Array GenState}{t':Nat}{d':Drawn}{ch:List Addr}(I:Inv X Fd O H s) (u:Un (yC X.stack) ch H H' s.heap h') (zl:yc X.prog X.w H' h') (hg:AllBare g')
  (Cd:∀ b∈ch,(b∈X.ex\/X.s₀.heap.objs.size<=b)/\b≠X.env.locals/\(∀ x c,X.env.cells.lookup x=↑c->c≠b)/\∀ p∈X.pn++Fd,p.1≠b):
  Inv X Fd O H' { s with heap:=h',gens:=g',drawn:=d',toks:=t' }:=by
 let#[m,#[o,es,ep,ho,r],_]:=id I.loc;let#[sl,hL]:=u.any ho I.free λ z=>(Cd _ z).2.1 rfl;show I.step (ch:=ch) Cd (λ b o hL hb hc e n=>u.keep b o e n (λ z=>(Ao.mp (I.jX b z)).elim hL hb) hc) (λ b o _ _ hc e n=>u.any e n hc) (λ b o hc e n=>u.free b o e n hc) (λ b o hc e=>u.there b o e hc) u.wJ u.v8 u.vO (λ m' hm=>by
  let#[o',Gr,ep',FY,r']:=hm;rw[ho] at FY;cases FY;show#[_,Gr,ep',hL,r']) zl hg
def Inv.turned {t':Nat}{it:Addr}(I:Inv X Fd O H s) (k:∀ b o,b≠it->s.heap.get? b=↑o->h'.get? b=↑o) (hn:H it=none) (hL:it≠X.env.locals)
  (h1:it∈X.ex\/X.s₀.heap.objs.size<=it) (h2:∀ x c,X.env.cells.lookup x=↑c->c≠it) (h3:∀ p∈X.pn++Fd,p.1≠it):Inv X Fd O H { s with heap:=h',toks:=t' }:=by
 have nit:∀ b u,H b=↑u->b≠it:=λ b u e z=>by rw[z,hn] at e;cases e
 exact I.step (g':=s.gens) (d':=s.drawn) (ch:=[it]) (λ b hb=>?_) (λ b o _ _ hc e _=>k b o (λ z=>hc (by simp[z])) e) (λ b o _ _ hc e _=>#[o.slots,k b o (λ z=>hc (by simp[z])) e]) (λ _ _ _ _ n=>n)
  (λ b o hc e=>#[o,k b o (λ z=>hc (by simp[z])) e]) (λ _ _ e=>e) (λ _ _ _ e=>e) (λ b ps e=>#[[].toArray,by rw[e];simp]) (λ m hm=>?_) (λ b u e=>?_) I.bare
 .have e:b=it:=by exists hb
  subst e;show#[h1,hL,h2,h3]
 .let#[o,es,ep,ho,r]:=hm;show#[o,es,ep,k _ o (Ne.symm hL) ho,r]
 .exact (I.zl b u e).wK (λ c v hc q=>k c v ?_ q) (λ _ q=>q) λ _ _ q=>q;rcases hc with z | z
  .rw[z];show nit b u e
  .show nit c _ z
def Inv.tok (I:Inv X Fd O H s) (t:Nat):Inv X Fd O H { s with toks:=t }:=I.un (h':=s.heap) (t':=t) Un.refl I.zl
theorem Inv.kept {t':Nat}(I:Inv X Fd O H s) (k:∀ b u,s.heap.get? b=↑u->h'.get? b=↑u):Inv X Fd O H { s with heap:=h',toks:=t' }:=I.un (Un.kept k) (I.zl.kept k)
theorem Inv.laid {a:Addr}{o:HO}{t':Nat}(I:Inv X Fd O H s) (k:∀ b u,s.heap.get? b=↑u->h'.get? b=↑u) (hp:s.heap.objs.size<=a) (new:yI X.prog X.w (upd H a o) h' a o):
  Inv X Fd O (upd H a o) { s with heap:=h',toks:=t' }:=I.un (Un.laid k hp (I.zl.fresh hp)) (I.zl.laid k hp new)
theorem Inv.write {x e:Addr}{o:HO}{t':Nat}(I:Inv X Fd O H s) (mu:mB (H x)) (he:e=x\/H e=↑(.own x)) (k:∀ b u,b≠e->s.heap.get? b=↑u->h'.get? b=↑u) (Cs:∃ u,h'.get? e=↑u)
  (new:yI X.prog X.w (upd H x o) h' x o):Inv X Fd O (upd H x o) { s with heap:=h',toks:=t' }:=I.un (Un.write mu he k Cs) (I.zl.write mu he k Cs new)
def Inv.i9 {FV:Ai}(I:Inv X Fd O H s) (h:∀ p∈FV,s.heap.get? p.1=↑p.2/\H p.1=none/\p.1≠X.env.locals/\p.1∉X.fs/\∀ v,p.2.data≠.cell v):Inv X FV O H s:=
 #[I.ok,I.os,I.bare,I.base,I.loc,I.cell,I.free,I.wF,λ p hp=>(A4.mp hp).elim (λ z=>I.pin p (C3 _ z)) (h p),I.zl,I.len]
def iQ {N:List Str}(hN:N.Nodup) {i j:Nat}{x:Str}(a:N[i]?=↑x) (b:N[j]?=↑x):i=j:=by
 let#[h1,e1]:=AQ.mp a;let#[h2,e2]:=AQ.mp b;show (List.getElem_inj hN).mp (e1.trans e2.symm)
def VA {M:Model}{A:Around}{E:Af}{i:Nat}{x:Str}{v:V}{u:Value}{Q:Unit->Shared->Prop}(I:Inv X Fd O H s) (hN:X.N.Nodup) (hi:X.N[i]?=↑x) (hx:Loc X.env.scope x) (r:RelV v u)
  (h:∀ s',Inv X Fd (O.set i ↑v) H s'->(∃ a,Heap.SameBut a s.heap s'.heap/\(a=X.env.locals\/X.env.cells.lookup x=↑a))->Q Unit.unit s') (hf:X.fn x=true\/X.env.scope.names.lookup x=↑.local:=by first | show .inl rfl | show .inr rfl | assumption):wpAny M A (storeName X.env x u) Q E s:=by
 let#[m,hn,hl]:=id I.loc;have Bg:(X.env.scope.kind == .class||(X.env.scope.kind == .module&&X.env.locals != X.env.globals))=false:=by rw[I.ok.kind];rfl
 have hiσ:i < O.length:=by rw[I.len];show (AQ.mp hi).1
 have uO:=I.uO;have tracked:∀ {a:Addr}{h':Heap},(∃ o,s.heap.get? a=↑o/\H a=none)->Heap.SameBut a s.heap h'->yc X.prog X.w H h':=λ{a h'} ha hs b ob e=>by
  let#[_,_,IQ]:=ha;exact (I.zl b ob e).wK (λ c w' hc q=>(hs.2 c ?_).trans q) (λ _ q=>q) λ _ _ q=>q;rintro rfl;rcases hc with rfl | hc
  .rw[IQ] at e;cases e
  .rw[IQ] at hc;cases hc
 rcases hx with hk | hk
 .exact wpAny_storeName_local hk hn (λ h' Hc hs=>?_) Bg;let#[oL,_,_,hoL,_]:=id hn;exact h _ #[I.ok,I.os,I.bare,#[λ b o e n hb hx=>?_,λ b o e n hb hx=>?_,I.base.free,λ b o e hx=>?_,I.base.wJ,I.base.v8,I.base.vO],#[_,Hc,λ j y v' e1 e2 e3=>?_],λ y c e=>?_,I.free,I.wF,λ p hp=>?_,tracked #[oL,hoL,I.free] hs,by exists I.len] #[_,hs,.inl rfl]
  .show (hs.2 b (Aw (Ba (Ap e) I.ok.above))).trans (I.base.keep b o e n hb hx)
  .let#[sl,e1]:=I.base.slot b o e n hb hx;show#[sl,(hs.2 b (Aw (Ba (Ap e) I.ok.above))).trans e1]
  .let#[o',e1]:=I.base.there b o e hx;show#[o',(hs.2 b (Aw (Ba (Ap e) I.ok.above))).trans e1]
  .by_cases hj:j=i
   .subst hj;rw[hi] at e1;cases e1;rw[Et hiσ] at e2;cases e2;show#[u,r,.inl #[hk,#[]]]
   .rw[Es (Ne.symm hj)] at e2;let#[u',r',q]:=hl j y v' e1 e2 e3;exact#[u',r',?_];rcases q with ⟨k,e⟩ | ⟨k,c,e,z⟩
    .exact .inl #[k,?_];have:y≠x:=λ e=>hj (iQ hN e1 (e▸hi));simp[this,e]
    .show .inr #[k,c,e,z.sameBut hs (uO y c e)]
  .let#[w',z]:=I.cell y c e;show#[w',z.sameBut hs (uO y c e)]
  .let#[e,n,ne,nf,d]:=I.pin p hp;show#[(hs.2 p.1 ne).trans e,n,ne,nf,d]
 .have Ca:X.fn x=true:=by
   rcases hf with z | z
   .show z
   .rw[z] at hk;cases hk
  let#[c,hc]:=I.ok.has x (.inl hk);let#[w',z]:=I.cell x c hc;exact wpAny_storeName_cell I.ok.kind hk hc z (λ h' hc' hs=>?_);let#[oc,hoc,EM]:=id z;exact h { s with heap:=h' } #[I.ok,I.os,I.bare,#[λ b o e n hb hx=>?_,λ b o e n hb hx=>?_,I.base.free,λ b o e hx=>?_,I.base.wJ,I.base.v8,I.base.vO],#[m,hn.sameBut hs (Ne.symm (uO x c hc)),λ j y v' e1 e2 e3=>?_],λ y c' e=>?_,I.free,I.wF,λ p hp=>?_,tracked #[oc,hoc,I.wF x c hc] hs,by exists I.len] #[c,hs,.inr hc]
  .show (hs.2 b (Aw (Ba (Ap e) (I.ok.qA x c Ca hc)))).trans (I.base.keep b o e n hb hx)
  .let#[sl,e1]:=I.base.slot b o e n hb hx;show#[sl,(hs.2 b (Aw (Ba (Ap e) (I.ok.qA x c Ca hc)))).trans e1]
  .let#[o',e1]:=I.base.there b o e hx;show#[o',(hs.2 b (Aw (Ba (Ap e) (I.ok.qA x c Ca hc)))).trans e1]
  .by_cases hj:j=i
   .subst hj;rw[hi] at e1;cases e1;rw[Et hiσ] at e2;cases e2;show#[u,r,.inr #[.inl hk,c,hc,hc']]
   .rw[Es (Ne.symm hj)] at e2;let#[u',r',q]:=hl j y v' e1 e2 e3;exact#[u',r',?_];rcases q with q | ⟨k,c',e,z'⟩
    .show .inl q
    .exact .inr #[k,c',e,z'.sameBut hs ?_];rintro rfl;show hj (iQ hN e1 (I.ok.inj _ _ _ e hc▸hi))
  .by_cases Bo:c'=c
   .subst Bo;show#[_,hc']
   .let#[w2,z2]:=I.cell y c' e;show#[w2,z2.sameBut hs Bo]
  .let#[e,n,ne,nf,d]:=I.pin p hp;exact#[(hs.2 p.1 ?_).trans e,n,ne,nf,d];intro q;rw[q,hoc] at e;have q':oc=p.2:=A_ e;show d w' (by rw[<- q'];show EM)
def lC {M:Model}{A:Around}{E:Af}{i:Nat}{x:Str}{v:V}{u:Value}{Q:Unit->Shared->Prop}(I:Inv X Fd O H s) (hN:X.N.Nodup) (hi:X.N[i]?=↑x) (hx:Loc X.env.scope x) (r:RelV v u)
  (h:∀ s',Inv X Fd (O.set i ↑v) H s'->Q Unit.unit s') (hf:X.fn x=true\/X.env.scope.names.lookup x=↑.local:=by first | show .inl rfl | show .inr rfl | assumption):wpAny M A (storeName X.env x u) Q E s:=
 VA I hN hi hx r (λ s' I' _=>h s' I') hf
def Inv.ZX {s':Shared}{ch:List Addr}(I:Inv X Fd O H s) (ho:s'.os=s.os) (u:Un (yC X.stack) ch H H' s.heap s'.heap) (zl:yc X.prog X.w H' s'.heap) (hg:AllBare s'.gens)
  (Cd:∀ b∈ch,(b∈X.ex\/X.s₀.heap.objs.size<=b)/\b≠X.env.locals/\(∀ x c,X.env.cells.lookup x=↑c->c≠b)/\∀ p∈X.pn++Fd,p.1≠b):Inv X Fd O H' s':=by
 let#[h',g',d',t',o']:=s';have e:o'=s.os:=ho;subst e;show I.call (g':=g') (t':=t') (d':=d') u zl hg Cd
end
abbrev XK:=Value->Option Addr->Hp->Prop
abbrev St:=List (Option V)
abbrev VK:=V->Hp->Prop
abbrev TE:=St->Hp->VK->Prop
abbrev TT:=St->Hp->(Bool->Hp->Prop)->Prop
abbrev TA:=St->Hp->(List V->Hp->Prop)->Prop
structure Ends where
 nx:St->Hp->Prop
 rt:VK
 bk:St->Hp->Prop:=λ _ _=>False
 ct:St->Hp->Prop:=λ _ _=>False
abbrev TS:=Ends->St->Hp->Prop
def EP (X:Cx) (Fd:Ai) (O:St) (Q:VK) (u:Value) (s':Shared):Prop:=∃ v H',Inv X Fd O H' s'/\RelV v u/\Q v H'
def TP (X:Cx) (Fd:Ai) (O:St) (Q:Bool->Hp->Prop) (b:Bool) (s':Shared):Prop:=∃ H',Inv X Fd O H' s'/\Q b H'
def AP (X:Cx) (Fd:Ai) (O:St) (Q:List V->Hp->Prop) (us:Ae) (s':Shared):Prop:=∃ vs H',Inv X Fd O H' s'/\Vals vs us/\Q vs H'
def SP (X:Cx) (Fd:Ai) (D:Ends) (f:Flow) (s':Shared):Prop:=
 match f with
 | .next=>∃ O' H',Inv X Fd O' H' s'/\D.nx O' H'
 | .brk=>∃ O' H',Inv X Fd O' H' s'/\D.bk O' H'
 | .cont=>∃ O' H',Inv X Fd O' H' s'/\D.ct O' H'
 | .ret u=>∃ v O' H',Inv X Fd O' H' s'/\RelV v u/\D.rt v H'
def PE (X:Cx) (e:Expr) (t:TE):Prop:=
 ∀ (Fd:Ai) (s:Shared) (O:St) (H:Hp) (Q:VK),Inv X Fd O H s->t O H Q->wpAny (model X.prog X.w) X.A (eval e X.env) (EP X Fd O Q) X.xe s
def PT (X:Cx) (e:Expr) (t:TT):Prop:=
 ∀ (Fd:Ai) (s:Shared) (O:St) (H:Hp) (Q:Bool->Hp->Prop),Inv X Fd O H s->t O H Q->wpAny (model X.prog X.w) X.A (isTrue e X.env (eval e X.env)) (TP X Fd O Q) X.xe s
def PW (X:Cx) (e:Expr) (t:TT):Prop:=
 ∀ (whole:Sem Value) (Fd:Ai) (s:Shared) (O:St) (H:Hp) (Q:Bool->Hp->Prop),Inv X Fd O H s->t O H Q->wpAny (model X.prog X.w) X.A (isTrue e X.env whole) (TP X Fd O Q) X.xe s
def PW.pt {X:Cx}{e:Expr}{t:TT}(h:PW X e t):PT X e t:=h _
def PA (X:Cx) (es:List Expr) (t:TA):Prop:=
 ∀ (pos:Pos) (Fd:Ai) (s:Shared) (O:St) (H:Hp) (Q:List V->Hp->Prop),Inv X Fd O H s->t O H Q->wpAny (model X.prog X.w) X.A (spliced (backTo pos (starEach es X.env))) (AP X Fd O Q) X.xe s
def PS (X:Cx) (st:Stmt) (t:TS):Prop:=
 ∀ (Fd:Ai) (s:Shared) (O:St) (H:Hp) (D:Ends),Inv X Fd O H s->t D O H->wpAny (model X.prog X.w) X.A (exec st X.env) (SP X Fd D) X.xe s
def xu (X:Cx) (st:List Stmt) (t:TS):Prop:=
 ∀ (Fd:Ai) (s:Shared) (O:St) (H:Hp) (D:Ends),Inv X Fd O H s->t D O H->wpAny (model X.prog X.w) X.A (execs st X.env) (SP X Fd D) X.xe s
def zt {α:Type}{t:Sem α}{Q Q':α->Shared->Prop}{M:Model}{A:Around}{E:Af}{s:Shared}(h:wpAny M A t Q E s) (hQ:∀ a s,Q a s->Q' a s):wpAny M A t Q' E s:=za3 h hQ λ _ _ x=>x
section
variable {X:Cx}
def oU (i:Nat):TE:=fun O H Q=>∃ v,O[i]?=↑↑v/\Q v H
def tC (v:V):TE:=λ _ H Q=>Q v H
def Tr {i:Nat}{x:Str}{pos:Pos}(hN:X.N[i]?=↑x) (hv:m6 X.env.scope x) (hd:(x == ("__debug__":Str))=false:=by decide) (A9:(x == ("__classdict__":Str))=false:=by decide):PE X (.Name x pos) (oU i):=by
 intro Fd s O H Q I h;let#[v,e,h]:=h;let#[m,hn,hl]:=I.loc;let#[u,r,l]:=hl i x v hN e hv;have fin:EP X Fd O Q u s:=#[v,H,I,r,h];rcases l with ⟨hk,hm⟩ | ⟨hk,c,hc,IW⟩
 .show wpAny_Name (wpAny_loadName_local I.ok.kind hk hn hm fin) hd
 .rcases hk with hk | hk
  .show wpAny_Name (wpAny_loadName_cell I.ok.kind hk hc IW fin) hd
  .show wpAny_Name (wpAny_loadName_free I.ok.kind hk hc IW fin A9) hd
def T7 {i j pos}:PE X (.Constant (.int i) j pos) (tC (.int i)):=λ _ _ _ H _ I h=>wpAny_Constant_int #[.int i,H,I.tok _,#[_,rfl],h]
def TL {b j pos}:PE X (.Constant (.bool b) j pos) (tC (.bl b)):=λ _ _ _ H _ I h=>Constant_bool #[.bl b,H,I,rfl,h]
def T2 {j pos}:PE X (.Constant .none j pos) (tC .zo):=λ _ _ _ H _ I h=>Constant_none #[.zo,H,I,rfl,h]
def Tu {x j pos}:PE X (.Constant (.str x) j pos) (tC (.str x)):=λ _ _ _ H _ I h=>Calls.Constant_str #[.str x,H,I.tok _,#[_,rfl],h]
def Gl (X:Cx) (x:Str):Prop:=X.env.kindOf x=↑.globalImplicit
def nH {E:Af}{Fd:Ai}{s:Shared}{O:St}{H:Hp}{x:Str}{u:Value}{pos:Pos}{Q:Af}(I:Inv X Fd O H s) (hg:Gl X x) (hm:X.mg x=↑u) (h:Q u s)
  (hd:(x == ("__debug__":Str))=false:=by decide):wpAny (model X.prog X.w) X.A (eval (.Name x pos) X.env) Q E s:=
 Calls.Name_function_global I.ok.kind hg (Calls.loadGlobal_global (by rw[I.ok.glob];show I.mod.glob.keeps I.bk) hm h) hd
def rq {E:Af}{Fd:Ai}{s:Shared}{O:St}{H:Hp}{x:Str}{u:Value}{pos:Pos}{Q:Af}(I:Inv X Fd O H s) (hg:Gl X x) (hm:X.mg x=none) (hv:bootBuiltins x=↑u) (h:Q u s)
  (hn:x≠"__name__":=by decide) (hd:(x == ("__debug__":Str))=false:=by decide):wpAny (model X.prog X.w) X.A (eval (.Name x pos) X.env) Q E s:=by
 let#[mb,h1,h2]:=I.mod.blt;show Calls.Name_function_global I.ok.kind hg (Calls.loadGlobal_builtin (by rw[I.ok.glob];show I.mod.glob.keeps I.bk) hm (by rw[I.ok.blt];show h1.keeps I.bk) ((h2 x hn).trans hv) h) hd
def iD {x:Str}{v:V}{u:Value}{pos:Pos}(hg:Gl X x) (hm:X.mg x=↑u) (r:RelV v u) (hd:(x == ("__debug__":Str))=false:=by decide):PE X (.Name x pos) (tC v):=
 λ _ _ _ H _ I h=>nH I hg hm #[v,H,I,r,h] hd
def c_ {x:Str}{v:V}{u:Value}{pos:Pos}(hg:Gl X x) (hm:X.mg x=none) (hv:bootBuiltins x=↑u) (r:RelV v u) (hn:x≠"__name__":=by decide) (hd:(x == ("__debug__":Str))=false:=by decide):PE X (.Name x pos) (tC v):=
 λ _ _ _ H _ I h=>rq I hg hm hv #[v,H,I,r,h] hn hd
variable {a b:Expr}{ta tb:TE}{pos:Pos}
variable {tA tB':TT}{Ff:List Expr}
def V8 (t u:TT):TT:=fun O H Q=>t O H λ c H1=>if c=true then u O H1 Q else Q false H1
def Vs (t u:TT):TT:=fun O H Q=>t O H λ c H1=>if c=true then Q true H1 else u O H1 Q
def Vu (t:TT):TT:=fun O H Q=>t O H λ c H1=>Q (!c) H1
def U1 (ha:PT X a tA):PW X (.BoolOp .And [a] pos) tA:=by
 intro wh Fd s O H Q I h;exact isTrue_and (zt (ha Fd s O H Q I h) λ c s1 e=>?_);cases c with
 | true=>show isTrue_and_nil e
 | false=>show e
def Uz (ha:PT X a tA):PW X (.BoolOp .Or [a] pos) tA:=by
 intro wh Fd s O H Q I h;exact isTrue_or (zt (ha Fd s O H Q I h) λ c s1 e=>?_);cases c with
 | false=>show isTrue_or_nil e
 | true=>show e
def U3 (ha:PT X a tA) (hb:PW X (.BoolOp .And (b::Ff) pos) tB'):PW X (.BoolOp .And (a::b::Ff) pos) (V8 tA tB'):=by
 intro wh Fd s O H Q I h;exact isTrue_and (zt (ha Fd s O H _ I h) λ c s1 #[H1,I1,q1]=>?_);cases c with
 | true=>show hb wh Fd s1 O H1 Q I1 q1
 | false=>show#[H1,I1,q1]
def U0 (ha:PT X a tA) (hb:PW X (.BoolOp .Or (b::Ff) pos) tB'):PW X (.BoolOp .Or (a::b::Ff) pos) (Vs tA tB'):=by
 intro wh Fd s O H Q I h;exact isTrue_or (zt (ha Fd s O H _ I h) λ c s1 #[H1,I1,q1]=>?_);cases c with
 | true=>show#[H1,I1,q1]
 | false=>show hb wh Fd s1 O H1 Q I1 q1
def U7 (ha:PT X a tA):PT X (.UnaryOp .Not a pos) (Vu tA):=by
 intro Fd s O H Q I h;show isTrue_not (ha Fd s O H (λ c H1=>Q (!c) H1) I h)
def V7 (ta tb:TE):TE:=fun O H Q=>ta O H λ x H1=>∃ c,x=.bl c/\if c=true then tb O H1 Q else Q (.bl false) H1
def Vt (ta:TE):TE:=fun O H Q=>ta O H λ x H1=>∃ c,x=.bl c/\Q (.bl (!c)) H1
def Tx {op} {t:TE}(h:PE X a t):PE X (.BoolOp op [a] pos) t:=λ Fd s O H Q I hw=>BoolOp_one (h Fd s O H Q I hw)
def TN (ha:PE X a ta) (hb:PE X (.BoolOp .And (b::Ff) pos) tb):PE X (.BoolOp .And (a::b::Ff) pos) (V7 ta tb):=by
 intro Fd s O H Q I h;exact BoolOp_and (zt (ha Fd s O H _ I h) λ v s1 #[x,H1,I1,r1,q1]=>?_);let#[c,rfl,q1]:=q1;cases r1;exact zaG ?_;cases c with
 | true=>show hb Fd s1 O H1 Q I1 q1
 | false=>show#[.bl false,H1,I1,rfl,q1]
def Tz (ha:PE X a ta):PE X (.UnaryOp .Not a pos) (Vt ta):=by
 intro Fd s O H Q I h;exact UnaryOp_ (zt (ha Fd s O H _ I h) λ v s1 #[x,H1,I1,r1,q1]=>?_);let#[c,rfl,q1]:=q1;cases r1;show not_of (zaG #[.bl (!c),H1,I1,rfl,q1])
def V1 (t:TT) (ta tb:TE):TE:=fun O H Q=>t O H λ c H1=>if c=true then ta O H1 Q else tb O H1 Q
def T9 {c:Expr}(hc:PT X c tA) (ha:PE X a ta) (hb:PE X b tb):PE X (.IfExp c a b pos) (V1 tA ta tb):=by
 intro Fd s O H Q I h;exact wpAny_IfExp (zt (hc Fd s O H _ I h) λ d s1 #[H1,I1,q1]=>?_);cases d with
 | true=>show ha Fd s1 O H1 Q I1 q1
 | false=>show hb Fd s1 O H1 Q I1 q1
end
def zH (K:Ac) (H:Hp) (a:Addr) (xs:List V):Prop:=
 Rd H a (.lst xs)\/
  ∃ (o:Obj) (Aa:Aq) (n:Nat),K.lookup a=↑o/\o.cls=.type "list"/\o.dict=none/\o.data=.seq Aa n/\Aa.size<=sizeLine/\Vals xs Aa.toList
def zO (K:Ac) (H:Hp) (a:Addr) (xs:List V):Prop:=
 Rd H a (.tup xs)\/
  ∃ (o:Obj) (Aa:Aq) (n:Nat),K.lookup a=↑o/\(o.cls=.type "tuple"/\o.dict=none)/\o.data=.seq Aa n/\Aa.size<=sizeLine/\Vals xs Aa.toList
def J8:Value->Option V
 | .none=>↑.zo
 | .bool b=>↑(.bl b)
 | .int i _=>↑(.int i)
 | .str x _=>↑(.str x)
 | .bytes b _=>↑(.mq b)
 | .float b _=>↑(.gK b)
 | .ref a=>↑(.ref a)
 | .type n=>↑(.ty n)
 | _=>none
def RelV.abs {x:V}{u:Value}(r:RelV x u):J8 u=↑x:=by
 cases x with
 | zo=>cases r;rfl
 | bl _=>cases r;rfl
 | ref _=>cases r;rfl
 | ty _=>cases r;rfl
 | _=>let#[t,rfl]:=r;rfl
theorem RelV.inj {x y:V}{u:Value}(r:RelV x u) (q:RelV y u):x=y:=A_ (r.abs.symm.trans q.abs)
theorem Vals.inj:∀ {xs ys:List V}{us:Ae},Vals xs us->Vals ys us->xs=ys
 | _,_,_,.nil,.nil=>rfl
 | _,_,_,.cons r t,.cons r' t'=>by rw[r.inj r',Vals.inj t t']
section
variable {X:Cx}{Fd:Ai}{O:St}{H:Hp}{s:Shared}{a:Addr}{xs ys:List V}
def zH.of {K:Ac}(h:H a=↑(.lst xs)):zH K H a xs:=.inl (.inl h)
def zO.of {K:Ac}(h:H a=↑(.tup xs)):zO K H a xs:=.inl (.inl h)
def Inv.list (I:Inv X Fd O H s) (h:zH X.K H a xs):∃ Aa:List Value,Vals xs Aa/\PlainL s.heap a Aa.toArray/\xs.length<=sizeLine:=by
 rcases h with h | ⟨o,Aa,n,hk,hc,hd,hs,hz,r⟩
 .let#[z,Aa,n,r,e]:=h.ok I.zl;show#[Aa,r,#[_,n,e,rfl,rfl,rfl],z]
 .exact#[Aa.toList,r,#[o,n,I.yx a o hk,hc,hd,by exists hs],?_];have e:=r.length;simp![BG] at e;lia
def Inv.tuple (I:Inv X Fd O H s) (h:zO X.K H a xs):∃ Aa:List Value,Vals xs Aa/\IsTup s.heap a Aa.toArray/\xs.length<=sizeLine:=by
 rcases h with h | ⟨o,Aa,n,hk,hc,hs,hz,r⟩
 .let#[z,Aa,r,p]:=h.ok I.zl;show#[Aa,r,p,z.1]
 .exact#[Aa.toList,r,#[o,I.yx a o hk,hc.1,n,by exists hs],?_];have e:=r.length;simp![BG] at e;lia
def Inv.hJ (I:Inv X Fd O H s) (h:zH X.K H a xs) (h':zH X.K H a ys):xs=ys:=by
 let#[Aa,r,#[o,n,e,_,_,d],_]:=I.list h;let#[AN,r',#[o',n',e',_,_,d'],_]:=I.list h';rw[e] at e';cases e';rw[d] at d'
 injection d' with d1 _
 have:Aa=AN:=by exists congrArg Array.toList d1
 subst this;show r.inj r'
def Inv.jS (I:Inv X Fd O H s) (h:zO X.K H a xs) (h':zO X.K H a ys):xs=ys:=by
 let#[Aa,r,#[o,e,_,n,d],_]:=I.tuple h;let#[AN,r',#[o',e',_,n',d'],_]:=I.tuple h';rw[e] at e';cases e';rw[d] at d'
 injection d' with d1 _
 have:Aa=AN:=by exists congrArg Array.toList d1
 subst this;show r.inj r'
end
abbrev Cx.xF (X:Cx) (E:Af):Cx:={ X with xe:=E }
abbrev Cx.y_ (X:Cx):Cx:=X.xF λ _ _=>False
theorem Cx.Ok.xF {X:Cx}(ok:X.Ok) (E:Af):(X.xF E).Ok:=
 #[ok.mod,ok.kind,ok.glob,ok.blt,ok.above,ok.inj,ok.has,ok.qA,ok.hd,ok.frames,ok.qY,ok.nW,ok.bs,ok.tF,ok.ql,ok.qv,ok.wN,ok.sC]
def Cx.Ok.sY {X:Cx}{E:Af}(ok:(X.xF E).Ok):X.Ok:=
 #[ok.mod,ok.kind,ok.glob,ok.blt,ok.above,ok.inj,ok.has,ok.qA,ok.hd,ok.frames,ok.qY,ok.nW,ok.bs,ok.tF,ok.ql,ok.qv,ok.wN,ok.sC]
section
variable {X:Cx}{Fd:Ai}{O:St}{H:Hp}{s:Shared}{E:Af}
theorem Inv.xF (I:Inv X Fd O H s) (E:Af):Inv (X.xF E) Fd O H s:=#[I.ok.xF E,I.os,I.bare,I.base,I.loc,I.cell,I.free,I.wF,I.pin,I.zl,I.len]
theorem Inv.sY (I:Inv (X.xF E) Fd O H s):Inv X Fd O H s:=#[I.ok.sY,I.os,I.bare,I.base,I.loc,I.cell,I.free,I.wF,I.pin,I.zl,I.len]
theorem SP.sY {D:Ends}{f:Flow}{s':Shared}(h:SP (X.xF E) Fd D f s'):SP X Fd D f s':=by
 cases f with
 | ret u=>let#[v,O',H',I,r,q]:=h;show#[v,O',H',I.sY,r,q]
 | _=>let#[O',H',I,q]:=h;show#[O',H',I.sY,q]
theorem xu.y_ {st:List Stmt}{t:TS}(h:xu X.y_ st t):xu X st t:=λ Fd s O H D I hw=>
 za3 (h Fd s O H D (I.xF _) hw) (λ _ _ q=>q.sY) λ _ _ z=>False.elim z
end
section
variable {X:Cx}{st:Stmt}{Ff:List Stmt}{t u:TS}{e:Expr}{te:TE}{pos:Pos}
def Vx:TS:=λ D O H=>D.nx O H
def Vo (t u:TS):TS:=λ D O H=>t { D with nx:=u D } O H
def UA:xu X [] Vx:=λ _ _ O H _ I h=>zaK #[O,H,I,h]
def UB (h1:PS X st t) (h2:xu X Ff u):xu X (st::Ff) (Vo t u):=by
 intro Fd s O H D I h;exact wpAny_execs_cons (zt (h1 Fd s O H { D with nx:=u D } I h) λ f s1 q=>?_);cases f with
 | next=>
  let#[O',H',I',q]:=q;show h2 Fd s1 O' H' D I' q
 | ret v=>show q
 | _=>show q
def iy (h1:PS X st t):xu X [st] t:=by
 intro Fd s O H D I h;exact wpAny_execs_cons (zt (h1 Fd s O H D I h) λ f s1 q=>?_);cases f with
 | next=>show zaK q
 | ret v=>show q
 | _=>show q
def Inv.quiet {Fd:Ai}{O:St}{H:Hp}{s:Shared}(I:Inv X Fd O H s):interactive X.env=false:=by simp[interactive,I.ok.kind]
def V3 (te:TE):TS:=λ D O H=>te O H λ _ H1=>D.nx O H1
def UI (he:PE X e te) (hs:swapsWith e none pos.line X.env=pure false:=by rfl):PS X (.Expr e pos) (V3 te):=by
 intro Fd s O H D I h;show wpAny_Expr_any (zt (he Fd s O H _ I h) λ v s1 #[x,H1,I1,r1,q1]=>#[O,H1,I1,q1]) I.quiet hs
def Vq (te:TE):TS:=λ D O H=>te O H D.rt
def UG (he:PE X e te):PS X (.Return ↑e pos) (Vq te):=by
 intro Fd s O H D I h;show wpAny_Return_some (zt (he Fd s O H _ I h) λ v s1 #[x,H1,I1,r1,q1]=>#[x,O,H1,I1,r1,q1])
def Vz (c:TT) (t u:TS):TS:=λ D O H=>c O H λ b H1=>if b=true then t D O H1 else u D O H1
def UH {c:Expr}{a b:List Stmt}{tc:TT}(hc:PT X c tc) (ha:xu X a t) (hb:xu X b u):PS X (.If c a b pos) (Vz tc t u):=by
 intro Fd s O H D I h;exact wpAny_If (zt (hc Fd s O H _ I h) λ d s1 #[H1,I1,q1]=>?_);cases d with
 | true=>show ha Fd s1 O H1 D I1 q1
 | false=>show hb Fd s1 O H1 D I1 q1
end
abbrev TG:=V->St->Hp->(St->Hp->Prop)->Prop
abbrev sL:=List V->St->Hp->(St->Hp->Prop)->Prop
def PG (X:Cx) (target:Expr) (t:TG):Prop:=
 ∀ (Fd:Ai) (s:Shared) (O:St) (H:Hp) (v:V) (u:Value) (Q:St->Hp->Prop),Inv X Fd O H s->RelV v u->t v O H Q->
  wpAny (model X.prog X.w) X.A (assign target X.env u) (λ _ s'=>∃ O' H',Inv X Fd O' H' s'/\Q O' H') X.xe s
def tL (X:Cx) (ts:List Expr) (t:sL):Prop:=
 ∀ (Fd:Ai) (s:Shared) (O:St) (H:Hp) (vs:List V) (us:Ae) (Q:St->Hp->Prop),Inv X Fd O H s->Vals vs us->t vs O H Q->
  wpAny (model X.prog X.w) X.A (assignInOrder ((assignEach ts X.env).map (·.2)) us) (λ _ s'=>∃ O' H',Inv X Fd O' H' s'/\Q O' H') X.xe s
abbrev fS:=V->V->V->Hp->(Hp->Prop)->Prop
def Y6 (X:Cx) (t:fS):Prop:=
 ∀ (Fd:Ai) (s:Shared) (O:St) (H:Hp) (o i v:V) (ov iv u:Value) (Q:Hp->Prop),Inv X Fd O H s->RelV o ov->RelV i iv->RelV v u->t o i v H Q->
  wpAny (model X.prog X.w) X.A (setItem ov iv u) (λ _ s'=>∃ H',Inv X Fd O H' s'/\Q H') X.xe s
section
variable {X:Cx}{pos:Pos}
def pW (i:Nat):TG:=λ v O H Q=>Q (O.set i ↑v) H
def Tg {i:Nat}{x:Str}(hN:X.N.Nodup) (hi:X.N[i]?=↑x) (hx:Loc X.env.scope x) (hf:X.fn x=true\/X.env.scope.names.lookup x=↑.local:=by first | show .inl rfl | show .inr rfl | assumption):PG X (.Name x pos) (pW i):=by
 intro Fd s O H v u Q I r h;show wpAny_assign_Name (lC I hN hi hx r (λ s' I'=>#[_,H,I',h]) hf)
def L6:sL:=λ vs O H Q=>vs=[]/\Q O H
def L7 (t:TG) (u:sL):sL:=λ vs O H Q=>∃ v r,vs=v::r/\t v O H fun O' H'=>u r O' H' Q
def Tc:tL X [] L6:=by
 intro Fd s O H vs us Q I r h;let#[e,h]:=h;subst e;cases r;show assignInOrder_nil #[O,H,I,h]
def Td {e:Expr}{es:List Expr}{t:TG}{u:sL}(h1:PG X e t) (h2:tL X es u)
  (hs:(assignEach (e::es) X.env).map (·.2)=assign e X.env::(assignEach es X.env).map (·.2):=by rfl):tL X (e::es) (L7 t u):=by
 intro Fd s O H vs us Q I r h;let#[v,vr,e1,h]:=h;subst e1;cases r with
 | cons r rr=>
  rw[hs];exact assignInOrder_cons (zt (h1 Fd s O H _ _ _ I r h) λ _ s1 #[O1,H1,I1,q1]=>?_);show h2 Fd s1 O1 H1 _ _ Q I1 rr q1
def Zc (K:Ac) (n:Nat) (t:sL):TG:=λ v O H Q=>∃ a xs,v=.ref a/\zO K H a xs/\xs.length=n/\t xs O H Q
def Te {es:List Expr}{k:Nat}{t:sL}{n:Nat}(hc:X.calm=true) (h:tL X es t)
  (hn:(assignEach es X.env).length=n:=by rfl) (AG:(assignEach es X.env).findIdx? (·.1)=none:=by rfl):PG X (.Tuple es k pos) (Zc X.K n t):=by
 intro Fd s O H v u Q I r hw;let#[a,xs,e1,hq,hl,hw]:=hw;subst e1;cases r;let#[Aa,rv,ht,hz]:=I.tuple hq;exact assign_Tuple_tuple (I.ok.hd hc) ht (by simp[hn,<- hl,rv.length]) AG λ h' hx=>?_;have I1:Inv X Fd O H { s with heap:=h' }:=I.kept (t':=s.toks) λ b o e=>hx b o (Aw (Ap e)) e;show h Fd _ O H xs _ Q I1 (by exists rv) hw
def Lz (to ti:TE) (t:fS):TG:=λ v O H Q=>to O H λ o H1=>ti O H1 λ i H2=>t o i v H2 λ H3=>Q O H3
def Tf {o i:Expr}{to ti:TE}{t:fS}(ho:PE X o to) (hi:PE X i ti) (hs:Y6 X t)
  (ha:∀ v,assign (.Subscript o i pos) X.env v=(do
   let ov <- holding [v] (eval o X.env)
   let iv <- holding [v,ov] (eval i X.env)
   standAt pos
   holding [v,ov,iv] (setItem ov iv v)
   release [v,ov,iv] []):=by intro _;rfl):PG X (.Subscript o i pos) (Lz to ti t):=by
 intro Fd s O H v u Q I r h;rw[ha];exact gV (za7 (zt (ho Fd s O H _ I h) λ ov s1 #[x,H1,I1,r1,q1]=>?_));exact gV (za7 (zt (hi Fd s1 O H1 _ I1 q1) λ iv s2 #[y,H2,I2,r2,q2]=>?_));exact gV (wpAny_standAt (gV (za7 (zt (hs Fd s2 O H2 x y v ov iv u _ I2 r1 r2 r q2) λ _ s3 #[H3,I3,q3]=>?_))));show wpAny_release #[O,H3,I3,q3]
def lB (te:TE) (g:TG):TS:=λ D O H=>te O H λ x H1=>g x O H1 D.nx
def UK {tg e:Expr}{te:TE}{g:TG}(he:PE X e te) (hg:PG X tg g) (hs:swapsWithSole [tg] e pos.line X.env=pure false:=by rfl) (hw:swappedStores [tg] e X.env=pure none:=by rfl)
  (h1:(assignEach [tg] X.env).map (·.2)=[assign tg X.env]:=by rfl):PS X (.Assign [tg] e pos) (lB te g):=by
 intro Fd s O H D I h;exact wpAny_Assign_stores (zt (he Fd s O H _ I h) λ v s1 #[x,H1,I1,r1,q1]=>?_) hs hw;rw[h1];show zt (hg Fd s1 O H1 x v _ I1 r1 q1) λ _ s2 q=>q
def cR {i:Nat}{x:Str}{e:Expr}{te:TE}{pos':Pos}(hN:X.N.Nodup) (hi:X.N[i]?=↑x) (hx:Loc X.env.scope x) (he:PE X e te) (hs:swapsWith e ↑(.Name x pos') pos.line X.env=pure false:=by rfl) (hf:X.fn x=true\/X.env.scope.names.lookup x=↑.local:=by first | show .inl rfl | show .inr rfl | assumption):
  PS X (.Assign [.Name x pos'] e pos) (lB te (pW i)):=by
 intro Fd s O H D I h;exact wpAny_Assign_Name (zt (he Fd s O H _ I h) λ v s1 #[y,H1,I1,r1,q1]=>?_) hs;show lC I1 hN hi hx r1 (λ s2 I2=>#[_,H1,I2,q1]) hf
def Vk (c:TT) (tb:TS):TS:=λ D O H=>∃ W:Nat->St->Hp->Prop,(∃ m,W m O H)/\∀ m O H,W m O H->
 c O H λ b H1=>if b=true then ∃ N:St->Hp->Prop,(∀ O' H',N O' H'->∃ m',m'<m/\W m' O' H')/\tb { D with nx:=N,ct:=N,bk:=D.nx } O H1 else D.nx O H1
def UC {c:Expr}{body:List Stmt}{tc:TT}{tb:TS}(hp:PassesOwn (model X.prog X.w) X.A X.env X.xe) (hc:PT X c tc) (hb:xu X body tb):PS X (.While c body [] pos) (Vk tc tb):=by
 intro Fd s O H D I h;let#[W,#[m0,w0],turn]:=h;exact wpAny_While (codeAny_whileLoop (λ n s'=>∃ O' H',Inv X Fd O' H' s'/\W n O' H') ?_ m0 #[O,H,I,w0]);rintro n s1 ⟨O1,H1,I1,w1⟩;exact zaL hp (zt (hc Fd s1 O1 H1 _ I1 (turn n O1 H1 w1)) λ b s2 #[H2,I2,q2]=>?_);cases b with
 | true=>
  let#[N,hN,q2]:=q2;rw[if_pos rfl];exact zaL hp (zt (hb Fd s2 O1 H2 _ I2 q2) λ f s3 q3=>?_);cases f with
  | next=>
   let#[O3,H3,I3,n3]:=q3;let#[m',hm,w3]:=hN O3 H3 n3;show#[m',hm,O3,H3,I3,w3]
  | cont=>
   let#[O3,H3,I3,n3]:=q3;let#[m',hm,w3]:=hN O3 H3 n3;show#[m',hm,O3,H3,I3,w3]
  | brk=>show q3
  | ret v=>show q3
 | false=>
  rw[if_neg B3];show zaK #[O1,H2,I2,q2]
end
structure It where
 go:Nat->Hp->Prop
 qW:Nat->Hp->V->Hp->Prop
 stop:Nat->Hp->Prop
def vJ (X:Cx) (Fd:Ai) (H:Hp) (b:Addr):Prop:=
 H b=none/\b≠X.env.locals/\b∉X.fs/\(b∈X.ex\/X.s₀.heap.objs.size<=b)/\(∀ x c,X.env.cells.lookup x=↑c->c≠b)/\∀ p∈X.pn++Fd,p.1≠b
theorem Inv.nR {X:Cx}{Fd:Ai}{O:St}{H H':Hp}{s:Shared}{b:Addr}(I:Inv X Fd O H s) (hb:s.heap.objs.size<=b) (hn:H' b=none):vJ X Fd H' b:=by
 exact#[hn,BM (Ba I.lt hb),I.bE hb,.inr (Bk I.sz hb),λ x c e z=>?_,λ p hp z=>?_]
 .let#[v,q]:=I.cell x c e;show absurd (Ba q.lt (by rw[z];show hb)) (Cg _)
 .show absurd (Ba (Ap (I.pin p hp).1) (by rw[z];show hb)) (Cg _)
structure Turn (P:Program) (w:World) (K:Ac) (tg:Expr) (J:It) (fp:List Addr) (it:Addr) (tn:Nat->Heap->Prop):Prop where
 mem:it∈fp
 obj:∀ i h,tn i h->∀ b∈fp,∃ o,h.get? b=↑o/\∀ v,o.data≠.cell v
 keep:∀ i h h',tn i h->(∀ b∈fp,∀ o,h.get? b=↑o->h'.get? b=↑o)->tn i h'
 item:∀ (X:Cx),X.prog=P->X.w=w->X.K=K->X.calm=true->∀ (i:Nat) (Fd:Ai) (s:Shared) (O:St) (H:Hp) (E:Af),Inv X Fd O H s->(∀ b∈fp,vJ X Fd H b)->tn i s.heap->J.go i H->
  wpAny (model P w) X.A (pyNext (.ref it)) (λ r s1=>∃ u,r=↑u/\
   wpAny (model P w) X.A (letOwnedTupleGo tg (.ref it) u) (λ _ s2=>∃ x H',Inv X Fd O H' s2/\RelV x u/\J.qW i H x H'/\tn (i+1) s2.heap/\∀ b∈fp,H' b=none) E s1) E s
 done:∀ (X:Cx),X.prog=P->X.w=w->X.K=K->X.calm=true->∀ (i:Nat) (Fd:Ai) (s:Shared) (O:St) (H:Hp) (E:Af),Inv X Fd O H s->(∀ b∈fp,vJ X Fd H b)->tn i s.heap->J.stop i H->
  wpAny (model P w) X.A (pyNext (.ref it)) (λ r s1=>r=none/\Inv X Fd O H s1) E s
 self:∀ (A:Around) (i:Nat) (s:Shared) (Q:Af) (E:Af),tn i s.heap->Q (.ref it) s->wpAny (model P w) A (pyIter (.ref it)) Q E s
abbrev TI:=St->Hp->(It->Hp->Prop)->Prop
def fT (X:Cx) (Fd:Ai) (O:St) (tg:Expr) (R:It->Hp->Prop) (itv:Value) (s2:Shared):Prop:=
 ∃ (it:Addr) (fp:List Addr) (tn:Nat->Heap->Prop) (J:It) (H':Hp),itv=.ref it/\Inv X Fd O H' s2/\Turn X.prog X.w X.K tg J fp it tn/\tn 0 s2.heap/\(∀ b∈fp,vJ X Fd H' b)/\R J H'
def PI (X:Cx) (tg iter:Expr) (wi:TI):Prop:=
 ∀ (Fd:Ai) (s:Shared) (O:St) (H:Hp) (R:It->Hp->Prop),Inv X Fd O H s->wi O H R->
  wpAny (model X.prog X.w) X.A (eval iter X.env) (λ v s1=>wpAny (model X.prog X.w) X.A (pyIter v) (fT X Fd O tg R) X.xe s1) X.xe s
def kx {M:Model}{A:Around}{E:Af}{s:Shared}{tg:Expr}{it:Addr}{u:Value}{o:Obj}{n:String}{vs:Aq}{Q:Unit->Shared->Prop}(ho:s.heap.get? it=↑o) (hc:o.cls=.type n) (hd:o.data=.fields vs)
  (hn:["enumerate","zip","dict_itemiterator","dict_reverseitemiterator","odict_iterator","itertools.zip_longest","itertools.pairwise"].contains n=false) (hQ:Q Unit.unit s):wpAny M A (letOwnedTupleGo tg (.ref it) u) Q E s:=by
 unfold letOwnedTupleGo;cases tg <;> first
  | show Ad hQ
  | (cases u <;> first
    | show Ad hQ
    | (exact gV (wpAny_load ho ?_)
       rw[hc,hd];change wpAny M A (if (["enumerate","zip","dict_itemiterator","dict_reverseitemiterator","odict_iterator","itertools.zip_longest","itertools.pairwise"].contains n&&vs[0]? == ↑(rawInt _))=true then _ else _) Q E s;rw[if_neg (by intro h;rw[hn,Bool.false_and] at h;cases h)];show Ad hQ))
def YD (K:Ac) (a:Addr):It:=
 #[λ i H=>∃ xs x,zH K H a xs/\xs[i]?=↑x,λ i H x H'=>H'=H/\∀ xs,zH K H a xs->xs[i]?=↑x,λ i H=>∃ xs,zH K H a xs/\xs.length<=i]
def YC (K:Ac) (a:Addr):It:=
 #[λ i H=>∃ xs x,zO K H a xs/\xs[i]?=↑x,λ i H x H'=>H'=H/\∀ xs,zO K H a xs->xs[i]?=↑x,λ i H=>∃ xs,zO K H a xs/\xs.length<=i]
def j5 (lo:Int) (n:Nat):It:=#[λ i _=>i<n,λ i H x H'=>H'=H/\x=.int (lo+i),λ i _=>n<=i]
def Vd {P:Program}{w:World}{K:Ac}{tg:Expr}(a it:Addr):Turn P w K tg (YD K a) [it] it (λ i h=>h.IsListIter it a i) where
 mem:=#[]
 obj:=λ i h st b hb=>by
  have e:b=it:=by exists hb
  subst e;let#[o,e,c,d]:=st;show#[o,e,λ v z=>by rw[d] at z;cases z]
 keep:=λ i h h' st k=>st.at λ o e=>k it #[] o e
 item:=by
  intro X hP hw hK hc i Fd s O H E I hf st hg;subst hP hw hK;let#[xs,x,hq,hx]:=hg;let#[Aa,rv,p,hz]:=I.list hq;let#[u,hu,ru]:=rv.get hx;let#[f0,f1,f2,f3,f4,f5]:=hf it #[];exact wpAny_pyNext_list_item st p.isList (x:=u) (by exists hu) λ h' GW sb=>?_;have I1:Inv X Fd O H { s with heap:=h' }:=I.turned (t':=s.toks) (λ b o hb e=>(sb.2 b hb).trans e) f0 f1 f3 f4 f5;let#[o,e,c,d]:=id GW;show#[u,rfl,kx (s:={ s with heap:=h' }) e c d () #[x,H,I1,ru,#[rfl,λ ys hy=>by rw[I.hJ hy hq];show hx],GW,λ b hb=>(hf b hb).1]]
 done:=by
  intro X hP hw hK hc i Fd s O H E I hf st hg;subst hP hw hK;let#[xs,hq,hx]:=hg;let#[Aa,rv,p,hz]:=I.list hq;let#[f0,f1,f2,f3,f4,f5]:=hf it #[];have hl:=rv.length;show wpAny_pyNext_list_end (I.ok.hd hc) st p.isList (by simp;lia) λ h' eb=>#[rfl,I.turned (t':=s.toks) (λ b o hb e=>eb b o hb e) f0 f1 f3 f4 f5]
 self:=λ _ _ _ _ _ st h=>wpAny_pyIter_listiter st h
def Va {P:Program}{w:World}{K:Ac}{tg:Expr}(a it:Addr):Turn P w K tg (YC K a) [it] it (λ i h=>h.IsTupleIter it a i) where
 mem:=#[]
 obj:=λ i h st b hb=>by
  have e:b=it:=by exists hb
  subst e;let#[o,e,c,d]:=st;show#[o,e,λ v z=>by rw[d] at z;cases z]
 keep:=λ i h h' st k=>st.at λ o e=>k it #[] o e
 item:=by
  intro X hP hw hK hc i Fd s O H E I hf st hg;subst hP hw hK;let#[xs,x,hq,hx]:=hg;let#[Aa,rv,p,hz]:=I.tuple hq;let#[u,hu,ru]:=rv.get hx;let#[f0,f1,f2,f3,f4,f5]:=hf it #[];exact wpAny_pyNext_tuple_item st (show s.heap.IsTuple a Aa.toArray from p) (x:=u) (by exists hu) λ h' GW sb=>?_;have I1:Inv X Fd O H { s with heap:=h' }:=I.turned (t':=s.toks) (λ b o hb e=>(sb.2 b hb).trans e) f0 f1 f3 f4 f5;let#[o,e,c,d]:=id GW;show#[u,rfl,kx (s:={ s with heap:=h' }) e c d () #[x,H,I1,ru,#[rfl,λ ys hy=>by rw[I.jS hy hq];show hx],GW,λ b hb=>(hf b hb).1]]
 done:=by
  intro X hP hw hK hc i Fd s O H E I hf st hg;subst hP hw hK;let#[xs,hq,hx]:=hg;let#[Aa,rv,p,hz]:=I.tuple hq;let#[f0,f1,f2,f3,f4,f5]:=hf it #[];have hl:=rv.length;show wpAny_pyNext_tuple_end (I.ok.hd hc) st (show s.heap.IsTuple a Aa.toArray from p) (by simp;lia) λ h' eb=>#[rfl,I.turned (t':=s.toks) (λ b o hb e=>eb b o hb e) f0 f1 f3 f4 f5]
 self:=λ _ _ _ _ _ st h=>wpAny_pyIter_tupleiter st h
def Vc {P:Program}{w:World}{K:Ac}{tg:Expr}(it:Addr) (lo:Int) (n:Nat):Turn P w K tg (j5 lo n) [it] it (λ i h=>IsRangeIter h it (lo+(i:Nat)*1) ((n:Int)-(i:Nat)) 1) where
 mem:=#[]
 obj:=λ i h st b hb=>by
  have e:b=it:=by exists hb
  subst e;show#[_,st,λ v z=>by
   have z':Data.fields _=Data.cell v:=z;cases z']
 keep:=λ i h h' st k=>k it #[] _ st
 item:=by
  intro X hP hw hK hc i Fd s O H E I hf st hg;subst hP hw hK;let#[f0,f1,f2,f3,f4,f5]:=hf it #[];have W:=Walks.range (prog:=X.prog) (w:=X.w) (I.ok.hd hc) it lo 1 n;exact W.item i s _ _ hg st λ v h' tk hv GW kk=>?_;let#[t,rfl]:=hv;have I1:Inv X Fd O H { s with heap:=h',toks:=tk }:=I.turned (λ b o hb e=>kk b o (by exists hb) e) f0 f1 f3 f4 f5;exact#[_,rfl,kx (s:={ s with heap:=h',toks:=tk }) (n:="range_iterator") GW rfl rfl () #[.int (lo+i),H,I1,#[t,?_],#[rfl,rfl],GW,λ b hb=>(hf b hb).1]];rw[Int.mul_one]
 done:=by
  intro X hP hw hK hc i Fd s O H E I hf st hg;subst hP hw hK;let#[f0,f1,f2,f3,f4,f5]:=hf it #[];show wpAny_pyNext_range_end (I.ok.hd hc) st (by have:n<=i:=hg;lia) λ h' eb=>#[rfl,I.turned (t':=s.toks) (λ b o hb e=>eb b o hb e) f0 f1 f3 f4 f5]
 self:=λ _ _ _ _ _ st h=>wpAny_pyIter_rangeiter st h
section
variable {X:Cx}{tg:Expr}
def Ur {Fd:Ai}{O:St}{H:Hp}{s:Shared}{R:It->Hp->Prop}{E:Af}{lo hi:Int}{t u v:Tok}{tk:Nat}(I:Inv X Fd O H s) (h1:-(2 ^ 62)<=lo) (h2:lo<2 ^ 62) (h3:-(2 ^ 62)<=hi) (h4:hi<2 ^ 62)
  (q:R (j5 lo (hi-lo).toNat) H):wpAny (model X.prog X.w) X.A (pyIter (.ref s.heap.objs.size)) (fT X Fd O tg R) E { s with heap:=s.heap.push { cls:=.type "range",data:=.fields [.int lo t,.int hi u,.int 1 v].toArray },toks:=tk }:=by
 exact wpAny_pyIter_range (IsRange.new ..) (small_one h1 h2 h3 h4) ?_;have I1:Inv X Fd O H { s with heap:=s.heap.push { cls:=.type "range",data:=.fields [.int lo t,.int hi u,.int 1 v].toArray },toks:=tk }:=I.kept λ b o e=>za1 _ e;exact#[(s.heap.push { cls:=.type "range",data:=.fields [.int lo t,.int hi u,.int 1 v].toArray }).objs.size,[(s.heap.push { cls:=.type "range",data:=.fields [.int lo t,.int hi u,.int 1 v].toArray }).objs.size],_,_,H,rfl,
  I1.kept (t':=tk) λ b o e=>za1 _ e,Vc _ lo (hi-lo).toNat,?_,λ b hb=>?_,q]
 .have e1:lo+((0:Nat):Int)*1=lo:=#[];have e2:(((hi-lo).toNat:Nat):Int)-((0:Nat):Int)=Builtin.Range.rangeSize lo hi 1:=by rw[rangeSize_one];split <;> lia
  change IsRangeIter _ _ (lo+((0:Nat):Int)*1) ((((hi-lo).toNat:Nat):Int)-((0:Nat):Int)) 1;rw[e1,e2];show AJ _ rfl
 .have e:b=(s.heap.push { cls:=.type "range",data:=.fields [.int lo t,.int hi u,.int 1 v].toArray }).objs.size:=by exists hb
  subst e;show I1.nR (Ak _) (I1.zl.fresh (Ak _))
def aU (ta:TA):TI:=fun O H R=>ta O H λ vs H1=>∃ j:Int,vs=[.int j]/\-(2 ^ 62)<=j/\j<2 ^ 62/\R (j5 0 j.toNat) H1
theorem Ta {a:Expr}{ta:TA}{p pos:Pos}(hg:Gl X "range") (hm:X.mg "range"=none) (ha:PA X [a] ta) (hs:starEach [a] X.env=[(false,eval a X.env)]:=by rfl):PI X tg (.Call (.Name "range" p) [a] [] pos) (aU ta):=by
 intro Fd s O H R I h;exact Call_ (rq I hg hm boot_range (PyProof.Rows.callWith_type1 (zt (ha pos Fd s O H _ I h) λ us s1 #[vs,H1,I1,r1,q1]=>?_) hs rfl));let#[j,e,q1,q2,q]:=q1;subst e;cases r1 with
 | cons r rr=>
  cases rr;let#[t,rfl]:=r;show call_range_1 (Ur I1 ⋯ ⋯ q1 q2 (by exists q))
def V2 (wi:TI) (g:TG) (tb:TS):TS:=λ D O H=>wi O H λ J H1=>∃ W:Nat->Nat->St->Hp->Prop,(∃ m,W 0 m O H1)/\∀ i m O H,W i m O H->
 (J.stop i H/\D.nx O H)\/(J.go i H/\∃ N:St->Hp->Prop,(∀ O' H',N O' H'->∃ m',m'<m/\W (i+1) m' O' H')/\∀ x H',J.qW i H x H'->g x O H' fun O2 H2=>tb { D with nx:=N,ct:=N,bk:=D.nx } O2 H2)
def nj (fp:List Addr) (h:Heap):Ai:=fp.filterMap λ b=>(h.get? b).map λ o=>(b,o)
def lZ {fp:List Addr}{h:Heap}{b:Addr}{o:Obj}(hb:b∈fp) (e:h.get? b=↑o):(b,o)∈nj fp h:=C2.mpr #[b,hb,by rw[e];rfl]
def Nq {fp:List Addr}{h:Heap}{p:Addr×Obj}(hp:p∈nj fp h):p.1∈fp/\h.get? p.1=↑p.2:=by
 let#[b,hb,e]:=C2.mp hp;cases q:h.get? b with
 | none=>rw[q] at e;cases e
 | some o=>
  rw[q] at e;have e':(b,o)=p:=A_ e;subst e';show#[hb,q]
def Inv.pinned {Fd:Ai}{O:St}{H:Hp}{s:Shared}{fp:List Addr}(I:Inv X Fd O H s) (hf:∀ b∈fp,vJ X Fd H b) (ho:∀ b∈fp,∃ o,s.heap.get? b=↑o/\∀ v,o.data≠.cell v):Inv X (Fd++nj fp s.heap) O H s:=
 I.i9 λ p hp=>(A4.mp hp).elim (λ z=>I.pin p (A5 _ z)) λ z=>by
  let#[hb,e]:=Nq z;let#[f0,f1,f2,_]:=hf p.1 hb;let#[o,e',d]:=ho p.1 hb;rw[e] at e';cases e';show#[e,f0,f1,f2,d]
def Inv.oS {Fd pl:Ai}{O:St}{H:Hp}{s:Shared}(I:Inv X (Fd++pl) O H s):Inv X Fd O H s:=I.i9 λ p hp=>I.pin p (A5 _ (C3 _ hp))
def cT {iter:Expr}{body:List Stmt}{wi:TI}{g:TG}{tb:TS}{pos:Pos}(hp:PassesOwn (model X.prog X.w) X.A X.env X.xe) (hc:X.calm=true) (hi:PI X tg iter wi) (hg:PG X tg g) (hb:xu X body tb)
  (hs:∀ x,foldedSetIterable iter X.env x=pure x:=by intro _;rfl):PS X (.For tg iter body [] pos) (V2 wi g tb):=by
 intro Fd s O H D I h;exact wpAny_For (zt (hi Fd s O H _ I h) λ v s1 h1=>zt h1 λ itv s2 h2=>?_) hs;let#[it,fp,tn,J,H2,e,I2,T,st2,f2,W,#[m0,w0],turn]:=h2;subst e;have Hv:∀ {H':Hp},(∀ b∈fp,H' b=none)->∀ b∈fp,vJ X Fd H' b:=λ hn b hb=>#[hn b hb,(f2 b hb).2];exact codeAny_forLoop_any (λ n s'=>∃ i O' H',Inv X Fd O' H' s'/\tn i s'.heap/\(∀ b∈fp,H' b=none)/\W i n O' H') ?_ m0 #[0,O,H2,I2,st2,λ b hb=>(f2 b hb).1,w0];rintro n s3 ⟨i,O3,H3,I3,st3,fr3,w3⟩;rcases turn i n O3 H3 w3 with ⟨stop,qn⟩ | ⟨go,N,hN,step⟩
 .exact zaL hp (zt (T.done X rfl rfl rfl hc i Fd s3 O3 H3 X.xe I3 (Hv fr3) st3 stop) λ r s4 #[hr,I4]=>?_);subst hr;show zaK #[O3,H3,I4,qn]
 .exact zaL hp (zt (T.item X rfl rfl rfl hc i Fd s3 O3 H3 X.xe I3 (Hv fr3) st3 go) λ r s4 #[u,hr,h4]=>?_);subst hr;exact zaL hp (zt h4 λ _ s5 #[x,H5,I5,r5,y5,st5,fr5]=>?_);have I5':=I5.pinned (Hv fr5) (T.obj _ _ st5);exact zaL hp (zt (hg _ s5 O3 H5 x u _ I5' r5 (step x H5 y5)) λ _ s6 #[O6,H6,I6,q6]=>?_);exact zaL hp (zt (hb _ s6 O6 H6 _ I6 q6) λ f s7 q7=>?_);have again:∀ {O7:St}{H7:Hp},Inv X (Fd++nj fp s5.heap) O7 H7 s7->N O7 H7->∃ m,m<n/\∃ i O' H',Inv X Fd O' H' s7/\tn i s7.heap/\(∀ b∈fp,H' b=none)/\W i m O' H':=λ{O7 H7} I7 n7=>by
   let#[m',hm,w7]:=hN O7 H7 n7;exact#[m',hm,i+1,O7,H7,I7.oS,T.keep _ _ _ st5 λ b hb o e=>(I7.pin (b,o) (A5 _ (A5 _ (lZ hb e)))).1,λ b hb=>?_,w7];let#[o,e,d]:=T.obj _ _ st5 b hb;show (I7.pin (b,o) (A5 _ (A5 _ (lZ hb e)))).2.1
  cases f with
  | brk=>let#[O7,H7,I7,q7]:=q7;show#[O7,H7,I7.oS,q7]
  | ret v=>let#[x7,O7,H7,I7,r7,q7]:=q7;show#[x7,O7,H7,I7.oS,r7,q7]
  | _=>let#[O7,H7,I7,n7]:=q7;show again I7 n7
end
abbrev R2:=V->V->Hp->VK->Prop
def zV (X:Cx) (f:Value->Value->Sem Value) (r:R2):Prop:=
 ∀ (Fd:Ai) (s:Shared) (O:St) (H:Hp) (x y:V) (v u:Value) (Q:VK),Inv X Fd O H s->RelV x v->RelV y u->r x y H Q->
  wpAny (model X.prog X.w) X.A (f v u) (EP X Fd O Q) X.xe s
def fQ (X:Cx) (f:Value->Sem Value) (r:V->Hp->VK->Prop):Prop:=
 ∀ (Fd:Ai) (s:Shared) (O:St) (H:Hp) (x:V) (v:Value) (Q:VK),Inv X Fd O H s->RelV x v->r x H Q->
  wpAny (model X.prog X.w) X.A (f v) (EP X Fd O Q) X.xe s
def y7 (X:Cx) (f:Value) (r:List V->Hp->VK->Prop):Prop:=
 ∀ (Fd:Ai) (s:Shared) (O:St) (H:Hp) (xs:List V) (us:Ae) (Q:VK),Inv X Fd O H s->Vals xs us->r xs H Q->
  wpAny (model X.prog X.w) X.A (call f us) (EP X Fd O Q) X.xe s
def J9 (X:Cx) (r:V->Hp->(Bool->Hp->Prop)->Prop):Prop:=
 ∀ (Fd:Ai) (s:Shared) (O:St) (H:Hp) (x:V) (v:Value) (Q:Bool->Hp->Prop),Inv X Fd O H s->RelV x v->r x H Q->
  wpAny (model X.prog X.w) X.A (truthy v) (TP X Fd O Q) X.xe s
def oV (r:R2) (ta tb:TE):TE:=fun O H Q=>ta O H λ x H1=>tb O H1 λ y H2=>r x y H2 Q
def Vl (r:V->Hp->VK->Prop) (ta:TE):TE:=fun O H Q=>ta O H λ x H1=>r x H1 Q
def rI (C:Int->Int->Prop) (g:Int->Int->V):R2:=λ x y H Q=>∃ i j,x=.int i/\y=.int j/\C i j/\Q (g i j) H
def w9 (g:Int->Int->V):R2:=λ x y H Q=>∃ i j,x=.int i/\y=.int j/\Q (g i j) H
def rU (g:Int->V):V->Hp->VK->Prop:=λ x H Q=>∃ i,x=.int i/\Q (g i) H
section
variable {X:Cx}{a b:Expr}{ta tb:TE}{pos:Pos}
def f9 (ha:PE X a ta) (hb:PE X b tb) {Fd:Ai}{s:Shared}{O:St}{H:Hp}{R:V->V->Hp->Prop}(I:Inv X Fd O H s)
  (h:ta O H λ x H1=>tb O H1 λ y H2=>R x y H2) {Q:Af}{f:Value->Value->Sem Value}
  (hf:∀ v u s2 x y H2,Inv X Fd O H2 s2->RelV x v->RelV y u->R x y H2->wpAny (model X.prog X.w) X.A (f v u) Q X.xe s2):
  wpAny (model X.prog X.w) X.A (eval a X.env) (λ v s₁=>wpAny (model X.prog X.w) X.A (eval b X.env) (λ u s₂=>wpAny (model X.prog X.w) X.A (f v u) Q X.xe s₂) X.xe s₁) X.xe s:=by
 exact zt (ha Fd s O H _ I h) λ v s1 #[x,H1,I1,r1,q1]=>?_;exact zt (hb Fd s1 O H1 _ I1 q1) λ u s2 #[y,H2,I2,r2,q2]=>?_;show hf v u s2 x y H2 I2 r1 r2 q2
def Tw {op:Operator}{r:R2}(ho:zV X (binaryOp op) r) (ha:PE X a ta) (hb:PE X b tb):PE X (.BinOp a op b pos) (oV r ta tb):=by
 intro Fd s O H Q I h;show wpAny_BinOp (f9 ha hb I h λ v u s2 x y H2 I2 rx ry q=>ho Fd s2 O H2 x y v u Q I2 rx ry q)
def Ts {op:UnaryOp}{r:V->Hp->VK->Prop}(ho:fQ X (unaryOp op) r) (ha:PE X a ta):PE X (.UnaryOp op a pos) (Vl r ta):=by
 intro Fd s O H Q I h;show UnaryOp_ (zt (ha Fd s O H _ I h) λ v s1 #[x,H1,I1,r1,q1]=>ho Fd s1 O H1 x v Q I1 r1 q1)
def pD {f:Value->Value->Sem Value}{C:Int->Int->Prop}{g:Int->Int->Int}
  (rule:∀ (i j:Int) (t u:Tok) (s:Shared) (Q:Af) (E:Af),C i j->Q (.int (g i j) s.toks) { s with toks:=s.toks+1 }->wpAny (model X.prog X.w) X.A (f (.int i t) (.int j u)) Q E s):
  zV X f (rI C λ i j=>.int (g i j)):=by
 intro Fd s O H x y v u Q I rx ry h;let#[i,j,rfl,rfl,hc,q]:=h;let#[t,rfl]:=rx;let#[t',rfl]:=ry;show rule i j t t' s _ _ hc #[.int (g i j),H,I.tok _,#[_,rfl],q]
def b7 {f:Value->Value->Sem Value}{g:Int->Int->Int}
  (rule:∀ (i j:Int) (t u:Tok) (s:Shared) (Q:Af) (E:Af),Q (.int (g i j) s.toks) { s with toks:=s.toks+1 }->wpAny (model X.prog X.w) X.A (f (.int i t) (.int j u)) Q E s):
  zV X f (w9 λ i j=>.int (g i j)):=by
 intro Fd s O H x y v u Q I rx ry h;let#[i,j,rfl,rfl,q]:=h;let#[t,rfl]:=rx;let#[t',rfl]:=ry;show rule i j t t' s _ _ #[.int (g i j),H,I.tok _,#[_,rfl],q]
def lV {f:Value->Value->Sem Value}{g:Int->Int->Bool}
  (rule:∀ (i j:Int) (t u:Tok) (s:Shared) (Q:Af) (E:Af),Q (.bool (g i j)) s->wpAny (model X.prog X.w) X.A (f (.int i t) (.int j u)) Q E s):
  zV X f (w9 λ i j=>.bl (g i j)):=by
 intro Fd s O H x y v u Q I rx ry h;let#[i,j,rfl,rfl,q]:=h;let#[t,rfl]:=rx;let#[t',rfl]:=ry;show rule i j t t' s _ _ #[.bl (g i j),H,I,rfl,q]
def xE (i j:Int):Prop:=0<j/\j<1073741824
def tT (i j:Int):Prop:=0<=j/\j<=1000000/\i.natAbs<2 ^ 64
def vM (i j:Int):Prop:=(-(2 ^ 64)<i/\i<2 ^ 64)\/(-(2 ^ 64)<j/\j<2 ^ 64)
def vM.ok {i j:Int}(h:vM i j):IntMulOk i j:=by
 rcases h with ⟨h1,h2⟩ | ⟨h1,h2⟩
 .show .of_left (intBits_le_64 h1 h2)
 .show .of_right (intBits_le_64 h1 h2)
def QH:zV X (binaryOp .Add) (w9 λ i j=>.int (i+j)):=b7 λ _ _ _ _ _ _ _ q=>add_int q
def Qz:zV X (binaryOp .Sub) (w9 λ i j=>.int (i-j)):=b7 λ _ _ _ _ _ _ _ q=>sub_int q
def Q5:zV X (binaryOp .Mult) (rI vM λ i j=>.int (i*j)):=pD λ _ _ _ _ _ _ _ hc q=>mul_int q hc.ok
def QC:zV X (binaryOp .FloorDiv) (rI xE λ i j=>.int (i/j)):=pD λ i j _ _ _ _ _ hc q=>by
 have h1:(0:Int)<j:=hc.1;have h2:j<1073741824:=hc.2;show floordiv_int ⋯ (by rw[Int.fdiv_eq_ediv_of_nonneg i ⋯];show q) (.inl (PyProof.noPylong_small ⋯))
def Q6:zV X (binaryOp .Mod) (rI (λ _ j=>0<j) λ i j=>.int (i%j)):=pD λ i j _ _ _ _ _ hc q=>by
 have h1:(0:Int)<j:=hc;show mod_int' ⋯ (by rw[Int.fmod_eq_emod_of_nonneg i ⋯];show q)
def Q0:zV X (binaryOp .Pow) (rI tT λ i j=>.int (i ^ j.toNat)):=pD λ _ _ _ _ _ _ _ hc q=>pow_int_small hc.1 hc.2.1 hc.2.2 q
def WX {f:Value->Sem Value}{g:Int->Int}
  (rule:∀ (i:Int) (t:Tok) (s:Shared) (Q:Af) (E:Af),Q (.int (g i) s.toks) { s with toks:=s.toks+1 }->wpAny (model X.prog X.w) X.A (f (.int i t)) Q E s):
  fQ X f (rU λ i=>.int (g i)):=by
 intro Fd s O H x v Q I rx h;let#[i,rfl,q]:=h;let#[t,rfl]:=rx;show rule i t s _ _ #[.int (g i),H,I.tok _,#[_,rfl],q]
def WV:fQ X (unaryOp .USub) (rU λ i=>.int (-i)):=WX λ _ _ _ _ _ q=>neg_int q
end
section
variable {X:Cx}{a b c:Expr}{ta tb tc:TE}{pos:Pos}
def LK {Fd:Ai}{O:St}{H:Hp}{s:Shared}{Q:VK}{k k':Bool}(I:Inv X Fd O H s) (q:Q (.bl k) H) (e:k=k'):EP X Fd O Q (.bool k') s:=by
 subst e;show#[.bl k,H,I,rfl,q]
def Q8:zV X (compareOp .Lt) (w9 λ i j=>.bl (decide (i<j))):=lV λ _ _ _ _ _ _ _ q=>lt_int q
def pC:zV X (compareOp .LtE) (w9 λ i j=>.bl (decide (i<=j))):=lV λ _ _ _ _ _ _ _ q=>le_int q
def Q9:zV X (compareOp .Gt) (w9 λ i j=>.bl (decide (j<i))):=lV λ _ _ _ _ _ _ _ q=>gt_int q
def QA:zV X (compareOp .GtE) (w9 λ i j=>.bl (decide (j<=i))):=lV λ _ _ _ _ _ _ _ q=>ge_int q
def bu:zV X (compareOp .Is) (λ x y H Q=>y=.zo/\Q (.bl (decide (x=.zo))) H):=by
 intro Fd s O H x y v u Q I rx ry h;let#[rfl,q]:=h;cases ry;exact is_none_gen (LK I q ?_);cases x <;> first
  | (cases rx;rfl)
  | (let#[t,rfl]:=rx;rfl)
def zV.or {f:Value->Value->Sem Value}{r r':R2}(h:zV X f r) (h':zV X f r'):zV X f (λ x y H Q=>r x y H Q\/r' x y H Q):=by
 intro Fd s O H x y v u Q I rx ry q;rcases q with q | q
 .show h Fd s O H x y v u Q I rx ry q
 .show h' Fd s O H x y v u Q I rx ry q
def u7 (b:Expr) {op:CmpOp}(h:op≠.In:=by decide) (h2:op≠.NotIn:=by decide):behindInMarks op b=false:=by
 have e1:(op == CmpOp.In)=false:=by cases op <;> first | rfl | show absurd rfl h
 have e2:(op == CmpOp.NotIn)=false:=by cases op <;> first | rfl | show absurd rfl h2
 cases b <;> simp[behindInMarks,e1,e2]
def TH {op:CmpOp}{r:R2}(ho:zV X (compareOp op) r) (ha:PE X a ta) (hb:PE X b tb) (hm:behindInMarks op b=false):PE X (.Compare a [op] [b] pos) (oV r ta tb):=by
 intro Fd s O H Q I h;show wpAny_Compare1 (f9 ha hb I h λ v u s2 x y H2 I2 rx ry q=>ho Fd s2 O H2 x y v u Q I2 rx ry q) hm
def dF (t:TE):TT:=fun O H Q=>t O H λ x H'=>∃ k,x=.bl k/\Q k H'
def U8 {op:CmpOp}{r:R2}(ho:zV X (compareOp op) r) (ha:PE X a ta) (hb:PE X b tb) (hm:behindInMarks op b=false):PT X (.Compare a [op] [b] pos) (dF (oV r ta tb)):=by
 intro Fd s O H Q I h;exact wpAny_isTrue_Compare1 (zt (ha Fd s O H _ I h) λ v s1 #[x,H1,I1,r1,q1]=>zt (hb Fd s1 O H1 _ I1 q1) λ u s2 #[y,H2,I2,r2,q2]=>
  zt (ho Fd s2 O H2 x y v u _ I2 r1 r2 q2) λ c s3 #[z,H3,I3,r3,k,e,q3]=>?_) hm
 subst e;cases r3;show zaG #[H3,I3,q3]
def jV (r r':R2) (ta tb tc:TE):TE:=fun O H Q=>ta O H λ x H1=>tb O H1 λ y H2=>r x y H2 λ z H3=>∃ k,z=.bl k/\
 (if k=true then tc O H3 λ w' H4=>r' y w' H4 Q else Q (.bl false) H3)
def TJ {op Hw:CmpOp}{r r':R2}(ho:zV X (compareOp op) r) (FY:zV X (compareOp Hw) r') (ha:PE X a ta) (hb:PE X b tb) (hc:PE X c tc)
  (hm:lastMarks [op,Hw] [b,c]=false:=by with_unfolding_all rfl):PE X (.Compare a [op,Hw] [b,c] pos) (jV r r' ta tb tc):=by
 intro Fd s O H Q I h;exact Compare_chain (zt (ha Fd s O H _ I h) λ v s1 #[x,H1,I1,r1,q1]=>chain_link (zt (hb Fd s1 O H1 _ I1 q1) λ u s2 #[y,H2,I2,r2,q2]=>
  zt (ho Fd s2 O H2 x y v u _ I2 r1 r2 q2) λ d s3 #[z,H3,I3,r3,k,e,q3]=>?_)) hm
 subst e;cases r3;exact zaG ?_;cases k with
 | false=>show ite_ff #[.bl false,H3,I3,rfl,q3]
 | true=>show ite_tt (chain_last (zt (hc Fd s3 O H3 _ I3 q3) λ w' s4 #[z',H4,I4,r4,q4]=>FY Fd s4 O H4 y z' u w' Q I4 r2 r4 q4))
def U9 {op Hw:CmpOp}{r r':R2}(ho:zV X (compareOp op) r) (FY:zV X (compareOp Hw) r') (ha:PE X a ta) (hb:PE X b tb) (hc:PE X c tc)
  (hm:lastMarks [op,Hw] [b,c]=false:=by with_unfolding_all rfl):PT X (.Compare a [op,Hw] [b,c] pos) (dF (jV r r' ta tb tc)):=by
 intro Fd s O H Q I h;exact isTrue_chain (zt (ha Fd s O H _ I h) λ v s1 #[x,H1,I1,r1,q1]=>test_link (zt (hb Fd s1 O H1 _ I1 q1) λ u s2 #[y,H2,I2,r2,q2]=>
  zt (ho Fd s2 O H2 x y v u _ I2 r1 r2 q2) λ d s3 #[z,H3,I3,r3,k,e,q3]=>?_)) hm
 subst e;cases r3;exact zaG ?_;cases k with
 | false=>
  let#[k',e',q']:=q3;cases e';show ite_ff #[H3,I3,q']
 | true=>
  exact ite_tt (test_last (zt (hc Fd s3 O H3 _ I3 q3) λ w' s4 #[z',H4,I4,r4,q4]=>zt (FY Fd s4 O H4 y z' u w' _ I4 r2 r4 q4) λ d' s5 #[z2,H5,I5,r5,k2,e2,q5]=>?_));subst e2;cases r5;show zaG #[H5,I5,q5]
def fR (K:Ac) (x:V) (H:Hp) (k:Bool):Prop:=
 match x with
 | .zo=>k=false
 | .bl b=>k=b
 | .int i=>k=(i != 0)
 | .str y=>y.length<=sizeLine/\k=((y.length:Int) != 0)
 | .mq y=>y.size<=sizeLine/\k=((y.size:Int) != 0)
 | .ref p=>(∃ xs,zH K H p xs/\k=!xs.isEmpty)\/(∃ xs,zO K H p xs/\k=!xs.isEmpty)\/∃ Ab,H p=↑(.dK Ab)/\k=!Ab.isEmpty
 | _=>False
def MD {κ:Type}{Ab:List (κ × V)}{vs:List (κ × Value)}(r:KV Ab vs):(!vs.isEmpty)=!Ab.isEmpty:=by
 cases r <;> rfl
def az {xs:List V}{Aa:Ae}(r:Vals xs Aa):(!Aa.toArray.isEmpty)=!xs.isEmpty:=by
 cases r <;> simp
def qp:(sizeLine:Nat)<2 ^ 63:=by rw[sizeLine_eq];decide
theorem Vi:J9 X (λ x H Q=>∃ k,fR X.K x H k/\Q k H):=by
 intro Fd s O H x v Q I rx h;let#[k,e,q]:=h;have hl:=qp;have hs:sizeLine=16777216:=sizeLine_eq;cases x with
 | zo=>
  cases rx;have e':k=false:=e;subst e';show truthy_none #[H,I,q]
 | bl b=>
  cases rx;have e':k=b:=e;subst e';show zaG #[H,I,q]
 | int i=>
  let#[t,rfl]:=rx;have e':k=(i != 0):=e;subst e';show PySem.P.truthy_int #[H,I,q]
 | str y=>
  let#[t,rfl]:=rx;obtain⟨hy,e'⟩:y.length<=sizeLine/\k=((y.length:Int) != 0):=e;subst e';show PySem.P.truthy_str ⋯ #[H,I.tok _,q]
 | mq y=>
  let#[t,rfl]:=rx;obtain⟨hy,e'⟩:y.size<=sizeLine/\k=((y.size:Int) != 0):=e;subst e';show PySem.W.truthy_bytes ⋯ #[H,I.tok _,q]
 | ref p=>
  cases rx;have e':(∃ xs,zH X.K H p xs/\k=!xs.isEmpty)\/(∃ xs,zO X.K H p xs/\k=!xs.isEmpty)\/∃ Ab,H p=↑(.dK Ab)/\k=!Ab.isEmpty:=e;rcases e' with ⟨xs,hx,e'⟩ | ⟨xs,hx,e'⟩ | ⟨Ab,hx,e'⟩
  .subst e';let#[Aa,r,pl,hz]:=I.list hx;have hlen:=r.length;show wpAny_truthy_list pl.isList (by simp![AB];lia) #[H,I.tok _,by rw[az r];show q]
  .subst e';let#[Aa,r,pl,hz]:=I.tuple hx;have hlen:=r.length;show truthy_tuple pl (by simp![AB];lia) #[H,I.tok _,by rw[az r];show q]
  .subst e';obtain⟨hz,hS,vs,r,m⟩:Ab.length<=sizeLine/\(p == sysModules)=false/\∃ vs,KV Ab vs/\s.heap.DictOf (we X.prog X.w) p vs:=I.zl p _ hx;have hlen:Ab.length=vs.length:=Paired.length r;show wpAny_truthy_dict hS m ⋯ #[H,I.tok _,by rw[MD r];show q]
 | _=>show (show False from e).elim
def U6 (ha:PE X a ta) (he:∀ whole,isTrue a X.env whole=(do let v <- whole;standAt a.pos;holding [v] (truthy v))):
  PT X a (fun O H Q=>ta O H λ x H'=>∃ k,fR X.K x H' k/\Q k H'):=by
 intro Fd s O H Q I h;show isTrue_plain (zt (ha Fd s O H _ I h) λ v s1 #[x,H1,I1,r1,q1]=>Vi Fd s1 O H1 x v Q I1 r1 q1) (he _)
def QG:zV X (binaryOp .Add) (λ x y H Q=>∃ i j,x=.str i/\y=.str j/\i.length+j.length<=sizeLine/\Q (.str (i++j)) H):=by
 intro Fd s O H x y v u Q I rx ry h;let#[i,j,rfl,rfl,hz,q]:=h;let#[t,rfl]:=rx;let#[t',rfl]:=ry;show add_str (λ t' tk=>#[.str (i++j),H,I.tok _,#[_,rfl],q]) hz
def vals1 {x:V}{us:Ae}(r:Vals [x] us):∃ u,us=[u]/\RelV x u:=by
 cases r with
 | cons r1 r2=>cases r2;show#[_,rfl,r1]
def vals2 {x y:V}{us:Ae}(r:Vals [x,y] us):∃ u w',us=[u,w']/\RelV x u/\RelV y w':=by
 cases r with
 | cons r1 r2=>
  cases r2 with
  | cons r3 r4=>cases r4;show#[_,_,rfl,r1,r3]
def Jj:y7 X (.builtin "abs") (λ xs H Q=>∃ i,xs=[.int i]/\Q (.int (if i<0 then -i else i)) H):=by
 intro Fd s O H xs us Q I r h;let#[i,rfl,q]:=h;let#[u,rfl,t,rfl]:=vals1 r;show call_abs_int λ u tk=>#[.int (if i<0 then -i else i),H,I.tok _,#[_,rfl],q]
def K_ (hc:X.calm=true):y7 X (.builtin "max") (λ xs H Q=>∃ i j,xs=[.int i,.int j]/\Q (.int (if j>i then j else i)) H):=by
 intro Fd s O H xs us Q I r h;let#[i,j,rfl,q]:=h;let#[u,w',rfl,#[t,rfl],#[t',rfl]]:=vals2 r;exact max_two_ints (I.ok.hd hc) λ h' tk k=>#[_,H,I.kept k,?_,q];by_cases hj:j>i
 .rw[if_pos hj,if_pos hj];show#[_,rfl]
 .rw[if_neg hj,if_neg hj];show#[_,rfl]
def KZ (hc:X.calm=true):y7 X (.builtin "min") (λ xs H Q=>∃ i j,xs=[.int i,.int j]/\Q (.int (if j<i then j else i)) H):=by
 intro Fd s O H xs us Q I r h;let#[i,j,rfl,q]:=h;let#[u,w',rfl,#[t,rfl],#[t',rfl]]:=vals2 r;exact min_two_ints (I.ok.hd hc) λ h' tk k=>#[_,H,I.kept k,?_,q];by_cases hj:j<i
 .rw[if_pos hj,if_pos hj];show#[_,rfl]
 .rw[if_neg hj,if_neg hj];show#[_,rfl]
end
def vH.some_of {v:V}{o:Option Value}(r:vH ↑v o):∃ u,o=↑u/\RelV v u:=by
 cases o with
 | none=>show (show False from r).elim
 | some u=>show#[u,rfl,r]
def La {v:V}{u:Value}(r:RelV v u):PySem.W.handedIn u=true:=by
 cases v with
 | zo=>cases (show u=Value.none from r);rfl
 | bl b=>cases (show u=Value.bool b from r);rfl
 | int i=>let#[t,e]:=(show ∃ t,u=Value.int i t from r);cases e;rfl
 | str x=>let#[t,e]:=(show ∃ t,u=Value.str x t from r);cases e;rfl
 | mq b=>let#[t,e]:=(show ∃ t,u=Value.bytes b t from r);cases e;rfl
 | gK b=>let#[t,e]:=(show ∃ t,u=Value.float b t from r);cases e;rfl
 | ref a=>cases (show u=Value.ref a from r);rfl
 | ty n=>cases (show u=Value.type n from r);rfl
section
variable {s:Shared}{f:Str}{A:Around}{E:Af}
def Jw {prog:Program}{w:World}{env:Env}{e:Expr}{f:Str}{pos:Pos}{s:Shared}{Q:Af}(hb:attributeBase e f env (eval e env)=eval e env)
  (h:wpAny (model prog w) A (eval e env) (λ o s₁=>wpAny (model prog w) A (getAttr o f true) Q E s₁) E s):wpAny (model prog w) A (eval (.Attribute e f pos) env) Q E s:=
 Attribute_any_ h (by rw[arm_eval_Attribute,hb])
end
structure zN (k:Nat) (A:Around):Prop where
 hd:A.handled=none
 dp:A.depth+3*k+5<recursionLimit
 un:A.units+16*k+200<cLine
def zN.mono {j k:Nat}{A:Around}(r:zN k A) (h:j<=k):zN j A:=#[r.hd,by have:=r.dp;lia,by have:=r.un;lia]
theorem zN.deeper {k:Nat}{A:Around}(r:zN (k+1) A) (env:Env):zN k (A.deeper env):=
 #[r.hd,by have:=r.dp;change A.depth+1+3*k+5<_;lia,by have:=r.un;change A.units+3+16*k+200<_;lia]
def NL {A:Around}{C:Addr}{us:Ae}{kw:List (Str×Value)}:(A.under (.builtin "type.__call__" #[.ref C::us,kw])).depth=A.depth+1:=by
 first | rfl | simp[Around.under,Code.weight,Code.isCreation,Code.isGuard,Code.isCaller,Code.frames,Code.isFrame,guardIds]
def NK {A:Around}{C:Addr}{us:Ae}{kw:List (Str×Value)}:(A.under (.builtin "type.__call__" #[.ref C::us,kw])).units=A.units+1:=by
 first | rfl | simp[Around.under,Code.cUnits,Code.frames,Code.isFrame]
def zN.make {k:Nat}{A:Around}(r:zN (k+1) A) (C:Addr) (us:Ae) (kw:List (Str×Value)):zN k (A.under (.builtin "type.__call__" #[.ref C::us,kw])):=
 #[r.hd,by have:=r.dp;rw[NL];lia,by have:=r.un;rw[NK];lia]
theorem zN.depth {k:Nat}{A:Around}(r:zN k A):A.depth<recursionLimit:=by have:=r.dp;lia
theorem zN.units {k:Nat}{A:Around}(r:zN k A):A.units+64<cLine:=by have:=r.un;lia
def l9:TA:=λ _ H Q=>Q [] H
def lA (ta:TE) (tr:TA):TA:=fun O H Q=>ta O H λ x H1=>tr O H1 λ xs H2=>Q (x::xs) H2
section
variable {X:Cx}{e:Expr}{es:List Expr}{te:TE}{t:TA}{pos:Pos}
def rh:PA X [] l9:=λ _ _ _ _ H Q I h=>Calls.spliced_nil #[[],H,I,.nil,h]
def u_ (ha:PE X e te) (hr:PA X es t) (hs:AA X e es:=by rfl):PA X (e::es) (lA te t):=by
 intro pos Fd s O H Q I h;rw[hs];change wpAny _ _ (spliced ((false,eval e X.env)::backTo pos (starEach es X.env))) _ _ s;exact Calls.spliced_cons (zt (ha Fd s O H _ I h) λ u s1 #[x,H1,I1,r1,q1]=>?_);show zt (hr pos Fd s1 O H1 _ I1 q1) λ us s2 #[xs,H2,I2,r2,q2]=>#[x::xs,H2,I2,.cons r1 r2,q2]
def Vm (t:TA):TE:=fun O H Q=>t O H λ xs H1=>xs.length<=sizeLine/\∀ p,H1 p=none->Q (.ref p) (upd H1 p (.tup xs))
def Vy (t:TA):TE:=fun O H Q=>t O H λ xs H1=>xs.length<=sizeLine/\∀ p,H1 p=none->Q (.ref p) (upd H1 p (.lst xs))
def Tt {x1} (h:PA X es t):PE X (.Tuple es x1 pos) (Vm t):=by
 intro Fd s O H Q I hq;exact wpAny_Tuple_spliced (zt (h pos Fd s O H _ I hq) λ us s1 #[xs,H1,I1,r,z,q]=>#[by rw[<- r.length];show z,?_]);have hf:H1 s1.heap.objs.size=none:=I1.zl.fresh (Ak _);exact#[.ref s1.heap.objs.size,upd H1 s1.heap.objs.size (.tup xs),I1.laid (t':=s1.toks) (λ b u e=>za1 _ e) (Ak _) ?_,rfl,q _ hf];show#[#[z,.new _],us,r,#[_,AJ _ rfl,rfl,_,rfl]]
def T4 (h:PA X es t):PE X (.List es pos) (Vy t):=by
 intro Fd s O H Q I hq;exact wpAny_List_spliced (zt (h pos Fd s O H _ I hq) λ us s1 #[xs,H1,I1,r,z,q]=>#[by rw[<- r.length];show z,?_]);have hf:H1 s1.heap.objs.size=none:=I1.zl.fresh (Ak _);exact#[.ref s1.heap.objs.size,upd H1 s1.heap.objs.size (.lst xs),I1.laid (t':=s1.toks) (λ b u e=>za1 _ e) (Ak _) ?_,rfl,q _ hf];show#[z,us,0,r,AJ _ rfl]
end
abbrev Sp:=List V->Hp->VK->XK->Prop
abbrev vL:=List Env->Hp->Shared->XK->Value->Shared->Prop
structure qU (P:Program) (w:World) (K:Ac) (mg:Au) (base:Heap) (A:Around) (outer:List Env) (s:Shared) (H:Hp):Prop where
 frames:A.frames=↑outer
 mod:Mod K mg base
 bs:∀ b o,base.get? b=↑o->s.heap.get? b=↑o/\H b=none
 tF:base.objs.size<=s.heap.objs.size
 wN:s.heap.FunFrames base outer
 sC:∀ b∈yC outer,H b=none
 zl:yc P w H s.heap
 bare:AllBare s.gens
def CE (outer:List Env) (P:Program) (w:World) (H:Hp) (s:Shared) (Q:VK) (u:Value) (s':Shared):Prop:=
 ∃ v H',s'.os=s.os/\AllBare s'.gens/\Un (yC outer) [] H H' s.heap s'.heap/\yc P w H' s'.heap/\RelV v u/\Q v H'
def CR (CX:vL) (outer:List Env) (P:Program) (w:World) (H:Hp) (s:Shared) (Q:VK) (E:XK) (r:Result) (s':Shared):Prop:=
 match r with
 | .ok (.ret u)=>CE outer P w H s Q u s'
 | .ok _=>False
 | .error e=>CX outer H s E e s'
structure yP (P:Program) (w:World) (K:Ac) (mg:Au) (base:Heap) (CX:vL) (k:Nat) (f:Addr) (fd:FuncData) (ps:List Str) (sp:Sp):Prop where
 len:∀ vs H Q E,sp vs H Q E->vs.length=ps.length
 run:∀ (A:Around) (outer:List Env) (s:Shared) (H:Hp) (args:Args) (us:Ae) (vs:List V) (Q:VK) (E:XK),zN k A->qU P w K mg base A outer s H->BindsTo s fd args (ps.zip us)->Vals vs us->sp vs H Q E->
  codeAny (model P w) A (.call (.ref f) args) (CR CX outer P w H s Q E) s
def yP.imp {P:Program}{w:World}{K:Ac}{mg:Au}{base:Heap}{CX:vL}{k:Nat}{f:Addr}{fd:FuncData}{ps:List Str}{sp sp':Sp}(F:yP P w K mg base CX k f fd ps sp)
  (h:∀ vs H Q E,sp' vs H Q E->sp vs H Q E):yP P w K mg base CX k f fd ps sp':=
 #[λ vs H Q E q=>F.len vs H Q E (h _ _ _ _ q),λ A outer s H args us vs Q E hr he hb hv hs=>F.run A outer s H args us vs Q E hr he hb hv (h _ _ _ _ hs)]
def qU.make {P:Program}{w:World}{K:Ac}{mg:Au}{base:Heap}{A:Around}{outer:List Env}{s:Shared}{H:Hp}(e:qU P w K mg base A outer s H) (C:Addr) (us:Ae) (kw:List (Str×Value)):
  qU P w K mg base (A.under (.builtin "type.__call__" #[.ref C::us,kw])) outer s H:=#[by first | show e.frames | (simpa [Around.under,Code.envs,Code.isFrame,pushEnvs] using e.frames),e.mod,e.bs,e.tF,e.wN,e.sC,e.zl,e.bare]
section
variable {X:Cx}{Fd:Ai}{O:St}{H:Hp}{s s':Shared}
def Inv.gR (I:Inv X Fd O H s):qU X.prog X.w X.K X.mg X.base X.A X.stack s H:=
 #[I.ok.frames,I.ok.mod,I.bs,Bk I.ok.tF I.sz,I.stack,I.jY,I.zl,I.bare]
theorem Inv.after {Q:VK}{u:Value}(I:Inv X Fd O H s) (h:CE X.stack X.prog X.w H s Q u s'):EP X Fd O Q u s':=by
 let#[v,H',os,bare,un,zl,r,q]:=h;let#[hh,g,d,t,os']:=s';obtain rfl:os'=s.os:=os;show#[v,H',I.call (h':=hh) (g':=g) (d':=d) (t':=t) (ch:=[]) un zl bare (λ b z=>absurd z #[]),r,q]
end
def dG (sp:Sp) (I_:List V) (E:XK) (t:TA):TE:=fun O H Q=>t O H λ vs H1=>sp (vs++I_) H1 Q E
def Binds (K:Ac) (fd:FuncData) (ps:List Str) (ds:Ae):Prop:=
 ∀ (s:Shared) (us:Ae),K.In s.heap->(us++ds).length=ps.length->BindsTo s fd #[us,[]] (ps.zip (us++ds))
def Binds.all {K:Ac}{fd:FuncData}{ps:List Str}(h:∀ us:List Value,us.length=ps.length->bindArgs fd #[us,[]]=pure (ps.zip us)):Binds K fd ps []:=λ s us _ hl=>by
 rw[CF] at hl ⊢;show .of_eq (h us hl)
def Passes (CX:vL) (X:Cx) (E:XK):Prop:=∀ (Fd:Ai) (O:St) (H:Hp) (s:Shared) (e:Value) (s':Shared),Inv X Fd O H s->CX X.stack H s E e s'->X.xe e s'
section
variable {X:Cx}{CX:vL}{k:Nat}{f:Addr}{fd:FuncData}{ps:List Str}{sp:Sp}{I_:List V}{ds:Ae}{E:XK}{x:Str}{p pos:Pos}{e:Expr}{es:List Expr}{t:TA}
def Ug {Fd:Ai}{O:St}{H:Hp}{s:Shared}{Q:VK}{us:Ae}{vs:List V}(F:yP X.prog X.w X.K X.mg X.base CX k f fd ps sp) (hr:zN k X.A) (hb:Binds X.K fd ps ds) (hd:Vals I_ ds) (hx:Passes CX X E)
  (I:Inv X Fd O H s) (r:Vals vs us) (h:sp (vs++I_) H Q E):wpAny (model X.prog X.w) X.A (call (.ref f) us) (EP X Fd O Q) X.xe s:=by
 have r2:Vals (vs++I_) (us++ds):=r.append hd;have hl:(us++ds).length=ps.length:=by rw[<- r2.length];show F.len _ _ _ _ h
 exact wpAny_call (codeAny_mono (F.run X.A X.stack s H #[us,[]] (us++ds) (vs++I_) Q E hr I.gR (hb s us I.yx hl) r2 h) λ r s' hq=>?_);cases r with
 | error e=>show hx Fd O H s e s' I hq
 | ok fl=>
  cases fl with
  | ret u=>show I.after hq
  | _=>show False.elim hq
def TK (F:yP X.prog X.w X.K X.mg X.base CX k f fd ps sp) (hr:zN k X.A) (hg:Gl X x) (hm:X.mg x=↑(.ref f)) (hk:PySem.W.keepIn X.K (.ref f)=true) (hb:Binds X.K fd ps ds) (hd:Vals I_ ds) (hx:Passes CX X E)
  (ha:PA X (e::es) t) (A8:(x == ("__debug__":Str))=false:=by decide) (he:AA X e es:=by rfl) (Am:AF X pos es:=by rfl):
  PE X (.Call (.Name x p) (e::es) [] pos) (dG sp I_ E t):=by
 intro Fd s O H Q I h;exact zaN (nH I hg hm ?_ A8);exact PySem.W.callWith_K (h₀:=X.base) I.ok.mod.pH hk (zt (ha pos Fd s O H _ I h) λ us s1 #[vs,H1,I1,r,q]=>#[I1.yx,?_]) he Am;show Ug F hr hb hd hx I1 r q
end
structure vg (N P:List Str) (sc:Scope):Prop where
 kind:sc.kind=.function
 co:sc.isCoroutine=false
 gen:sc.isGenerator=false
 nd:N.Nodup
 pre:N.take P.length=P
 par:∀ x∈P,sc.names.lookup x=↑.local\/sc.names.lookup x=↑.cell
 Ny:∀ y∈sc.names,y.2≠.free
theorem Yj {kindOf:Str->Option NameKind}{x:Str}:∀ {binds:List (Str×Value)}{m:Au},(∀ v,(x,v)∉binds)->bindL kindOf binds m x=m x
 | [],_,_=>rfl
 | (n,v)::r,m,h=>by
  unfold bindL;rw[Yj λ w hw=>h w (AD _ hw)];split
  .have:x≠n:=by rintro rfl;show h v Av
   simp[this]
  .rfl
theorem Yl {kindOf:Str->Option NameKind}{x:Str}:∀ {binds:List (Str×Value)}{m:Au},(∀ v,(x,v)∉binds)->bindC kindOf binds m x=m x
 | [],_,_=>rfl
 | (n,v)::r,m,h=>by
  unfold bindC;rw[Yl λ w hw=>h w (AD _ hw)];split
  .rfl
  .have:x≠n:=by rintro rfl;show h v Av
   simp[this]
theorem Yk {kindOf:Str->Option NameKind}{x:Str}{v:Value}:∀ {P:List Str}{vs:Ae}{i:Nat}{m:Au},P.Nodup->P[i]?=↑x->vs[i]?=↑v->kindOf x=↑.local->
  bindL kindOf (P.zip vs) m x=↑v
 | [],_,_,_,_,h,_,_=>by simp at h
 | _::_,[],_,_,_,_,h,_=>by simp at h
 | p::P,w::vs,0,m,nd,h1,h2,hk=>by
  simp at h1 h2;subst h1;subst h2;change bindL kindOf ((p,w)::P.zip vs) m p=_;unfold bindL;rw[Yj λ v hv=>(BF.mp nd).1 (Dk hv).1,if_pos hk];simp
 | p::P,w::vs,i+1,m,nd,h1,h2,hk=>by
  change bindL kindOf ((p,w)::P.zip vs) m x=_;unfold bindL;show Yk (i:=i) (BF.mp nd).2 (by exists h1) (by exists h2) hk
theorem Ym {kindOf:Str->Option NameKind}{x:Str}{v:Value}:∀ {P:List Str}{vs:Ae}{i:Nat}{m:Au},P.Nodup->P[i]?=↑x->vs[i]?=↑v->kindOf x≠↑.local->
  bindC kindOf (P.zip vs) m x=↑v
 | [],_,_,_,_,h,_,_=>by simp at h
 | _::_,[],_,_,_,_,h,_=>by simp at h
 | p::P,w::vs,0,m,nd,h1,h2,hk=>by
  simp at h1 h2;subst h1;subst h2;change bindC kindOf ((p,w)::P.zip vs) m p=_;unfold bindC;rw[Yl λ v hv=>(BF.mp nd).1 (Dk hv).1,if_neg hk];simp
 | p::P,w::vs,i+1,m,nd,h1,h2,hk=>by
  change bindC kindOf ((p,w)::P.zip vs) m x=_;unfold bindC;show Ym (i:=i) (BF.mp nd).2 (by exists h1) (by exists h2) hk
def start (N:List Str) (vs:List V):St:=vs.map some++List.replicate (N.length-vs.length) none
def yL (CX:vL) (P:Program) (w:World) (K:Ac) (mg:Au) (base:Heap) (N:List Str) (qual:Str) (scope:Scope) (f:Addr) (cd:Value) (A:Around) (outer:List Env) (s:Shared) (H:Hp) (E:XK):Cx where
 prog:=P
 w:=w
 K:=K
 mg:=mg
 base:=base
 A:=A.deeper (envOfC qual scope s.heap.objs.size f cd)
 N:=N
 s₀:=s
 H₀:=H
 env:=envOfC qual scope s.heap.objs.size f cd
 outer:=outer
 stack:=envOfC qual scope s.heap.objs.size f cd::outer
 ex:=[]
 calm:=true
 fn:=λ _=>true
 pn:=[]
 xe:=λ e s'=>wpAny (model P w) (A.deeper (envOfC qual scope s.heap.objs.size f cd)) (leaving (envOfC qual scope s.heap.objs.size f cd) e) (λ _ Iv=>CX outer H s E e Iv) (λ e' Iv=>CX outer H s E e' Iv) s'
def ZV {sc:Scope}{n:Nat}{x:Str}(h:sc.names.lookup x=↑.cell):∃ c,(cellsFrom n sc.names []).lookup x=↑c:=by
 have q:=PySem.W.cellsFrom_some sc.names n [] (.inl h);show DY.mp q
def MI {CX:vL}{P:Program}{w:World}{K:Ac}{mg:Au}{base:Heap}{N ps:List Str}{qual:Str}{scope:Scope}{f:Addr}{cd:Value}{A:Around}{outer:List Env}{s s1:Shared}{H:Hp}{E:XK}{us:Ae}{vs:List V}
  (S:vg N ps scope) (hd:A.handled=none) (e0:qU P w K mg base A outer s H) (hl:vs.length=ps.length) (r:Vals vs us)
  (x:InCallC s s.heap.objs.size (bindL (envOfC qual scope s.heap.objs.size f cd).kindOf (ps.zip us) λ _=>none) (cellsFrom (s.heap.objs.size+1) scope.names []) (bindC (envOfC qual scope s.heap.objs.size f cd).kindOf (ps.zip us) λ _=>none) s1):
  Inv (yL CX P w K mg base N qual scope f cd A outer s H E) [] (start N vs) H s1:=by
 have Am:ps.length<=N.length:=by have:=congrArg List.length S.pre;rw[Dj] at this;lia
 let#[h1,tk,rfl,hk]:=x.done;have noA:∀ b:Addr,b∉(yL CX P w K mg base N qual scope f cd A outer s H E).ex:=λ b z=>absurd (show b∈([]:List Addr) from z) #[];exact#[#[e0.mod,S.kind,rfl,rfl,Ak _,λ y z c h1 h2=>?_,λ y hy=>?_,λ y c _ h=>?_,λ _=>hd,Around.frames_deeper e0.frames,.inr #[rfl,rfl],λ b z=>absurd z (noA b),e0.bs,e0.tF,λ b _ _=>noA b,λ b z=>absurd z (noA b),e0.wN,e0.sC],
  rfl,e0.bare,Un.kept hk,#[_,x.toInCall.ns,λ i y v h1 h2 h3=>?_],λ y c h=>#[_,x.cell y c h],e0.zl.fresh (Ak _),λ y c h=>?_,λ p hp=>absurd (show p∈([]:Ai) from hp) #[],e0.zl.kept hk,?_]
 .show name_of_addr x.apart (PySem.mem_of_lookup h1) (PySem.mem_of_lookup h2)
 .have hy:scope.names.lookup y=↑.cell\/scope.names.lookup y=↑.free:=hy;rcases hy with hy | hy
  .show ZV hy
  .show absurd rfl (S.Ny _ (PySem.mem_of_lookup hy))
 .show BV (x.above y c (PySem.mem_of_lookup h))
 .have hi:i<vs.length:=by
   unfold start at h2;by_cases hi:i<vs.length
   .show hi
   .rw[CB (by exists hi)] at h2;rw[DX] at h2;split at h2 <;> cases h2
  have ha:vs[i]?=↑v:=by
   unfold start at h2;rw[CA (by exists hi),AM] at h2;cases e:vs[i]? with
   | none=>rw[e] at h2;cases h2
   | some a=>rw[e] at h2;cases h2;rfl
  let#[u,hu,rv]:=r.get ha;have hp:ps[i]?=↑y:=by
   rw[<- S.pre,List.getElem?_take_of_lt ⋯];show h1
  have ndP:ps.Nodup:=by rw[<- S.pre];show S.nd.sublist (List.take_sublist _ _)
  exact#[u,rv,?_];rcases S.par y (B6 hp) with k | k
  .show .inl #[k,Yk ndP hp hu k]
  .let#[c,e]:=ZV (n:=s.heap.objs.size+1) k;exact .inr #[.inl k,c,e,?_];have q:=x.cell y c e;rw[Ym ndP hp hu (by change scope.names.lookup y≠_;rw[k];decide)] at q;show q
 .show e0.zl.fresh (BV (x.above y c (PySem.mem_of_lookup h)))
 .unfold start;change _=N.length;rw[Cj,AH,List.length_replicate];lia
def Ze {CX:vL}{P:Program}{w:World}{K:Ac}{mg:Au}{base:Heap}{k:Nat}{f:Addr}{name qual:Str}{params:Arguments}{body:List Stmt}{scope:Scope}{dV kV doc pm Ah ct oc:Value}{an od:Option Addr}
  {HQ:Array (Option Value)}{N ps:List Str}{sp:Sp}(lk:K.lookup f=↑#[oc,od,.func (PySem.W.fnOf name qual params body scope dV kV doc pm an Ah ct),HQ]) (A9:PySem.W.codeIn K Ah qual=true) (S:vg N ps scope)
  (len:∀ vs H Q E,sp vs H Q E->vs.length=ps.length)
  (Ft:∀ (A:Around) (outer:List Env) (s:Shared) (H:Hp) (vs:List V) (Q:VK) (E:XK),zN k (A.deeper (envOfC qual scope s.heap.objs.size f Ah))->sp vs H Q E->
   ∃ t,xu (yL CX P w K mg base N qual scope f Ah A outer s H E) body t/\t { nx:=λ _ H'=>Q .zo H',rt:=Q } (start N vs) H):
  yP P w K mg base CX (k+1) f (PySem.W.fnOf name qual params body scope dV kV doc pm an Ah ct) ps sp:=by
 exact#[len,λ A outer s H args us vs Q E hr e0 hb r BZ=>?_];have hl:=len _ _ _ _ BZ;have KX:K.In s.heap:=e0.mod.pH.keeps λ b o e=>(e0.bs b o e).1;have lim:s.heap.NoLimit:=e0.mod.nolimit.keeps λ b o e=>(e0.bs b o e).1;have hkind:∀ y∈ps.zip us,scope.names.lookup y.1=↑.local\/(scope.names.lookup y.1=↑.cell/\((cellsFrom (s.heap.objs.size+1) scope.names []).lookup y.1).isSome=true):=λ#[n,v] hy=>by
  rcases S.par n (Dk hy).1 with q | q
  .show .inl q
  .show .inr #[q,PySem.W.cellsFrom_some _ _ _ (.inl q)]
 exact codeAny_call_function hr.depth (KX _ _ lk) rfl S.co S.gen rfl (PySem.W.codeRec_of KX A9) (hb _ _ _ _ ?_);exact wpAny_newFunctionEnv_cells S.kind hkind λ env he s1 x=>?_;subst he;exact#[lim.keeps x.toInCall.keep,codeAny_func ?_];let#[t,ht,hq]:=Ft A outer s H vs Q E (hr.deeper _) BZ;have I:Inv (yL CX P w K mg base N qual scope f Ah A outer s H E) [] (start N vs) H s1:=MI S hr.hd e0 hl r x;exact za3 (ht [] s1 (start N vs) H _ I hq) (λ fl s' hs=>?_) λ e s' hs=>hs;have fin:∀ {O':St}{H':Hp}{v:V}{u:Value},Inv (yL CX P w K mg base N qual scope f Ah A outer s H E) [] O' H' s'->RelV v u->Q v H'->CE outer P w H s Q u s':=
  λ{O' H' v u} J rv q=>#[v,H',J.os,J.bare,J.base,J.zl,rv,q]
 cases fl with
 | ret u=>
  let#[v,O',H',J,rv,q]:=hs;show fin J rv q
 | next=>
  let#[O',H',J,q]:=hs;show fin (v:=V.zo) (u:=Value.none) J rfl q
 | brk=>
  let#[_,_,_,q]:=hs;show False.elim q
 | cont=>
  let#[_,_,_,q]:=hs;show False.elim q
section
variable {X:Cx}{x:Str}{p pos:Pos}{e:Expr}{es:List Expr}{t:TA}{id T:String}{r:List V->Hp->VK->Prop}
def oW (r:List V->Hp->VK->Prop) (t:TA):TE:=fun O H Q=>t O H λ vs H1=>r vs H1 Q
def u5 (hc:y7 X (.builtin id) r) (hg:Gl X x) (hm:X.mg x=none) (hv:bootBuiltins x=↑(.builtin id)) (ha:PA X (e::es) t) (hn:x≠"__name__":=by decide) (A8:(x == ("__debug__":Str))=false:=by decide)
  (he:AA X e es:=by rfl) (Am:AF X pos es:=by rfl):PE X (.Call (.Name x p) (e::es) [] pos) (oW r t):=by
 intro Fd s O H Q I h;exact zaN (rq I hg hm hv ?_ hn A8);show PyProof.Rows.callWith_builtin1 (zt (ha pos Fd s O H _ I h) λ us s1 #[vs,H1,I1,r1,q1]=>hc Fd s1 O H1 vs us Q I1 r1 q1) he Am
def nq (hc:y7 X (.type T) r) (hg:Gl X x) (hm:X.mg x=none) (hv:bootBuiltins x=↑(.type T)) (ha:PA X (e::es) t) (hn:x≠"__name__":=by decide) (A8:(x == ("__debug__":Str))=false:=by decide)
  (he:AA X e es:=by rfl) (Am:AF X pos es:=by rfl):PE X (.Call (.Name x p) (e::es) [] pos) (oW r t):=by
 intro Fd s O H Q I h;exact zaN (rq I hg hm hv ?_ hn A8);show PyProof.Rows.callWith_type1 (zt (ha pos Fd s O H _ I h) λ us s1 #[vs,H1,I1,r1,q1]=>hc Fd s1 O H1 vs us Q I1 r1 q1) he Am
end
end L2
namespace HT
open PySem PyProof.Rows
def lexLt:List Int->List Int->Bool
 | [],[]=>false
 | [],_::_=>true
 | _::_,[]=>false
 | x::xs,y::ys=>if x=y then lexLt xs ys else decide (x<y)
def tq (x y:Int) (xs ys:List Int):lexLt (x::xs) (y::ys)=if x=y then lexLt xs ys else decide (x<y):=rfl
def NU:lexLt [] []=false:=rfl
def NV (y:Int) (ys:List Int):lexLt [] (y::ys)=true:=rfl
def NW (x:Int) (xs:List Int):lexLt (x::xs) []=false:=rfl
def LY (A:Around) (s:Shared) (a:Int) (t:Tok) (c:Int) (u:Tok):∃ e,SeqAt.EqAt A s (.int a t) (.int c u) e/\(e=true↔a=c):=
 #[(a == c),SeqAt.EqAt.int_int a t c u,#[]]
def c7 (A:Around) (s:Shared) (a:Int) (t:Tok) (c:Int) (u:Tok) (prog:Program) (w:World) (E:Af) (Q:Af) (h:Q (.bool (decide (a<c))) s):
  wpAny (model prog w) A (richCompare .Lt (.int a t) (.int c u)) Q E s:=
 (PyProof.Rows.lt_int h:wpAny (model prog w) A (compareOp .Lt (.int a t) (.int c u)) Q E s)
section
open PySem.SeqAt
open PySem.AutoSeq1 (wpAny_loadPart')
open PySem.MeetsSeq PySem.MeetsSeq2 PySem.MeetsSeq3
def Vg (l b:Addr) (items FT:Aq) (n n2:Nat) (dd HM:Option Addr) (sl HC:Array (Option Value)) (ns ms:List Int) (hi:IntsAre items.toList ns) (hj:IntsAre FT.toList ms):
  Meets (Builtin.«tuple.__lt__» #[[.ref l,.ref b],[]])
   (λ _ R s=>s.heap.get? l=↑{ cls:=.type "tuple",dict:=dd,data:=.seq items n,slots:=sl }/\s.heap.get? b=↑{ cls:=.type "tuple",dict:=HM,data:=.seq FT n2,slots:=HC }/\
    R (.ok (.ret (.bool (lexLt ns ms)))) s):=
 .of_wp λ prog w A R s h=>by
  let#[hp,g,d,tk,os]:=s;let#[hl,hb,h]:=h
  have f2:=AutoSeq1.sub_tuple_tuple;have z1:items.size=ns.length:=by rw[<- hi.length];simp
  have z2:FT.size=ms.length:=by rw[<- hj.length];simp
  wp_walk using wpAny_loadPart' hl,wpAny_loadPart' hb,zaR _ (λ Ff b s'=>b.1=none/\s'=#[hp,g,d,tk,os]/\∃ (vs ws:Ae) (G2 G3:List Int),Ff=vs.zip ws/\
   IntsAre vs G2/\IntsAre ws G3/\G2.length+FT.size=G3.length+items.size/\R (.ok (.ret (.bool (lexLt G2 G3)))) #[hp,g,d,tk,os]) _
  case turn=>
   rintro⟨y,x⟩ Ff b s' ⟨HY,rfl,vs,ws,G2,G3,hz,EC,C7,hlen,hR⟩;cases EC with
   | nil=>rw[List.zip_nil_left] at hz;cases hz
   | cons a t EB=>
    cases C7 with
    | nil=>rw[List.zip_nil_right] at hz;cases hz
    | cons c u Ez=>
     rw[Er] at hz
     injection hz with hyx GK
     injection hyx with hy hx
     subst hy hx;rw[tq] at hR;simp![Bb] at hlen;let#[e,he,Dx]:=LY A.in1 #[hp,g,d,tk,os] a t c u;exact gV (he prog w _ _ ?_);cases e with
     | true=>
      rw[if_pos (Dx.mp rfl)] at hR
      wp_walk
      show#[rfl,rfl,_,_,_,_,GK,EB,Ez,⋯,hR]
     | false=>
      rw[if_neg (λ q=>absurd (Dx.mpr q) B3)] at hR;have Dq:=c7 A.in1 #[hp,g,d,tk,os] a t c u prog w
      wp_walk using Dq
      show#[_,rfl,by exists hR]
  case fin=>
   rintro⟨b1,b2⟩ s' ⟨HY,rfl,vs,ws,G2,G3,hz,EC,C7,hlen,hR⟩;simp only at HY;subst HY;have hv:lexLt G2 G3=decide (items.size<FT.size):=by
    cases EC with
    | nil=>
     cases C7 with
     | nil=>
      simp![Cz] at hlen;rw[NU];show (za5 ⋯).symm
     | cons c u hw=>
      simp![Cz,Bb] at hlen;rw[NV];show (zaA ⋯).symm
    | cons a t hv=>
     cases C7 with
     | nil=>
      simp![Cz,Bb] at hlen;rw[NW];show (za5 ⋯).symm
     | cons c u hw=>
      rw[Er] at hz;cases hz
   rw[hv] at hR
   wp_walk
   show#[_,rfl,by simpa [Builtin.Tuple.tupleCompareSizes] using hR]
  case h=>
   show#[rfl,rfl,items.toList,FT.toList,ns,ms,rfl,hi,hj,⋯,h]
end
section
variable {prog:Program}{w:World}{A:Around}{E:Af}{s:Shared}
def bN {l b:Addr}{items FT:Aq}{ns ms:List Int}{Q:Af}(hl:IsTup s.heap l items) (hb:IsTup s.heap b FT) (hi:IntsAre items.toList ns) (hj:IntsAre FT.toList ms)
  (hu:A.units<cLine) (h:Q (.bool (lexLt ns ms)) s):wpAny (model prog w) A (compareOp .Lt (.ref l) (.ref b)) Q E s:=by
 let#[#[cls,dd,data,sl],ho,hc,n,hd]:=id hl;let#[#[IE,HM,data2,HC],Hn,GA,n2,hd2]:=id hb;simp only at hc hd GA hd2;subst hc hd GA hd2;show richCompare_meets_room (op:=.Lt) #[_,ho,rfl] #[_,Hn,rfl] PySem.F.slot_tuple_lt PySem.F.entry_tuple_lt (PySem.F.args_tuple_lt_2 _ _) (Vg l b items FT n n2 dd HM sl HC ns ms hi hj)
  #[ho,Hn,show Value.bool (lexLt ns ms)≠Value.notImplemented/\Q (.bool (lexLt ns ms)) s from #[(λ x=>nomatch x),h]] hu
def KJ {t b:Addr}{vs ws:Ae}{Q:Af}(ht:IsTup s.heap t vs.toArray) (hb:IsTup s.heap b ws.toArray) (hv:vs≠[])
  (h1:ws=[]->Q (.ref t) s) (h2:ws≠[]->Q (.ref s.heap.objs.size) { s with heap:=s.heap.push { cls:=.type "tuple",data:=.seq (vs++ws).toArray } })
  (hsz:vs.length+ws.length<=sizeLine):wpAny (model prog w) A (binaryOp .Add (.ref t) (.ref b)) Q E s:=by
 let#[#[cls,dd,data,sl],ho,hc,n,hd]:=id ht;let#[#[IE,HM,data2,HC],Hn,GA,n2,hd2]:=id hb;simp only at hc hd GA hd2;subst hc hd GA hd2;have e:vs.toArray++ws.toArray=(vs++ws).toArray:=#[];by_cases hw:ws=[]
 .show concat_meets #[_,ho,rfl] #[_,Hn,rfl] noFill_tuple_add seq_tuple_add PySem.F.slot_tuple_add PySem.F.entry_tuple_add (PySem.F.args_tuple_add_2 _ _)
   (tuple_addW1 t b vs.toArray ws.toArray n n2 dd HM sl HC (by exists hv) (by simp[hw])) #[ho,Hn,h1 hw]
 .exact concat_meets #[_,ho,rfl] #[_,Hn,rfl] noFill_tuple_add seq_tuple_add PySem.F.slot_tuple_add PySem.F.entry_tuple_add (PySem.F.args_tuple_add_2 _ _)
   (tuple_addW2 t b vs.toArray ws.toArray n n2 dd HM sl HC (by exists hv) (by exists hw) (by rw[AB,AB];show hsz)) #[ho,Hn,?_]
  rw[e];show h2 hw
def zA (n d:Nat):Option Int->Nat
 | none=>d
 | some v=>if v<0 then (v+(n:Int)).toNat else min v.toNat n
def Ud (n d:Nat) (hd:d<=n) (o:Option Int):zA n d o<=n:=by
 cases o with
 | none=>show hd
 | some v=>
  change (if v<0 then (v+(n:Int)).toNat else min v.toNat n)<=n;by_cases hv:v<0
  .rw[if_pos hv];lia
  .rw[if_neg hv];show Nat.min_le_right _ _
def ZR (v:Int) (n d:Nat):(if v<0 then max (v+(n:Int)) 0 else min v (n:Int))=((zA n d ↑v:Nat):Int):=by
 change (if v<0 then max (v+(n:Int)) 0 else min v (n:Int))=(((if v<0 then (v+(n:Int)).toNat else min v.toNat n):Nat):Int)
 by_cases hv:v<0
 .simp![if_pos hv];lia
 .simp![if_neg hv];lia
theorem J5 (lo hi:Option Int) (n:Nat):Builtin.Slice.sliceAdjust lo hi 1 (n:Int)=(((zA n 0 lo:Nat):Int),((zA n n hi:Nat):Int)):=by
 have h1:¬ ((1:Int)<0):=⋯;unfold Builtin.Slice.sliceAdjust;simp![h1,if_false];exact Prod.ext ?_ ?_
 .cases lo with
  | none=>rfl
  | some v=>show ZR v n 0
 .cases hi with
  | none=>rfl
  | some v=>show ZR v n n
theorem UQ (i j:Nat):Builtin.Slice.slicePlaces (i:Int) (j:Int) 1=j-i:=by
 unfold Builtin.Slice.slicePlaces;have h1:(1:Int)>0:=⋯;simp![h1,if_true,Int.ediv_one];split <;> lia
def dS {v:Value}{o:Option Int}{Q:Option Int->Shared->Prop}(p:IsPart v o) (h:Q o s):wpAny (model prog w) A (Builtin.Slice.slicePartIndex v) Q E s:=by
 cases p with
 | none=>show slicePart_none h
 | int i t=>show slicePart_int h
def dU {sl:Addr}{vl vu:Value}{lo hi:Option Int}{n:Nat}{Q:Int×Int×Nat->Shared->Prop}(hs:s.heap.IsSliceOf sl vl vu .none) (pl:IsPart vl lo) (pu:IsPart vu hi)
  (h:Q (((zA n 0 lo:Nat):Int),1,zA n n hi-zA n 0 lo) s):wpAny (model prog w) A (Builtin.Slice.sliceApplied (.ref sl) (pure (n:Int))) Q E s:=by
 let#[os,Cq,hcs,D8]:=id hs;unfold Builtin.Slice.sliceApplied Builtin.Slice.sliceFields;exact gV (gV (za4 Cq D8 (x:=vl) rfl (gV (za4 Cq D8 (x:=vu) rfl (gV (za4 Cq D8 (x:=.none) rfl (Ad ?_)))))));exact gV (slicePart_none ?_);change wpAny _ _ (if ((1:Int) == 0)=true then _ else _) _ _ s;rw[if_neg ()];exact gV (dS pl (gV (dS pu (gV (Ad ?_)))));change wpAny _ _ (match Builtin.Slice.sliceAdjust lo hi 1 (n:Int) with | (lo,hi)=>pure (lo,(1:Int),Builtin.Slice.slicePlaces lo hi 1)) _ _ s;rw[J5 lo hi n];change wpAny _ _ (pure (((zA n 0 lo:Nat):Int),(1:Int),Builtin.Slice.slicePlaces ((zA n 0 lo:Nat):Int) ((zA n n hi:Nat):Int) 1)) _ _ s;rw[UQ];show Ad h
theorem UU (xs:Aq) (i k:Nat):((List.range k).filterMap λ(m:Nat)=>xs[((i:Int)+(m:Int)*1).toNat]?).toArray=((xs.toList.drop i).take k).toArray:=by
 have e:(λ(m:Nat)=>xs[((i:Int)+(m:Int)*1).toNat]?)=λ m=>xs[i+m]?:=by
  funext m;have:((i:Int)+(m:Int)*1).toNat=i+m:=⋯;rw[this]
 rw[e];have:=pick_run xs i k;rw[List.filterMap_map] at this;have e2:((λ x=>xs[x]?) ∘ λ x=>i+x)=λ m=>xs[i+m]?:=rfl;rw[e2] at this;rw[this]
def Ly {t sl:Addr}{items:Aq}{vl vu:Value}{lo hi:Option Int}{Q:Af}(ht:IsTup s.heap t items) (hs:s.heap.IsSliceOf sl vl vu .none) (pl:IsPart vl lo) (pu:IsPart vu hi)
  (hw:¬ (zA items.size 0 lo=0/\zA items.size items.size hi=items.size))
  (h:Q (.ref s.heap.objs.size) { s with heap:=s.heap.push { cls:=.type "tuple",data:=.seq ((items.toList.drop (zA items.size 0 lo)).take (zA items.size items.size hi-zA items.size 0 lo)).toArray } })
  (hsz:items.size<=sizeLine):wpAny (model prog w) A (getItem (.ref t) (.ref sl)) Q E s:=by
 have HH:sizeOk (.seq ((items.toList.drop (zA items.size 0 lo)).take (zA items.size items.size hi-zA items.size 0 lo)).toArray):=by
  change ((items.toList.drop (zA items.size 0 lo)).take (zA items.size items.size hi-zA items.size 0 lo)).toArray.size<=sizeLine;rw[AB,Dj,Ep,BG];lia
 have hj:zA items.size items.size hi<=items.size:=Ud _ _ (Ak _) hi;let#[os,Cq,hcs,D8]:=id hs;have hTs:s.TypeIs (.ref sl) "slice":=#[os,Cq,hcs];unfold getItem
 try with_reducible exact za7 ?_
 first | exact gV (Ad ?_) | skip
 exact gV (wpAny_sequenceKey ht.typeIs () ?_);exact gV (zaH (name:=Str.ofString "__getitem__") ht.typeIs PyProof.Rows.slot_tuple_getitem
  (zaB PyProof.Rows.slot_tuple_getitem ht.typeIs entry_tuple_getitem ?_ (args_tuple_getitem _ _)))
 change wpAny _ _ (Builtin.Tuple.tupleItemsOf (.ref t) >>= _) _ _ s;exact gV (tupleItemsOf_ ht ?_);exact gV (zaI hTs ?_);rw[if_pos ()];exact gV (dU hs pl pu ?_);have hno:¬ ((((zA items.size 0 lo:Nat):Int) == 0&&(1:Int) == 1&&(zA items.size items.size hi-zA items.size 0 lo) == items.size)=true):=by
  intro q;rw[Bc,Bc] at q;have q1:((zA items.size 0 lo:Nat):Int)=0:=eq_of_beq q.1.1;have q2:zA items.size items.size hi-zA items.size 0 lo=items.size:=eq_of_beq q.2;show hw #[⋯,⋯]
 change wpAny _ _ (if (((zA items.size 0 lo:Nat):Int) == 0&&(1:Int) == 1&&(zA items.size items.size hi-zA items.size 0 lo) == items.size)=true then _ else _) _ _ s;rw[if_neg hno,UU]
 first
  | show gV (m:=Builtin.Tuple.tupleExact _) (za9 (Ad #[_,rfl,Ad h]) HH)
  | show gV (m:=Builtin.Tuple.tupleExact _) (za9 (gV (Ad (Ad #[_,rfl,Ad h]))) HH)
  | show gV (gV (m:=Builtin.Tuple.tupleExact _) (za9 (Ad (Ad #[_,rfl,Ad h])) HH))
  | show gV (gV (m:=Builtin.Tuple.tupleExact _) (za9 (Ad #[_,rfl,Ad h]) HH))
end
end HT
namespace L2
open PySem PySem.Spec PyProof.Rows
abbrev TO:=St->Hp->(Option Int->Hp->Prop)->Prop
def PO (X:Cx) (e:Option Expr) (t:TO):Prop:=
 ∀ (Fd:Ai) (s:Shared) (O:St) (H:Hp) (Q:Option Int->Hp->Prop),Inv X Fd O H s->t O H Q->
  wpAny (model X.prog X.w) X.A (evalPart e X.env) (λ u s'=>∃ o H',Inv X Fd O H' s'/\IsPart u o/\Q o H') X.xe s
def Vv:TO:=λ _ H Q=>Q none H
def Vr (t:TE):TO:=fun O H Q=>t O H λ x H1=>∃ i,x=.int i/\Q ↑i H1
def intsAre_of {ns:List Int}:∀ {us:Ae},Vals (ns.map V.int) us->IntsAre us ns:=by
 induction ns with
 | nil=>intro us r;rw[Bj] at r;cases r;show .nil
 | cons n ns ih=>
  intro us r;rw[Ax] at r;cases r with
  | cons r1 r2=>
   let#[t,e]:=r1;subst e;show .cons n t (ih r2)
section
variable {X:Cx}{e:Expr}{te:TE}{lo hi:Option Expr}{tl th:TO}{pos p2:Pos}
def UP:PO X none Vv:=by
 intro Fd s O H Q I h;rw[evalPart_none];show Ad #[none,H,I,.none,h]
def UO (h:PE X e te):PO X ↑e (Vr te):=by
 intro Fd s O H Q I hw;rw[evalPart_some];exact zt (h Fd s O H _ I hw) λ u s1 #[x,H1,I1,r1,q1]=>?_;let#[i,rfl,q]:=q1;let#[t,rfl]:=r1;show#[↑i,H1,I1,.int i t,q]
def rN (X:Cx) (r:V->Option Int->Option Int->Hp->VK->Prop):Prop:=
 ∀ (Fd:Ai) (s:Shared) (O:St) (H:Hp) (x:V) (v vl vu:Value) (lo hi:Option Int) (sl:Addr) (Q:VK),Inv X Fd O H s->RelV x v->s.heap.IsSliceOf sl vl vu .none->IsPart vl lo->IsPart vu hi->r x lo hi H Q->
  ∃ T id,typeLookup (.type T) "__getitem__"=pure ↑(.builtin id)/\s.TypeIs v T/\wpAny (model X.prog X.w) X.A (getItem v (.ref sl)) (EP X Fd O Q) X.xe s
def rN.or {r r':V->Option Int->Option Int->Hp->VK->Prop}(h:rN X r) (h':rN X r'):rN X (λ x lo hi H Q=>r x lo hi H Q\/r' x lo hi H Q):=by
 intro Fd s O H x v vl vu lo hi sl Q I rx hs pl pu q;rcases q with q | q
 .show h Fd s O H x v vl vu lo hi sl Q I rx hs pl pu q
 .show h' Fd s O H x v vl vu lo hi sl Q I rx hs pl pu q
def Vn (r:V->Option Int->Option Int->Hp->VK->Prop) (te:TE) (tl th:TO):TE:=fun O H Q=>te O H λ x H1=>tl O H1 λ l H2=>th O H2 λ u H3=>r x l u H3 Q
theorem Tv {r:V->Option Int->Option Int->Hp->VK->Prop}(hr:rN X r) (he:PE X e te) (hl:PO X lo tl) (hu:PO X hi th):PE X (.Subscript e (.Slice lo hi none p2) pos) (Vn r te tl th):=by
 intro Fd s O H Q I h;exact Subscript_ (zt (he Fd s O H _ I h) λ v s1 #[x,H1,I1,r1,q1]=>?_);exact wpAny_Slice (zt (hl Fd s1 O H1 _ I1 q1) λ vl s2 #[l,H2,I2,pl,q2]=>zt (hu Fd s2 O H2 _ I2 q2) λ vu s3 #[u,H3,I3,pu,q3]=>?_);rw[evalPart_none];exact Ad ?_;have I4:Inv X Fd O H3 { s3 with heap:=s3.heap.push { cls:=.type "slice",data:=.fields [vl,vu,.none].toArray } }:=I3.kept (t':=s3.toks) λ b ob q=>za1 _ q;let#[T,id,hT,ht,hg]:=hr Fd { s3 with heap:=s3.heap.push { cls:=.type "slice",data:=.fields [vl,vu,.none].toArray } } O H3 x v vl vu l u s3.heap.objs.size Q I4 r1 (Heap.IsSliceOf.new ..) pl pu q3;change wpAny (model X.prog X.w) X.A (subscriptTail e (.Slice lo hi none p2) v (.ref s3.heap.objs.size)) (EP X Fd O Q) X.xe { s3 with heap:=s3.heap.push { cls:=.type "slice",data:=.fields [vl,vu,.none].toArray } };show tail_any (ops:=[.ref s3.heap.objs.size,v]) ht hT hg (by with_unfolding_all rfl)
def tE (xs:List V) (lo hi:Option Int):List V:=(xs.drop (HT.zA xs.length 0 lo)).take (HT.zA xs.length xs.length hi-HT.zA xs.length 0 lo)
def ZL (xs:List V) (lo hi:Option Int):(tE xs lo hi).length<=xs.length:=by
 unfold tE;rw[Dj,Ep];lia
def c9 (K:Ac):V->Option Int->Option Int->Hp->VK->Prop:=λ x lo hi H Q=>∃ a xs,x=.ref a/\zO K H a xs/\
 ¬ (HT.zA xs.length 0 lo=0/\HT.zA xs.length xs.length hi=xs.length)/\∀ p,H p=none->Q (.ref p) (upd H p (.tup (tE xs lo hi)))
theorem VT:rN X (c9 X.K):=by
 intro Fd s O H x v vl vu lo hi sl Q I rx hs pl pu h;let#[a,xs,rfl,hx,hw,q]:=h;cases rx;let#[Aa,r,ht,hz]:=I.tuple hx;have hlen:Aa.toArray.size=xs.length:=by rw[AB];show r.length.symm
 exact#["tuple",_,PyProof.Rows.slot_tuple_getitem.lookup,ht.typeIs,?_];exact HT.Ly ht hs pl pu (by rw[hlen];show hw) ?_ (by rw[hlen];show hz);rw[hlen];exact#[.ref s.heap.objs.size,_,I.laid (t':=s.toks) (o:=.tup (tE xs lo hi)) (λ b ob q=>za1 _ q) (Ak _) ?_,rfl,q _ (I.zl.fresh (Ak _))];show#[#[Bk (ZL xs lo hi) hz,.new _],_,(r.drop (HT.zA xs.length 0 lo)).take (HT.zA xs.length xs.length hi-HT.zA xs.length 0 lo),IsTup.new _ _]
def iw (K:Ac):R2:=λ x y H Q=>∃ a b ns ms,x=.ref a/\y=.ref b/\zO K H a (ns.map V.int)/\zO K H b (ms.map V.int)/\Q (.bl (HT.lexLt ns ms)) H
def Q7 (hu:X.A.units<cLine):zV X (compareOp .Lt) (iw X.K):=by
 intro Fd s O H x y v u Q I rx ry h;let#[a,b,ns,ms,rfl,rfl,ha,hb,q]:=h;cases rx;cases ry;let#[Aa,r1,p1,_]:=I.tuple ha;let#[FQ,r2,p2,_]:=I.tuple hb;have i1:IntsAre Aa.toArray.toList ns:=intsAre_of r1;have i2:IntsAre FQ.toArray.toList ms:=intsAre_of r2;show HT.bN p1 p2 i1 i2 hu #[.bl (HT.lexLt ns ms),H,I,rfl,q]
def cL (K:Ac):R2:=λ x y H Q=>∃ a b xs ys,x=.ref a/\y=.ref b/\zO K H a xs/\zO K H b ys/\xs≠[]/\xs.length+ys.length<=sizeLine/\
 (ys=[]->Q (.ref a) H)/\(ys≠[]->∀ p,H p=none->Q (.ref p) (upd H p (.tup (xs++ys))))
def Vals.nB {xs:List V}{us:Ae}(r:Vals xs us):us=[]↔xs=[]:=by
 cases r with
 | _=>simp
theorem QE:zV X (binaryOp .Add) (cL X.K):=by
 intro Fd s O H x y v u Q I rx ry h;let#[a,b,xs,ys,rfl,rfl,ha,hb,hx,hz,q1,q2]:=h;cases rx;cases ry;let#[Aa,r1,p1,_]:=I.tuple ha;let#[FQ,r2,p2,_]:=I.tuple hb;exact HT.KJ p1 p2 (λ z=>hx (r1.nB.mp z)) (λ z=>#[.ref a,H,I,rfl,q1 (r2.nB.mp z)]) (λ z=>?_) (by rw[<- r1.length,<- r2.length];show hz);exact#[.ref s.heap.objs.size,_,I.laid (t':=s.toks) (o:=.tup (xs++ys)) (λ b ob q=>za1 _ q) (Ak _) ?_,rfl,q2 (λ w=>z (r2.nB.mpr w)) _ (I.zl.fresh (Ak _))];show#[#[by rw[Cj];show hz,.new _],_,r1.append r2,IsTup.new _ _]
end
def wD (n:Nat) (i:Int):Option Nat:=if 0<=i then (if i<n then ↑i.toNat else none) else if -(n:Int)<=i then ↑(i+n).toNat else none
def zy {α:Type}(xs:List α) (i:Int):Option α:=(wD xs.length i).bind λ j=>xs[j]?
theorem aw {n:Nat}{i:Int}{j:Nat}(h:wD n i=↑j):seqIndex? i n=↑j/\j<n/\-(n:Int)<=i/\i<n:=by
 unfold wD at h;by_cases h0:0<=i
 .rw[if_pos h0] at h;by_cases h1:i<n
  .rw[if_pos h1] at h;have e:i.toNat=j:=A_ h;show#[by rw[seqIndex_of h0 h1,e],⋯,⋯,h1]
  .rw[if_neg h1] at h;cases h
 .rw[if_neg h0] at h;by_cases h1:-(n:Int)<=i
  .rw[if_pos h1] at h;have e:(i+n).toNat=j:=A_ h;show#[by rw[seqIndex_neg ⋯ h1,e],⋯,h1,⋯]
  .rw[if_neg h1] at h;cases h
def fE {α:Type}{xs:List α}{i:Int}{v:α}(h:zy xs i=↑v):∃ j,seqIndex? i xs.length=↑j/\xs[j]?=↑v/\j<xs.length/\-(xs.length:Int)<=i/\i<xs.length:=by
 unfold zy at h;cases e:wD xs.length i with
 | none=>rw[e] at h;cases h
 | some j=>
  rw[e] at h;let#[h1,h2,h3,h4]:=aw e;show#[j,h1,h,h2,h3,h4]
theorem fD {α:Type}(xs:List α) (v:α):zy (xs++[v]) (-1)=↑v:=by
 have hl:(xs++[v]).length=xs.length+1:=#[];have e:wD (xs++[v]).length (-1)=↑xs.length:=by
  unfold wD;rw[hl,if_neg (),if_pos ⋯];congr 1;lia
 unfold zy;rw[e];change (xs++[v])[xs.length]?=↑v;simp
def Y5 (b:Expr):Prop:=∀ o i,subscripted b false o i=operate [o,i] (getItem o i)
def sP (X:Cx) (r:R2):Prop:=
 ∀ (value slice:Expr) (Fd:Ai) (s:Shared) (O:St) (H:Hp) (x y:V) (v u:Value) (Q:VK),Inv X Fd O H s->RelV x v->RelV y u->r x y H Q->
  subscripted slice false v u=operate [v,u] (getItem v u)->wpAny (model X.prog X.w) X.A (subscriptTail value slice v u) (EP X Fd O Q) X.xe s
def JC (X:Cx) (id:String) (r:V->List V->Hp->VK->Prop):Prop:=
 ∀ (Fd:Ai) (s:Shared) (O:St) (H:Hp) (x:V) (xs:List V) (v:Value) (us:Ae) (Q:VK),Inv X Fd O H s->RelV x v->Vals xs us->r x xs H Q->
  wpAny (model X.prog X.w) X.A (call (.builtin id) (v::us)) (EP X Fd O Q) X.xe s
section
variable {X:Cx}{a b:Expr}{ta tb:TE}{pos:Pos}
def sP.or {r r':R2}(h:sP X r) (h':sP X r'):sP X (λ x y H Q=>r x y H Q\/r' x y H Q):=by
 intro value slice Fd s O H x y v u Q I rx ry q hs;rcases q with q | q
 .show h value slice Fd s O H x y v u Q I rx ry q hs
 .show h' value slice Fd s O H x y v u Q I rx ry q hs
def T6 {r:R2}(hr:sP X r) (ha:PE X a ta) (hb:PE X b tb) (hs:Y5 b):PE X (.Subscript a b pos) (oV r ta tb):=by
 intro Fd s O H Q I h;show Subscript_ (f9 ha hb I h λ v u s2 x y H2 I2 rx ry q=>hr a b Fd s2 O H2 x y v u Q I2 rx ry q (hs _ _))
def cF (K:Ac):R2:=λ x y H Q=>∃ p xs i v,x=.ref p/\y=.int i/\zH K H p xs/\zy xs i=↑v/\Q v H
def cC (K:Ac):R2:=λ x y H Q=>∃ p xs i v,x=.ref p/\y=.int i/\zO K H p xs/\zy xs i=↑v/\Q v H
def cE:R2:=λ x y H Q=>∃ z i c,x=.str z/\y=.int i/\z.length<=sizeLine/\zy z.cps.toList i=↑c/\Q (.str #[[c].toArray]) H
theorem M5:sP X (cF X.K):=by
 intro value slice Fd s O H x y v u Q I rx ry h hs;let#[p,xs,i,z,rfl,rfl,hq,he,q]:=h;cases rx;let#[t,rfl]:=ry;let#[Aa,r,pl,hz]:=I.list hq;let#[j,h1,h2,h3,h4,h5]:=fE he;let#[w,ew,Ig]:=r.get h2;have hl:=r.length;have hn:=qp;have fin:EP X Fd O Q w s:=#[z,H,I,Ig,q];by_cases h0:0<=i
 .have hj:i.toNat=j:=by
   rw[seqIndex_of h0 h5] at h1;show A_ h1
  show item_listR pl.isList h0 ⋯ (by rw[hj];exists ew) fin hs
 .have hj:(i+(Aa.toArray.size:Int)).toNat=j:=by
   rw[seqIndex_neg ⋯ h4] at h1;rw[AB,<- hl];show A_ h1
  show subscriptTail_builtinR (x:=w) pl.isList.typeIs slot_list_getitem.lookup
   (wpAny_getItem_list_neg (Q:=λ r s'=>r=w/\EP X Fd O Q r s') pl.isList ⋯ (by rw[AB] <;> lia) ⋯ (by rw[hj];exists ew) #[rfl,fin]) hs
theorem M1:sP X (cC X.K):=by
 intro value slice Fd s O H x y v u Q I rx ry h hs;let#[p,xs,i,z,rfl,rfl,hq,he,q]:=h;cases rx;let#[t,rfl]:=ry;let#[Aa,r,pl,hz]:=I.tuple hq;let#[j,h1,h2,h3,h4,h5]:=fE he;let#[w,ew,Ig]:=r.get h2;have hl:=r.length;have hn:=qp;have fin:EP X Fd O Q w s:=#[z,H,I,Ig,q];show subscriptTail_builtinR (x:=w) pl.typeIs slot_tuple_getitem.lookup
  (getItem_tuple (j:=j) (Q:=λ r s'=>r=w/\EP X Fd O Q r s') pl ⋯ ⋯ (by rw[AB,<- hl];show h1) (by exists ew) #[rfl,fin]) hs
theorem M3:sP X cE:=by
 intro value slice Fd s O H x y v u Q I rx ry h hs;let#[z,i,c,rfl,rfl,hz,he,q]:=h;let#[t,rfl]:=rx;let#[t',rfl]:=ry;let#[j,h1,h2,h3,h4,h5]:=fE he;have hl:z.cps.toList.length=z.length:=by simp[Str.length]
 rw[hl] at h1 h4 h5;have hn:=qp;show tail_any (typeIs_str s z t) slot_str_getitem.lookup (getItem_str (c:=c) (by
  have e1:decide (i < -(2 ^ 63:Int))=false:=za5 ⋯;have e2:decide (i≥2 ^ 63)=false:=za5 ⋯;rw[e1,e2,Bool.or_false]) (by rw[h1];exists h2) #[.str #[[c].toArray],H,I.tok _,#[_,rfl],q]) hs
def cG (K:Ac):R2:=λ x y H Q=>cF K x y H Q\/cC K x y H Q\/cE x y H Q
def M4:sP X (cG X.K):=M5.or (M1.or M3)
def NJ (Aa:Ae) (n j:Nat) (u:Value):Obj.mapSeq (·.setIfInBounds j u) { cls:=.type "list",data:=.seq Aa.toArray n }={ cls:=.type "list",data:=.seq (Aa.set j u).toArray n }:=by
 simp[Obj.mapSeq]
theorem Inv.lst {Fd:Ai}{O:St}{H:Hp}{s:Shared}{p:Addr}{xs:List V}(I:Inv X Fd O H s) (h:H p=↑(.lst xs)):
  ∃ (Aa:Ae) (n:Nat),Vals xs Aa/\s.heap.get? p=↑{ cls:=.type "list",data:=.seq Aa.toArray n }/\xs.length<=sizeLine:=by
 let#[z,Aa,n,r,e]:=I.zl p _ h;show#[Aa,n,r,e,z]
def Inv.NN {Fd:Ai}{O:St}{H:Hp}{s:Shared}{p:Addr}{xs ys:List V}{Aa AN:Ae}{n n':Nat}{f:Obj->Obj}(I:Inv X Fd O H s) (h:H p=↑(.lst xs))
  (ho:s.heap.get? p=↑{ cls:=.type "list",data:=.seq Aa.toArray n }) (hf:f { cls:=.type "list",data:=.seq Aa.toArray n }={ cls:=.type "list",data:=.seq AN.toArray n' }) (r:Vals ys AN) (hz:ys.length<=sizeLine) (t:Nat):
  Inv X Fd O (upd H p (.lst ys)) { s with heap:=s.heap.update p f,toks:=t }:=by
 have e:(s.heap.update p f).get? p=↑{ cls:=.type "list",data:=.seq AN.toArray n' }:=by
  rw[za8 f ho (by rw[hf] <;> rfl),hf]
 exact I.write (x:=p) (e:=p) (by rw[h];trivial) (.inl rfl) (λ b u hb q=>(za6 _ _ (Ne.symm hb)).trans q) #[_,e] ?_;show#[hz,AN,n',r,e]
def Ux:V->V->V->Hp->(Hp->Prop)->Prop:=λ o i v H Q=>∃ p xs k j,o=.ref p/\i=.int k/\H p=↑(.lst xs)/\wD xs.length k=↑j/\Q (upd H p (.lst (xs.set j v)))
theorem set_list:Y6 X Ux:=by
 intro Fd s O H o i v ov iv u Q I ro ri rv h;let#[p,xs,k,j,rfl,rfl,hp,hj,q]:=h;cases ro;let#[t,rfl]:=ri;let#[Aa,n,r,ho,hz]:=I.lst hp;let#[h1,h2,h3,h4]:=aw hj;have hl:=r.length;have hn:=qp;have I':Inv X Fd O (upd H p (.lst (xs.set j v))) { s with heap:=s.heap.update p (Obj.mapSeq (·.setIfInBounds j u)) }:=
  I.NN hp ho (NJ Aa n j u) (r.set rv j) (by rw[C1];show hz) s.toks
 by_cases h0:0<=k
 .have hk:k.toNat=j:=by
   rw[seqIndex_of h0 h4] at h1;show A_ h1
  show PySem.W.ki_setAt ho h0 ⋯ (by rw[AB,<- hl];show h4) (by rw[hk];show#[_,I',q])
 .have hk:(k+(Aa.toArray.size:Int)).toNat=j:=by
   rw[seqIndex_neg ⋯ h3] at h1;rw[AB,<- hl];show A_ h1
  show PySem.W.ki_setBack ho ⋯ (by rw[AB,<- hl];show h3) ⋯ (by rw[hk];show#[_,I',q])
def VP (lo hi:Option Int) (n:Nat):(sliceBounds lo hi none n).1=((HT.zA n 0 lo:Nat):Int)/\(sliceBounds lo hi none n).2.1=((HT.zA n n hi:Nat):Int)/\(sliceBounds lo hi none n).2.2=1:=by
 exact#[?_,?_,rfl]
 .cases lo with
  | none=>simp[sliceBounds,HT.zA]
  | some i=>
   simp![sliceBounds,HT.zA,Option.getD_none,show (1:Int)>0 by decide,if_true];by_cases h:i<0
   .simp![h,if_true] <;> lia
   .simp![h,if_false] <;> lia
 .cases hi with
  | none=>simp[sliceBounds,HT.zA]
  | some i=>
   simp![sliceBounds,HT.zA,Option.getD_none,show (1:Int)>0 by decide,if_true];by_cases h:i<0
   .simp![h,if_true] <;> lia
   .simp![h,if_false] <;> lia
def VQ (Aa:Ae) (lo hi:Option Int):slicePick Aa.toArray lo hi none=((Aa.drop (HT.zA Aa.length 0 lo)).take (HT.zA Aa.length Aa.length hi-HT.zA Aa.length 0 lo)).toArray:=by
 let#[h1,h2,h3]:=VP lo hi Aa.toArray.size;unfold slicePick;rw[h1,h2,h3];simp![sliceRange_one,pick_run,AB] <;> rfl
def cA (K:Ac):V->Option Int->Option Int->Hp->VK->Prop:=λ x lo hi H Q=>∃ a xs,x=.ref a/\zH K H a xs/\∀ p,H p=none->Q (.ref p) (upd H p (.lst (tE xs lo hi)))
theorem VV:rN X (cA X.K):=by
 intro Fd s O H x v vl vu lo hi sl Q I rx hs pl pu h;let#[a,xs,rfl,hx,q]:=h;cases rx;let#[Aa,r,ht,hz]:=I.list hx;have hlen:=r.length;exact#["list",_,slot_list_getitem.lookup,ht.isList.typeIs,?_];exact wpAny_getItem_list_slice ht.isList hs pl pu .none #[] ?_ (by rw[AB] <;> lia);rw[VQ,<- hlen];exact#[.ref s.heap.objs.size,_,I.laid (t':=s.toks) (o:=.lst (tE xs lo hi)) (λ b ob q=>za1 _ q) (Ak _) ?_,rfl,q _ (I.zl.fresh (Ak _))];show#[Bk (ZL xs lo hi) hz,_,0,(r.drop (HT.zA xs.length 0 lo)).take (HT.zA xs.length xs.length hi-HT.zA xs.length 0 lo),AJ _ rfl]
theorem Jd:y7 X (.builtin "len") (λ xs H Q=>∃ p ys,xs=[.ref p]/\(zH X.K H p ys\/zO X.K H p ys)/\Q (.int ys.length) H):=by
 intro Fd s O H xs us Q I r h;let#[p,ys,rfl,hq,q]:=h;let#[u,rfl,rx]:=vals1 r;cases rx;have hn:=qp;rcases hq with hq | hq
 .let#[Aa,r',pl,hz]:=I.list hq;have hlen:=r'.length;show Calls.call_len_list pl.isList (by simp![AB] <;> lia) #[.int ys.length,H,I.tok _,#[s.toks+1,by rw[AB,hlen]],q]
 .let#[Aa,r',pl,hz]:=I.tuple hq;have hlen:=r'.length;show len_tuple pl (by simp![AB] <;> lia) #[.int ys.length,H,I.tok _,#[s.toks+1,by rw[AB,hlen]],q]
theorem Jc:y7 X (.builtin "len") (λ xs H Q=>∃ z,xs=[.str z]/\z.length<=sizeLine/\Q (.int z.length) H):=by
 intro Fd s O H xs us Q I r h;let#[z,rfl,hz,q]:=h;let#[u,rfl,t,rfl]:=vals1 r;have hn:=qp;show len_str ⋯ #[.int z.length,H,I.tok _,#[_,rfl],q]
def y7.or {f:Value}{r r':List V->Hp->VK->Prop}(h:y7 X f r) (h':y7 X f r'):y7 X f (λ xs H Q=>r xs H Q\/r' xs H Q):=by
 intro Fd s O H xs us Q I rs q;rcases q with q | q
 .show h Fd s O H xs us Q I rs q
 .show h' Fd s O H xs us Q I rs q
theorem Ja:y7 X (.type "list") (λ xs H Q=>∃ p ys,xs=[.ref p]/\(zH X.K H p ys\/zO X.K H p ys)/\∀ l,H l=none->Q (.ref l) (upd H l (.lst ys))):=by
 intro Fd s O H xs us Q I r h;let#[p,ys,rfl,hq,q]:=h;let#[u,rfl,rx]:=vals1 r;cases rx;have fin:∀ (Aa:Ae),Vals ys Aa->ys.length<=sizeLine->∀ (h':Heap) (c':Nat),(∀ b o',s.heap.get? b=↑o'->h'.get? b=↑o')->
   h'.get? s.heap.objs.size=↑{ cls:=.type "list",dict:=none,data:=.seq Aa.toArray c',slots:=[].toArray }->EP X Fd O Q (.ref s.heap.objs.size) { s with heap:=h' }:=λ Aa r' hz h' c' kp e=>
  #[.ref s.heap.objs.size,_,I.laid (t':=s.toks) kp (Ak _) (show yI X.prog X.w _ h' _ (.lst ys) from #[hz,Aa,c',r',e]),rfl,q _ (I.zl.fresh (Ak _))]
 rcases hq with hq | hq
 .let#[Aa,r',pl,hz]:=I.list hq;have hlen:=r'.length;let#[o,ho,hc,n,hd]:=pl.isList;show call_list_seq p (.inl rfl) ho hc hd (λ h' c' kp e=>fin Aa r' hz h' c' kp e) (by simp![AB] <;> lia)
 .let#[Aa,r',pl,hz]:=I.tuple hq;have hlen:=r'.length;let#[o,ho,hc,n,hd]:=pl;show call_list_seq p (.inr rfl) ho hc hd (λ h' c' kp e=>fin Aa r' hz h' c' kp e) (by simp![AB] <;> lia)
theorem KL:y7 X (.type "tuple") (λ xs H Q=>∃ p ys,xs=[.ref p]/\((zH X.K H p ys/\∀ l,H l=none->Q (.ref l) (upd H l (.tup ys)))\/(zO X.K H p ys/\Q (.ref p) H))):=by
 intro Fd s O H xs us Q I r h;let#[p,ys,rfl,h]:=h;let#[u,rfl,rx]:=vals1 r;cases rx;rcases h with ⟨hq,q⟩ | ⟨hq,q⟩
 .let#[Aa,r',pl,hz]:=I.list hq;have hlen:=r'.length;exact call_tuple_list pl.isList (λ h' kp=>?_) (by simp![AB] <;> lia);have I1:Inv X Fd O H { s with heap:=h' }:=I.kept (t':=s.toks) kp;have I2:Inv X Fd O (upd H h'.objs.size (.tup ys)) { s with heap:=h'.push { cls:=.type "tuple",data:=.seq Aa.toArray } }:=
   I1.laid (t':=s.toks) (λ b o e=>za1 _ e) (Ak _) (show yI X.prog X.w _ _ _ (.tup ys) from #[#[hz,.new _],Aa,r',IsTup.new _ _])
  show#[.ref h'.objs.size,_,I2,rfl,q _ (I1.zl.fresh (Ak _))]
 .let#[Aa,r',pl,hz]:=I.tuple hq;show call_tuple_same pl #[.ref p,H,I,rfl,q]
def d7 (K:Ac) (T:String) (x:V) (H:Hp):Prop:=match x with
 | .str _=>T="str"
 | .int _=>T="int"
 | .ref p=>(T="list"/\∃ xs,zH K H p xs)\/(T="tuple"/\∃ o,K.lookup p=↑o/\o.cls=.type "tuple"/\o.dict=none)\/
   (T="dict"/\((∃ Ab,H p=↑(.dK Ab))\/∃ Ab,H p=↑(.dT Ab)))\/(T="set"/\∃ S n,H p=↑(.set S n))
 | _=>False
def WY {Fd:Ai}{O:St}{H:Hp}{s:Shared}{T:String}{x:V}{v:Value}(I:Inv X Fd O H s) (r:RelV x v) (ty:d7 X.K T x H):
  s.TypeIs v T/\∀ a,v=.ref a->∃ ob,s.heap.get? a=↑ob/\ob.dict=none:=by
 cases x with
 | str z=>
  let#[t,rfl]:=r;cases (show T="str" from ty);show#[typeIs_str s z t,λ _ e=>nomatch e]
 | int i=>
  let#[t,rfl]:=r;cases (show T="int" from ty);show#[typeIs_int s i t,λ _ e=>nomatch e]
 | ref p=>
  cases r;rcases ty with ⟨rfl,xs,hq⟩ | ⟨rfl,o,hk,hc,hd⟩ | ⟨rfl,hk⟩ | ⟨rfl,S,n,hk⟩
  .let#[Aa,_,pl,_]:=I.list hq;exact#[pl.isList.typeIs,λ a e=>?_];cases e;let#[o,n,e,c,hd,_]:=pl;show#[o,e,hd]
  .exact#[#[o,I.yx p o hk,hc],λ a e=>?_];cases e;show#[o,I.yx _ o hk,hd]
  .have z:∃ o,s.heap.get? p=↑o/\o.ExactDict:=by
    rcases hk with ⟨Ab,hk⟩ | ⟨Ab,hk⟩
    .let#[_,_,_,_,o,_,_,e,ex,_]:=I.zl p _ hk;show#[o,e,ex]
    .let#[_,_,_,_,o,_,_,e,ex,_]:=I.zl p _ hk;show#[o,e,ex]
   let#[o,e,ex]:=z;exact#[#[o,e,ex.1],λ a e2=>?_];cases e2;show#[o,e,ex.2.1]
  .let#[o,_,_,_,e,ex,_]:=I.zl p _ hk;exact#[#[o,e,ex.1],λ a e2=>?_];cases e2;show#[o,e,ex.2.1]
 | _=>show False.elim ty
def jW (K:Ac) (T:String) (r:V->List V->Hp->VK->Prop) (to:TE) (t:TA):TE:=fun O H Q=>to O H λ x H1=>d7 K T x H1/\t O H1 λ xs H2=>r x xs H2 Q
variable {o e:Expr}{es:List Expr}{to:TE}{t:TA}{name:Str}{apos Aj:Pos}{T id:String}{r:V->List V->Hp->VK->Prop}
def cZ (pa:PlainAttrs T) (slot:Slot T name id) (hty:typeOf (.builtin id)=pure (.type "method_descriptor")) (hm:JC X id r) (ho:PE X o to) (ha:PA X (e::es) t)
  (FZ:attributeBase o name X.env (eval o X.env)=eval o X.env:=by rfl)
  (AV:((backTo Aj (starEach (e::es) X.env)).all (λ x=>!x.1)&&(backToKw Aj (keywordEach [] X.env)).all (λ x=>x.1.isSome)
   && decide ((e::es).length+([]:List Keyword).length+(if ([]:List Keyword).isEmpty then 0 else 1)<30))=true:=by rfl)
  (Hg:(apos.endLine == Aj.line)=true:=by rfl) (hs:AA X e es:=by rfl) (GL:AF X Aj es:=by rfl):
  PE X (.Call (.Attribute o name apos) (e::es) [] Aj) (jW X.K T r to t):=by
 intro Fd s O H Q I h;exact wpAny_Call_method_late FZ AV Hg rfl (zt (ho Fd s O H _ I h) λ v s1 #[x,H1,I1,r1,ty,q1]=>?_);let#[h1,h2]:=WY I1 r1 ty;exact#[T,id,pa,slot,hty,h1,h2,?_];have hA:=ha Aj Fd s1 O H1 _ I1 q1;rw[hs] at hA ⊢;exact Calls.callWith_builtin (by change (false||(backTo Aj (starEach es X.env)).any (·.1))=false;rw[GL] <;> rfl) (Calls.evalArgs_plain ?_);show zt hA λ us s2 #[vs,H2,I2,r2,q2]=>hm Fd s2 O H2 x vs v us Q I2 r1 r2 q2
end
def Y8 (X:Cx) (id:String) (r:V->List V->Hp->VK->Prop):Prop:=
 ∀ (Fd:Ai) (s:Shared) (O:St) (H:Hp) (x:V) (xs:List V) (v:Value) (us:Ae) (Q:VK),Inv X Fd O H s->RelV x v->Vals xs us->r x xs H Q->
  wpAny (model X.prog X.w) X.A (call (.builtin id) (v::us)) (EP X Fd O Q) X.xe s
theorem Vals.one:∀ {x:V}{us:Ae},Vals [x] us->∃ u,us=[u]/\RelV x u
 | _,_,.cons r .nil=>#[_,rfl,r]
theorem Vals.rep {xs:List V}{us:Ae}(h:Vals xs us):∀ k:Nat,Vals (List.replicate k xs).flatten (List.replicate k us).flatten
 | 0=>.nil
 | k+1=>by
  rw[Cc,Cc,Cy,Cy];show Vals.append h (Vals.rep h k)
section
variable {X:Cx}{Fd:Ai}{O:St}{H:Hp}{s:Shared}{l:Addr}{xs ys:List V}
def Inv.bO {Aa AN:Ae}{n:Nat}{f:Array Value->Array Value}{t':Nat}(I:Inv X Fd O H s) (hH:H l=↑(.lst xs))
  (e:s.heap.get? l=↑{ cls:=.type "list",data:=.seq Aa.toArray n }) (hf:f Aa.toArray=AN.toArray) (hv:Vals ys AN) (hz:ys.length<=sizeLine):
  Inv X Fd O (upd H l (.lst ys)) { s with heap:=s.heap.update l (Obj.mapSeq f),toks:=t' }:=by
 have q:=PySem.IsL.update e f;rw[hf] at q;exact I.write (x:=l) (e:=l) (by rw[hH];show trivial) (.inl rfl) (λ b' u hb hu=>(za6 s.heap (Obj.mapSeq f) (Ne.symm hb)).trans hu) #[_,q] ?_;show#[hz,AN,_,hv,q]
def Inv.NQ {Aa:Ae}{t':Nat}(I:Inv X Fd O H s) (hv:Vals ys Aa) (hz:ys.length<=sizeLine):
  Inv X Fd O (upd H s.heap.objs.size (.lst ys)) { s with heap:=s.heap.push { cls:=.type "list",data:=.seq Aa.toArray },toks:=t' }:=
 I.laid (λ _ _ q=>za1 _ q) (Ak _) #[hz,Aa,0,hv,AJ _ rfl]
theorem Inv.fresh (I:Inv X Fd O H s):H s.heap.objs.size=none:=I.zl.fresh (Ak _)
def Inv.iY (I:Inv X Fd O H s) (hH:H l=↑(.lst xs)):xs.length<=sizeLine/\∃ (Aa:Ae) (n:Nat),Vals xs Aa/\xs.length=Aa.length/\s.heap.get? l=↑{ cls:=.type "list",data:=.seq Aa.toArray n }:=by
 let#[z,Aa,n,r,e]:=I.zl l _ hH;show#[z,Aa,n,r,r.length,e]
theorem Nw {n:Nat}(h:n<=sizeLine):Builtin.List.listTooLong n=false:=by
 unfold Builtin.List.listTooLong;show za5 ⋯
def cN:V->List V->Hp->VK->Prop:=λ x vs H Q=>∃ l xs y,x=.ref l/\vs=[y]/\H l=↑(.lst xs)/\xs.length<sizeLine/\Q .zo (upd H l (.lst (xs++[y])))
theorem bM:Y8 X "list.append" cN:=by
 intro Fd s O H x vs v us Q I rx rv h;let#[l,xs,y,rfl,rfl,hH,hz,q]:=h;cases rx;let#[u,rfl,ru]:=rv.one;let#[z,Aa,n,r,hl,e]:=I.iY hH;exact call_meets F.slot_list_append #[_,e,rfl] F.entry_list_append (F.args_list_append_2 _ _) (PySem.list_append l Aa.toArray n u (by rw[AB];lia)) #[e,?_];exact#[.zo,_,I.bO (AN:=Aa++[u]) hH e #[] (r.append (.cons ru .nil)) ?_,rfl,q];rw[Cj,List.length_singleton];lia
def cJ:V->List V->Hp->VK->Prop:=λ x vs H Q=>∃ l b xs zs,x=.ref l/\vs=[.ref b]/\H l=↑(.lst xs)/\H b=↑(.lst zs)/\xs.length+zs.length<=sizeLine/\Q .zo (upd H l (.lst (xs++zs)))
theorem NA:Y8 X "list.extend" cJ:=by
 intro Fd s O H x vs v us Q I rx rv h;let#[l,b,xs,zs,rfl,rfl,hH,hB,hz,q]:=h;cases rx;let#[u,rfl,ru]:=rv.one;cases ru;let#[z,Aa,n,r,hl,e]:=I.iY hH;let#[z2,FQ,n2,r2,hl2,e2]:=I.iY hB;have hsz:Aa.toArray.size+FQ.toArray.size<=sizeLine:=by rw[AB,AB];lia
 have hlong:¬ (!Aa.toArray.isEmpty&&Builtin.List.listTooLong (Aa.toArray.size+FQ.toArray.size))=true:=by
  rw[Nw hsz,C0];show B3
 exact call_meets F.slot_list_extend #[_,e,rfl] F.entry_list_extend (F.args_list_extend_2 _ _)
  (AutoSeq1.list_extend_list_list_0 l Aa.toArray n b FQ.toArray n2 hlong (by rw[AB];lia) ⋯) #[e,e2,?_]
 exact#[.zo,_,I.bO (AN:=Aa++FQ) hH e #[] (r.append r2) ?_,rfl,q];rw[Cj];lia
end
end L2
namespace Wl
open PySem PySem.W PySem.Calls PyProof.Rows
def ML {P:Params}{h:Heap}:∀ (ns:List Int) (vs:Ae),WellAll P h vs (ns.map WData.int)->IntsAre vs ns:=by
 intro ns
 induction ns with
 | nil=>
  intro vs w;rw[Bj] at w;cases w;show .nil
 | cons n ns ih=>
  intro vs w;rw[Ax] at w;cases w with
  | cons a b=>
   cases a;show .cons _ _ (ih _ b)
def Uc {l:OpenLaw}{n:Nat}(hn:l.most=↑n) {P:Params}{h:Heap}{args:List WData}{vals:Ae}
  (Cp:l.row.toRowW.claim.pre args=true) (Ey:WellAll P h vals args):
  ∃ a vs ns,vals=[Value.ref a]/\args=[WData.list (ns.map WData.int)]/\h.get? a=↑{ cls:=.type "list",data:=.seq vs.toArray }/\IntsAre vs ns/\ns.length<=n:=by
 have D1:WShape.hasAll [] args [.list .int]=true:=(pre_splitW Cp).1;have hc:l.pre.holds [] { args:=args }=true:=(pre_splitW Cp).2;let#[d,r,rfl,h1,h2]:=hasAllW_cons D1;obtain rfl:=hasAllW_nil h2;let#[xs,rfl,h3]:=hasW_list h1;let#[ns,rfl]:=items_int h3;have hlen:ns.length<=n:=by
  unfold OpenLaw.pre at hc;have h4:(WTm.not (.lt (.lit (.int (n:Int))) (.len (.arg 0)))).holds [] { args:=[.list (ns.map .int)] }=true:=by
   have h4:=(holds_andW hc).1;rw[hn] at h4;show h4
  have h5:=condW_of h4 (w_not (w_lt w_lit (w_len_list (w_arg rfl))));rw[AH] at h5;exact Nat.le_of_not_lt λ q=>?_;have q':(n:Int)<((ns.length:Nat):Int):=⋯
  first
   | (rw[zaA q'] at h5;show absurd h5 ())
   | (simp at h5;lia)
 cases Ey with
 | cons w1 w2=>
  cases w2;cases w1 with
  | list ho AL=>show#[_,_,ns,rfl,rfl,ho,ML ns _ AL,hlen]
def UN (l:OpenLaw) (args:List WData):l.row.toRowW.claim.post args (.bool true) args=true:=
 postW_of (r:=l.row.toRowW) (X:=(true == true))
  (show WShape.has [] (.bool true) .bool=true by first | rfl | decide | simp[WShape.has,WShape.arms,WShape.armsAll])
  (show (WTm.eq .res (.lit (.bool true))).value [] { args:=args,res:=↑(.bool true),after:=args }=↑(.bool (true == true)) from w_eq_bool (w_res rfl) w_lit) rfl
def Jx {l:OpenLaw}{n:Nat}{q:Program}{loose:List Str}{XP:(Str->Option Value)->Heap->Prop}{YP:World->Heap->Prop}{d:DefRec}
  (hn:l.most=↑n) (DE:d.params.defaults=[])
  (call:∀ (w:World) (s₀ s₁:Shared) (mg mb:Au) (fa:Addr) (o:Obj) (pm cd doc:Value) (a:Addr) (vs:Ae) (ns:List Int),
   Ground q loose [] XP w s₀ mg mb s₁.heap->YP w s₁.heap->
   s₁.heap.get? fa=↑o->o.data=.func (docDef d.name d.params d.body d.scope pm cd doc)->s₁.heap.CodeRec cd d.name->mg d.name=↑(.ref fa)->
   s₁.heap.get? a=↑{ cls:=.type "list",data:=.seq vs.toArray }->IntsAre vs ns->ns.length<=n->s₁.gens=[].toArray->
   codeAny (model l.prog w) callerA (.call (.ref fa) #[[.ref a],[]]) (λ r s'=>r=.ok (.ret (.bool true))/\OldK s₁.heap s'.heap/\s'.os=s₁.os/\AllBare s'.gens) s₁):
  WalkO q loose XP YP l.row.toRowW d [] (λ f vs=>PySem.call f vs):=by
 intro w s₀ s₁ mg mb G Y fa o pm cd doc dV kV ho hd A9 hD Du hg args vals as Cp Dv hrd Ey ET;obtain rfl:dV=.none:=Dflts.none hD DE;obtain rfl:kV=.none:=Dflts.noKw hD;let#[a,vs,ns,rfl,rfl,CP,hints,hlen]:=Uc hn Cp Ey;exact enter_call (codeAny_mono (call w s₀ s₁ mg mb fa o pm cd doc a vs ns G Y ho (fd_plain hd) A9 Du CP hints hlen hg) λ r s' hq=>?_);let#[rfl,h2,h3,h4]:=hq;show#[.inl #[.bool true,.bool true,[],rfl,λ _=>rfl,.bool true,UN l _,λ _=>#[List.Pairwise.nil,λ _ hm=>(nomatch hm)]],h2,h3,h4]
end Wl
namespace L2
open PySem PySem.Spec PyProof.Rows
theorem da:∀ {vs:Ae}{ns:List Int},IntsAre vs ns->Vals (ns.map V.int) vs
 | _,_,.nil=>.nil
 | _,_,.cons n t h=>.cons #[t,rfl] (da h)
def js (H:Hp):Prop:=∀ b,H b=none\/∃ o xs,H b=↑(.xK o (.lst xs))
def Ml {P:Program}{w:World}{K:Ac}{mg mb:Au}{CX:vL}{k:Nat}{fa a:Addr}{fd:FuncData}{x:Str}{sp:Sp}{s₁:Shared}{vs:Ae}{ns:List Int}
  (KX:K.In s₁.heap) (Bz:s₁.heap.Ns mainGlobals mg) (hb:s₁.heap.Ns builtinsNs mb) (hbb:∀ x:Str,x≠"__name__"->mb x=bootBuiltins x) (EU:s₁.heap.NoLimit) (hg:s₁.gens=[].toArray)
  (ha:s₁.heap.get? a=↑{ cls:=.type "list",data:=.seq vs.toArray }) (hi:IntsAre vs ns) (hl:ns.length<=sizeLine) (hr:zN k callerA)
  (F:∀ base:Heap,K.In base->base.Ns mainGlobals mg->yP P w K mg base CX k fa fd [x] sp) (hbind:∀ (s:Shared) (u:Value),BindsTo s fd #[[u],[]] [(x,u)])
  (BZ:∀ H:Hp,js H->zH K H a (ns.map V.int)->sp [.ref a] H (λ v _=>v=.bl true) λ _ _ _=>False)
  (hCX:∀ H e s',CX [] H s₁ (λ _ _ _=>False) e s'->False):
  codeAny (model P w) callerA (.call (.ref fa) #[[.ref a],[]]) (λ r s'=>r=.ok (.ret (.bool true))/\OldK s₁.heap s'.heap/\s'.os=s₁.os/\AllBare s'.gens) s₁:=by
 have rv:=da hi;have lenV:=hi.length;have core:∀ H:Hp,js H->zH K H a (ns.map V.int)->yc P w H s₁.heap->(∀ b,H b≠none->b=a)->(H a≠none->K.lookup a=none)->
   codeAny (model P w) callerA (.call (.ref fa) #[[.ref a],[]]) (λ r s'=>r=.ok (.ret (.bool true))/\OldK s₁.heap s'.heap/\s'.os=s₁.os/\AllBare s'.gens) s₁:=by
  intro H hO hS zl hA hK;have HN:∀ {b:Addr}{o:Obj},s₁.heap.get? b=↑o->H b=none->(sy s₁.heap H).get? b=↑o:=λ e n=>MY e n;have noA:∀ {b:Addr}{o:Obj}{es:Array DictEntry}{ep:Nat},s₁.heap.get? b=↑o->o.data=.dict es ep->H b=none:=λ{b o es ep} e d=>by
   cases q:H b with
   | none=>rfl
   | some u=>
    have e':b=a:=hA b (by rw[q];simp);subst e';rw[ha] at e;cases e;have d':Data.seq vs.toArray _=Data.dict es ep:=d;cases d'
  have nsK:∀ {b:Addr}{m:Au},s₁.heap.Ns b m->(sy s₁.heap H).Ns b m:=λ{b m} #[o,es,ep,e,d,r]=>#[o,es,ep,HN e (noA e d),d,r];have hKb:K.In (sy s₁.heap H):=λ b o e=>HN (KX b o e) (by
   cases q:H b with
   | none=>rfl
   | some u=>
    have e':b=a:=hA b (by rw[q];simp);subst e';rw[hK (by rw[q];simp)] at e;cases e)
  have hM:Mod K mg (sy s₁.heap H):=#[hKb,nsK Bz,#[mb,nsK hb,hbb],let #[mc,h1,h2]:=EU;#[mc,nsK h1,h2]];have e0:qU P w K mg (sy s₁.heap H) callerA [] s₁ H:=#[rfl,hM,λ b o e=>Nr e,Nat.le_of_eq (MW _ _),trivial,λ b hb=>absurd (show b∈([]:List Addr) from hb) #[],zl,.of_eq hg];exact codeAny_mono ((F _ hKb (nsK Bz)).run callerA [] s₁ H #[[.ref a],[]] [.ref a] [.ref a] _ _ hr e0 (hbind s₁ (.ref a)) (.cons rfl .nil) (BZ H hO hS)) λ r s' h=>?_;cases r with
  | error e=>show (hCX H e s' h).elim
  | ok fl=>
   cases fl with
   | ret u=>
    let#[v,H',os,bare,un,Bx,r',q]:=h;have q':v=.bl true:=q;subst q';obtain rfl:u=Value.bool true:=r';exact#[rfl,OldK.of_keep λ b o e=>?_,os,bare];cases q:H b with
    | none=>show un.keep b o e q (by intro z;show absurd (show b∈([]:List Addr) from z) #[]) #[]
    | some u=>
     rcases hO b with z | ⟨ob,xs,z⟩
     .rw[q] at z;cases z
     .have z2:=un.v8 b ob _ z;let#[e1,_]:=zl b _ z;let#[e2,_]:=Bx b _ z2;rw[e] at e1;cases e1;show e2
   | _=>show False.elim h
 cases hk:K.lookup a with
 | some o=>
  have e:=KX a o hk;rw[ha] at e;cases e;exact core (λ _=>none) (λ _=>.inl rfl) (.inr #[_,vs.toArray,_,hk,rfl,rfl,rfl,by rw[AB,lenV];show hl,by exists rv]) (λ b u z=>by have z':(none:Option HO)=↑u:=z;cases z') (λ b z=>absurd rfl z) λ z=>absurd rfl z
 | none=>
  exact core (λ b=>if b=a then ↑(.xK { cls:=.type "list",data:=.seq vs.toArray } (.lst (ns.map V.int))) else none) (λ b=>?_) (.inl (.inr #[{ cls:=.type "list",data:=.seq vs.toArray },if_pos rfl])) (λ b u z=>?_) (λ b z=>?_) λ _=>hk
  .by_cases hb:b=a
   .show .inr #[_,_,if_pos hb]
   .show .inl (if_neg hb)
  .by_cases hb:b=a
   .have z':=(if_pos hb).symm.trans z;cases z';subst hb;show#[ha,by rw[AH];show hl,vs,_,rv,ha]
   .have z':=(if_neg hb).symm.trans z;cases z'
  .by_cases hb:b=a
   .show hb
   .show absurd (if_neg hb) z
def WI {l:PySem.W.OpenLaw}{n k:Nat}{q:Program}{loose:List Str}{XP:(Str->Option Value)->Heap->Prop}{YP:World->Heap->Prop}{d:DefRec}{K:Params->Ac}{CX:World->vL}{sp:World->Sp}{x:Str}
  (hn:l.most=↑n) (hn2:n<=sizeLine) (DE:d.params.defaults=[]) (hr:zN k callerA)
  (hY:∀ (w:World) (h:Heap),YP w h->(K w.params).In h)
  (F:∀ (w:World) (mg:Au) (fa:Addr) (h:Heap),(K w.params).In h->h.Ns mainGlobals mg->mg d.name=↑(.ref fa)->
   ∃ fd:FuncData,(∀ (s:Shared) (u:Value),BindsTo s fd #[[u],[]] [(x,u)])/\
    ∀ base:Heap,(K w.params).In base->base.Ns mainGlobals mg->yP l.prog w (K w.params) mg base (CX w) k fa fd [x] (sp w))
  (BZ:∀ (w:World) (H:Hp) (a:Addr) (ns:List Int),ns.length<=n->js H->zH (K w.params) H a (ns.map V.int)->sp w [.ref a] H (λ v _=>v=.bl true) λ _ _ _=>False)
  (hCX:∀ (w:World) (H:Hp) (s:Shared) (e:Value) (s':Shared),CX w [] H s (λ _ _ _=>False) e s'->False):
  PySem.W.WalkO q loose XP YP l.row.toRowW d [] (λ f vs=>PySem.call f vs):=by
 exact Wl.Jx hn DE λ w s₀ s₁ mg mb fa o pm cd doc a vs ns G Y ho hd A9 Du CP hints hlen hg=>?_;have KX:=hY w _ Y;let#[fd,hb,hF]:=F w mg fa _ KX G.T.g Du;show Ml KX G.T.g G.T.b G.T.builtins G.T.nolimit hg CP hints (Bk hlen hn2) hr hF hb (λ H hO hS=>BZ w H a ns hlen hO hS) λ H e s'=>hCX w H s₁ e s'
def wV (s:Stmt):Arguments:=match s with
 | .FunctionDef _ a _ _ _ _ _ _ _ _=>a
 | _=>{ posonlyargs:=[],args:=[],vararg:=none,kwonlyargs:=[],kw_defaults:=[],kwarg:=none,defaults:=[] }
def yN (s:Stmt):List Stmt:=match s with
 | .FunctionDef _ _ b _ _ _ _ _ _ _=>b
 | _=>[]
def zG (s:Stmt):Scope:=match s with
 | .FunctionDef _ _ _ _ _ _ sc _ _ _=>sc
 | _=>{ kind:=.function,names:=[],isGenerator:=false,isCoroutine:=false }
abbrev y8:vL:=λ _ _ _ _ _ _=>False
abbrev E0:XK:=λ _ _ _=>False
def Qv {X:Cx}:Passes y8 X E0:=λ _ _ _ _ _ _ _ h=>h.elim
structure wy (K:Ac) (x qual:Str) (st:Stmt) (f:Addr) (fd:FuncData):Prop where
 ex:∃ (oc:Value) (od:Option Addr) (kV doc pm:Value) (an:Option Addr) (Ah ct:Value) (HQ:Array (Option Value)),
  fd=PySem.W.fnOf x qual (wV st) (yN st) (zG st) .none kV doc pm an Ah ct/\K.lookup f=↑#[oc,od,.func fd,HQ]/\PySem.W.codeIn K Ah qual=true
 kp:PySem.W.keepIn K (.ref f)=true
section
variable {P:Program}{w:World}{K:Ac}{mg:Au}{base:Heap}
def wy.ok {x qual:Str}{st:Stmt}{f:Addr}{fd:FuncData}{N ps:List Str}{k:Nat}{sp:Sp}(F:wy K x qual st f fd) (S:vg N ps (zG st)) (len:∀ vs H Q E,sp vs H Q E->vs.length=ps.length)
  (Ft:∀ (Ah:Value) (A:Around) (outer:List Env) (s:Shared) (H:Hp) (vs:List V) (Q:VK) (E:XK),zN k (A.deeper (envOfC qual (zG st) s.heap.objs.size f Ah))->sp vs H Q E->
   ∃ t,xu (yL y8 P w K mg base N qual (zG st) f Ah A outer s H E).y_ (yN st) t/\t { nx:=λ _ H'=>Q .zo H',rt:=Q } (start N vs) H):yP P w K mg base y8 (k+1) f fd ps sp:=by
 let#[oc,od,kV,doc,pm,an,Ah,ct,HQ,rfl,lk,A9]:=F.ex;exact Ze lk A9 S len λ A outer s H vs Q E hr BZ=>?_;let#[t,h,q]:=Ft Ah A outer s H vs Q E hr BZ;show#[t,h.y_,q]
def wy.binds {x qual:Str}{st:Stmt}{f:Addr}{fd:FuncData}{ps:List Str}(F:wy K x qual st f fd)
  (h:∀ (kV doc pm:Value) (an:Option Addr) (Ah ct:Value) (us:Ae),us.length=ps.length->bindArgs (PySem.W.fnOf x qual (wV st) (yN st) (zG st) .none kV doc pm an Ah ct) #[us,[]]=pure (ps.zip us)):Binds K fd ps []:=by
 let#[oc,od,kV,doc,pm,an,Ah,ct,HQ,rfl,lk,A9]:=F.ex;show .all (h kV doc pm an Ah ct)
def gF {x qual:Str}{st:Stmt}{f:Addr}{oc:Value}{od an:Option Addr}{HQ:Array (Option Value)}{kV doc pm Ah ct:Value}(l:K.lookup f=↑#[oc,od,.func (PySem.W.fnOf x qual (wV st) (yN st) (zG st) .none kV doc pm an Ah ct),HQ])
  (c:PySem.W.codeIn K Ah qual=true) (k:PySem.W.keepIn K (.ref f)=true):wy K x qual st f (PySem.W.fnOf x qual (wV st) (yN st) (zG st) .none kV doc pm an Ah ct):=#[#[oc,od,kV,doc,pm,an,Ah,ct,HQ,rfl,l,c],k]
end
def gj {A:Around}{k:Nat}(hr:zN k A):A.units+1<cLine:=Nat.lt_of_le_of_lt (Nat.add_le_add_left (by decide:1<=64) _) hr.units
section
variable {X:Cx}
def pv (i:Nat) {x:Str}{pos:Pos}(hN:X.N[i]?=↑x:=by rfl) (hv:m6 X.env.scope x:=by first | show Or.inl rfl | show Or.inr (Or.inl rfl) | show Or.inr (Or.inr rfl)) (hd:(x == ("__debug__":Str))=false:=by decide)
  (A9:(x == ("__classdict__":Str))=false:=by decide):PE X (.Name x pos) (oU i):=Tr hN hv hd A9
end
def m9 (H H':Hp):Prop:=∀ b o,H b=↑o->H' b=↑o
end L2
namespace PySem
theorem fj {env:Env}:∀ (l:List (Str×NameKind)) (acc:List (Str×Addr)),(∀ y∈l,y.2=.free->∃ c,env.cells.lookup y.1=↑c)->
  ∃ cl,(forIn l acc (λ(x:Str×NameKind) r=>if (x.2 == NameKind.free)=true then do let a <- cellOf env x.1;pure (ForInStep.yield ((x.1,a)::r)) else pure (ForInStep.yield r)):Sem (List (Str×Addr)))=pure cl/\
   (∀ x c,cl.lookup x=↑c->acc.lookup x=↑c\/((x,NameKind.free)∈l/\env.cells.lookup x=↑c))/\(∀ x,(x,NameKind.free)∈l\/(acc.lookup x).isSome->(cl.lookup x).isSome)
 | [],acc,_=>#[acc,rfl,λ x c h=>.inl h,λ x h=>by exists h]
 | (n,k)::l,acc,h=>by
  by_cases hk:k=.free
  .subst hk;let#[c,hc]:=h (n,.free) Av rfl;let#[cl,e1,e2,e3]:=fj l ((n,c)::acc) λ y hy=>h y (AD _ hy);exact#[cl,?_,λ x d hx=>?_,λ x hx=>?_]
   .rw[DW];simp![beq_self_eq_true,if_true,cellOf,hc];show e1
   .rcases e2 x d hx with q | ⟨q1,q2⟩
    .rw[Bs] at q;cases Dl:x == n with
     | true=>
      rw[Dl] at q;have:x=n:=by exists Dl
      subst this;exact .inr #[Av,?_];rw[hc];show q
     | false=>rw[Dl] at q;show .inl q
    .show .inr #[AD _ q1,q2]
   .exact e3 x ?_;rcases hx with hx | hx
    .rcases Ao.mp hx with q | q
     .have:x=n:=congrArg Prod.fst q;subst this;show .inr (by simp[Bs])
     .show .inl q
    .exact .inr ?_;rw[Bs];cases x == n <;> simp[hx]
  .have hb:(k == NameKind.free)=false:=by exists hk
   let#[cl,e1,e2,e3]:=fj l acc λ y hy=>h y (AD _ hy);exact#[cl,?_,λ x d hx=>?_,λ x hx=>?_]
   .rw[DW];simp![hb,Bh,if_false];show e1
   .rcases e2 x d hx with q | ⟨q1,q2⟩
    .show .inl q
    .show .inr #[AD _ q1,q2]
   .exact e3 x ?_;rcases hx with hx | hx
    .rcases Ao.mp hx with q | q
     .show absurd (congrArg Prod.snd q).symm hk
     .show .inl q
    .show .inr hx
def ZQ {scope:Scope}{env:Env}(h:∀ y∈scope.names,y.2=.free->∃ c,env.cells.lookup y.1=↑c):
  ∃ cl,closureFor scope env=pure cl/\(∀ x c,cl.lookup x=↑c->(x,NameKind.free)∈scope.names/\env.cells.lookup x=↑c)/\∀ x,(x,NameKind.free)∈scope.names->(cl.lookup x).isSome:=by
 let#[cl,e1,e2,e3]:=fj (env:=env) scope.names [] h;exact#[cl,?_,λ x c hx=>?_,λ x hx=>e3 x (.inl hx)]
 .simp![closureFor];rw[e1];rfl
 .rcases e2 x c hx with q | q
  .simp at q
  .show q
theorem bU {env:Env}:∀ {names:List (Str×NameKind)}{x:Str},names.lookup x=↑.free->
  (names.map λ(n,k)=>if (k == NameKind.free&&env.scope.kind == .function&&env.kindOf n == ↑.cell) then (n,NameKind.cell) else (n,k)).lookup x=↑.cell\/
  (names.map λ(n,k)=>if (k == NameKind.free&&env.scope.kind == .function&&env.kindOf n == ↑.cell) then (n,NameKind.cell) else (n,k)).lookup x=↑.free
 | [],_,h=>by simp at h
 | (n,k)::r,x,h=>by
  have ih:=@bU env r x;change List.lookup x ((if (k == NameKind.free&&env.scope.kind == .function&&env.kindOf n == ↑.cell)=true then (n,NameKind.cell) else (n,k))::_)=_\/List.lookup x ((if (k == NameKind.free&&env.scope.kind == .function&&env.kindOf n == ↑.cell)=true then (n,NameKind.cell) else (n,k))::_)=_;cases hx:x == n with
  | true=>
   simp![Bs,hx] at h;cases h;by_cases hc:(NameKind.free == NameKind.free&&env.scope.kind == .function&&env.kindOf n == ↑.cell)=true
   .rw[if_pos hc];simp[Bs,hx]
   .rw[if_neg hc];simp[Bs,hx]
  | false=>
   simp![Bs,hx] at h;by_cases hc:(k == NameKind.free&&env.scope.kind == .function&&env.kindOf n == ↑.cell)=true
   .rw[if_pos hc];simp![Bs,hx];show ih h
   .rw[if_neg hc];simp![Bs,hx];show ih h
theorem cz {env:Env}:∀ {names:List (Str×NameKind)}{x:Str},(∀ y∈names,y.2≠.cell)->
  ((names.map λ(n,k)=>if (k == NameKind.free&&env.scope.kind == .function&&env.kindOf n == ↑.cell) then (n,NameKind.cell) else (n,k)).lookup x=↑.cell\/
  (names.map λ(n,k)=>if (k == NameKind.free&&env.scope.kind == .function&&env.kindOf n == ↑.cell) then (n,NameKind.cell) else (n,k)).lookup x=↑.free)->(x,NameKind.free)∈names
 | [],_,_,h=>by simp at h
 | (n,k)::r,x,hn,h=>by
  have ih:=@cz env r x λ y hy=>hn y (AD _ hy);have h':List.lookup x ((if (k == NameKind.free&&env.scope.kind == .function&&env.kindOf n == ↑.cell)=true then (n,NameKind.cell) else (n,k))::_)=↑.cell\/List.lookup x ((if (k == NameKind.free&&env.scope.kind == .function&&env.kindOf n == ↑.cell)=true then (n,NameKind.cell) else (n,k))::_)=↑.free:=h;have hf:∀ k',((if (k == NameKind.free&&env.scope.kind == .function&&env.kindOf n == ↑.cell)=true then (n,NameKind.cell) else (n,k)):Str×NameKind)=(n,k')->(k'=.cell\/k'=.free)->k=.free:=by
   intro k' e GX;by_cases hc:(k == NameKind.free&&env.scope.kind == .function&&env.kindOf n == ↑.cell)=true
   .simp![Bc] at hc;exists hc.1.1
   .rw[if_neg hc] at e;have:k=k':=congrArg Prod.snd e;subst this;rcases GX with q | q
    .show absurd q (hn (n,k) Av)
    .show q
  cases hx:x == n with
  | true=>
   have Dl:x=n:=by exists hx
   subst Dl;by_cases hc:(k == NameKind.free&&env.scope.kind == .function&&env.kindOf x == ↑.cell)=true
   .simp![Bc] at hc;have:k=.free:=by exists hc.1.1
    subst this;show Av
   .rw[if_neg hc] at h';simp![Bs,beq_self_eq_true] at h';rcases h' with q | q
    .show absurd (A_ q) (hn (x,k) Av)
    .have:=A_ q;subst this;show Av
  | false=>
   exact AD _ (ih ?_);by_cases hc:(k == NameKind.free&&env.scope.kind == .function&&env.kindOf n == ↑.cell)=true
   .rw[if_pos hc] at h';simp![Bs,hx] at h';show h'
   .rw[if_neg hc] at h';simp![Bs,hx] at h';show h'
end PySem
namespace L2
open PySem PySem.Spec PyProof.Rows
def vU (pick:List (Option Nat)) (O:St):St:=pick.map λ o=>o.bind λ i=>(O[i]?).join
def yo (X:Cx) (N':List Str) (scope:Scope) (cl:List (Str×Addr)) (C:Addr) (s:Shared) (H:Hp) (ex:List Addr):Cx:=
 { X with N:=N',s₀:=s,H₀:=H,env:=compEnvC scope cl C X.env,outer:=X.stack,stack:=X.stack,ex:=ex,fn:=λ _=>false,pn:=[],xe:=λ _ _=>False }
def p8 (N N':List Str) (pick:List (Option Nat)) (scope:Scope):Bool:=(N'.zip pick).all λ p=>match p.2 with
 | none=>true
 | some j=>decide (N[j]?=↑p.1)&&decide (scope.names.lookup p.1=↑.free)
structure sV (X:Cx) (N':List Str) (pick:List (Option Nat)) (scope:Scope):Prop where
 kind:scope.kind=.function
 bG:∀ y∈scope.names,y.2≠.cell
 names:∀ y∈scope.names,y.2=.local->scope.names.lookup y.1=↑.local
 free:∀ y∈scope.names,y.2=.free->X.env.scope.names.lookup y.1=↑.cell\/X.env.scope.names.lookup y.1=↑.free
 len:pick.length=N'.length
 ok:p8 X.N N' pick scope=true
def p8.get {N N':List Str}{pick:List (Option Nat)}{scope:Scope}(h:p8 N N' pick scope=true) {i j:Nat}{x:Str}(h1:N'[i]?=↑x) (h2:pick[i]?=↑↑j):N[j]?=↑x/\scope.names.lookup x=↑.free:=by
 unfold p8 at h;have hm:(x,↑j)∈N'.zip pick:=by
  exact B6 (i:=i) ?_;rw[List.getElem?_zip_eq_some];show#[h1,h2]
 have q:=B5.mp h _ hm;simp![Bc,decide_eq_true_eq] at q;show q
def vU.get {pick:List (Option Nat)}{O:St}{i:Nat}{v:V}(h:(vU pick O)[i]?=↑↑v):∃ j,pick[i]?=↑↑j/\O[j]?=↑↑v:=by
 unfold vU at h;rw[AM] at h;cases e:pick[i]? with
 | none=>rw[e] at h;cases h
 | some o=>
  rw[e] at h;cases o with
  | none=>simp at h
  | some j=>
   exact#[j,rfl,?_];simp![Option.map_some,Option.some.injEq,BH] at h;cases q:O[j]? with
   | none=>rw[q] at h;simp at h
   | some w=>rw[q] at h;simp at h;rw[h]
def PF (X:Cx) (ifs:List Expr) (t:TT):Prop:=∀ (Fd:Ai) (s:Shared) (O:St) (H:Hp) (Q:Bool->Hp->Prop),Inv X Fd O H s->t O H Q->
 wpAny (model X.prog X.w) X.A (forIn ifs true λ c r=>if r=true then do let ok <- isTrue c X.env (eval c X.env);pure (ForInStep.yield ok) else pure (ForInStep.yield r)) (TP X Fd O Q) X.xe s
def Tn {X:Cx}:PF X [] (λ _ H Q=>Q true H):=λ _ _ _ H _ I h=>wpAny_tests_nil #[H,I,h]
def Tj {X:Cx}{c:Expr}{t:TT}(h:PT X c t):PF X [c] t:=λ Fd s O H Q I q=>wpAny_tests_one (h Fd s O H Q I q)
def jU (pick:List (Option Nat)) (wi:TI) (g:TG) (tc:TT) (te:TE):TE:=fun O H Q=>wi O H λ J H1=>∀ D,H1 D=none->∃ W:Nat->Nat->St->Hp->Prop,(∃ m,W 0 m (vU pick O) (upd H1 D (.lst [])))/\
 ∀ i m O H,W i m O H->(J.stop i H/\Q (.ref D) H)\/(J.go i H/\∀ x H',J.qW i H x H'->g x O H' fun O2 H2=>tc O2 H2 λ b H3=>
  if b=true then te O2 H3 λ y H4=>∃ ys m',H4 D=↑(.lst ys)/\ys.length<sizeLine/\m'<m/\W (i+1) m' O2 (upd H4 D (.lst (ys++[y]))) else ∃ m',m'<m/\W (i+1) m' O2 H3)
section
variable {X:Cx}{Fd:Ai}{O:St}{H:Hp}{s:Shared}{N':List Str}{pick:List (Option Nat)}{scope:Scope}{cl:List (Str×Addr)}{C:Addr}{fp:List Addr}
def MK (S:sV X N' pick scope) (I:Inv X Fd O H s) (BA:∀ b∈fp,vJ X Fd H b) (Az:∀ b∈fp,b<s.heap.objs.size)
  (c1:∀ x c,cl.lookup x=↑c->(x,NameKind.free)∈scope.names/\X.env.cells.lookup x=↑c) (c2:∀ x,(x,NameKind.free)∈scope.names->(cl.lookup x).isSome)
  {h1:Heap}{m1:Au}{t':Nat}(hC:s.heap.objs.size<C) (old:∀ b o,s.heap.get? b=↑o->h1.get? b=↑o) (Bz:h1.Ns C m1)
  (hD:h1.get? s.heap.objs.size=↑{ cls:=.type "list",data:=.seq [].toArray 0 }):
  Inv (yo X N' scope cl C s H fp) [] (vU pick O) (upd H s.heap.objs.size (.lst [])) { s with heap:=h1,toks:=t' }:=by
 have hDn:H s.heap.objs.size=none:=I.zl.fresh (Ak _);have hCn:H C=none:=I.zl.fresh (BV hC);have clt:∀ x c,cl.lookup x=↑c->c<s.heap.objs.size:=λ x c e=>by
  let#[v,q]:=I.cell x c (c1 x c e).2;show q.lt
 exact#[#[I.ok.mod,S.kind,I.ok.glob,I.ok.blt,BV hC,λ x y c e1 e2=>I.ok.inj x y c (c1 x c e1).2 (c1 y c e2).2,λ x hx=>?_,λ x c hf _=>absurd (show false=true from hf) B3,I.ok.hd,I.ok.frames,.inl rfl,
  λ b hb=>#[Aw (Di (Az b hb) hC),λ x c e=>(BA b hb).2.2.2.2.1 x c (c1 x c e).2],I.bs,Bk I.ok.tF I.sz,λ b o e hb=>?_,λ b hb z=>?_,I.stack,I.jY],
  rfl,I.bare,Un.laid old (Ak _) hDn,#[m1,Bz,λ i x v e1 e2 e3=>?_],λ x c e=>?_,?_,λ x c e=>?_,λ p hp=>absurd (show p∈([]:Ai) from hp) #[],I.zl.laid old (Ak _) ?_,?_]
 .show DY.mp (c2 x (cz S.bG hx))
 .rcases (BA b hb).2.2.2.1 with z | z
  .show I.ok.ql b o e z
  .show absurd (Ba (Ap (I.ok.bs b o e).1) z) (Cg _)
 .rcases Ao.mp (I.jX b z) with q | q
  .show (BA b hb).2.1 q
  .show (BA b hb).2.2.1 q
 .let#[j,p1,p2]:=vU.get e2;let#[q1,q2]:=p8.get S.ok e1 p1;let#[m0,n0,l0]:=I.loc;have hm:(x,NameKind.free)∈scope.names:=PySem.mem_of_lookup q2;have hk:X.env.scope.names.lookup x=↑.cell\/X.env.scope.names.lookup x=↑.free:=S.free _ hm rfl;let#[u,r,l]:=l0 j x v q1 p2 (.inr hk);exact#[u,r,.inr #[bU q2,?_]];rcases l with ⟨k,_⟩ | ⟨_,c,e,z⟩
  .have k':X.env.scope.names.lookup x=↑.local:=k;rcases hk with hk | hk <;> (rw[k'] at hk;cases hk)
  .let#[c',e']:=DY.mp (c2 x hm);have e'':=(c1 x c' e').2;rw[e] at e'';cases e'';let#[o,z1,z2]:=z;show#[c,e',o,old _ _ z1,z2]
 .let#[v,o,z1,z2]:=I.cell x c (c1 x c e).2;show#[v,o,old _ _ z1,z2]
 .change upd H s.heap.objs.size (.lst []) C=none;rw[zE (BM hC)];show hCn
 .change upd H s.heap.objs.size (.lst []) c=none;rw[zE (Aw (clt x c e))];show I.wF x c (c1 x c e).2
 .show#[A2 _,[],0,.nil,hD]
 .change (vU pick O).length=N'.length;unfold vU;rw[AH];show S.len
def MH {O':St}{H':Hp}{s':Shared}{oC:Obj}(I:Inv X Fd O H s) (BA:∀ b∈fp,vJ X Fd H b) (hC:s.heap.objs.size<C)
  (I':Inv (yo X N' scope cl C s H fp) [] O' H' s') (hoC:s'.heap.get? C=↑oC):Inv X (Fd++[(C,oC)]) O H' s':=by
 have J:Inv X Fd O H' s':=I.ZX (ch:=fp) I'.os I'.base I'.zl I'.bare λ b hb=>#[(BA b hb).2.2.2.1,(BA b hb).2.1,(BA b hb).2.2.2.2.1,(BA b hb).2.2.2.2.2];exact J.i9 λ p hp=>(A4.mp hp).elim (λ z=>J.pin p (A5 _ z)) λ z=>?_;obtain rfl:p=(C,oC):=AX.mp z;exact#[hoC,I'.free,BM (Di I.lt hC),I.bE (BV hC),λ v hv=>?_];let#[m,#[o,es,ep,ho,hd,_],_]:=I'.loc;have FY:s'.heap.get? C=↑o:=ho;rw[hoC] at FY;cases FY;rw[hd] at hv;cases hv
def aG {O':St}{H':Hp}{s':Shared}{oC:Obj}{h':Heap}(I:Inv X Fd O H s) (hC:s.heap.objs.size<C) (J:Inv X (Fd++[(C,oC)]) O' H' s') (hs:Heap.SameBut C s'.heap h'):Inv X Fd O' H' { s' with heap:=h' }:=by
 have J':=J.oS;have hp:=J.pin (C,oC) (A5 _ (A5 _ (AX.mpr rfl)));have lt:∀ c,c<s.heap.objs.size->c≠C:=λ c h=>Aw (Di h hC);exact J'.turned (t':=s'.toks) (it:=C) (λ b o hb e=>hs.extBut b o hb e) hp.2.1 hp.2.2.1 (.inr (Bk I.sz (BV hC))) (λ x c e z=>?_) (λ p hq z=>?_)
 .let#[v,q]:=I.cell x c e;show lt c q.lt z
 .show lt p.1 (Ap (I.pin p hq).1) z
end
section
variable {X:Cx}{N':List Str}{pick:List (Option Nat)}{scope:Scope}{elt iter tg:Expr}{ifs:List Expr}{pos:Pos}{wi:TI}{g:TG}{tc:TT}{te:TE}
def Mg {Fd:Ai}{O:St}{H:Hp}{s:Shared}{it C:Addr}{fp:List Addr}{tn:Nat->Heap->Prop}{J:It}{cl:List (Str×Addr)}{W:Nat->Nat->St->Hp->Prop}{Q:V->Hp->Prop}{R:Result->Shared->Prop}{D:Addr}
  (hc:X.calm=true) (hg:PG (yo X N' scope cl C s H fp) tg g) (hf:PF (yo X N' scope cl C s H fp) ifs tc) (he:PE (yo X N' scope cl C s H fp) elt te)
  (T:Turn X.prog X.w X.K tg J fp it tn) (BA:∀ b∈fp,vJ X Fd H b) (Im:∀ b∈fp,b≠C/\b∉yC X.stack/\∀ x c,cl.lookup x=↑c->c≠b)
  (turn:∀ i m O H,W i m O H->(J.stop i H/\Q (.ref D) H)\/(J.go i H/\∀ x H',J.qW i H x H'->g x O H' fun O2 H2=>tc O2 H2 λ b H3=>
   if b=true then te O2 H3 λ y H4=>∃ ys m',H4 D=↑(.lst ys)/\ys.length<sizeLine/\m'<m/\W (i+1) m' O2 (upd H4 D (.lst (ys++[y]))) else ∃ m',m'<m/\W (i+1) m' O2 H3))
  (fin:∀ O' H' s',Inv (yo X N' scope cl C s H fp) [] O' H' s'->Q (.ref D) H'->R (.ok .next) s')
  {m0:Nat}{O0:St}{H0:Hp}{s0:Shared}(I0:Inv (yo X N' scope cl C s H fp) [] O0 H0 s0) (t0:tn 0 s0.heap) (f0:∀ b∈fp,H0 b=none) (w0:W 0 m0 O0 H0):
  codeAny (model X.prog X.w) X.A (.compLoop (.ListComp elt [#[tg,iter,ifs,0]] scope pos) 0 (.ref it) (.ref D) (compEnvC scope cl C X.env)) R s0:=by
 have Hv:∀ {H':Hp},(∀ b∈fp,H' b=none)->∀ b∈fp,vJ (yo X N' scope cl C s H fp) [] H' b:=λ hn b hb=>#[hn b hb,(Im b hb).1,(Im b hb).2.1,.inl hb,(Im b hb).2.2,λ p hp=>absurd (show p∈([]:Ai) from hp) #[]];exact codeAny_loop rfl (λ n s'=>∃ i O' H',Inv (yo X N' scope cl C s H fp) [] O' H' s'/\tn i s'.heap/\(∀ b∈fp,H' b=none)/\W i n O' H') (λ n s3 hI=>?_) m0 #[0,O0,H0,I0,t0,f0,w0];let#[i,O3,H3,I3,st3,fr3,w3]:=hI;change wpAny _ X.A ((compTurn (.ListComp elt [#[tg,iter,ifs,0]] scope pos) 0 (.ref it) (.ref D) (compEnvC scope cl C X.env)).onRaise (λ x=>do noteFrame x (compEnvC scope cl C X.env);theTreesLotGoes x)) _ _ s3;exact wpAny_noted ?_;rw[compTurn_list];exact gV (wpAny_standAt (gV ?_));rcases turn i n O3 H3 w3 with ⟨stop,qn⟩ | ⟨go,step⟩
 .exact zt (T.done (yo X N' scope cl C s H fp) rfl rfl rfl hc i [] s3 O3 H3 _ I3 (Hv fr3) st3 stop) λ r s4 #[hr,I4]=>?_;subst hr;show Ad (fin O3 H3 s4 I4 qn)
 .exact zt (T.item (yo X N' scope cl C s H fp) rfl rfl rfl hc i [] s3 O3 H3 _ I3 (Hv fr3) st3 go) λ r s4 #[u,hr,h4]=>?_;subst hr;exact gV (zt h4 λ _ s5 #[x,H5,I5,r5,y5,st5,fr5]=>?_);have I5':=I5.pinned (Hv fr5) (T.obj _ _ st5);exact gV (za3 (hg _ s5 O3 H5 x u _ I5' r5 (step x H5 y5)) (λ _ s6 #[O6,H6,I6,q6]=>?_) λ _ _ z=>False.elim z);exact gV (za3 (hf _ s6 O6 H6 _ I6 q6) (λ ok s7 #[H7,I7,q7]=>?_) λ _ _ z=>False.elim z);have back:∀ {H8:Hp}{s8:Shared},Inv (yo X N' scope cl C s H fp) ([]++nj fp s5.heap) O6 H8 s8->(∃ m',m'<n/\W (i+1) m' O6 H8)->∃ m,m<n/\∃ i O' H',Inv (yo X N' scope cl C s H fp) [] O' H' s8/\tn i s8.heap/\(∀ b∈fp,H' b=none)/\W i m O' H':=λ{H8 s8} I8 #[m',hm,w8]=>by
   exact#[m',hm,i+1,O6,H8,I8.oS,T.keep _ _ _ st5 λ b hb o e=>(I8.pin (b,o) (A5 _ (A5 _ (lZ hb e)))).1,λ b hb=>?_,w8];let#[o,e,d]:=T.obj _ _ st5 b hb;show (I8.pin (b,o) (A5 _ (A5 _ (lZ hb e)))).2.1
  cases ok with
  | false=>
   rw[if_neg B3] at q7;show Ad #[rfl,back I7 q7]
  | true=>
   rw[if_pos rfl] at q7;exact gV (gV (za3 (he _ s7 O6 H7 _ I7 q7) (λ uy s8 #[y,H8,I8,r8,ys,m',e8,z8,hm,w8]=>?_) λ _ _ z=>False.elim z));exact gV (za3 (bM (X:=yo X N' scope cl C s H fp) _ s8 O6 H8 (.ref D) [y] (.ref D) [uy] (λ _ H9=>W (i+1) m' O6 H9) I8 rfl (.cons r8 .nil) #[D,ys,y,rfl,rfl,e8,z8,w8]) (λ _ s9 #[_,H9,I9,_,q9]=>?_) λ _ _ z=>False.elim z);show Ad (Ad #[rfl,back I9 #[m',hm,q9]])
def ag {Fd:Ai}{O:St}{H:Hp}{s:Shared}{it:Addr}{fp:List Addr}{tn:Nat->Heap->Prop}{J:It}{cl:List (Str×Addr)}{Q:V->Hp->Prop}{E:Af}{RR:Value->Addr->Result->Shared->Prop}
  (S:sV X N' pick scope) (hc:X.calm=true) (hg:∀ cl C s H fp,PG (yo X N' scope cl C s H fp) tg g) (hf:∀ cl C s H fp,PF (yo X N' scope cl C s H fp) ifs tc) (he:∀ cl C s H fp,PE (yo X N' scope cl C s H fp) elt te)
  (c1:∀ x c,cl.lookup x=↑c->(x,NameKind.free)∈scope.names/\X.env.cells.lookup x=↑c) (c2:∀ x,(x,NameKind.free)∈scope.names->(cl.lookup x).isSome)
  (I:Inv X Fd O H s) (T:Turn X.prog X.w X.K tg J fp it tn) (t0:tn 0 s.heap) (BA:∀ b∈fp,vJ X Fd H b)
  (rd:∀ D,H D=none->∃ W:Nat->Nat->St->Hp->Prop,(∃ m,W 0 m (vU pick O) (upd H D (.lst [])))/\
   ∀ i m O H,W i m O H->(J.stop i H/\Q (.ref D) H)\/(J.go i H/\∀ x H',J.qW i H x H'->g x O H' fun O2 H2=>tc O2 H2 λ b H3=>
    if b=true then te O2 H3 λ y H4=>∃ ys m',H4 D=↑(.lst ys)/\ys.length<sizeLine/\m'<m/\W (i+1) m' O2 (upd H4 D (.lst (ys++[y]))) else ∃ m',m'<m/\W (i+1) m' O2 H3))
  (fin:∀ C D oC H' s',s.heap.objs.size<C->Inv X (Fd++[(C,oC)]) O H' s'->s'.heap.get? C=↑oC->(∃ m,s'.heap.Ns C m)->Q (.ref D) H'->RR (.ref D) C (.ok .next) s'):
  wpAny (model X.prog X.w) X.A (newList []) (λ acc s₃=>wpAny (model X.prog X.w) X.A (newFunctionEnv scope X.env.globals cl [] X.env.qual none .none ↑X.env) (λ cenv s₄=>
   codeAny (model X.prog X.w) X.A (.compStart (.ListComp elt [#[tg,iter,ifs,0]] scope pos) 0 (.ref it) acc { cenv with scope:=relabel scope X.env }) (RR acc cenv.locals) s₄) E s₃) E s:=by
 exact za9 (wpAny_newFunctionEnv S.bG (by intro y hy;simp at hy) (λ h₁ hns₁ Iy=>?_) S.kind);dsimp only at hns₁ Iy ⊢;generalize hH2:s.heap.push { cls:=.type "list",dict:=none,data:=.seq ([]:Ae).toArray }=H2 at hns₁ Iy ⊢;have hC:H2.objs.size=s.heap.objs.size+1:=by rw[<- hH2,Heap.size_push]
 have Az:s.heap.objs.size<H2.objs.size:=by rw[hC];show CI _
 have old:∀ b o,s.heap.get? b=↑o->h₁.get? b=↑o:=λ b o e=>Iy.extBut b o (Aw (Di (Ap e) Az)) (za1 _ (hH2▸za1 _ e));have AZ:h₁.get? s.heap.objs.size=↑{ cls:=.type "list",data:=.seq [].toArray 0 }:=Iy.extBut _ _ (Aw Az) (za1 _ (hH2▸AJ _ rfl));have Dz:∀ b∈fp,b<s.heap.objs.size:=λ b hb=>by
  let#[o,e,_]:=T.obj _ _ t0 b hb;show Ap e
 have hDn:H s.heap.objs.size=none:=I.zl.fresh (Ak _);let#[W,#[m0,w0],turn]:=rd s.heap.objs.size hDn;have I0:=MK (t':=s.toks+([]:List (Str×Value)).length) S I BA Dz c1 c2 Az old hns₁ AZ;have t1:tn 0 h₁:=T.keep _ _ _ t0 λ b _ o e=>old b o e;have AG:∀ b∈fp,b≠H2.objs.size/\b∉yC X.stack/\∀ x c,cl.lookup x=↑c->c≠b:=λ b hb=>I0.ok.nW b hb |> λ q=>#[q.1,I0.ok.qv b hb,q.2]
 have loop:codeAny (model X.prog X.w) X.A (.compLoop (.ListComp elt [#[tg,iter,ifs,0]] scope pos) 0 (.ref it) (.ref s.heap.objs.size) (compEnvC scope cl H2.objs.size X.env)) (RR (.ref s.heap.objs.size) H2.objs.size) { s with heap:=h₁,toks:=s.toks+([]:List (Str×Value)).length }:=by
  exact Mg (O:=O) hc (hg _ _ _ _ _) (hf _ _ _ _ _) (he _ _ _ _ _) T BA AG turn (fun O' H' s' I' q=>?_) I0 t1 (λ b hb=>?_) w0
  .let#[m,hn,_]:=I'.loc;have Hc:s'.heap.Ns H2.objs.size m:=hn;let#[oC,es,ep,ho,hr]:=id Hc;show fin _ _ oC H' s' Az (MH I BA Az I' ho) ho #[m,Hc] q
  .change upd H s.heap.objs.size (.lst []) b=none;rw[zE (Aw (Dz b hb))];show (BA b hb).1
 show codeAny_compStart_list loop (T.self _ 0 _ _ _ t1 loop)
def T5 (S:sV X N' pick scope) (hc:X.calm=true) (hi:PI X tg iter wi) (hg:∀ cl C s H fp,PG (yo X N' scope cl C s H fp) tg g) (hf:∀ cl C s H fp,PF (yo X N' scope cl C s H fp) ifs tc) (he:∀ cl C s H fp,PE (yo X N' scope cl C s H fp) elt te)
  (hs:∀ x,foldedSetIterable iter X.env x=pure x:=by intro _;rfl):PE X (.ListComp elt [#[tg,iter,ifs,0]] scope pos) (jU pick wi g tc te):=by
 intro Fd s O H Q I h;let#[cl,Ip,c1,c2]:=ZQ (scope:=scope) (env:=X.env) λ y hy hk=>I.ok.has y.1 (S.free y hy hk);rw[eval_ListComp];exact wpAny_comprehension_free (use:=none) rfl hs Ip S.kind S.names (zt (hi Fd s O H _ I h) λ v s1 h1=>zt h1 λ itv s2 h2=>?_);let#[it,fp,tn,J,H2,e,I2,T,st2,f2,rd]:=h2;subst e;exact ag (RR:=λ acc C=>compPost (model X.prog X.w) X.A X.xe none (EP X Fd O Q) acc C) S hc hg hf he c1 c2 I2 T st2 f2 rd λ C D oC H' s' hC J' ho hn q=>?_;let#[m,hn]:=hn;show#[m,hn,λ h' HX=>#[.ref D,H',aG I2 hC J' HX,rfl,q]]
def UD {i:Nat}{y:Str}{py Bm:Pos}(S:sV X N' pick scope) (hc:X.calm=true) (hi:PI X tg iter wi) (hg:∀ cl C s H fp,PG (yo X N' scope cl C s H fp) tg g) (hf:∀ cl C s H fp,PF (yo X N' scope cl C s H fp) ifs tc) (he:∀ cl C s H fp,PE (yo X N' scope cl C s H fp) elt te)
  (hN:X.N.Nodup) (hy:X.N[i]?=↑y) (hx:Loc X.env.scope y)
  (Bv:swapsWith (.ListComp elt [#[tg,iter,ifs,0]] scope pos) ↑(.Name y py) Bm.line X.env=pure true:=by rfl)
  (Ca:X.fn y=true\/X.env.scope.names.lookup y=↑.local:=by first | show .inl rfl | show .inr rfl | assumption)
  (hs:∀ x,foldedSetIterable iter X.env x=pure x:=by intro _;rfl):PS X (.Assign [.Name y py] (.ListComp elt [#[tg,iter,ifs,0]] scope pos) Bm) (lB (jU pick wi g tc te) (pW i)):=by
 intro Fd s O H Q I h;let#[cl,Ip,c1,c2]:=ZQ (scope:=scope) (env:=X.env) λ y hy hk=>I.ok.has y.1 (S.free y hy hk);rw[exec_Assign_Name_used _ _ _ _ Bv];exact gV (wpAny_standAt (gV ?_));change wpAny _ X.A (do let _ <- comprehension (.ListComp elt [#[tg,iter,ifs,0]] scope pos) scope X.env _ (newList []) false (eval iter X.env) ↑(assign (.Name y py) X.env)) _ _ s;exact gV (za3 (wpAny_comprehension_free (use:=↑(assign (.Name y py) X.env)) (Q:=λ _ s'=>SP X Fd Q .next s') rfl hs Ip S.kind S.names
  (zt (hi Fd s O H _ I h) λ v s1 h1=>zt h1 λ itv s2 h2=>?_)) (λ _ s' hq=>Ad (Ad hq)) λ _ _ e=>e)
 let#[it,fp,tn,J,H2,e,I2,T,st2,f2,rd]:=h2;subst e;exact ag (Q:=λ x H1=>pW i x O H1 Q.nx) (RR:=λ acc C=>compPost (model X.prog X.w) X.A X.xe ↑(assign (.Name y py) X.env) (λ _ s'=>SP X Fd Q .next s') acc C) S hc hg hf he c1 c2 I2 T st2 f2 rd λ C D oC H' s' hC J' ho hn q=>?_;change wpAny _ X.A (assign (.Name y py) X.env (.ref D)) _ _ _;exact wpAny_assign_Name (lC J' hN hy hx (v:=.ref D) rfl (λ s3 J3=>?_) Ca);have hp:=(J3.pin (C,oC) (A5 _ (A5 _ (AX.mpr rfl)))).1;let#[m,o,es,ep,FY,hr]:=hn;have:o=oC:=A_ (FY.symm.trans ho);subst this;show#[m,#[o,es,ep,hp,hr],λ h' HX=>#[_,H',aG I2 hC J3 HX,q]]
end
end L2
namespace L3
open PySem PySem.Spec L2
open PyProof.Rows hiding St
inductive D where
 | zo | bl (b:Bool) | int (i:Int) | str (x:Str) | tup (ds:List D) | xi (ds:List D) | ref (a:Addr) | err (c f:Str) (d:D)
def oo (K:Ac) (H:Hp) (a:Addr) (xs:List V):Prop:=
 (∃ o,H a=↑(.xK o (.lst xs)))\/
  ∃ (o:Obj) (Aa:Aq) (n:Nat),K.lookup a=↑o/\o.cls=.type "list"/\o.dict=none/\o.data=.seq Aa n/\Aa.size<=sizeLine/\Vals xs Aa.toList
def oo.sq {K:Ac}{H:Hp}{a:Addr}{xs:List V}(h:oo K H a xs):zH K H a xs:=by
 rcases h with h | h
 .show .inl (.inr h)
 .show .inr h
abbrev vF:List Value:=[.type "ValueError",.type "Exception",.type "BaseException",.type "object"]
abbrev rj:List Str:=["__getattribute__","__getattr__","__class__","__setattr__","place","pair","way","times","told","name","row"]
def rQ (K:Ac) (c:Str) (C:Addr) (bm:Ae) (N:Addr):Prop:=
 (∃ (q:Str) (bs:Ae) (sn:List Str) (sub:Ae) (ab:Bool) (col:Option Bool) (dd:Option Addr) (k0 k1 k2 k3 k5:Option Value),K.lookup C=↑(excClassObj c q C N bs bm true sn sub ab col dd k0 k1 k2 k3 k5 "ValueError.__new__"))/\
 PySem.W.nsOkIn K N=true/\∀ n∈rj,PySem.W.nsIn K N n=↑none
structure qc (K:Ac) (c:Str) (C P N NP:Addr):Prop where
 own:rQ K c C (.ref P::vF) N
 par:rQ K "PurseError" P vF NP
 top:PySem.W.nsIn K mainGlobals c=↑↑(.ref C)
 cQ:PySem.W.nsIn K mainGlobals "PurseError"=↑↑(.ref P)
 US:PySem.W.nsIn K NP "__init__"=↑none
def uT (K:Ac) (c:Str) (C:Addr):Prop:=∃ P N NP,qc K c C P N NP
def ownIn (K:Ac) (c:Str) (C:Addr) (bm:Ae):Option Addr:=match K.lookup C with
 | some #[.type "type",_,.cls cd,sl]=>(match cd.mro,sl.toList with
  | .ref C'::IG,[_,_,_,_,↑(.builtin n),_]=>if C' == C&&n == "ValueError.__new__"&&!cd.hasDel&&IG == bm&&cd.hasDict&&cd.name == c&&PySem.W.nsOkIn K cd.ns&&rj.all (λ n=>PySem.W.nsIn K cd.ns n == ↑none) then ↑cd.ns else none
  | _,_=>none)
 | _=>none
def bj {K:Ac}{c:Str}{C N:Addr}{bm:Ae}(h:ownIn K c C bm=↑N):rQ K c C bm N:=by
 unfold ownIn at h;split at h
 .rename_i dd cd sl ho;split at h
  .rename_i C' IG k0 k1 k2 k3 n k5 hm hs;split at h
   .rename_i hc;cases h;simp![Bc,beq_iff_eq,Eo,B5] at hc;let#[#[#[#[#[#[#[rfl,rfl],DF],rfl],hhd],rfl],zl],hn]:=hc;let#[nm,bs,mro,ns,qn,hd,sn,sub,ab,col,del]:=cd;dsimp only at hm DF zl hn hhd;subst hm DF hhd;have Bw:sl=[k0,k1,k2,k3,↑(.builtin "ValueError.__new__"),k5].toArray:=by
     let#[l]:=sl;simp only at hs;rw[hs]
    subst Bw;show#[#[qn,bs,sn,sub,ab,col,dd,k0,k1,k2,k3,k5,ho],zl,hn]
   .cases h
  .cases h
 .cases h
def kB (K:Ac) (c:Str):Option (Addr×Addr×Addr×Addr):=match PySem.W.nsIn K mainGlobals c,PySem.W.nsIn K mainGlobals "PurseError" with
 | some ↑(.ref C),↑↑(.ref P)=>(match ownIn K c C (.ref P::vF),ownIn K "PurseError" P vF with
  | some N,↑NP=>if PySem.W.nsIn K NP "__init__" == ↑none then ↑(C,P,N,NP) else none
  | _,_=>none)
 | _,_=>none
def Zm {K:Ac}{c:Str}{C P N NP:Addr}(h:kB K c=↑(C,P,N,NP)):qc K c C P N NP:=by
 unfold kB at h;split at h
 .rename_i h1 h2;split at h
  .rename_i h3 h4;split at h
   .rename_i h5;cases h;show#[bj h3,bj h4,h1,h2,beq_iff_eq.mp h5]
   .cases h
  .cases h
 .cases h
def wz (e C dx:Addr):HO:=.ext λ h=>∃ oe vs,h.get? e=↑oe/\oe.cls=.ref C/\oe.dict=↑dx/\oe.data=.fields vs
mutual
def ze (K:Ac) (H:Hp):D->V->Prop
 | .zo,v=>v=.zo
 | .bl b,v=>v=.bl b
 | .int i,v=>v=.int i
 | .str x,v=>v=.str x
 | .tup ds,v=>∃ a xs,v=.ref a/\zO K H a xs/\zh K H ds xs
 | .xi ds,v=>∃ a xs,v=.ref a/\oo K H a xs/\zh K H ds xs
 | .ref a,v=>v=.ref a
 | .err c f d,v=>∃ e C dx w,v=.ref e/\(uT K c C/\H e=↑(wz e C dx)/\H dx=↑(.xd [(f,w)]))/\ze K H d w
def zh (K:Ac) (H:Hp):List D->List V->Prop
 | [],xs=>xs=[]
 | d::ds,xs=>∃ x r,xs=x::r/\ze K H d x/\zh K H ds r
end
structure Ext (H H':Hp):Prop where
 tup:∀ b xs,H b=↑(.tup xs)->H' b=↑(.tup xs)
 xK:∀ b o u,H b=↑(.xK o u)->H' b=↑(.xK o u)
 ext:∀ b φ,H b=↑(.ext φ)->H' b=↑(.ext φ)
 xd:∀ b fs,H b=↑(.xd fs)->H' b=↑(.xd fs)
def Ext.refl (H:Hp):Ext H H:=#[λ _ _ h=>h,λ _ _ _ h=>h,λ _ _ h=>h,λ _ _ h=>h]
def Ext.trans {H H1 H2:Hp}(a:Ext H H1) (b:Ext H1 H2):Ext H H2:=#[λ c xs h=>b.tup c xs (a.tup c xs h),λ c o u h=>b.xK c o u (a.xK c o u h),λ c u h=>b.ext c u (a.ext c u h),λ c u h=>b.xd c u (a.xd c u h)]
def Ext.new {H:Hp}{p:Addr}(h:H p=none) (o:HO):Ext H (upd H p o):=
 #[λ b xs q=>by rw[zE (xj q h)];show q,λ b ob u q=>by rw[zE (xj q h)];show q,λ b u q=>by rw[zE (xj q h)];show q,λ b u q=>by rw[zE (xj q h)];show q]
theorem Ext.lst {H:Hp}{p:Addr}{xs:List V}(h:H p=↑(.lst xs)) (o:HO):Ext H (upd H p o):=
 #[λ b ys q=>by rw[zE (vX q h (by intro z;cases z))];show q,λ b ob u q=>by rw[zE (vX q h (by intro z;cases z))];show q,λ b u q=>by rw[zE (vX q h (by intro z;cases z))];show q,λ b u q=>by rw[zE (vX q h (by intro z;cases z))];show q]
def Ext.lE {K:Ac}{H H':Hp}{a:Addr}{xs:List V}(e:Ext H H') (h:zO K H a xs):zO K H' a xs:=by
 rcases h with (h | ⟨o,h⟩) | h
 .show .inl (.inl (e.tup _ _ h))
 .show .inl (.inr #[o,e.xK _ _ _ h])
 .show .inr h
def Ext.lF {K:Ac}{H H':Hp}{a:Addr}{xs:List V}(e:Ext H H') (h:oo K H a xs):oo K H' a xs:=by
 rcases h with ⟨o,h⟩ | h
 .show .inl #[o,e.xK _ _ _ h]
 .show .inr h
section
variable {K:Ac}{H H':Hp}
mutual
theorem ze.ext (e:Ext H H'):∀ (d:D) {v:V},ze K H d v->ze K H' d v
 | .zo,v,h=>by simpa only [ze] using h
 | .bl b,v,h=>by simpa only [ze] using h
 | .int i,v,h=>by simpa only [ze] using h
 | .str x,v,h=>by simpa only [ze] using h
 | .ref a,v,h=>by simpa only [ze] using h
 | .err c f d,v,h=>by
  simp![ze] at h ⊢;let#[a,C,dx,w,h1,#[h2,h3,h4],h5]:=h;show#[a,C,dx,w,h1,#[h2,e.ext _ _ h3,e.xd _ _ h4],ze.ext e d h5]
 | .tup ds,v,h=>by
  simp![ze] at h ⊢;let#[a,xs,h1,h2,h3]:=h;show#[a,xs,h1,e.lE h2,zh.ext e ds h3]
 | .xi ds,v,h=>by
  simp![ze] at h ⊢;let#[a,xs,h1,h2,h3]:=h;show#[a,xs,h1,e.lF h2,zh.ext e ds h3]
theorem zh.ext (e:Ext H H'):∀ (ds:List D) {xs:List V},zh K H ds xs->zh K H' ds xs
 | [],xs,h=>by simpa only [zh] using h
 | d::ds,xs,h=>by
  simp![zh] at h ⊢;let#[x,r,h1,h2,h3]:=h;show#[x,r,h1,ze.ext e d h2,zh.ext e ds h3]
end
theorem zh.length:∀ {ds:List D}{xs:List V},zh K H ds xs->ds.length=xs.length
 | [],xs,h=>by simp![zh] at h;subst h;rfl
 | d::ds,xs,h=>by
  simp![zh] at h;let#[x,r,h1,_,h3]:=h;subst h1;simp[zh.length h3]
theorem zh.get:∀ {ds:List D}{xs:List V}{i:Nat}{d:D},zh K H ds xs->ds[i]?=↑d->∃ x,xs[i]?=↑x/\ze K H d x
 | [],_,i,d,_,e=>by simp at e
 | c::ds,xs,i,d,h,e=>by
  simp![zh] at h;let#[x,r,h1,h2,h3]:=h;subst h1;cases i with
  | zero=>simp at e;subst e;show#[x,rfl,h2]
  | succ i=>
   let#[y,e1,e2]:=zh.get (i:=i) h3 (by exists e);show#[y,by simpa using e1,e2]
theorem zh.append:∀ {ds es:List D}{xs ys:List V},zh K H ds xs->zh K H es ys->zh K H (ds++es) (xs++ys)
 | [],es,xs,ys,h,h'=>by simp![zh] at h;subst h;exists h'
 | d::ds,es,xs,ys,h,h'=>by
  simp![zh] at h;let#[x,r,h1,h2,h3]:=h;subst h1;change zh K H (d::(ds++es)) (x::(r++ys));simp![zh];show#[x,r++ys,rfl,h2,zh.append h3 h']
def zh.nil:zh K H [] []:=by simp![zh]
def zh.cons {d:D}{ds:List D}{x:V}{xs:List V}(h:ze K H d x) (h':zh K H ds xs):zh K H (d::ds) (x::xs):=by
 simp![zh];show#[x,xs,rfl,h,h']
def zh.snoc {d:D}{ds:List D}{x:V}{xs:List V}(h':zh K H ds xs) (h:ze K H d x):zh K H (ds++[d]) (xs++[x]):=h'.append (.cons h .nil)
theorem zh.ints:∀ {ns:List Int}{xs:List V},zh K H (ns.map D.int) xs->xs=ns.map V.int
 | [],xs,h=>by simpa only [Bj,zh] using h
 | n::ns,xs,h=>by
  rw[Ax] at h;simp![zh,ze] at h;let#[x,r,h1,h2,h3]:=h;subst h1 h2;rw[Ax,zh.ints h3]
theorem zh.iK:∀ (ns:List Int),zh K H (ns.map D.int) (ns.map V.int)
 | []=>.nil
 | n::ns=>.cons (by simp![ze]) (zh.iK ns)
theorem zh.bools:∀ {ns:List Bool}{xs:List V},zh K H (ns.map D.bl) xs->xs=ns.map V.bl
 | [],xs,h=>by simpa only [Bj,zh] using h
 | n::ns,xs,h=>by
  rw[Ax] at h;simp![zh,ze] at h;let#[x,r,h1,h2,h3]:=h;subst h1 h2;rw[Ax,zh.bools h3]
end
inductive O where
 | lst (ds:List D)
 | zC (Ab:List (Key×D))
abbrev SS:=Addr->Option O
def yG (K:Ac) (H:Hp):List (Key×D)->List (Key×V)->Prop:=Paired λ p q=>p.1=q.1/\ze K H p.2 q.2
def qK (K:Ac) (H:Hp) (a:Addr):O->Prop
 | .lst ds=>∃ xs,H a=↑(.lst xs)/\zh K H ds xs
 | .zC Ab=>∃ vs,H a=↑(.dK vs)/\yG K H Ab vs
def zB (K:Ac) (H:Hp) (S:SS):Prop:=∀ a o,S a=↑o->qK K H a o
def ups (S:SS) (a:Addr) (o:O):SS:=λ b=>if b=a then ↑o else S b
def sX {S:SS}{a:Addr}{o:O}:ups S a o a=↑o:=by unfold ups;rw[if_pos rfl]
def tV {S:SS}{a b:Addr}{o:O}(h:b≠a):ups S a o b=S b:=by unfold ups;rw[if_neg h]
def Sx (S S':SS):Prop:=∀ b o,S b=↑o->S' b=↑o
def Sx.refl (S:SS):Sx S S:=λ _ _ h=>h
def Sx.trans {S S1 S2:SS}(a:Sx S S1) (b:Sx S1 S2):Sx S S2:=λ c o h=>b c o (a c o h)
def Sx.new {S:SS}{p:Addr}(h:S p=none) (o:O):Sx S (ups S p o):=λ b u q=>by
 rw[tV (by intro z;subst z;rw[h] at q;cases q)];show q
theorem Sx.none {S S':SS}(e:Sx S S') {p:Addr}(h:S' p=Option.none):S p=Option.none:=by
 cases q:S p with
 | none=>rfl
 | some o=>rw[e p o q] at h;cases h
section
variable {K:Ac}{H H':Hp}{S:SS}
def qK.has {a:Addr}{o:O}(h:qK K H a o):H a≠none:=by
 cases o with
 | lst ds=>let#[xs,h,_]:=h;rw[h];simp
 | zC Ab=>let#[xs,h,_]:=h;rw[h];simp
theorem zB.none (r:zB K H S) {p:Addr}(h:H p=Option.none):S p=Option.none:=by
 cases q:S p with
 | none=>rfl
 | some o=>show absurd h (r p o q).has
theorem yG.ext (e:Ext H H') {Ab:List (Key×D)}{vs:List (Key×V)}(h:yG K H Ab vs):yG K H' Ab vs:=
 Paired.ka h λ p q z=>#[z.1,ze.ext e p.2 z.2]
def qK.keep {a:Addr}{o:O}(e:Ext H H') (k:∀ u,H a=↑u->H' a=↑u) (h:qK K H a o):qK K H' a o:=by
 cases o with
 | lst ds=>let#[xs,h1,h2]:=h;show#[xs,k _ h1,zh.ext e ds h2]
 | zC Ab=>let#[xs,h1,h2]:=h;show#[xs,k _ h1,h2.ext e]
theorem zB.keep (e:Ext H H') (k:∀ a u o,S a=↑o->H a=↑u->H' a=↑u) (r:zB K H S):zB K H' S:=λ a o h=>(r a o h).keep e λ u q=>k a u o h q
def zB.same (e:m9 H H') (r:zB K H S):zB K H' S:=r.keep #[λ b xs q=>e _ _ q,λ b o u q=>e _ _ q,λ b u q=>e _ _ q,λ b u q=>e _ _ q] λ a u _ _ q=>e a u q
theorem zB.new {p:Addr}{u:HO}(hp:H p=Option.none) (r:zB K H S):zB K (upd H p u) S:=
 r.keep (Ext.new hp u) λ a v o _ q=>by rw[zE (xj q hp)];show q
theorem zB.ups {p:Addr}{u:HO}{o:O}(e:Ext H (upd H p u)) (hn:qK K (upd H p u) p o) (r:zB K H S):zB K (upd H p u) (ups S p o):=λ a o' h=>by
 by_cases ha:a=p
 .subst ha;rw[sX] at h;cases h;show hn
 .rw[tV ha] at h;show (r a o' h).keep e λ v q=>by rw[zE ha];show q
end
abbrev zW:=List (Option D)
def yh (K:Ac) (H:Hp) (L:zW) (O:St):Prop:=L.length=O.length/\∀ (i:Nat) (d:D),L[i]?=↑↑d->∃ v,O[i]?=↑↑v/\ze K H d v
theorem yh.ext {K:Ac}{H H':Hp}{L:zW}{O:St}(e:Ext H H') (r:yh K H L O):yh K H' L O:=#[r.1,λ i d h=>by
 let#[v,h1,h2]:=r.2 i d h;show#[v,h1,ze.ext e d h2]]
theorem yh.set {K:Ac}{H:Hp}{L:zW}{O:St}(i:Nat) {d:D}{v:V}(r:yh K H L O) (h:ze K H d v):yh K H (L.set i ↑d) (O.set i ↑v):=by
 exact#[by rw[C1,C1];show r.1,λ j c hc=>?_];rw[CZ] at hc ⊢;by_cases hj:i=j
 .subst hj;rw[if_pos rfl] at hc ⊢;by_cases hl:i < L.length
  .rw[if_pos hl] at hc;rw[if_pos (by rw[<- r.1];show hl)];cases hc;show#[v,rfl,h]
  .rw[if_neg hl] at hc;cases hc
 .rw[if_neg hj] at hc ⊢;show r.2 j c hc
abbrev DK:=D->SS->Prop
abbrev zq:=zW->SS->DK->Prop
abbrev yp:=zW->SS->(Bool->SS->Prop)->Prop
abbrev zZ:=zW->SS->(List D->SS->Prop)->Prop
def ye (t:zq):Prop:=∀ L S (Q Q':DK),(∀ d S',Q d S'->Q' d S')->t L S Q->t L S Q'
def wx (t:yp):Prop:=∀ L S (Q Q':Bool->SS->Prop),(∀ d S',Q d S'->Q' d S')->t L S Q->t L S Q'
def sO (t:zZ):Prop:=∀ L S (Q Q':List D->SS->Prop),(∀ d S',Q d S'->Q' d S')->t L S Q->t L S Q'
def x8 (K:Ac) (H:Hp) (Q:VK):DK:=λ d S'=>∀ v H',ze K H' d v->Ext H H'->zB K H' S'->Q v H'
def ma (K:Ac) (H:Hp) (Q:Bool->Hp->Prop):Bool->SS->Prop:=λ b S'=>∀ H',Ext H H'->zB K H' S'->Q b H'
def Kk (K:Ac) (H:Hp) (Q:List V->Hp->Prop):List D->SS->Prop:=λ ds S'=>∀ vs H',zh K H' ds vs->Ext H H'->zB K H' S'->Q vs H'
def xl (K:Ac) (H:Hp) (Q:St->Hp->Prop):zW->SS->Prop:=fun L S'=>∀ O H',yh K H' L O->Ext H H'->zB K H' S'->Q O H'
def x8.ext {K:Ac}{H H':Hp}{Q:VK}(e:Ext H H') {d:D}{S:SS}(h:x8 K H Q d S):x8 K H' Q d S:=λ v H2 r x q=>h v H2 r (e.trans x) q
def ma.ext {K:Ac}{H H':Hp}{Q:Bool->Hp->Prop}(e:Ext H H') {d:Bool}{S:SS}(h:ma K H Q d S):ma K H' Q d S:=λ H2 x q=>h H2 (e.trans x) q
def xl.ext {K:Ac}{H H':Hp}{Q:St->Hp->Prop}(e:Ext H H') {d:zW}{S:SS}(h:xl K H Q d S):xl K H' Q d S:=λ v H2 r x q=>h v H2 r (e.trans x) q
def zF (K:Ac) (t:zq):TE:=fun O H Q=>∃ L S,yh K H L O/\zB K H S/\t L S (x8 K H Q)
def xG (K:Ac) (t:yp):TT:=fun O H Q=>∃ L S,yh K H L O/\zB K H S/\t L S (ma K H Q)
def xH (K:Ac) (t:zZ):TA:=fun O H Q=>∃ L S,yh K H L O/\zB K H S/\t L S (Kk K H Q)
structure PD (X:Cx) (e:Expr) (t:zq):Prop where
 mo:ye t
 pe:PE X e (zF X.K t)
structure yO (X:Cx) (e:Expr) (t:yp):Prop where
 mo:wx t
 pt:PT X e (xG X.K t)
structure yH (X:Cx) (es:List Expr) (t:zZ):Prop where
 mo:sO t
 pa:PA X es (xH X.K t)
def PE.imp {X:Cx}{e:Expr}{t t':TE}(h:PE X e t) (hi:∀ O H Q,t' O H Q->t O H Q):PE X e t':=λ Fd s O H Q I q=>h Fd s O H Q I (hi O H Q q)
def PT.imp {X:Cx}{e:Expr}{t t':TT}(h:PT X e t) (hi:∀ O H Q,t' O H Q->t O H Q):PT X e t':=λ Fd s O H Q I q=>h Fd s O H Q I (hi O H Q q)
def PA.imp {X:Cx}{e:List Expr}{t t':TA}(h:PA X e t) (hi:∀ O H Q,t' O H Q->t O H Q):PA X e t':=λ pos Fd s O H Q I q=>h pos Fd s O H Q I (hi O H Q q)
def PS.imp {X:Cx}{e:Stmt}{t t':TS}(h:PS X e t) (hi:∀ D O H,t' D O H->t D O H):PS X e t':=λ Fd s O H Q I q=>h Fd s O H Q I (hi Q O H q)
def xu.imp {X:Cx}{e:List Stmt}{t t':TS}(h:xu X e t) (hi:∀ D O H,t' D O H->t D O H):xu X e t':=λ Fd s O H Q I q=>h Fd s O H Q I (hi Q O H q)
section
variable {X:Cx}{K:Ac}
def zF.go {t:zq}{O:St}{H:Hp}{Q:VK}{L:zW}{S:SS}{R:DK}(mo:ye t) (r1:yh K H L O) (r2:zB K H S) (h:t L S R) (k:∀ d S' v H',R d S'->ze K H' d v->Ext H H'->zB K H' S'->Q v H'):zF K t O H Q:=
 #[L,S,r1,r2,mo L S _ _ (λ d S' q v H' a b c=>k d S' v H' q a b c) h]
def xG.go {t:yp}{O:St}{H:Hp}{Q:Bool->Hp->Prop}{L:zW}{S:SS}{R:Bool->SS->Prop}(mo:wx t) (r1:yh K H L O) (r2:zB K H S) (h:t L S R) (k:∀ d S' H',R d S'->Ext H H'->zB K H' S'->Q d H'):xG K t O H Q:=
 #[L,S,r1,r2,mo L S _ _ (λ d S' q H' b c=>k d S' H' q b c) h]
def xH.go {t:zZ}{O:St}{H:Hp}{Q:List V->Hp->Prop}{L:zW}{S:SS}{R:List D->SS->Prop}(mo:sO t) (r1:yh K H L O) (r2:zB K H S) (h:t L S R) (k:∀ d S' v H',R d S'->zh K H' d v->Ext H H'->zB K H' S'->Q v H'):xH K t O H Q:=
 #[L,S,r1,r2,mo L S _ _ (λ d S' q v H' a b c=>k d S' v H' q a b c) h]
def yj (i:Nat):zq:=fun L S Q=>match L[i]? with
 | some ↑d=>Q d S
 | _=>False
def dC (d:D):zq:=λ _ S Q=>Q d S
def Rp (i:Nat) {x:Str}{pos:Pos}(h:PE X (.Name x pos) (oU i)):PD X (.Name x pos) (yj i):=by
 exact#[fun L S Q Q' hq h=>?_,PE.imp h fun O H Q hu=>?_]
 .unfold yj at h ⊢;split at h
  .show hq _ _ h
  .show h
 .let#[L,S,r1,r2,h]:=hu;unfold yj at h;split at h
  .rename_i d e;let#[v,h1,h2]:=r1.2 i d e;show#[v,h1,h v H h2 (Ext.refl H) r2]
  .show h.elim
def dC.mo (d:D):ye (dC d):=λ _ _ _ _ hq h=>hq _ _ h
def p9 {e:Expr}{d:D}{v:V}(h:PE X e (tC v)) (r:∀ H,ze X.K H d v):PD X e (dC d):=
 #[dC.mo d,PE.imp h λ _ H _ #[_,_,_,r2,h]=>h v H (r H) (Ext.refl H) r2]
def RU {i j pos}:PD X (.Constant (.int i) j pos) (dC (.int i)):=p9 T7 λ _=>by simp![ze]
def Qo {i j pos}:PD X (.Constant (.bool i) j pos) (dC (.bl i)):=p9 TL λ _=>by simp![ze]
def R3 {j pos}:PD X (.Constant .none j pos) (dC .zo):=p9 T2 λ _=>by simp![ze]
def Ru {x j pos}:PD X (.Constant (.str x) j pos) (dC (.str x)):=p9 Tu λ _=>by simp![ze]
abbrev y6:=D->D->SS->DK->Prop
def yY (f:y6):Prop:=∀ x y S (Q Q':DK),(∀ d S',Q d S'->Q' d S')->f x y S Q->f x y S Q'
def yQ (K:Ac) (f:y6) (r:R2):Prop:=∀ x y d e H S Q,ze K H d x->ze K H e y->zB K H S->f d e S (x8 K H Q)->r x y H Q
def yf (f:y6) (ta tb:zq):zq:=fun L S Q=>ta L S λ x S1=>tb L S1 λ y S2=>f x y S2 Q
def yf.mo {f:y6}{ta tb:zq}(hf:yY f) (ha:ye ta) (hb:ye tb):ye (yf f ta tb):=fun L S Q Q' hq h=>
 ha L S _ _ (λ x S1 h=>hb L S1 _ _ (λ y S2 h=>hf x y S2 _ _ hq h) h) h
def lx {f:y6}{r:R2}{ta tb:zq}(hr:yQ K f r) (hf:yY f) (ha:ye ta) (hb:ye tb) {O:St}{H:Hp}{Q:VK}(h:zF K (yf f ta tb) O H Q):oV r (zF K ta) (zF K tb) O H Q:=by
 let#[L,S,r1,r2,h]:=h;exact zF.go ha r1 r2 h λ x S1 v H1 h1 q1 e1 p1=>?_;exact zF.go hb (r1.ext e1) p1 h1 λ y S2 w H2 h2 q2 e2 p2=>?_;show hr v w x y H2 S2 Q (ze.ext e2 x q1) q2 p2 (hf x y S2 _ _ (λ d S' z=>z.ext (e1.trans e2)) h2)
def rg {a b:Expr}{op:Operator}{pos:Pos}{f:y6}{r:R2}{ta tb:zq}(ho:zV X (binaryOp op) r) (hr:yQ X.K f r) (hf:yY f) (ha:PD X a ta) (hb:PD X b tb):PD X (.BinOp a op b pos) (yf f ta tb):=
 #[yf.mo hf ha.mo hb.mo,PE.imp (Tw ho ha.pe hb.pe) λ _ _ _ h=>lx hr hf ha.mo hb.mo h]
def pB {a b:Expr}{op:CmpOp}{pos:Pos}{f:y6}{r:R2}{ta tb:zq}(ho:zV X (compareOp op) r) (hr:yQ X.K f r) (hf:yY f) (ha:PD X a ta) (hb:PD X b tb) (hm:behindInMarks op b=false):PD X (.Compare a [op] [b] pos) (yf f ta tb):=
 #[yf.mo hf ha.mo hb.mo,PE.imp (TH ho ha.pe hb.pe hm) λ _ _ _ h=>lx hr hf ha.mo hb.mo h]
def wW (t:zq):yp:=fun L S Q=>t L S λ x S1=>match x with
 | .bl b=>Q b S1
 | _=>False
def wW.mo {t:zq}(h:ye t):wx (wW t):=fun L S Q Q' hq q=>h L S _ _ (λ d S' z=>by
 cases d <;> first
  | show hq _ _ z
  | show z) q
def qk {a b:Expr}{op:CmpOp}{pos:Pos}{f:y6}{r:R2}{ta tb:zq}(ho:zV X (compareOp op) r) (hr:yQ X.K f r) (hf:yY f) (ha:PD X a ta) (hb:PD X b tb) (hm:behindInMarks op b=false):yO X (.Compare a [op] [b] pos) (wW (yf f ta tb)):=by
 exact#[wW.mo (yf.mo hf ha.mo hb.mo),PT.imp (U8 ho ha.pe hb.pe hm) fun O H Q h=>?_];let#[L,S,r1,r2,h]:=h;exact lx hr hf ha.mo hb.mo #[L,S,r1,r2,yf.mo hf ha.mo hb.mo L S _ _ (λ d S' z v H' a b c=>?_) h];cases d with
 | bl k=>simp![ze] at a;show#[k,a,z H' b c]
 | _=>show z.elim
def fI (C:Int->Int->Prop) (g:Int->Int->D):y6:=λ x y S Q=>match x,y with
 | .int i,.int j=>C i j/\Q (g i j) S
 | _,_=>False
def fI.mo {C:Int->Int->Prop}{g:Int->Int->D}:yY (fI C g):=λ x y S Q Q' hq h=>by
 unfold fI at h ⊢;split at h
 .show#[h.1,hq _ _ h.2]
 .show h.elim
def yM (g:Int->Int->D):y6:=λ x y S Q=>match x,y with
 | .int i,.int j=>Q (g i j) S
 | _,_=>False
def yM.mo {g:Int->Int->D}:yY (yM g):=λ x y S Q Q' hq h=>by
 unfold yM at h ⊢;split at h
 .show hq _ _ h
 .show h.elim
def fI.fits {C:Int->Int->Prop}{g:Int->Int->D}{g':Int->Int->V}(hg:∀ i j H,ze K H (g i j) (g' i j)):yQ K (fI C g) (rI C g'):=λ x y d e H S Q h1 h2 h3 h=>by
 unfold fI at h;split at h
 .simp![ze] at h1 h2;show#[_,_,h1,h2,h.1,h.2 _ H (hg _ _ H) (Ext.refl H) h3]
 .show h.elim
def yM.fits {g:Int->Int->D}{g':Int->Int->V}(hg:∀ i j H,ze K H (g i j) (g' i j)):yQ K (yM g) (w9 g'):=λ x y d e H S Q h1 h2 h3 h=>by
 unfold yM at h;split at h
 .simp![ze] at h1 h2;show#[_,_,h1,h2,h _ H (hg _ _ H) (Ext.refl H) h3]
 .show h.elim
variable {a b:Expr}{ta tb:zq}{pos:Pos}
def Rt (ha:PD X a ta) (hb:PD X b tb):PD X (.BinOp a .Sub b pos) (yf (yM λ i j=>.int (i-j)) ta tb):=rg Qz (yM.fits λ _ _ _=>by simp![ze]) yM.mo ha hb
def R7 (ha:PD X a ta) (hb:PD X b tb):PD X (.BinOp a .Mod b pos) (yf (fI (λ _ j=>0<j) λ i j=>.int (i%j)) ta tb):=rg Q6 (fI.fits λ _ _ _=>by simp![ze]) fI.mo ha hb
def Qe (ha:PD X a ta) (hb:PD X b tb):PD X (.BinOp a .FloorDiv b pos) (yf (fI xE λ i j=>.int (i/j)) ta tb):=rg QC (fI.fits λ _ _ _=>by simp![ze]) fI.mo ha hb
def Ry (ha:PD X a ta) (hb:PD X b tb):PD X (.BinOp a .Pow b pos) (yf (fI tT λ i j=>.int (i ^ j.toNat)) ta tb):=rg Q0 (fI.fits λ _ _ _=>by simp![ze]) fI.mo ha hb
abbrev k9:y6:=yM λ i j=>.bl (decide (i<=j))
abbrev gN:y6:=yM λ i j=>.bl (decide (j<i))
abbrev gO:y6:=yM λ i j=>.bl (decide (j<=i))
def fit_le:yQ K k9 (w9 λ i j=>.bl (decide (i<=j))):=yM.fits λ _ _ _=>by simp![ze]
def LH:yQ K gN (w9 λ i j=>.bl (decide (j<i))):=yM.fits λ _ _ _=>by simp![ze]
def LI:yQ K gO (w9 λ i j=>.bl (decide (j<=i))):=yM.fits λ _ _ _=>by simp![ze]
def RK (ha:PD X a ta) (hb:PD X b tb):PD X (.Compare a [.LtE] [b] pos) (yf k9 ta tb):=pB pC fit_le yM.mo ha hb (u7 _)
def Qb (ha:PD X a ta) (hb:PD X b tb):PD X (.Compare a [.GtE] [b] pos) (yf gO ta tb):=pB QA LI yM.mo ha hb (u7 _)
def So (ha:PD X a ta) (hb:PD X b tb):yO X (.Compare a [.LtE] [b] pos) (wW (yf k9 ta tb)):=qk pC fit_le yM.mo ha hb (u7 _)
def Su (ha:PD X a ta) (hb:PD X b tb):yO X (.Compare a [.Gt] [b] pos) (wW (yf gN ta tb)):=qk Q9 LH yM.mo ha hb (u7 _)
end
section
variable {X:Cx}{K:Ac}{a b c:Expr}{ta tb:zq}{pos:Pos}
def mi (ta tb:zq):zq:=fun L S Q=>ta L S λ x S1=>match x with
 | .bl k=>if k=true then tb L S1 Q else Q (.bl false) S1
 | _=>False
def mf (ta:zq):zq:=fun L S Q=>ta L S λ x S1=>match x with
 | .bl k=>Q (.bl (!k)) S1
 | _=>False
def xW {c:Prop} [Decidable c] {A B A' B':Prop}(h1:A->A') (h2:B->B') (h:if c then A else B):if c then A' else B':=by
 by_cases q:c
 .rw[if_pos q] at h ⊢;show h1 h
 .rw[if_neg q] at h ⊢;show h2 h
def mi.mo (ha:ye ta) (hb:ye tb):ye (mi ta tb):=fun L S Q Q' hq h=>ha L S _ _ (λ x S1 z=>by
 cases x <;> first
  | show xW (hb L S1 _ _ hq) (hq _ _) z
  | show z) h
def mf.mo (ha:ye ta):ye (mf ta):=fun L S Q Q' hq h=>ha L S _ _ (λ x S1 z=>by
 cases x <;> first
  | show hq _ _ z
  | show z) h
def Rz {op} {t:zq}(h:PD X a t):PD X (.BoolOp op [a] pos) t:=#[h.mo,Tx h.pe]
variable {Ff:List Expr}
theorem Qr (ha:PD X a ta) (hb:PD X (.BoolOp .And (b::Ff) pos) tb):PD X (.BoolOp .And (a::b::Ff) pos) (mi ta tb):=by
 exact#[mi.mo ha.mo hb.mo,PE.imp (TN ha.pe hb.pe) fun O H Q hu=>?_];let#[L,S,r1,r2,h]:=hu;exact zF.go ha.mo r1 r2 h λ x S1 v H1 h1 q1 e1 p1=>?_;cases x with
 | bl k=>
  simp![ze] at q1;exact#[k,q1,xW (λ z=>?_) (λ z=>?_) h1]
  .show zF.go hb.mo (r1.ext e1) p1 z λ y S2 w H2 h2 q2 e2 p2=>h2 w H2 q2 (e1.trans e2) p2
  .show z _ H1 (by simp![ze]) e1 p1
 | _=>show h1.elim
theorem R0 (ha:PD X a ta):PD X (.UnaryOp .Not a pos) (mf ta):=by
 exact#[mf.mo ha.mo,PE.imp (Tz ha.pe) fun O H Q hu=>?_];let#[L,S,r1,r2,h]:=hu;exact zF.go ha.mo r1 r2 h λ x S1 v H1 h1 q1 e1 p1=>?_;cases x with
 | bl k=>
  simp![ze] at q1;show#[k,q1,h1 _ H1 (by simp![ze]) e1 p1]
 | _=>show h1.elim
def nZ (t u:yp):yp:=fun L S Q=>t L S λ k S1=>if k=true then u L S1 Q else Q false S1
def nX (t u:yp):yp:=fun L S Q=>t L S λ k S1=>if k=true then Q true S1 else u L S1 Q
def nY (t:yp):yp:=fun L S Q=>t L S λ k S1=>Q (!k) S1
variable {t u:yp}
def nZ.mo (h:wx t) (h':wx u):wx (nZ t u):=fun L S _ _ hq z=>h L S _ _ (λ k S1 z=>xW (h' L S1 _ _ hq) (hq _ _) z) z
def nX.mo (h:wx t) (h':wx u):wx (nX t u):=fun L S _ _ hq z=>h L S _ _ (λ k S1 z=>xW (hq _ _) (h' L S1 _ _ hq) z) z
def nY.mo (h:wx t):wx (nY t):=fun L S _ _ hq z=>h L S _ _ (λ k S1 z=>hq _ _ z) z
structure sN (X:Cx) (e:Expr) (t:yp):Prop where
 mo:wx t
 pw:PW X e (xG X.K t)
def PW.imp {e:Expr}{t t':TT}(h:PW X e t) (hi:∀ O H Q,t' O H Q->t O H Q):PW X e t':=λ whole Fd s O H Q I q=>h whole Fd s O H Q I (hi O H Q q)
theorem sN.pt {e:Expr}{t:yp}(h:sN X e t):yO X e t:=#[h.mo,PW.pt h.pw]
def Sf (h:yO X a t):sN X (.BoolOp .And [a] pos) t:=#[h.mo,U1 h.pt]
def Sd (h:yO X a t):sN X (.BoolOp .Or [a] pos) t:=#[h.mo,Uz h.pt]
def bc (ha:yO X a t) (hb:sN X (.BoolOp .And (b::Ff) pos) u):sN X (.BoolOp .And (a::b::Ff) pos) (nZ t u):=by
 exact#[nZ.mo ha.mo hb.mo,PW.imp (U3 ha.pt hb.pw) fun O H Q hu=>?_];let#[L,S,r1,r2,h]:=hu;exact xG.go ha.mo r1 r2 h λ k S1 H1 h1 e1 p1=>xW (λ z=>?_) (λ z=>z H1 e1 p1) h1;show xG.go hb.mo (r1.ext e1) p1 z λ y S2 H2 h2 e2 p2=>h2 H2 (e1.trans e2) p2
def ba (ha:yO X a t) (hb:sN X (.BoolOp .Or (b::Ff) pos) u):sN X (.BoolOp .Or (a::b::Ff) pos) (nX t u):=by
 exact#[nX.mo ha.mo hb.mo,PW.imp (U0 ha.pt hb.pw) fun O H Q hu=>?_];let#[L,S,r1,r2,h]:=hu;exact xG.go ha.mo r1 r2 h λ k S1 H1 h1 e1 p1=>xW (λ z=>z H1 e1 p1) (λ z=>?_) h1;show xG.go hb.mo (r1.ext e1) p1 z λ y S2 H2 h2 e2 p2=>h2 H2 (e1.trans e2) p2
def Si (ha:yO X a t):yO X (.UnaryOp .Not a pos) (nY t):=by
 exact#[nY.mo ha.mo,PT.imp (U7 ha.pt) fun O H Q hu=>?_];let#[L,S,r1,r2,h]:=hu;show xG.go ha.mo r1 r2 h λ k S1 H1 h1 e1 p1=>h1 H1 e1 p1
def mh (t:yp) (ta tb:zq):zq:=fun L S Q=>t L S λ k S1=>if k=true then ta L S1 Q else tb L S1 Q
def mh.mo (h:wx t) (ha:ye ta) (hb:ye tb):ye (mh t ta tb):=fun L S _ _ hq z=>h L S _ _ (λ k S1 z=>xW (ha L S1 _ _ hq) (hb L S1 _ _ hq) z) z
def RX (hc:yO X c t) (ha:PD X a ta) (hb:PD X b tb):PD X (.IfExp c a b pos) (mh t ta tb):=by
 exact#[mh.mo hc.mo ha.mo hb.mo,PE.imp (T9 hc.pt ha.pe hb.pe) fun O H Q hu=>?_];let#[L,S,r1,r2,h]:=hu;exact xG.go hc.mo r1 r2 h λ k S1 H1 h1 e1 p1=>xW (λ z=>?_) (λ z=>?_) h1
 .show zF.go ha.mo (r1.ext e1) p1 z λ y S2 w H2 h2 q2 e2 p2=>h2 w H2 q2 (e1.trans e2) p2
 .show zF.go hb.mo (r1.ext e1) p1 z λ y S2 w H2 h2 q2 e2 p2=>h2 w H2 q2 (e1.trans e2) p2
def vm (d:D) (S:SS) (Q:Bool->SS->Prop):Prop:=match d with
 | .zo=>Q false S
 | .bl k=>Q k S
 | .int i=>Q (i != 0) S
 | .str x=>x.length<=sizeLine/\Q ((x.length:Int) != 0) S
 | .tup ds=>Q (!ds.isEmpty) S
 | .xi ds=>Q (!ds.isEmpty) S
 | .ref p=>match S p with
  | some (.lst ds)=>Q (!ds.isEmpty) S
  | some (.zC Ab)=>Q (!Ab.isEmpty) S
  | none=>False
 | .err _ _ _=>False
def Zx (ta:zq):yp:=fun L S Q=>ta L S λ x S1=>vm x S1 Q
def vm.mo {d:D}{S:SS}{Q Q':Bool->SS->Prop}(hq:∀ k S',Q k S'->Q' k S') (h:vm d S Q):vm d S Q':=by
 cases d with
 | str x=>show#[h.1,hq _ _ h.2]
 | err _ _ _=>show h.elim
 | ref p=>
  unfold vm at h ⊢;dsimp only at h ⊢;split at h
  .show hq _ _ h
  .show hq _ _ h
  .show h
 | _=>show hq _ _ h
theorem zh.isEmpty {H:Hp}{ds:List D}{xs:List V}(h:zh K H ds xs):ds.isEmpty=xs.isEmpty:=by
 have:=h.length;cases ds <;> cases xs <;> simp_all
def JB {α β:Type}{F:α->β->Prop}{xs:List α}{ys:List β}(h:Paired F xs ys):xs.isEmpty=ys.isEmpty:=by cases h <;> rfl
def vm.fits {H:Hp}{d:D}{v:V}{S:SS}{Q:Bool->Hp->Prop}(r:ze K H d v) (p:zB K H S) (h:vm d S (ma K H Q)):∃ k,fR K v H k/\Q k H:=by
 cases d with
 | zo=>simp![ze] at r;subst r;show#[false,rfl,h H (.refl H) p]
 | bl k=>simp![ze] at r;subst r;show#[k,rfl,h H (.refl H) p]
 | int i=>simp![ze] at r;subst r;show#[_,rfl,h H (.refl H) p]
 | str x=>simp![ze] at r;subst r;show#[_,#[h.1,rfl],h.2 H (.refl H) p]
 | err _ _ _=>show h.elim
 | tup ds=>
  simp![ze] at r;let#[a,xs,rfl,r1,r2]:=r;show#[_,.inr (.inl #[xs,r1,by rw[r2.isEmpty]]),h H (.refl H) p]
 | xi ds=>
  simp![ze] at r;let#[a,xs,rfl,r1,r2]:=r;show#[_,.inl #[xs,r1.sq,by rw[r2.isEmpty]],h H (.refl H) p]
 | ref a=>
  simp![ze] at r;subst r;unfold vm at h;dsimp only at h;split at h
  .rename_i ds e;let#[xs,e1,r2]:=p a _ e;show#[_,.inl #[xs,zH.of e1,by rw[r2.isEmpty]],h H (.refl H) p]
  .rename_i Ab e;let#[xs,e1,r2]:=p a _ e;show#[_,.inr (.inr #[xs,e1,by rw[JB r2]]),h H (.refl H) p]
  .show h.elim
def Sg (ha:PD X a ta) (he:∀ whole,isTrue a X.env whole=(do let v <- whole;standAt a.pos;holding [v] (truthy v))):yO X a (Zx ta):=by
 exact#[fun L S Q Q' hq h=>ha.mo L S _ _ (λ x S1 z=>vm.mo hq z) h,PT.imp (U6 ha.pe he) fun O H Q hu=>?_];let#[L,S,r1,r2,h]:=hu;exact zF.go ha.mo r1 r2 h λ x S1 v H1 h1 q1 e1 p1=>?_;show vm.fits q1 p1 (vm.mo (λ k S' z=>z.ext e1) h1)
def kL:zZ:=λ _ S Q=>Q [] S
def qz (te:zq) (tr:zZ):zZ:=fun L S Q=>te L S λ x S1=>tr L S1 λ xs S2=>Q (x::xs) S2
variable {e:Expr}{es:List Expr}{te:zq}{tA:zZ}
def qz.mo (h:ye te) (h':sO tA):sO (qz te tA):=fun L S _ _ hq z=>h L S _ _ (λ x S1 z=>h' L S1 _ _ (λ xs S2 z=>hq _ _ z) z) z
def Rn:yH X [] kL:=#[λ _ _ _ _ hq h=>hq _ _ h,PA.imp rh fun O H Q #[_,_,_,r2,h]=>h [] H .nil (.refl H) r2]
def Ro (ha:PD X e te) (hr:yH X es tA) (hs:AA X e es):yH X (e::es) (qz te tA):=by
 exact#[qz.mo ha.mo hr.mo,PA.imp (u_ ha.pe hr.pa hs) fun O H Q hu=>?_];let#[L,S,r1,r2,h]:=hu;exact zF.go ha.mo r1 r2 h λ x S1 v H1 h1 q1 e1 p1=>?_;exact xH.go hr.mo (r1.ext e1) p1 h1 λ xs S2 w H2 h2 q2 e2 p2=>?_;show h2 (v::w) H2 (.cons (ze.ext e2 x q1) q2) (e1.trans e2) p2
def Z9 (t:zZ):zq:=fun L S Q=>t L S λ ds S1=>ds.length<=sizeLine/\Q (.tup ds) S1
def ZE (t:zZ):zq:=fun L S Q=>t L S λ ds S1=>ds.length<=sizeLine/\∀ p,S1 p=none->Q (.ref p) (ups S1 p (.lst ds))
def Rr {k} (h:yH X es tA):PD X (.Tuple es k pos) (Z9 tA):=by
 exact#[fun L S _ _ hq z=>h.mo L S _ _ (λ ds S1 z=>#[z.1,hq _ _ z.2]) z,PE.imp (Tt h.pa) fun O H Q hu=>?_];let#[L,S,r1,r2,h']:=hu;exact xH.go h.mo r1 r2 h' λ ds S1 xs H1 h1 q1 e1 p1=>#[by rw[<- q1.length];show h1.1,λ p hp=>?_];exact h1.2 _ _ ?_ (e1.trans (.new hp _)) (p1.new hp);simp![ze];show#[p,xs,rfl,zO.of zX,zh.ext (.new hp _) ds q1]
theorem RG (h:yH X es tA):PD X (.List es pos) (ZE tA):=by
 exact#[fun L S _ _ hq z=>h.mo L S _ _ (λ ds S1 z=>#[z.1,λ p hp=>hq _ _ (z.2 p hp)]) z,PE.imp (T4 h.pa) fun O H Q hu=>?_];let#[L,S,r1,r2,h']:=hu;exact xH.go h.mo r1 r2 h' λ ds S1 xs H1 h1 q1 e1 p1=>#[by rw[<- q1.length];show h1.1,λ p hp=>?_];exact h1.2 p (p1.none hp) _ _ (by simp![ze]) (e1.trans (.new hp _)) ?_;show p1.ups (.new hp _) #[xs,zX,zh.ext (.new hp _) ds q1]
def xY:y6:=λ x y S Q=>match x,y with
 | .tup ds,.int i=>match zy ds i with
  | some d=>Q d S
  | none=>False
 | .xi ds,.int i=>match zy ds i with
  | some d=>Q d S
  | none=>False
 | .ref p,.int i=>match S p with
  | some (.lst ds)=>match zy ds i with
   | some d=>Q d S
   | none=>False
  | _=>False
 | _,_=>False
def xY.mo:yY xY:=λ x y S Q Q' hq h=>by
 unfold xY at h ⊢;split at h
 .skip
  split at h
  .show hq _ _ h
  .show h
 .skip
  split at h
  .show hq _ _ h
  .show h
 .skip
  split at h
  .skip
   split at h
   .show hq _ _ h
   .show h
  .show h.elim
 .show h.elim
theorem zh.zy {H:Hp}{ds:List D}{xs:List V}{i:Int}{d:D}(h:zh K H ds xs) (e:L2.zy ds i=↑d):∃ x,L2.zy xs i=↑x/\ze K H d x:=by
 unfold L2.zy at e ⊢;rw[h.length] at e;cases q:wD xs.length i with
 | none=>rw[q] at e;cases e
 | some j=>
  rw[q] at e;show h.get e
def xY.fits:yQ K xY (cG K):=λ x y d e H S Q h1 h2 h3 h=>by
 unfold xY at h;split at h
 .split at h
  .rename_i q;simp![ze] at h1 h2;let#[a,xs,rfl,r1,r2]:=h1;let#[x',e1,e2]:=r2.zy q;show .inr (.inl #[a,xs,_,x',rfl,h2,r1,e1,h x' H e2 (.refl H) h3])
  .show h.elim
 .split at h
  .rename_i q;simp![ze] at h1 h2;let#[a,xs,rfl,r1,r2]:=h1;let#[x',e1,e2]:=r2.zy q;show .inl #[a,xs,_,x',rfl,h2,r1.sq,e1,h x' H e2 (.refl H) h3]
  .show h.elim
 .split at h
  .rename_i q0;split at h
   .rename_i q;simp![ze] at h1 h2;subst h1;let#[xs,r1,r2]:=h3 _ _ q0;let#[x',e1,e2]:=r2.zy q;show .inl #[_,xs,_,x',rfl,h2,zH.of r1,e1,h x' H e2 (.refl H) h3]
   .show h.elim
  .show h.elim
 .show h.elim
def RM (ha:PD X a ta) (hb:PD X b tb) (hs:Y5 b):PD X (.Subscript a b pos) (yf xY ta tb):=
 #[yf.mo xY.mo ha.mo hb.mo,PE.imp (T6 M4 ha.pe hb.pe hs) λ _ _ _ h=>lx xY.fits xY.mo ha.mo hb.mo h]
abbrev xh:=List D->SS->DK->Prop
def vd (f:xh):Prop:=∀ ds S (Q Q':DK),(∀ d S',Q d S'->Q' d S')->f ds S Q->f ds S Q'
def uo (K:Ac) (f:xh) (r:List V->Hp->VK->Prop):Prop:=∀ xs ds H S Q,zh K H ds xs->zB K H S->f ds S (x8 K H Q)->r xs H Q
def xc (f:xh) (t:zZ):zq:=fun L S Q=>t L S λ ds S1=>f ds S1 Q
def xc.mo {f:xh}(hf:vd f) (h:sO tA):ye (xc f tA):=fun L S _ _ hq z=>h L S _ _ (λ ds S1 z=>hf ds S1 _ _ hq z) z
def d5 {f:xh}{r:List V->Hp->VK->Prop}(hf:vd f) (hr:uo K f r) (h:sO tA) {O:St}{H:Hp}{Q:VK}(hu:zF K (xc f tA) O H Q):oW r (xH K tA) O H Q:=by
 let#[L,S,r1,r2,h']:=hu;exact xH.go h r1 r2 h' λ ds S1 xs H1 h1 q1 e1 p1=>?_;show hr xs ds H1 S1 Q q1 p1 (hf ds S1 _ _ (λ d S' z=>z.ext e1) h1)
def u6 {f:xh}{r:List V->Hp->VK->Prop}{e:Expr}(h:PE X e (oW r (xH X.K tA))) (hf:vd f) (hr:uo X.K f r) (ha:sO tA):PD X e (xc f tA):=
 #[xc.mo hf ha,PE.imp h λ _ _ _ hu=>d5 hf hr ha hu]
def zK (d:D) (S:SS):Option (List D):=match d with
 | .tup ds=>↑ds
 | .xi ds=>↑ds
 | .ref p=>match S p with
  | some (.lst ds)=>↑ds
  | _=>none
 | _=>none
theorem zK.sq {H:Hp}{S:SS}{d:D}{v:V}{ds:List D}(r:ze K H d v) (p:zB K H S) (e:zK d S=↑ds):∃ a xs,v=.ref a/\(zH K H a xs\/zO K H a xs)/\zh K H ds xs:=by
 unfold zK at e;split at e
 .cases e;simp![ze] at r;let#[a,xs,h1,h2,h3]:=r;show#[a,xs,h1,.inr h2,h3]
 .cases e;simp![ze] at r;let#[a,xs,h1,h2,h3]:=r;show#[a,xs,h1,.inl h2.sq,h3]
 .split at e
  .rename_i q;cases e;simp![ze] at r;subst r;let#[xs,h1,h2]:=p _ _ q;show#[_,xs,rfl,.inl (zH.of h1),h2]
  .cases e
 .cases e
def zh.one {H:Hp}{d:D}{xs:List V}(h:zh K H [d] xs):∃ x,xs=[x]/\ze K H d x:=by
 simp![zh] at h;let#[x,r,rfl,h2,rfl]:=h;show#[x,rfl,h2]
def zh.two {H:Hp}{d d':D}{xs:List V}(h:zh K H [d,d'] xs):∃ x y,xs=[x,y]/\ze K H d x/\ze K H d' y:=by
 simp![zh] at h;let#[x,r,rfl,h2,y,r',rfl,h3,rfl]:=h;show#[x,y,rfl,h2,h3]
def ud:xh:=λ ds S Q=>match ds with
 | [d]=>match zK d S with
  | some ds=>Q (.int ds.length) S
  | none=>match d with
   | .str z=>z.length<=sizeLine/\Q (.int z.length) S
   | _=>False
 | _=>False
def ud.mo:vd ud:=λ ds S Q Q' hq h=>by
 unfold ud at h ⊢;split at h
 .skip
  split at h
  .show hq _ _ h
  .split at h
   .show#[h.1,hq _ _ h.2]
   .show h.elim
 .show h.elim
abbrev Uy (K:Ac):List V->Hp->VK->Prop:=λ xs H Q=>(∃ p ys,xs=[.ref p]/\(zH K H p ys\/zO K H p ys)/\Q (.int ys.length) H)\/(∃ z,xs=[.str z]/\z.length<=sizeLine/\Q (.int z.length) H)
def ud.fits:uo K ud (Uy K):=λ xs ds H S Q h0 h2 h=>by
 unfold ud at h;split at h
 .let#[x,hx,h1]:=h0.one;subst hx;split at h
  .rename_i e;let#[a,ys,rfl,q,r]:=zK.sq h1 h2 e;exact .inl #[a,ys,rfl,q,?_];rw[<- r.length];show h _ H (by simp![ze]) (.refl H) h2
  .split at h
   .simp![ze] at h1;subst h1;show .inr #[_,rfl,h.1,h.2 _ H (by simp![ze]) (.refl H) h2]
   .show h.elim
 .show h.elim
def uc:xh:=λ ds S Q=>match ds with
 | [d]=>match zK d S with
  | some ds=>∀ p,S p=none->Q (.ref p) (ups S p (.lst ds))
  | none=>False
 | _=>False
def uc.mo:vd uc:=λ ds S Q Q' hq h=>by
 unfold uc at h ⊢;split at h
 .skip
  split at h
  .show λ p hp=>hq _ _ (h p hp)
  .show h.elim
 .show h.elim
def uc.fits:uo K uc (λ xs H Q=>∃ p ys,xs=[.ref p]/\(zH K H p ys\/zO K H p ys)/\∀ l,H l=none->Q (.ref l) (upd H l (.lst ys))):=λ xs ds H S Q h0 h2 h=>by
 unfold uc at h;split at h
 .let#[x,hx,h1]:=h0.one;subst hx;split at h
  .rename_i e;let#[a,ys,rfl,q,r]:=zK.sq h1 h2 e;exact#[a,ys,rfl,q,λ l hl=>?_];show h l (h2.none hl) _ _ (by simp![ze]) (.new hl _) (h2.ups (.new hl _) #[ys,zX,zh.ext (.new hl _) _ r])
  .show h.elim
 .show h.elim
def v_:xh:=λ ds S Q=>match ds with
 | [.tup ds]=>Q (.tup ds) S
 | [.xi ds]=>Q (.tup ds) S
 | [.ref p]=>match S p with
  | some (.lst ds)=>Q (.tup ds) S
  | _=>False
 | _=>False
def v_.mo:vd v_:=λ ds S Q Q' hq h=>by
 unfold v_ at h ⊢;split at h
 .show hq _ _ h
 .show hq _ _ h
 .skip
  split at h
  .show hq _ _ h
  .show h.elim
 .show h.elim
def v_.fits:uo K v_ (λ xs H Q=>∃ p ys,xs=[.ref p]/\((zH K H p ys/\∀ l,H l=none->Q (.ref l) (upd H l (.tup ys)))\/(zO K H p ys/\Q (.ref p) H))):=λ xs ds H S Q h0 h2 h=>by
 unfold v_ at h;split at h
 .let#[x,hx,h1]:=h0.one;subst hx;have h1':=h1;simp![ze] at h1;let#[a,xs,rfl,r1,r2]:=h1;show#[a,xs,rfl,.inr #[r1,h _ H h1' (.refl H) h2]]
 .let#[x,hx,h1]:=h0.one;subst hx;simp![ze] at h1;let#[a,xs,rfl,r1,r2]:=h1;exact#[a,xs,rfl,.inl #[r1.sq,λ l hl=>h _ _ ?_ (.new hl _) (h2.new hl)]];simp![ze];show#[l,xs,rfl,zO.of zX,zh.ext (.new hl _) _ r2]
 .let#[x,hx,h1]:=h0.one;subst hx;split at h
  .rename_i e;simp![ze] at h1;subst h1;let#[xs,r1,r2]:=h2 _ _ e;exact#[_,xs,rfl,.inl #[zH.of r1,λ l hl=>h _ _ ?_ (.new hl _) (h2.new hl)]];simp![ze];show#[l,xs,rfl,zO.of zX,zh.ext (.new hl _) _ r2]
  .show h.elim
 .show h.elim
def vB (g:Int->Int->D):xh:=λ ds S Q=>match ds with
 | [.int i,.int j]=>Q (g i j) S
 | _=>False
def vB.mo {g:Int->Int->D}:vd (vB g):=λ ds S Q Q' hq h=>by
 unfold vB at h ⊢;split at h
 .show hq _ _ h
 .show h.elim
def vB.fits {g:Int->Int->D}{g':Int->Int->V}(hg:∀ i j H,ze K H (g i j) (g' i j)):uo K (vB g) (λ xs H Q=>∃ i j,xs=[.int i,.int j]/\Q (g' i j) H):=λ xs ds H S Q h0 h2 h=>by
 unfold vB at h;split at h
 .let#[x,y,hx,h1,h3]:=h0.two;subst hx;simp![ze] at h1 h3;subst h1 h3;show#[_,_,rfl,h _ H (hg _ _ H) (.refl H) h2]
 .show h.elim
def zaj:y6:=λ x y S Q=>match x,y with
 | .ref p,.ref q=>match S p,S q with
  | some (.lst ds),↑(.lst es)=>ds.length+es.length<=sizeLine/\∀ r,S r=none->Q (.ref r) (ups S r (.lst (ds++es)))
  | _,_=>False
 | _,_=>False
def rM (to te:zq):zq:=fun L S Q=>to L S λ x S1=>match x with
 | .ref p=>(∃ ds,S1 p=↑(.lst ds))/\te L S1 λ y S2=>match S2 p with
  | some (.lst ds)=>ds.length<sizeLine/\Q .zo (ups S2 p (.lst (ds++[y])))
  | _=>False
 | _=>False
def rM.mo {to te:zq}(h:ye to) (h':ye te):ye (rM to te):=fun L S Q Q' hq z=>h L S _ _ (λ x S1 z=>by
 cases x with
 | ref p=>
  exact#[z.1,h' L S1 _ _ (λ y S2 w=>?_) z.2];split at w
  .show#[w.1,hq _ _ w.2]
  .show w.elim
 | _=>show z) z
theorem Qp {o e:Expr}{to te:zq}{e0:Expr}(EI:PE X e0 (jW X.K "list" cN (zF X.K to) (lA (zF X.K te) l9))) (h:ye to) (h':ye te):PD X e0 (rM to te):=by
 exact#[rM.mo h h',PE.imp EI fun O H Q hu=>?_];let#[L,S,r1,r2,z]:=hu;exact zF.go h r1 r2 z λ x S1 v H1 h1 q1 e1 p1=>?_;cases x with
 | ref p=>
  let#[#[ds,hd],h1]:=h1;simp![ze] at q1;subst q1;let#[xs,g1,g2]:=p1 _ _ hd;exact#[.inl #[rfl,xs,zH.of g1],?_];exact zF.go h' (r1.ext e1) p1 h1 λ y S2 w H2 h2 q2 e2 p2=>?_;split at h2
  .rename_i Iu e3;let#[FH,g3,g4]:=p2 _ _ e3;exact#[p,FH,w,rfl,rfl,g3,by rw[<- g4.length];show h2.1,?_];have e4:Ext H2 (upd H2 p (.lst (FH++[w]))):=.lst g3 _;show h2.2 _ _ (by simp![ze]) ((e1.trans e2).trans e4) (p2.ups e4 #[_,zX,zh.ext e4 _ (g4.snoc q2)])
  .show h2.elim
 | _=>show h1.elim
end
structure tR where
 nx:zW->SS->Prop
 rt:DK
 bk:zW->SS->Prop:=λ _ _=>False
 ct:zW->SS->Prop:=λ _ _=>False
abbrev zY:=tR->zW->SS->Prop
structure tR.Le (E E':tR):Prop where
 nx:∀ L S,E.nx L S->E'.nx L S
 rt:∀ d S,E.rt d S->E'.rt d S
 bk:∀ L S,E.bk L S->E'.bk L S
 ct:∀ L S,E.ct L S->E'.ct L S
def um (t:zY):Prop:=∀ E E' L S,tR.Le E E'->t E L S->t E' L S
def vD (K:Ac) (H:Hp) (D:Ends):tR:=#[xl K H D.nx,x8 K H D.rt,xl K H D.bk,xl K H D.ct]
theorem vD.ext {K:Ac}{H H':Hp}{D:Ends}(e:Ext H H'):(vD K H D).Le (vD K H' D):=#[λ _ _ h=>xl.ext e h,λ _ _ h=>x8.ext e h,λ _ _ h=>xl.ext e h,λ _ _ h=>xl.ext e h]
def di (K:Ac) (t:zY):TS:=λ D O H=>∃ L S,yh K H L O/\zB K H S/\t (vD K H D) L S
structure xD (X:Cx) (st:Stmt) (t:zY):Prop where
 mo:um t
 ps:PS X st (di X.K t)
structure wH (X:Cx) (st:List Stmt) (t:zY):Prop where
 mo:um t
 ps:xu X st (di X.K t)
section
variable {X:Cx}{K:Ac}{st:Stmt}{Ff:List Stmt}{t u:zY}{pos:Pos}{e:Expr}{te:zq}
def g_:zY:=λ E L S=>E.nx L S
def qx (t u:zY):zY:=λ E L S=>t { E with nx:=u E } L S
def qx.mo (h:um t) (h':um u):um (qx t u):=λ E E' L S hE z=>h { E with nx:=u E } { E' with nx:=u E' } L S #[fun L S q=>h' E E' L S hE q,hE.rt,hE.bk,hE.ct] z
def S7:wH X [] g_:=#[λ _ _ _ _ hE h=>hE.nx _ _ h,xu.imp UA λ D O H #[L,S,r1,r2,h]=>h O H r1 (.refl H) r2]
def Sz (h:xD X st t):wH X [st] t:=#[h.mo,iy h.ps]
def S8 (h:xD X st t) (h':wH X Ff u):wH X (st::Ff) (qx t u):=by
 exact#[qx.mo h.mo h'.mo,xu.imp (UB h.ps h'.ps) λ D O H hu=>?_];let#[L,S,r1,r2,z]:=hu;exact#[L,S,r1,r2,h.mo { vD X.K H D with nx:=u (vD X.K H D) } _ L S #[fun L' S' q O' H' q1 q2 q3=>?_,λ _ _ q=>q,λ _ _ q=>q,λ _ _ q=>q] z];show#[L',S',q1,q3,h'.mo _ _ L' S' (vD.ext q2) q]
def kO (te:zq):zY:=λ E L S=>te L S λ _ S1=>E.nx L S1
def SR (he:PD X e te) (hs:swapsWith e none pos.line X.env=pure false):xD X (.Expr e pos) (kO te):=by
 exact#[λ E E' L S hE z=>he.mo L S _ _ (λ _ _ q=>hE.nx _ _ q) z,PS.imp (UI he.pe hs) λ D O H hu=>?_];let#[L,S,r1,r2,z]:=hu;show zF.go he.mo r1 r2 z λ x S1 v H1 h1 q1 e1 p1=>h1 O H1 (r1.ext e1) e1 p1
def gY (te:zq):zY:=λ E L S=>te L S E.rt
def SH (he:PD X e te):xD X (.Return ↑e pos) (gY te):=by
 exact#[λ E E' L S hE z=>he.mo L S _ _ (λ _ _ q=>hE.rt _ _ q) z,PS.imp (UG he.pe) λ D O H hu=>?_];let#[L,S,r1,r2,z]:=hu;show zF.go he.mo r1 r2 z λ x S1 v H1 h1 q1 e1 p1=>h1 v H1 q1 e1 p1
def kN (c:yp) (t u:zY):zY:=λ E L S=>c L S λ k S1=>if k=true then t E L S1 else u E L S1
def SN {c:Expr}{p q:List Stmt}{tc:yp}(hc:yO X c tc) (h:wH X p t) (h':wH X q u):xD X (.If c p q pos) (kN tc t u):=by
 exact#[λ E E' L S hE z=>hc.mo L S _ _ (λ k S1 z=>xW (h.mo _ _ L S1 hE) (h'.mo _ _ L S1 hE) z) z,PS.imp (UH hc.pt h.ps h'.ps) λ D O H hu=>?_];let#[L,S,r1,r2,z]:=hu;exact xG.go hc.mo r1 r2 z λ k S1 H1 h1 e1 p1=>xW (λ z=>?_) (λ z=>?_) h1
 .show#[L,S1,r1.ext e1,p1,h.mo _ _ L S1 (vD.ext e1) z]
 .show#[L,S1,r1.ext e1,p1,h'.mo _ _ L S1 (vD.ext e1) z]
abbrev yU:=D->zW->SS->(zW->SS->Prop)->Prop
abbrev xP:=List D->zW->SS->(zW->SS->Prop)->Prop
def jz (t:yU):Prop:=∀ d L S (Q Q':zW->SS->Prop),(∀ L S,Q L S->Q' L S)->t d L S Q->t d L S Q'
def YA (t:xP):Prop:=∀ d L S (Q Q':zW->SS->Prop),(∀ L S,Q L S->Q' L S)->t d L S Q->t d L S Q'
def ly (K:Ac) (t:yU):TG:=λ v O H Q=>∃ d L S,ze K H d v/\yh K H L O/\zB K H S/\t d L S (xl K H Q)
def dr (K:Ac) (t:xP):sL:=λ v O H Q=>∃ d L S,zh K H d v/\yh K H L O/\zB K H S/\t d L S (xl K H Q)
structure w_ (X:Cx) (e:Expr) (t:yU):Prop where
 mo:jz t
 pg:PG X e (ly X.K t)
structure oq (X:Cx) (es:List Expr) (t:xP):Prop where
 mo:YA t
 pg:tL X es (dr X.K t)
def PG.imp {e:Expr}{t t':TG}(h:PG X e t) (hi:∀ v O H Q,t' v O H Q->t v O H Q):PG X e t':=λ Fd s O H v w Q I r q=>h Fd s O H v w Q I r (hi v O H Q q)
def tL.imp {e:List Expr}{t t':sL}(h:tL X e t) (hi:∀ v O H Q,t' v O H Q->t v O H Q):tL X e t':=λ Fd s O H v w Q I r q=>h Fd s O H v w Q I r (hi v O H Q q)
def hName (i:Nat):yU:=λ d L S Q=>Q (L.set i ↑d) S
def Rj {e:Expr}{i:Nat}(h:PG X e (pW i)):w_ X e (hName i):=
 #[λ _ _ _ _ _ hq z=>hq _ _ z,PG.imp h λ v O H Q #[d,L,S,r1,r2,r3,z]=>z _ H (r2.set i r1) (.refl H) r3]
def gm:xP:=λ ds L S Q=>ds=[]/\Q L S
def gp (t:yU) (u:xP):xP:=λ ds L S Q=>match ds with
 | d::r=>t d L S fun L' S'=>u r L' S' Q
 | []=>False
def Rf:oq X [] gm:=by
 exact#[λ _ _ _ _ _ hq z=>#[z.1,hq _ _ z.2],tL.imp Tc λ v O H Q hu=>?_];let#[d,L,S,r1,r2,r3,z1,z2]:=hu;subst z1;simp![zh] at r1;show#[r1,z2 O H r2 (.refl H) r3]
def Rg {e:Expr}{es:List Expr}{t:yU}{u:xP}(h:w_ X e t) (h':oq X es u) (hs:(assignEach (e::es) X.env).map (·.2)=assign e X.env::(assignEach es X.env).map (·.2)):oq X (e::es) (gp t u):=by
 exact#[λ ds L S Q Q' hq z=>?_,tL.imp (Td h.pg h'.pg hs) λ v O H Q hu=>?_]
 .cases ds with
  | nil=>show z
  | cons d r=>show h.mo d L S _ _ (fun L' S' z=>h'.mo r L' S' _ _ hq z) z
 .let#[ds,L,S,r1,r2,r3,z]:=hu;cases ds with
  | nil=>show z.elim
  | cons d r=>
   simp![zh] at r1;let#[x,xs,rfl,q1,q2]:=r1;exact#[x,xs,rfl,d,L,S,q1,r2,r3,h.mo d L S _ _ (fun L' S' z O' H' g1 g2 g3=>?_) z];show#[r,L',S',zh.ext g2 r q2,g1,g3,h'.mo r L' S' _ _ (fun L2 S2 z2=>xl.ext g2 z2) z]
def pU (n:Nat) (t:xP):yU:=λ d L S Q=>match d with
 | .tup ds=>ds.length=n/\t ds L S Q
 | _=>False
def Rh {e:Expr}{n:Nat}{t:xP}(h:PG X e (Zc X.K n (dr X.K t))) (hm:YA t):w_ X e (pU n t):=by
 exact#[λ d L S Q Q' hq z=>?_,PG.imp h λ v O H Q hu=>?_]
 .cases d with
  | tup ds=>show#[z.1,hm ds L S _ _ hq z.2]
  | _=>show z
 .let#[d,L,S,r1,r2,r3,z]:=hu;cases d with
  | tup ds=>
   simp![ze] at r1;let#[a,xs,rfl,q1,q2]:=r1;show#[a,xs,rfl,q1,by rw[<- q2.length];show z.1,ds,L,S,q2,r2,r3,z.2]
  | _=>show z.elim
def uN (te:zq) (g:yU):zY:=λ E L S=>te L S λ x S1=>g x L S1 E.nx
def uN.mo {g:yU}(h:ye te) (h':jz g):um (uN te g):=λ E E' L S hE z=>h L S _ _ (λ x S1 q=>h' x L S1 _ _ (fun L S q=>hE.nx _ _ q) q) z
def SG {e0:Stmt}{i:Nat}(h:PS X e0 (lB (zF X.K te) (pW i))) (hm:ye te):xD X e0 (uN te (hName i)):=by
 exact#[uN.mo hm λ _ _ _ _ _ hq z=>hq _ _ z,PS.imp h λ D O H hu=>?_];let#[L,S,r1,r2,z]:=hu;exact zF.go hm r1 r2 z λ x S1 v H1 h1 q1 e1 p1=>?_;show h1 _ H1 ((r1.ext e1).set i q1) e1 p1
end
structure oG where
 items:List D
 keep:SS->Prop
abbrev xC:=zW->SS->(oG->SS->Prop)->Prop
def jy (t:xC):Prop:=∀ L S (Q Q':oG->SS->Prop),(∀ I S',Q I S'->Q' I S')->t L S Q->t L S Q'
def mD (K:Ac) (H1:Hp) (J:It) (I:oG):Prop:=∀ (i:Nat) (H:Hp) (S:SS),Ext H1 H->zB K H S->I.keep S->
 (∀ d,I.items[i]?=↑d->J.go i H/\∀ x H',J.qW i H x H'->Ext H H'/\zB K H' S/\ze K H' d x)/\(I.items.length<=i->J.stop i H)
def Kl (K:Ac) (H:Hp) (R:It->Hp->Prop):oG->SS->Prop:=λ I S1=>∀ J H1,Ext H H1->zB K H1 S1->mD K H1 J I->R J H1
def xZ (K:Ac) (t:xC):TI:=fun O H R=>∃ L S,yh K H L O/\zB K H S/\t L S (Kl K H R)
structure wZ (X:Cx) (tg iter:Expr) (t:xC):Prop where
 mo:jy t
 pi:PI X tg iter (xZ X.K t)
def PI.imp {X:Cx}{tg e:Expr}{t t':TI}(h:PI X tg e t) (hi:∀ O H Q,t' O H Q->t O H Q):PI X tg e t':=λ Fd s O H Q I q=>h Fd s O H Q I (hi O H Q q)
section
variable {X:Cx}{K:Ac}{tg e:Expr}{pos:Pos}
theorem zh.at {H:Hp}{ds:List D}{xs:List V}{i:Nat}{d:D}{x:V}(r:zh K H ds xs) (h1:ds[i]?=↑d) (h2:xs[i]?=↑x):ze K H d x:=by
 let#[y,e1,e2]:=r.get h1;rw[h2] at e1;cases e1;show e2
def vt (lo:Int) (n:Nat):List D:=(List.range n).map λ(k:Nat)=>D.int (lo+(k:Int))
def Uu {lo:Int}{n i:Nat}{d:D}(h:(vt lo n)[i]?=↑d):i<n/\d=.int (lo+(i:Int)):=by
 unfold vt at h;rw[AM] at h;cases q:(List.range n)[i]? with
 | none=>rw[q] at h;cases h
 | some j=>
  rw[q] at h;let#[h1,h2]:=AQ.mp q;rw[C4] at h1;rw[DV] at h2;subst h2;cases h;show#[h1,rfl]
def Ut (lo:Int) (n:Nat):(vt lo n).length=n:=by unfold vt;rw[AH,C4]
def mD.range {H1:Hp}{lo:Int}{n:Nat}:mD K H1 (j5 lo n) #[vt lo n,λ _=>True]:=λ i H S _ x2 _=>by
 exact#[λ d hd=>?_,λ hl=>by rw[show (oG.mk (vt lo n) λ _=>True).items=vt lo n from rfl,Ut] at hl;show hl];let#[h1,rfl]:=Uu hd;exact#[h1,λ x H' q=>?_];let#[rfl,rfl]:=q;show#[.refl _,x2,by simp![ze]]
def gh (t:zZ):xC:=fun L S R=>t L S λ ds S1=>match ds with
 | [.int j]=>(-(2 ^ 62)<=j/\j<2 ^ 62)/\R #[vt 0 j.toNat,λ _=>True] S1
 | _=>False
variable {tA:zZ}
def Rb (h:PI X tg e (aU (xH X.K tA))) (hm:sO tA):wZ X tg e (gh tA):=by
 exact#[fun L S Q Q' hq z=>hm L S _ _ (λ ds S1 z=>?_) z,PI.imp h fun O H R hu=>?_]
 .split at z
  .show#[z.1,hq _ _ z.2]
  .show z.elim
 .let#[L,S,r1,r2,z]:=hu;exact xH.go hm r1 r2 z λ ds S1 xs H1 h1 q1 e1 p1=>?_;split at h1
  .let#[x,rfl,q]:=q1.one;simp![ze] at q;subst q;show#[_,rfl,h1.1.1,h1.1.2,h1.2 _ H1 e1 p1 .range]
  .show h1.elim
def qy (ti:xC) (g:yU) (tb:zY):zY:=λ E L S=>ti L S λ I S1=>∃ W:Nat->zW->SS->Prop,W 0 L S1/\(∀ i L S,W i L S->I.keep S)/\
 (∀ i d L S,I.items[i]?=↑d->W i L S->g d L S fun L2 S2=>tb { E with nx:=W (i+1),ct:=W (i+1),bk:=E.nx } L2 S2)/\∀ L S,W I.items.length L S->E.nx L S
def qy.mo {ti:xC}{g:yU}{tb:zY}(hi:jy ti) (hg:jz g) (hb:um tb):um (qy ti g tb):=λ E E' L S hE z=>hi L S _ _ (λ I S1 #[W,w0,wk,ws,wd]=>by
 exact#[W,w0,wk,λ i d L S hd hw=>hg d L S _ _ (fun L2 S2 z=>hb { E with nx:=W (i+1),ct:=W (i+1),bk:=E.nx } { E' with nx:=W (i+1),ct:=W (i+1),bk:=E'.nx } L2 S2 #[λ _ _ q=>q,hE.rt,hE.nx,λ _ _ q=>q] z) (ws i d L S hd hw),fun L S q=>hE.nx _ _ (wd L S q)]) z
def SO {iter:Expr}{body:List Stmt}{ti:xC}{g:yU}{tb:zY}(hp:PassesOwn (model X.prog X.w) X.A X.env X.xe) (hc:X.calm=true) (hi:wZ X tg iter ti) (hg:w_ X tg g) (hb:wH X body tb)
  (hs:∀ x,foldedSetIterable iter X.env x=pure x):xD X (.For tg iter body [] pos) (qy ti g tb):=by
 exact#[qy.mo hi.mo hg.mo hb.mo,PS.imp (cT hp hc hi.pi hg.pg hb.ps hs) λ D O H hu=>?_];let#[L,S,r1,r2,z]:=hu;exact#[L,S,r1,r2,hi.mo L S _ _ (λ I S1 hW J H1 e1 p1 rep=>?_) z];let#[W,w0,wk,ws,wd]:=hW;exact#[λ i m O H2=>m=I.items.length-i/\i<=I.items.length/\Ext H1 H2/\∃ L S,yh X.K H2 L O/\zB X.K H2 S/\W i L S,#[_,rfl,A2 _,.refl _,L,S1,r1.ext e1,p1,w0],?_];rintro i m O2 H2 ⟨rfl,Hy,x2,L2,S2,q1,q2,w2⟩;let#[g1,g2]:=rep i H2 S2 x2 q2 (wk i L2 S2 w2);by_cases hl:i<I.items.length
 .have hd:I.items[i]?=↑I.items[i]:=by simp[hl]
  let#[go,yl]:=g1 _ hd;exact .inr #[go,fun O' H'=>Ext H1 H'/\∃ L S,yh X.K H' L O'/\zB X.K H' S/\W (i+1) L S,fun O' H' q=>#[_,⋯,rfl,hl,q],λ x H3 hy=>?_];let#[x3,p3,d3]:=yl x H3 hy;exact#[_,L2,S2,d3,q1.ext x3,p3,hg.mo _ L2 S2 _ _ (fun L4 S4 z4 O4 H4 a1 a2 a3=>?_) (ws i _ L2 S2 hd w2)];exact#[L4,S4,a1,a3,hb.mo _ _ L4 S4 #[fun L5 S5 w5 O5 H5 b1 b2 b3=>#[((x2.trans x3).trans a2).trans b2,L5,S5,b1,b3,w5],λ _ _ q=>x8.ext (((e1.trans x2).trans x3).trans a2) q,λ _ _ q=>xl.ext (((e1.trans x2).trans x3).trans a2) q,fun L5 S5 w5 O5 H5 b1 b2 b3=>#[((x2.trans x3).trans a2).trans b2,L5,S5,b1,b3,w5]] z4]
 .have e:i=I.items.length:=⋯;subst e;show .inl #[g2 (Ak _),wd L2 S2 w2 O2 H2 q1 (e1.trans x2) q2]
abbrev xR:=List D->SS->DK->Prop
def ox (sp:xR):Prop:=∀ ds S (Q Q':DK),(∀ d S',Q d S'->Q' d S')->sp ds S Q->sp ds S Q'
def uV (K:Ac) (sp:xR):Sp:=λ vs H Q _=>∃ ds S,zh K H ds vs/\zB K H S/\sp ds S (x8 K H Q)
def kP (sp:xR) (t:zZ):zq:=fun L S Q=>t L S λ ds S1=>sp ds S1 Q
def Qn {sp:xR}{E:XK}{e:Expr}(h:PE X e (dG (uV X.K sp) [] E (xH X.K tA))) (hs:ox sp) (hm:sO tA):PD X e (kP sp tA):=by
 exact#[fun L S Q Q' hq z=>hm L S _ _ (λ ds S1 z=>hs ds S1 _ _ hq z) z,PE.imp h fun O H Q hu=>?_];let#[L,S,r1,r2,z]:=hu;exact xH.go hm r1 r2 z λ ds S1 xs H1 h1 q1 e1 p1=>?_;rw[CF];show#[ds,S1,q1,p1,hs ds S1 _ _ (λ d S' q=>x8.ext e1 q) h1]
def uw (N:List Str) (ds:List D):zW:=ds.map some++List.replicate (N.length-ds.length) none
theorem yh.init {H:Hp}{N:List Str}{ds:List D}{vs:List V}(r:zh K H ds vs):yh K H (uw N ds) (start N vs):=by
 have hl:=r.length;exact#[by unfold uw L2.start;simp[hl],λ i d h=>?_];unfold uw at h;have hi:i<ds.length:=by
  rcases BS i ds.length with q | q
  .show q
  .rw[CB (by exists q),DX] at h;split at h <;> cases h
 rw[CA (by exists hi),AM] at h;cases q:ds[i]? with
 | none=>rw[q] at h;cases h
 | some d'=>
  rw[q] at h;cases h;let#[x,e1,e2]:=r.get q;exact#[x,?_,e2];unfold L2.start;rw[CA (by exists by lia),AM,e1];rfl
def L8 {P:Program}{w:World}{K:Ac}{mg:Au}{base:Heap}{x qual:Str}{st:Stmt}{f:Addr}{fd:FuncData}{N ps:List Str}{k:Nat}{sp:xR}(F:wy K x qual st f fd) (Sc:vg N ps (zG st))
  (len:∀ ds S Q,sp ds S Q->ds.length=ps.length)
  (Ft:∀ (Ah:Value) (A:Around) (outer:List Env) (s:Shared) (H:Hp) (E:XK),zN k (A.deeper (envOfC qual (zG st) s.heap.objs.size f Ah))->
   ∃ t,wH (yL y8 P w K mg base N qual (zG st) f Ah A outer s H E).y_ (yN st) t/\∀ ds S Q,sp ds S Q->t { nx:=λ _ S'=>Q .zo S',rt:=Q } (uw N ds) S):yP P w K mg base y8 (k+1) f fd ps (uV K sp):=by
 exact F.ok Sc (λ vs H Q E h=>?_) λ Ah A outer s H vs Q E hr h=>?_
 .let#[ds,S,r1,_,z]:=h;rw[<- r1.length];show len _ _ _ z
 .let#[ds,S,r1,r2,z]:=h;let#[t,ht,hq]:=Ft Ah A outer s H E hr;exact#[_,ht.ps,uw N ds,S,.init r1,r2,ht.mo { nx:=λ _ S'=>x8 K H Q .zo S',rt:=x8 K H Q } _ _ _ #[fun L S' q O' H' _ b c=>q .zo H' (by simp![ze]) b c,λ _ _ q=>q,λ _ _ q=>False.elim q,λ _ _ q=>False.elim q] (hq ds S _ z)]
def vV (pick:List (Option Nat)) (L:zW):zW:=pick.map λ o=>o.bind λ i=>(L[i]?).join
theorem yh.pick {H:Hp}{L:zW}{O:St}(r:yh K H L O) (pick:List (Option Nat)):yh K H (vV pick L) (vU pick O):=by
 exact#[by unfold vV vU;simp,λ i d h=>?_];unfold vV at h;rw[AM] at h;cases q:pick[i]? with
 | none=>rw[q] at h;cases h
 | some o=>
  rw[q] at h;cases o with
  | none=>simp at h
  | some j=>
   simp![Option.map_some,BH,Option.some.injEq] at h;have hj:L[j]?=↑↑d:=by
    cases q2:L[j]? with
    | none=>rw[q2] at h;cases h
    | some o2=>rw[q2] at h;simp![Option.join_some] at h;rw[h]
   let#[v,e1,e2]:=r.2 j d hj;exact#[v,?_,e2];unfold vU;rw[AM,q];simp[e1]
def qG (L L':zW):Prop:=L.length=L'.length/\∀ (i:Nat) d,L[i]?=↑↑d->L'[i]?=↑↑d
def qG.rep {H:Hp}{L L':zW}{O:St}(h:qG L L') (r:yh K H L' O):yh K H L O:=#[h.1.trans r.1,λ i d q=>r.2 i d (h.2 i d q)]
structure ou (X:Cx) (ifs:List Expr) (t:yp):Prop where
 mo:wx t
 pf:PF X ifs (xG X.K t)
def PF.imp {ifs:List Expr}{t t':TT}(h:PF X ifs t) (hi:∀ O H Q,t' O H Q->t O H Q):PF X ifs t':=λ Fd s O H Q I q=>h Fd s O H Q I (hi O H Q q)
def Zw:yp:=λ _ S Q=>Q true S
def Rm:ou X [] Zw:=#[λ _ _ _ _ hq z=>hq _ _ z,PF.imp Tn λ _ H _ #[_,_,_,r2,z]=>z H (.refl H) r2]
def Rl {c:Expr}{t:yp}(h:yO X c t):ou X [c] t:=#[h.mo,Tj h.pt]
end
end L3
namespace L2
open PySem PySem.Spec PyProof.Rows
def MS (K:Ac) (tl:TE):TI:=fun O H R=>tl O H λ x H1=>∃ a,x=.ref a/\(((∃ xs,zH K H1 a xs)/\R (YD K a) H1)\/((∃ xs,zO K H1 a xs)/\R (YC K a) H1))
def UZ {X:Cx}{tg l:Expr}{tl:TE}(hl:PE X l tl):PI X tg l (MS X.K tl):=by
 intro Fd s O H R I h;exact zt (hl Fd s O H _ I h) λ v s1 #[x,H1,I1,r1,a,hx,q1]=>?_;subst hx;cases r1;have new:∀ b∈[s1.heap.objs.size],vJ X Fd H1 b:=λ b hb=>by
  obtain rfl:b=s1.heap.objs.size:=AX.mp hb;show I1.nR (Ak _) (I1.zl.fresh (Ak _))
 rcases q1 with ⟨⟨xs,hq⟩,q⟩ | ⟨⟨xs,hq⟩,q⟩
 .let#[Aa,_,pl,_]:=I1.list hq;show zaO pl.isList #[_,_,_,_,H1,rfl,I1.kept (t':=s1.toks) λ b o eo=>za1 _ eo,Vd a _,#[_,AJ _ rfl,rfl,rfl],new,q]
 .let#[Aa,_,pt,_]:=I1.tuple hq;show wpAny_pyIter_tuple (show s1.heap.IsTuple a Aa.toArray from pt) #[_,_,_,_,H1,rfl,I1.kept (t':=s1.toks) λ b o eo=>za1 _ eo,Va a _,#[_,AJ _ rfl,rfl,rfl],new,q]
def range_all (bs:List Bool):(List.range bs.length).all (λ i=>bs.getD i true)=bs.all id:=by
 rw[BX,B5,B5];constructor
 .intro h b hb;let#[i,hi,rfl]:=Ce.mp hb;have:=h i (AO.mpr hi);simpa [hi] using this
 .intro h i hi;have Hy:=AO.mp hi;have:=h bs[i] (Ci Hy);simpa [Hy] using this
def range_any (bs:List Bool):(List.range bs.length).any (λ i=>bs.getD i true)=bs.any id:=by
 rw[BX,Bl,Bl];constructor
 .rintro⟨i,hi,h⟩;have Hy:=AO.mp hi;show#[bs[i],Ci Hy,by simpa [Hy] using h]
 .rintro⟨b,hb,h⟩;let#[i,hi,rfl]:=Ce.mp hb;show#[i,AO.mpr hi,by simpa [hi] using h]
theorem Yd {bs:List Bool}{Aa:Ae}(r:Vals (bs.map V.bl) Aa) {i:Nat}{v:Value}(h:Aa.toArray[i]?=↑v):v=.bool (bs.getD i true):=by
 have hl:=r.length;rw[AH] at hl;have h':Aa[i]?=↑v:=by exists h
 have hi:i<bs.length:=by
  rw[hl];rcases BS i Aa.length with q | q
  .show q
  .rw[List.getElem?_eq_none q] at h';cases h'
 let#[u,e1,e2]:=r.get (i:=i) (x:=.bl bs[i]) (by simp[hi]);rw[h'] at e1;cases e1;have:v=.bool bs[i]:=e2;rw[this];simp[hi]
section
variable {X:Cx}
theorem Ji (hc:X.calm=true):y7 X (.builtin "all") (λ xs H Q=>∃ p,∃ bs:List Bool,xs=[.ref p]/\zH X.K H p (bs.map V.bl)/\Q (.bl (bs.all id)) H):=by
 intro Fd s O H xs us Q I r h;let#[p,bs,rfl,hq,q]:=h;let#[u,rfl,ru]:=vals1 r;cases ru;let#[Aa,rv,pl,hz]:=I.list hq;have hl:=rv.length;rw[AH] at hl;have Az:p<s.heap.objs.size:=by let#[o,n,e,_]:=pl;show Ap e
 exact call_all_walk (zaO pl.isList ?_);exact#[s.heap.objs.size,_,_,_,_,_,λ i=>bs.getD i true,rfl,Walks.list (A:=X.A.in1) (I.ok.hd hc) s.heap.objs.size p (Aw Az) Aa.toArray,#[#[_,AJ _ rfl,rfl,rfl],pl.isList.push _],λ i v s' Q' E' hv hq'=>?_,λ h' tk hk=>?_]
 .rw[Yd rv hv];show zaG hq'
 .have e:(List.range Aa.toArray.size).all (λ i=>bs.getD i true)=bs.all id:=by rw[AB,<- hl,range_all]
  rw[e];show#[.bl _,H,I.kept (t':=tk) λ b o eo=>hk b o (by exists Aw (Ap eo)) (za1 _ eo),rfl,q]
theorem Jh (hc:X.calm=true):y7 X (.builtin "any") (λ xs H Q=>∃ p,∃ bs:List Bool,xs=[.ref p]/\zH X.K H p (bs.map V.bl)/\Q (.bl (bs.any id)) H):=by
 intro Fd s O H xs us Q I r h;let#[p,bs,rfl,hq,q]:=h;let#[u,rfl,ru]:=vals1 r;cases ru;let#[Aa,rv,pl,hz]:=I.list hq;have hl:=rv.length;rw[AH] at hl;have Az:p<s.heap.objs.size:=by let#[o,n,e,_]:=pl;show Ap e
 exact call_any_walk (zaO pl.isList ?_);exact#[s.heap.objs.size,_,_,_,_,_,λ i=>bs.getD i true,rfl,Walks.list (A:=X.A.in1) (I.ok.hd hc) s.heap.objs.size p (Aw Az) Aa.toArray,#[#[_,AJ _ rfl,rfl,rfl],pl.isList.push _],λ i v s' Q' E' hv hq'=>?_,λ h' tk hk=>?_]
 .rw[Yd rv hv];show zaG hq'
 .have e:(List.range Aa.toArray.size).any (λ i=>bs.getD i true)=bs.any id:=by rw[AB,<- hl,range_any]
  rw[e];show#[.bl _,H,I.kept (t':=tk) λ b o eo=>hk b o (by exists Aw (Ap eo)) (za1 _ eo),rfl,q]
end
end L2
namespace L3
open PySem PySem.Spec L2
open PyProof.Rows hiding St
structure Bt (mg:Au):Prop where
 len:mg "len"=none
 range:mg "range"=none
 any:mg "any"=none
 all:mg "all"=none
 sorted:mg "sorted"=none
 isinstance:mg "isinstance"=none
 bool:mg "bool"=none
 int:mg "int"=none
 str:mg "str"=none
 list:mg "list"=none
 tuple:mg "tuple"=none
 max:mg "max"=none
 min:mg "min"=none
section
variable {X:Cx}{a e:Expr}{es:List Expr}{te:zq}{pos p:Pos}
def kR {N':List Str}{pick:List (Option Nat)}{scope esc:Scope}{N:List Str}(hE:X.env.scope=esc:=by rfl) (hN:X.N=N:=by rfl) (h1:scope.kind=.function:=by rfl) (h2:scope.names.all (λ y=>decide (y.2≠.cell))=true:=by decide +kernel)
  (h3:scope.names.all (λ y=>!decide (y.2=.local)||decide (scope.names.lookup y.1=↑.local))=true:=by decide +kernel)
  (h4:scope.names.all (λ y=>!decide (y.2=.free)||(decide (esc.names.lookup y.1=↑.cell)||decide (esc.names.lookup y.1=↑.free)))=true:=by decide +kernel)
  (h5:pick.length=N'.length:=by rfl) (h6:p8 N N' pick scope=true:=by decide +kernel):sV X N' pick scope:=by
 exact#[h1,λ y hy=>?_,λ y hy hl=>?_,λ y hy hf=>?_,h5,by rw[hN];show h6]
 .show of_decide_eq_true (B5.mp h2 y hy)
 .have:=B5.mp h3 y hy;rw[zaA hl] at this;exists this
 .have:=B5.mp h4 y hy;rw[zaA hf] at this;rw[hE];exists this
def Ri (i:Nat) {x:Str}(hN:X.N.Nodup) (hi:X.N[i]?=↑x) (hx:Loc X.env.scope x) (hf:X.fn x=true\/X.env.scope.names.lookup x=↑.local):w_ X (.Name x pos) (hName i):=
 Rj (Tg hN hi hx hf)
def bf {k:Nat}{t:xP}{n:Nat}(h:oq X es t) (hc:X.calm=true) (hn:(assignEach es X.env).length=n) (AG:(assignEach es X.env).findIdx? (·.1)=none):w_ X (.Tuple es k pos) (pU n t):=
 Rh (Te hc h.pg hn AG) h.mo
def SE (i:Nat) {x:Str}{pos':Pos}(hN:X.N.Nodup) (he:PD X e te) (hi:X.N[i]?=↑x) (hx:Loc X.env.scope x) (hs:swapsWith e ↑(.Name x pos') pos.line X.env=pure false)
  (hf:X.fn x=true\/X.env.scope.names.lookup x=↑.local):xD X (.Assign [.Name x pos'] e pos) (uN te (hName i)):=
 SG (cR hN hi hx he.pe hs hf) he.mo
def gg (te:zq):xC:=fun L S R=>te L S λ x S1=>match x with
 | .tup ds=>R #[ds,λ _=>True] S1
 | .xi ds=>R #[ds,λ _=>True] S1
 | .ref p=>match S1 p with
  | some (.lst ds)=>R #[ds,λ S=>S p=↑(.lst ds)] S1
  | _=>False
 | _=>False
def SY {tg:Expr}(h:PD X e te):wZ X tg e (gg te):=by
 exact#[fun L S Q Q' hq z=>h.mo L S _ _ (λ x S1 z=>?_) z,?_]
 .cases x with
  | ref p=>
   dsimp only at z ⊢;split at z
   .show hq _ _ z
   .show z.elim
  | xi ds=>show hq _ _ z
  | tup ds=>show hq _ _ z
  | _=>show z
 .exact PI.imp (UZ h.pe) fun O H R hu=>?_
  let#[L,S,r1,r2,z]:=hu;exact zF.go h.mo r1 r2 z λ x S1 v H1 h1 q1 e1 p1=>?_;cases x with
  | tup ds=>
   simp![ze] at q1;let#[a,xs,rfl,g1,g2]:=q1;exact#[a,rfl,.inr #[#[xs,g1],h1 _ H1 e1 p1 λ i H2 S2 x1 x2 _=>#[λ d hd=>?_,λ hl=>#[xs,x1.lE g1,by rw[<- g2.length];show hl]]]];let#[y,hy,_]:=g2.get hd;exact#[#[xs,y,x1.lE g1,hy],λ x H' q=>?_];let#[rfl,q]:=q;show#[.refl _,x2,(zh.ext x1 ds g2).at hd (q xs (x1.lE g1))]
  | ref p=>
   dsimp only at h1;split at h1
   .rename_i ds e2;simp![ze] at q1;subst q1;let#[xs0,g1,_]:=p1 _ _ e2;exact#[p,rfl,.inl #[#[xs0,zH.of g1],h1 _ H1 e1 p1 λ i H2 S2 x1 x2 hk=>?_]];let#[xs,g3,g4]:=x2 _ _ hk;exact#[λ d hd=>?_,λ hl=>#[xs,zH.of g3,by rw[<- g4.length];show hl]];let#[y,hy,_]:=g4.get hd;exact#[#[xs,y,zH.of g3,hy],λ x H' q=>?_];let#[rfl,q]:=q;show#[.refl _,x2,g4.at hd (q xs (zH.of g3))]
   .show h1.elim
  | xi ds=>
   simp![ze] at q1;let#[a,xs,rfl,g1,g2]:=q1;exact#[a,rfl,.inl #[#[xs,g1.sq],h1 _ H1 e1 p1 λ i H2 S2 x1 x2 _=>#[λ d hd=>?_,λ hl=>#[xs,(x1.lF g1).sq,by rw[<- g2.length];show hl]]]];let#[y,hy,_]:=g2.get hd;exact#[#[xs,y,(x1.lF g1).sq,hy],λ x H' q=>?_];let#[rfl,q]:=q;show#[.refl _,x2,(zh.ext x1 ds g2).at hd (q xs (x1.lF g1).sq)]
  | _=>show h1.elim
end
end L3
namespace L4
open PySem PySem.W PyProof.Rows
def yr {α:Type}(n:Nat) (lt:Nat->Nat->Bool):KasT α->(α->Prop)->Prop
 | .ret a,Q=>Q a
 | .ask i j k,Q=>i<n/\j<n/\yr n lt (k (lt i j)) Q
theorem yr.mono {α:Type}{n:Nat}{lt:Nat->Nat->Bool}{Q Q':α->Prop}(hq:∀ a,Q a->Q' a):∀ {t:KasT α},yr n lt t Q->yr n lt t Q'
 | .ret _,h=>hq _ h
 | .ask _ _ _,h=>#[h.1,h.2.1,yr.mono hq h.2.2]
theorem yr.bind {α β:Type}{n:Nat}{lt:Nat->Nat->Bool}{f:α->KasT β}{Q:β->Prop}:∀ {t:KasT α},yr n lt t (λ a=>yr n lt (f a) Q)->yr n lt (t.bind f) Q
 | .ret _,h=>h
 | .ask _ _ _,h=>#[h.1,h.2.1,yr.bind h.2.2]
section
variable {n:Nat}{lt:Nat->Nat->Bool}
def Le (lt:Nat->Nat->Bool) (a b:Nat):Prop:=lt b a=false
structure Ord (lt:Nat->Nat->Bool):Prop where
 tr:∀ a b c,Le lt a b->Le lt b c->Le lt a c
 as:∀ a b,lt a b=true->Le lt a b
def Ord.refl (o:Ord lt) (a:Nat):Le lt a a:=by
 cases h:lt a a with
 | false=>show h
 | true=>show o.as a a h
def yW (n:Nat) (p:Array Nat):Prop:=p.Perm (List.range n).toArray
theorem yW.size {p:Array Nat}(h:yW n p):p.size=n:=by rw[Array.Perm.size_eq h];simp
theorem yW.below {p:Array Nat}(h:yW n p) {i:Nat}(hi:i<n):p.getD i 0<n:=by
 have hs:=h.size;have hm:p.getD i 0∈p:=by
  rw[DU,Bu ⋯];show Array.getElem_mem ⋯
 have:p.getD i 0∈(List.range n).toArray:=(Array.Perm.mem_iff h).mp hm;exists this
def nQ {p q:Array Nat}{i j:Nat}(h:p[i]?=q[j]?):p.getD i 0=q.getD j 0:=by rw[DU,DU,h]
def wY (lt:Nat->Nat->Bool) (p:Array Nat) (k:Nat):Prop:=∀ i j,i<=j->j<k->Le lt (p.getD i 0) (p.getD j 0)
def tS (lt:Nat->Nat->Bool) (p:Array Nat) (k:Nat):Prop:=∀ i j,i<=j->j<k->Le lt (p.getD j 0) (p.getD i 0)
def wY.next (o:Ord lt) {p:Array Nat}{k:Nat}(h:wY lt p k) (hk:1<=k) (hl:Le lt (p.getD (k-1) 0) (p.getD k 0)):wY lt p (k+1):=λ i j A7 hj=>by
 by_cases EX:j<k
 .show h i j A7 EX
 .have e:j=k:=⋯;subst e;by_cases hi:i=j
  .subst hi;show o.refl _
  .show o.tr _ _ _ (h i (j-1) ⋯ ⋯) hl
def tS.next (o:Ord lt) {p:Array Nat}{k:Nat}(h:tS lt p k) (hk:1<=k) (hl:Le lt (p.getD k 0) (p.getD (k-1) 0)):tS lt p (k+1):=λ i j A7 hj=>by
 by_cases EX:j<k
 .show h i j A7 EX
 .have e:j=k:=⋯;subst e;by_cases hi:i=j
  .subst hi;show o.refl _
  .show o.tr _ _ _ hl (h i (j-1) ⋯ ⋯)
theorem fH (o:Ord lt) {p:Array Nat}(hp:yW n p):∀ (f a:Nat),1<=a->a+f<=n->wY lt p a->
  yr n lt (kas_asc p f a) λ m=>a<=m/\m<=a+f/\wY lt p m/\(m=a+f\/lt (p.getD m 0) (p.getD (m-1) 0)=true)
 | 0,a,_,_,hs=>#[Ak _,Ak _,hs,.inl rfl]
 | f+1,a,h1,h2,hs=>by
  exact#[hp.below ⋯,hp.below ⋯,?_];cases c:lt (p.getD a 0) (p.getD (a-1) 0) with
  | true=>show#[Ak _,⋯,hs,.inr c]
  | false=>
   exact yr.mono ?_ (fH o hp f (a+1) ⋯ ⋯ (hs.next o h1 c));rintro m ⟨g1,g2,g3,g4⟩;show#[⋯,⋯,g3,g4.imp (λ e=>⋯) id]
def nc {p:Array Nat}(hp:yW n p) (i j:Nat):yW n (kas_rev p i j):=Array.Perm.trans (mirror_perm _ _ _ _) hp
theorem ng {p:Array Nat}(hp:yW n p) {i j:Nat}(hj:j<=n) (k:Nat):(kas_rev p i j).getD k 0=if i<=k/\k<j then p.getD (i+j-1-k) 0 else p.getD k 0:=by
 have e:=getElem?_mirror_all (xs:=p) (i:=i) (j:=j) (by rw[hp.size];show hj) k;split
 .rename_i h;rw[if_pos h] at e;show nQ e
 .rename_i h;rw[if_neg h] at e;show nQ e
def rev_eq (o:Ord lt) {p:Array Nat}(hp:yW n p) {i j:Nat}(hj:j<=n) (he:∀ a b,i<=a->a<j->i<=b->b<j->Le lt (p.getD a 0) (p.getD b 0)) (k:Nat):
  Le lt ((kas_rev p i j).getD k 0) (p.getD k 0)/\Le lt (p.getD k 0) ((kas_rev p i j).getD k 0):=by
 rw[ng hp hj];split
 .rename_i h;show#[he _ _ ⋯ ⋯ h.1 h.2,he _ _ h.1 h.2 ⋯ ⋯]
 .show#[o.refl _,o.refl _]
def tS.of_eq (o:Ord lt) {p q:Array Nat}{k:Nat}(h:tS lt p k) (e:∀ k,Le lt (q.getD k 0) (p.getD k 0)/\Le lt (p.getD k 0) (q.getD k 0)):tS lt q k:=λ i j A7 hj=>
 o.tr _ _ _ (e j).1 (o.tr _ _ _ (h i j A7 hj) (e i).2)
def eE (lt:Nat->Nat->Bool) (p:Array Nat) (m q:Nat):Prop:=∀ a b,m-(q+1)<=a->a<m->m-(q+1)<=b->b<m->Le lt (p.getD a 0) (p.getD b 0)
theorem kH (o:Ord lt):∀ (f:Nat) (p:Array Nat) (m q:Nat),yW n p->1<=m->m+f<=n->tS lt p m->q+1<=m->eE lt p m q->
  yr n lt (kas_desc f p m q) λ r=>yW n r.1/\m<=r.2.1/\r.2.1<=m+f/\tS lt r.1 r.2.1/\r.2.2+1<=r.2.1/\eE lt r.1 r.2.1 r.2.2
 | 0,p,m,q,hp,_,_,hd,hq,hb=>#[hp,Ak _,Ak _,hd,hq,hb]
 | f+1,p,m,q,hp,h1,h2,hd,hq,hb=>by
  have one:∀ p':Array Nat,eE lt p' (m+1) 0:=λ p' a b a1 a2 b1 b2=>by
   have:a=b:=⋯;subst this;show o.refl _
  exact#[hp.below ⋯,hp.below ⋯,?_];cases c:lt (p.getD m 0) (p.getD (m-1) 0) with
  | true=>
   dsimp only;rw[if_pos rfl];have hl:=o.as _ _ c;by_cases h0:q>0
   .rw[if_pos h0];have e:=rev_eq o hp (i:=m-(q+1)) (j:=m) ⋯ hb;have HI:=nc hp (m-(q+1)) m;exact yr.mono ?_ (kH o f _ (m+1) 0 HI ⋯ ⋯ ((hd.of_eq o e).next o h1 (o.tr _ _ _ (e m).1 (o.tr _ _ _ hl (e (m-1)).2))) ⋯ (one _));rintro r ⟨a1,a2,a3,a4⟩;show#[a1,⋯,⋯,a4]
   .rw[if_neg h0];exact yr.mono ?_ (kH o f _ (m+1) 0 hp ⋯ ⋯ (hd.next o h1 hl) ⋯ (one _));rintro r ⟨a1,a2,a3,a4⟩;show#[a1,⋯,⋯,a4]
  | false=>
   dsimp only;rw[if_neg B3];exact#[hp.below ⋯,hp.below ⋯,?_];cases d:lt (p.getD (m-1) 0) (p.getD m 0) with
   | true=>show#[hp,Ak _,(by change m<=m+(f+1);lia),hd,hq,hb]
   | false=>
    dsimp only;rw[if_neg B3];exact yr.mono ?_ (kH o f _ (m+1) (q+1) hp ⋯ ⋯ (hd.next o h1 d) ⋯ λ a b a1 a2 b1 b2=>?_)
    .rintro r ⟨a1,a2,a3,a4⟩;show#[a1,⋯,⋯,a4]
    .by_cases ha:a=m
     .by_cases HY:b=m
      .subst ha;subst HY;show o.refl _
      .subst ha;show o.tr _ _ _ d (hb (a-1) b ⋯ ⋯ ⋯ ⋯)
     .by_cases HY:b=m
      .subst HY;show o.tr _ _ _ (hb a (b-1) ⋯ ⋯ ⋯ ⋯) c
      .show hb a b ⋯ ⋯ ⋯ ⋯
theorem dE (o:Ord lt) {p:Array Nat}{m:Nat}(hp:yW n p) (h1:1<=m) (h2:m<=n) (hd:tS lt p m):yr n lt (kas_tail3 m n p) λ r=>yW n r.2/\r.1<=n/\wY lt r.2 r.1:=by
 exact yr.bind (yr.mono ?_ (fH o (nc hp 0 m) (n-m) m h1 ⋯ λ i j A7 hj=>?_))
 .rintro k ⟨a1,a2,a3,_⟩;show#[nc hp 0 m,⋯,a3]
 .rw[ng hp h2,ng hp h2,if_pos #[A2 _,⋯],if_pos #[A2 _,hj]];show hd _ _ ⋯ ⋯
theorem Z5 (o:Ord lt) {p:Array Nat}{m:Nat}(hp:yW n p) (h1:1<=m) (h2:m<n) (hd:tS lt p m) (hl:lt (p.getD m 0) (p.getD (m-1) 0)=true):yr n lt (kas_descPart m n p) λ r=>yW n r.2/\r.1<=n/\wY lt r.2 r.1:=by
 exact yr.bind (yr.mono ?_ (kH o (n-(m+1)) p (m+1) 0 hp ⋯ ⋯ (hd.next o h1 (o.as _ _ hl)) ⋯ λ a b a1 a2 b1 b2=>?_))
 .rintro⟨p',m',q'⟩ ⟨a1,a2,a3,a4,a5,a6⟩;dsimp only at a1 a2 a3 a4 a5 a6 ⊢;by_cases h0:q'>0
  .rw[if_pos h0];show dE o (nc a1 _ _) ⋯ ⋯ (a4.of_eq o (rev_eq o a1 (i:=m'-(q' + 1)) (j:=m') ⋯ a6))
  .rw[if_neg h0];show dE o a1 ⋯ ⋯ a4
 .have:a=b:=⋯;subst this;show o.refl _
theorem K0 (o:Ord lt) {p:Array Nat}(hp:yW n p) (h1:1<=n):yr n lt (kas_count n p) λ r=>yW n r.2/\r.1<=n/\wY lt r.2 r.1:=by
 exact yr.bind (yr.mono ?_ (fH o hp (n-1) 1 (Ak _) ⋯ λ i j A7 hj=>?_))
 .rintro m ⟨a1,a2,a3,a4⟩;by_cases hm:m=n
  .rw[if_pos (by simp[hm])];show#[hp,⋯,a3]
  .rw[if_neg (by simp[hm])];have hl:lt (p.getD m 0) (p.getD (m-1) 0)=true:=a4.resolve_left ⋯;by_cases h2:m>1
   .rw[if_pos h2];exact#[hp.below ⋯,hp.below ⋯,?_];cases c:lt (p.getD 0 0) (p.getD (m-1) 0) with
    | true=>show#[hp,⋯,a3]
    | false=>
     dsimp only;rw[if_neg B3];have all:∀ a b,0<=a->a<m->0<=b->b<m->Le lt (p.getD a 0) (p.getD b 0):=λ a b _ ha _ hb=>
      o.tr _ _ _ (a3 a (m-1) ⋯ ⋯) (o.tr _ _ _ c (a3 0 b ⋯ hb))
     have e:=rev_eq o hp (i:=0) (j:=m) ⋯ all;exact Z5 o (nc hp 0 m) ⋯ ⋯ (λ i j A7 hj=>o.tr _ _ _ (e j).1 (o.tr _ _ _ (all _ _ (A2 _) hj (A2 _) ⋯) (e i).2)) ?_;rw[ng hp ⋯,ng hp ⋯,if_neg ⋯,if_pos ⋯];cases q:lt (p.getD m 0) (p.getD (0+m-1-(m-1)) 0) with
     | true=>rfl
     | false=>
      have:=o.tr _ _ _ (all (m-1) (0+m-1-(m-1)) (A2 _) ⋯ (A2 _) ⋯) q;unfold Le at this;rw[this] at hl;cases hl
   .rw[if_neg h2];have e:m=1:=⋯;subst e;exact Z5 o hp (Ak _) ⋯ (λ i j A7 hj=>?_) hl;have:i=j:=⋯;subst this;show o.refl _
 .have:i=j:=⋯;subst this;show o.refl _
theorem i8 {p:Array Nat}{k:Nat}(hp:yW n p) (hk:k<n) (hs:wY lt p k) (o:Ord lt):∀ (f l r:Nat),r-l<=f->l<=r->r<=k->(∀ i,i<l->Le lt (p.getD i 0) (p.getD k 0))->(∀ i,r<=i->i<k->lt (p.getD k 0) (p.getD i 0)=true)->
  yr n lt (kas_place p k f l r) λ m=>m<=k/\(∀ i,i<m->Le lt (p.getD i 0) (p.getD k 0))/\(∀ i,m<=i->i<k->lt (p.getD k 0) (p.getD i 0)=true)
 | 0,l,r,h0,h1,h2,ha,hb=>by
  have:l=r:=⋯;subst this;show#[h2,ha,hb]
 | f+1,l,r,h0,h1,h2,ha,hb=>by
  unfold kas_place;by_cases CQ:l≥r
  .rw[if_pos CQ];have:l=r:=⋯;subst this;show#[h2,ha,hb]
  .rw[if_neg CQ];exact#[hp.below hk,hp.below ⋯,?_];cases c:lt (p.getD k 0) (p.getD ((l+r)/2) 0) with
   | true=>
    dsimp only;rw[if_pos rfl];exact i8 hp hk hs o f l ((l+r)/2) ⋯ ⋯ ⋯ ha λ i hi D3=>?_;cases q:lt (p.getD k 0) (p.getD i 0) with
    | true=>rfl
    | false=>
     have:=o.tr _ _ _ (hs ((l+r)/2) i hi D3) q;unfold Le at this;rw[this] at c;cases c
   | false=>
    dsimp only;rw[if_neg B3];exact i8 hp hk hs o f ((l+r)/2+1) r ⋯ ⋯ h2 (λ i hi=>?_) hb;show o.tr _ _ _ (hs i ((l+r)/2) ⋯ ⋯) c
theorem Yn (o:Ord lt):∀ (f:Nat) (p:Array Nat) (k:Nat),yW n p->k+f=n->wY lt p k->yr n lt (kas_bin f p k) λ r=>yW n r/\wY lt r n
 | 0,p,k,hp,h1,hs=>by
  have:k=n:=⋯;subst this;show#[hp,hs]
 | f+1,p,k,hp,h1,hs=>by
  exact yr.bind (yr.mono ?_ (i8 hp ⋯ hs o k 0 k ⋯ (A2 _) (Ak _) (λ i hi=>absurd hi (Nat.not_lt_zero _)) λ i hi D3=>absurd D3 ⋯));rintro l ⟨a1,a2,a3⟩;exact Yn o f _ (k+1) (Array.Perm.trans (bubble_perm _ _ _) hp) ⋯ λ i j A7 hj=>?_;have ev:∀ x,(bubble p k (k-l)).getD x 0=if x=l then p.getD k 0 else if l<x/\x<=k then p.getD (x-1) 0 else p.getD x 0:=λ x=>by
   have e:=getElem?_bubble (xs:=p) (src:=k) (by rw[hp.size];lia) (k-l) ⋯ x;rw[show k-(k-l)=l by lia] at e;split
   .rename_i h;rw[if_pos h] at e;show nQ e
   .rename_i h;rw[if_neg h] at e;split
    .rename_i h';rw[if_pos h'] at e;show nQ e
    .rename_i h';rw[if_neg h'] at e;show nQ e
  rw[ev i,ev j];by_cases hi:i=l
  .rw[if_pos hi];by_cases HK:j=l
   .rw[if_pos HK];show o.refl _
   .rw[if_neg HK,if_pos #[⋯,⋯]];show o.as _ _ (a3 (j-1) ⋯ ⋯)
  .rw[if_neg hi];by_cases HK:j=l
   .rw[if_pos HK,if_neg ⋯];show a2 i ⋯
   .rw[if_neg HK];by_cases hi2:l<i/\i<=k
    .rw[if_pos hi2,if_pos #[⋯,⋯]];show hs _ _ ⋯ ⋯
    .rw[if_neg hi2];by_cases hj2:l<j/\j<=k
     .rw[if_pos hj2];show hs _ _ ⋯ ⋯
     .rw[if_neg hj2];show hs _ _ A7 ⋯
theorem VL (o:Ord lt) (h1:1<=n):yr n lt (kas_sort n) λ r=>yW n r/\wY lt r n:=by
 have hp:yW n (List.range n).toArray:=Array.Perm.refl _;exact yr.bind (yr.mono ?_ (K0 o hp h1));rintro⟨m,p⟩ ⟨a1,a2,a3⟩;dsimp only at a1 a2 a3 ⊢;by_cases hm:m<n
 .rw[if_pos hm];exact Yn o _ p (max m 1) a1 ⋯ ?_;by_cases h0:m=0
  .subst h0;intro i j A7 hj;have:i=j:=⋯;subst this;show o.refl _
  .rw[show max m 1=m by lia];show a3
 .rw[if_neg hm];have:m=n:=⋯;subst this;show#[a1,a3]
end
end L4
namespace L4
open PySem PySem.W PySem.Calls PyProof.Rows
section
variable {prog:Program}{w:World}{A:Around}{E:Af}{s:Shared}
def Core (prog:Program) (w:World) (A:Around) (E:Af) (vs:Ae) (Out:Array Value->Prop) (s6:Shared):Prop:=
 wpAny (model prog w) A (keyKind' vs.toArray) (fun κ s'=>s'=s6/\wpAny (model prog w) A ((sortRuns').run (SortSt.mk' κ (vs.toArray.zip vs.toArray) [].toArray 7 none))
  (λ r Iv=>Iv=s6/\failedOf r.2=none/\Out ((arrOf r.2).map (·.2))/\(arrOf r.2).size=vs.length) E s') E s6
def NS {a:Addr}{vs:Ae}{n:Nat}{P:PySem.Fin->Shared->Prop}{Out:Array Value->Prop}(ho:s.heap.get? a=↑(seqObj "list" vs.toArray n)) (hz:vs.length<=sizeLine)
  (core:2<=vs.length->∀ s6:Shared,(∀ b o,b≠a->s.heap.get? b=↑o->s6.heap.get? b=↑o)->Core prog w A E vs Out s6) (short:vs.length<2->Out vs.toArray)
  (fin:∀ out:Array Value,Out out->out.size=vs.length->P (.done (.ret .none)) { s with heap:=sortedHeap s.heap a vs out }):
  wpAny (model prog w) A (Builtin.«list.sort» #[[.ref a],[]]) P E s:=by
 have ha:a<s.heap.objs.size:=Ap ho;obtain⟨e1,g1⟩:∃ e1,(s.heap.update a (Obj.mapSeq λ _=>[].toArray)).get? a=↑(seqObj "list" [].toArray e1):=#[_,get?_update_seq ho (λ _=>[].toArray)];have hz':vs.toArray.size<=sizeLine:=by rw[AB];show hz
 have g6:(((s.heap.update a (Obj.mapSeq λ _=>[].toArray)).push (seqObj "tuple" vs.toArray 0)).push (seqObj "list" [].toArray 0)).get? a=↑(seqObj "list" [].toArray e1):=za1 _ (za1 _ g1);have keep:∀ b o,b≠a->s.heap.get? b=↑o->(((s.heap.update a (Obj.mapSeq λ _=>[].toArray)).push (seqObj "tuple" vs.toArray 0)).push (seqObj "list" [].toArray 0)).get? b=↑o:=
  λ b o hb e=>za1 _ (za1 _ (by rw[zaP _ _ _ _ hb];show e))
 rw[list_sort_plain];exact gV (listItems_at ho rfl (gV (listUpdate_at ho rfl (gV (seqEpoch_at g1 rfl (gV (wpAny_newTuple (gV (wpAny_newList (za7 ?_))) (by exists hz))))) hz' (A2 _))));by_cases h2:vs.toArray.size<2
 .rw[if_pos h2,if_pos h2];have e2:(arrOf (SortSt.mk' general' (vs.toArray.zip vs.toArray) [].toArray 7 none)).map (·.2)=vs.toArray:=by
   change (vs.toArray.zip vs.toArray).map (·.2)=vs.toArray;apply Array.ext #[];intro i h1 h2;simp
  exact gV (Ad ?_);dsimp only;rw[StateT.run_pure];exact gV (Ad ?_);dsimp only;exact gV (seqEpoch_at g6 rfl (gV (listUpdate_at g6 rfl ?_ (A2 _) ?_)))
  .simp![bne_self_eq_false,Bh,if_false];have q:=fin _ (e2▸short (by exists h2)) (by rw[e2];simp);show Ad q
  .change (((arrOf (SortSt.mk' general' (vs.toArray.zip vs.toArray) [].toArray 7 none)).map (·.2))).size<=sizeLine+1;rw[e2];lia
 .rw[if_neg h2,if_neg h2];have h2':2<=vs.length:=by exists h2
  exact gV (za3 (core h2' _ keep) (fun κ s7 #[hs,h7]=>?_) λ _ _ z=>z);subst hs;exact gV (za3 h7 (λ r s8 #[hs,hf,EJ,hsz]=>?_) λ _ _ z=>z);subst hs;obtain⟨⟨⟩,st⟩:=r;exact gV (seqEpoch_at g6 rfl (gV (listUpdate_at g6 rfl ?_ (A2 _) ?_)))
  .have HU:failedOf st=none:=hf;rw[HU];simp![bne_self_eq_false,Bh,if_false];show Ad (fin _ EJ (by rw[Dh];show hsz))
  .change ((arrOf st).map (·.2)).size<=sizeLine+1;rw[Dh];have:(arrOf st).size=vs.length:=hsz;lia
def VJ {h:Heap}{vs:Ae}(out:Aq):∃ e,(sortedHeap (h.push (seqObj "list" vs.toArray 0)) h.objs.size vs out).get? h.objs.size=↑(seqObj "list" out e):=by
 have there:(h.push (seqObj "list" vs.toArray 0)).get? h.objs.size=↑(seqObj "list" vs.toArray 0):=AJ _ rfl;show#[_,get?_update_seq (za1 _ (za1 _ (get?_update_seq there λ _=>[].toArray))) λ _=>out]
def dH {a:Addr}{vs:Ae}{Q:Af}{Out:Array Value->Prop}{N:Addr->Prop}
  (C:∀ Q':List Value->Shared->Prop,(∀ h1 tk,(∀ b o,¬ N b->s.heap.get? b=↑o->h1.get? b=↑o)->s.heap.objs.size<=h1.objs.size->Q' vs { s with heap:=h1,toks:=tk })->wpAny (model prog w) A.in1 (collect (.ref a)) Q' E s) (hz:vs.length<=sizeLine)
  (core:2<=vs.length->∀ s6:Shared,(∀ b o,¬ N b->s.heap.get? b=↑o->s6.heap.get? b=↑o)->Core prog w A.in1.in1 E vs Out s6) (short:vs.length<2->Out vs.toArray)
  (fin:∀ (out:Aq) (h':Heap) (tk l:Nat),Out out->out.size=vs.length->s.heap.objs.size<=l->(∀ b o,¬ N b->s.heap.get? b=↑o->h'.get? b=↑o)->(∃ e,h'.get? l=↑(seqObj "list" out e))->Q (.ref l) { s with heap:=h',toks:=tk }):
  wpAny (model prog w) A (call (.builtin "sorted") [.ref a]) Q E s:=by
 exact Calls.call_function_entry kind_sorted plain_sorted entry_sorted (args_sorted1 _) ?_;unfold Builtin.«sorted»;exact gV (m:=checkCount "sorted" 1 1 _) (Ad (gV (C _ λ h1 tk k1 k2=>gV (wpAny_newList ?_ hz))));have hoL:(h1.push (seqObj "list" vs.toArray 0)).get? h1.objs.size=↑(seqObj "list" vs.toArray 0):=AJ _ rfl;change wpAny _ _ _ _ _ { s with heap:=h1.push (seqObj "list" vs.toArray 0),toks:=tk };exact gV (za7 (zaB slot_list_sort #[_,hoL,rfl] entry_list_sort (NS hoL hz (λ h2 s6 k=>core h2 s6 λ b o n q=>k b o (Aw (Ap (k1 b o n q))) (za1 _ (k1 b o n q))) short λ out g1 g2=>#[_,rfl,?_]) (args_list_sort _)));exact Ad #[_,rfl,fin out _ tk h1.objs.size g1 g2 k2 (λ b o n q=>?_) (VJ out)];have q1:=k1 b o n q;have hb:=Aw (Ap q1);unfold sortedHeap;rw[zaP _ _ _ _ hb];exact za1 _ (za1 _ ?_);rw[zaP _ _ _ _ hb];show za1 _ q1
end
end L4
namespace L4
open PySem PySem.W PySem.Calls PyProof.Rows L2
theorem hX:∀ a b:List Int,HT.lexLt a b=true->HT.lexLt b a=false
 | [],[],h=>by cases h
 | [],_::_,_=>rfl
 | _::_,[],h=>by cases h
 | x::a,y::b,h=>by
  rw[HT.tq] at h ⊢;by_cases e:x=y
  .subst e;rw[if_pos rfl] at h ⊢;show hX a b h
  .rw[if_neg e] at h;rw[if_neg (Ne.symm e)];have:=of_decide_eq_true h;show za5 ⋯
theorem hZ:∀ a b:List Int,HT.lexLt a b=false->HT.lexLt b a=false->a=b
 | [],[],_,_=>rfl
 | [],_::_,h,_=>by cases h
 | _::_,[],_,h=>by cases h
 | x::a,y::b,h,h'=>by
  rw[HT.tq] at h h';by_cases e:x=y
  .subst e;rw[if_pos rfl] at h h';rw[hZ a b h h']
  .rw[if_neg e] at h;rw[if_neg (Ne.symm e)] at h';have h1:=of_decide_eq_false h;have h2:=of_decide_eq_false h';lia
theorem hV:∀ a b c:List Int,HT.lexLt b a=false->HT.lexLt c b=false->HT.lexLt c a=false
 | [],[],[],_,_=>rfl
 | [],[],_::_,_,h=>h
 | [],_::_,[],_,h=>by cases h
 | [],_::_,_::_,_,_=>rfl
 | _::_,[],_,h,_=>by cases h
 | _::_,_::_,[],_,h=>by cases h
 | x::a,y::b,z::c,h,h'=>by
  rw[HT.tq] at h h' ⊢;by_cases e1:y=x
  .subst e1;rw[if_pos rfl] at h;by_cases e2:z=y
   .subst e2;rw[if_pos rfl] at h' ⊢;show hV a b c h h'
   .rw[if_neg e2] at h' ⊢;show h'
  .rw[if_neg e1] at h;have h1:=of_decide_eq_false h;by_cases e2:z=y
   .subst e2;rw[if_neg e1];show h
   .rw[if_neg e2] at h';have h2:=of_decide_eq_false h';rw[if_neg ⋯];show za5 ⋯
theorem iC {α:Type}{r:α->α->Prop}(an:∀ a b,r a b->r b a->a=b):∀ {l₁ l₂:List α},l₁.Perm l₂->l₁.Pairwise r->l₂.Pairwise r->l₁=l₂
 | [],l₂,h,_,_=>(List.nil_perm.mp h).symm
 | a::l₁,[],h,_,_=>absurd (List.perm_nil.mp h) #[]
 | a::l₁,b::l₂,h,h1,h2=>by
  have Cu:a=b:=by
   have ha:a∈b::l₂:=h.mem_iff.mp Av;have hb:b∈a::l₁:=h.mem_iff.mpr Av;rcases Ao.mp ha with e | ha
   .show e
   .rcases Ao.mp hb with e | hb
    .show e.symm
    .show an _ _ (List.rel_of_pairwise_cons h1 hb) (List.rel_of_pairwise_cons h2 ha)
  subst Cu;rw[iC an (List.Perm.cons_inv h) (Br.mp h1).2 (Br.mp h2).2]
def xm (rows:List (List Int)):List (List Int):=rows.mergeSort λ a b=>!HT.lexLt b a
def uX (rows:List (List Int)):(xm rows).Perm rows:=List.mergeSort_perm _ _
def lH (rows:List (List Int)):(xm rows).Pairwise λ a b=>HT.lexLt b a=false:=by
 have:=List.pairwise_mergeSort (le:=λ a b:List Int=>!HT.lexLt b a) (λ a b c h1 h2=>by simp at h1 h2 ⊢;show hV a b c h1 h2)
  (λ a b=>by
   cases h:HT.lexLt b a with
   | false=>simp
   | true=>simp[hX b a h]) rows
 show this.imp λ h=>by exists h
def jZ {rows out:List (List Int)}(hp:out.Perm rows) (hs:out.Pairwise λ a b=>HT.lexLt b a=false):out=xm rows:=
 iC (λ a b h1 h2=>hZ a b h2 h1) (hp.trans (uX rows).symm) hs (lH rows)
def oZ (rows:List (List Int)) (i j:Nat):Bool:=HT.lexLt (rows.getD i []) (rows.getD j [])
def Uj (rows:List (List Int)):Ord (oZ rows):=#[λ _ _ _ h1 h2=>hV _ _ _ h1 h2,λ _ _ h=>hX _ _ h]
section
variable {prog:Program}{w:World}{A:Around}{E:Af}{s:Shared}{Q:Bool->Shared->Prop}
theorem aq {b:Bool}:∀ (ns ms:List Int) (us ws:Ae) (i:Nat),IntsAre us ns->IntsAre ws ms->Q (HT.lexLt ns ms) s->KatLex prog w A b (decide (ns.length<ms.length)) Q (us.zip ws) i s
 | [],[],_,_,_,.nil,.nil,h=>kat_nil (by simpa [HT.lexLt] using h)
 | [],_::_,_,_,_,.nil,.cons _ _ _,h=>kat_nil (by simpa [HT.lexLt] using h)
 | _::_,[],_,_,_,.cons _ _ _,.nil,h=>kat_nil (by simpa [HT.lexLt] using h)
 | n::ns,m::ms,_,_,i,.cons _ t hu,.cons _ u hw,h=>by
  rw[HT.tq] at h;exact kat_cons (SeqAt.EqAt.int_int n t m u prog w _ _ (kat_go (λ e=>kat_yes ?_) λ e=>kat_no ?_))
  .have e':n=m:=by exists e
   rw[if_pos e'] at h;rw[show decide ((n::ns).length<(m::ms).length)=decide (ns.length<ms.length) by simp];show aq ns ms _ _ (i+1) hu hw h
  .have e':¬ n=m:=by exists e
   rw[if_neg e'] at h;cases b&&i == 0 with
   | true=>show kat_lt_int h
   | false=>show kat_one _ _ (lt_int h)
def qJ (h:Heap):List Value->List (List Int)->Prop:=Paired λ v r=>r≠[]/\∃ b o Aa n,v=.ref b/\h.get? b=↑o/\o.cls=.type "tuple"/\o.data=.seq Aa n/\IntsAre Aa.toList r
theorem qJ.Zi {h:Heap}:∀ {vs:Ae}{rows:List (List Int)},qJ h vs rows->∃ fs,KatTups h vs fs/\fs.length=vs.length/\∀ v∈fs,∃ n t,v=Value.int n t
 | _,_,.nil=>#[[],KatTups.nil,rfl,λ _ hv=>absurd hv #[]]
 | _,_,.cons #[Ay,b,o,Aa,n,hv,ho,hc,hd,hi] r=>by
  let#[fs,h1,h2,h3]:=qJ.Zi r;subst hv;let#[Aa]:=Aa;cases hi with
  | nil=>show absurd rfl Ay
  | cons k t _=>show#[.int k t::fs,KatTups.cons ho hc hd rfl h1,by simp[h2],λ v hv=>(Ao.mp hv).elim (λ e=>#[k,t,e]) (h3 v)]
theorem Paired.at' {α β:Type}{F:α->β->Prop}:∀ {l₁:List α}{l₂:List β}{i:Nat},Paired F l₁ l₂->i<l₁.length->∀ (d:α) (e:β),F (l₁.getD i d) (l₂.getD i e)
 | _,_,_,.nil,h,_,_=>absurd h #[]
 | _,_,0,.cons r _,_,_,_=>r
 | _,_,i+1,.cons _ t,h,d,e=>by exists Paired.at' (i:=i) t (by exists h) d e
def qJ.ask {vs:Ae}{rows:List (List Int)}{b:Bool}(r:qJ s.heap vs rows) {i j:Nat}(hi:i<vs.length) (hj:j<vs.length) {C:Bool->Shared->Prop}(h:C (oZ rows i j) s):kas_ask prog w A (tuples' b) vs i j C s:=by
 let#[_,b1,o1,its1,n1,e1,g1,_,d1,q1]:=Paired.at' r hi Value.none [];let#[_,b2,o2,FQ,n2,e2,g2,_,d2,q2]:=Paired.at' r hj Value.none [];unfold kas_ask;rw[e1,e2];exact kat_lt g1 d1 g2 d2 ?_;have l1:=q1.length;have l2:=q2.length;rw[BG] at l1 l2;rw[l1,l2];show aq _ _ _ _ 0 q1 q2 h
theorem eV {α:Type}{n:Nat}{lt:Nat->Nat->Bool}{cmp:Nat->Nat->(Bool->Shared->Prop)->Shared->Prop}{Q:α->Shared->Prop}(hc:∀ i j C,i<n->j<n->C (lt i j) s->cmp i j C s):∀ {t:KasT α},yr n lt t (λ a=>Q a s)->t.kasWp cmp Q s
 | .ret _,h=>h
 | .ask i j _,h=>hc i j _ h.1 h.2.1 (eV hc h.2.2)
def fV (vs:Ae) (rows:List (List Int)) (out:Aq):Prop:=
 ∃ ps:List (Value×List Int),ps.Perm (vs.zip rows)/\out.toList=ps.map (·.1)/\(ps.map (·.2)).Pairwise λ a b=>HT.lexLt b a=false
theorem Wm {α β:Type}{l:List α}{m:List β}(h:l.length=m.length) (a:α) (b:β):(List.range l.length).map (λ i=>(l.getD i a,m.getD i b))=l.zip m:=by
 exact En (by simp;lia) λ i h1 h2=>?_;have h3:i<l.length/\i<m.length:=by simp at h1;lia
 simp[h3.1,h3.2]
theorem VF {rows:List (List Int)}{p:Array Nat}{n:Nat}(hn:p.size=n) (h:wY (oZ rows) p n):(p.toList.map λ i=>rows.getD i []).Pairwise λ a b=>HT.lexLt b a=false:=by
 rw[CD,Dg];intro i j hi hj A7;have:=h i j (BV A7) (by rw[<- hn];exists hj);simp![BG] at hi hj;unfold Le oZ at this;simpa [DU,hi,hj] using this
theorem K1 {vs:Ae}{rows:List (List Int)}(r:qJ s.heap vs rows) (h2:2<=vs.length) (G0:vs.length<64):Core prog w A E vs (fV vs rows) s:=by
 let#[fs,t,hl,hf]:=r.Zi;unfold Core;exact kat_kind (T:=.type "int") t ⋯ (λ v hv=>?_) rfl #[rfl,?_]
 .let#[n,t,rfl]:=hf v hv;show Looks.of_pure rfl
 .exact kat_run (ks:=vs) (Q:=λ st Iv=>Iv=s/\failedOf st=none/\fV vs rows ((arrOf st).map (·.2))/\(arrOf st).size=vs.length) (G:=λ p Iv=>Iv=s/\yW vs.length p/\wY (oZ rows) p vs.length) rfl h2 G0 (λ p st s' hs ha DA hg=>?_) ?_
  .let#[h1,h3,h4]:=hg;exact#[h1,DA,#[p.toList.map λ i=>(vs.getD i Value.none,rows.getD i []),?_,?_,?_],by rw[ha,Dh];show hs]
   .rw[<- Wm (Paired.length r) Value.none []];have:=Array.Perm.toList h3;show List.Perm.map _ (by exists this)
   .rw[kat_snds rfl ha,AU];rfl
   .rw[AU];show VF hs h4
  .show eV (λ i j C hi hj hC=>r.ask hi hj hC) (yr.mono (λ p hp=>#[rfl,hp]) (VL (Uj rows) ⋯))
end
section
variable {X:Cx}
def Paired.perm {α β:Type}{F:α->β->Prop}{l l':List α}(p:l'.Perm l):∀ {m:List β},Paired F l m->∃ m',m'.Perm m/\Paired F l' m':=by
 induction p with
 | nil=>intro m h;show#[m,.refl _,h]
 | cons x _ ih=>
  intro m h;cases h with
  | cons a h=>
   let#[m',h1,h2]:=ih h;show#[_,h1.cons _,.cons a h2]
 | swap x y l=>
  intro m h;cases h with
  | cons a h=>
   cases h with
   | cons b h=>show#[_,.swap _ _ _,.cons b (.cons a h)]
 | trans _ _ ih1 ih2=>
  intro m h;let#[m1,h1,h2]:=ih2 h;let#[m2,h3,h4]:=ih1 h2;show#[m2,h3.trans h1,h4]
abbrev Y2 (K:Ac) (H:Hp) (v:V) (r:List Int):Prop:=r≠[]/\∃ b,v=V.ref b/\zO K H b (r.map V.int)
abbrev rP (K:Ac) (H:Hp) (ys:List V) (rows:List (List Int)):Prop:=Paired (Y2 K H) ys rows
abbrev VR (K:Ac) (H:Hp):List Value->List (V×List Int)->Prop:=Paired λ u q=>RelV q.1 u/\Y2 K H q.1 q.2
theorem VR.of {K:Ac}{H:Hp}:∀ {ys:List V}{vs:Ae}{rows:List (List Int)},Vals ys vs->rP K H ys rows->VR K H vs (ys.zip rows)
 | _,_,_,.nil,.nil=>.nil
 | _,_,_,.cons r t,.cons r' t'=>.cons #[r,r'] (VR.of t t')
abbrev m7 (qs:List (V×List Int)) (H:Hp) (Q:VK):Prop:=∀ p (ps:List (V×List Int)),H p=none->ps.Perm qs->(ps.map (·.2)).Pairwise (λ a b=>HT.lexLt b a=false)->Q (.ref p) (upd H p (.lst (ps.map (·.1))))
def q_ {Fd:Ai}{O:L2.St}{H:Hp}{s:Shared}{a:Addr}{vs:Ae}{qs:List (V×List Int)}{Q:VK}(I:Inv X Fd O H s)
  (C:∀ Q':List Value->Shared->Prop,(∀ h1 tk,(∀ b o,¬ False->s.heap.get? b=↑o->h1.get? b=↑o)->s.heap.objs.size<=h1.objs.size->Q' vs { s with heap:=h1,toks:=tk })->wpAny (model X.prog X.w) X.A.in1 (collect (.ref a)) Q' X.xe s)
  (hv:VR X.K H vs qs) (G0:qs.length<64) (q:m7 qs H Q):wpAny (model X.prog X.w) X.A (call (.builtin "sorted") [.ref a]) (EP X Fd O Q) X.xe s:=by
 have hl:vs.length=qs.length:=Paired.length hv;have hz:qs.length<=sizeLine:=Bk (BV G0) ();have HD:∀ h6:Heap,(∀ b o,¬ False->s.heap.get? b=↑o->h6.get? b=↑o)->qJ h6 vs (qs.map (·.2)):=λ h6 k=>by
  clear q hl G0 hz C
  induction hv with
  | nil=>show .nil
  | cons g t ih=>
   exact .cons ?_ ih;let#[r1,Ay,b,e1,hb]:=g;rw[e1] at r1;cases r1;let#[FQ,rv2,#[o,e,hc,n,hd],_]:=I.tuple hb;show#[Ay,b,o,_,n,rfl,k _ _ id e,hc,hd,by exists intsAre_of rv2]
 exact dH (Out:=fV vs (qs.map (·.2))) C ⋯ (λ h2 s6 k=>K1 (HD _ k) h2 ⋯) (λ h1=>#[vs.zip (qs.map (·.2)),.refl _,by rw[List.map_fst_zip (by simp;lia)],?_]) λ out h' tk p ho hs hp k Fb=>?_
 .rw[List.map_snd_zip (by simp;lia),Dg];intro i j hi hj A7;simp at hi hj;lia
 .let#[ps,g1,g2,g3]:=ho;let#[e,he]:=Fb;have z:Paired (λ p q=>RelV q.1 p.1/\p.2=q.2) (vs.zip (qs.map (·.2))) qs:=by
   clear g1 hs hl G0 hz C HD q
   induction hv with
   | nil=>show .nil
   | cons a _ ih=>show .cons #[a.1,rfl] ih
  let#[Iw,q1,q2]:=Paired.perm g1 z;have f:Vals (Iw.map (·.1)) (ps.map (·.1))/\Iw.map (·.2)=ps.map (·.2):=by
   clear q1 g1 g2 g3
   induction q2 with
   | nil=>show#[.nil,rfl]
   | cons a _ ih=>show#[.cons a.1 ih.1,by rw[Ax,Ax,ih.2,a.2]]
  exact#[.ref p,_,I.laid (t':=tk) (o:=.lst (Iw.map (·.1))) (λ b o e=>k b o id e) hp #[?_,out.toList,e,by rw[g2];show f.1,by exists he],rfl,q p Iw (I.zl.fresh hp) q1 (by rw[f.2];show g3)];rw[AH,q1.length_eq];show hz
end
end L4
namespace L2
open PySem PySem.Spec PyProof.Rows
def xx (ty T:String):Bool:=ty == T||(ty == "bool"&&T == "int")
def l6 (ty T:String):Bool:=PySem.W.kitMeta T&&decide ((fastBuiltinMro ty).map (λ l=>l.contains (Value.type T))=↑(xx ty T))
def WZ:(["NoneType","bool","int","str","tuple","list","dict"].all λ ty=>["int","bool","tuple","list","str"].all λ T=>l6 ty T)=true:=by decide +kernel
def Mo {K:Ac}{ty T:String}(h:l6 ty T=true):PySem.W.kitOne K (.type ty) (.type T)=↑(xx ty T):=by
 unfold l6 at h;rw[Bc] at h;unfold PySem.W.kitOne;split
 .rename_i e;have e':ty=T:=by have:=eq_of_beq e;injection this
  subst e';simp[xx]
 .change (if PySem.W.kitMeta T=true then PySem.W.subIn K (.type ty) (.type T) else none)=_;rw[if_pos h.1];show of_decide_eq_true h.2
def Y1 (K:Ac) (H:Hp):V->String->Prop
 | .zo,t=>t="NoneType"
 | .bl _,t=>t="bool"
 | .int _,t=>t="int"
 | .str _,t=>t="str"
 | .ref a,t=>(t="tuple"/\∃ xs,zO K H a xs)\/(t="list"/\∃ xs,zH K H a xs)\/(t="dict"/\∃ Ab,H a=↑(.dK Ab))
 | _,_=>False
def Jg {X:Cx}:y7 X (.builtin "isinstance") (λ xs H Q=>∃ x T ty,xs=[x,.ty T]/\Y1 X.K H x ty/\l6 ty T=true/\Q (.bl (xx ty T)) H):=by
 intro Fd s O H xs us Q I r h;let#[x,T,ty,rfl,hx,hT,q]:=h;let#[u,c,rfl,ru,rc]:=vals2 r;cases (show c=Value.type T from rc);have e:PySem.W.kitOne X.K (.type ty) (.type T)=↑(xx ty T):=Mo hT;have fin:∀ tk,EP X Fd O Q (.bool (xx ty T)) { s with toks:=tk }:=λ tk=>#[.bl _,H,I.tok tk,rfl,q];cases x with
 | zo=>cases (show u=Value.none from ru);cases (show ty=_ from hx);show PySem.W.kia_one PySem.W.kitx_none I.yx True.intro e (λ z=>nomatch z) fin
 | bl y=>cases (show u=Value.bool y from ru);cases (show ty=_ from hx);show PySem.W.kia_one PySem.W.kitx_bool I.yx True.intro e (λ z=>nomatch z) fin
 | int i=>let#[t,rfl]:=(show ∃ t,u=Value.int i t from ru);cases (show ty=_ from hx);show PySem.W.kia_one PySem.W.kitx_int I.yx True.intro e (λ z=>nomatch z) fin
 | str y=>let#[t,rfl]:=(show ∃ t,u=Value.str y t from ru);cases (show ty=_ from hx);show PySem.W.kia_one PySem.W.kitx_str I.yx True.intro e (λ z=>nomatch z) fin
 | ref a=>
  cases (show u=Value.ref a from ru);rcases hx with ⟨rfl,ys,hq⟩ | ⟨rfl,ys,hq⟩ | ⟨rfl,Ab,hq⟩
  .let#[Aa,_,#[o,h1,h2,_],_]:=I.tuple hq;show PySem.W.kia_one PySem.W.kitx_tuple I.yx #[o,h1,h2] e (λ z=>nomatch z) fin
  .let#[Aa,_,#[o,n,h1,h2,_],_]:=I.list hq;show PySem.W.kia_one PySem.W.kitx_list I.yx #[o,h1,h2] e (λ z=>nomatch z) fin
  .let#[_,_,vs,_,p]:=(show yI X.prog X.w H s.heap a (.dK Ab) from I.zl a _ hq)
   let#[o,es,ep,h1,h2,_]:=p;show PySem.W.kia_one PySem.W.kitx_dict I.yx #[o,h1,h2.1] e (λ z=>nomatch z) fin
 | _=>show hx.elim
end L2
namespace L3
open PySem PySem.Spec L2
open PyProof.Rows hiding St
section
variable {X:Cx}{K:Ac}{a e:Expr}{es:List Expr}{te:zq}{tA:zZ}{pos p q:Pos}
def RJ (hm:X.mg "len"=none) (ha:yH X (e::es) tA) (hg:Gl X "len") (he:AA X e es) (Am:AF X pos es):PD X (.Call (.Name "len" p) (e::es) [] pos) (xc ud tA):=
 u6 (u5 (Jd.or Jc) hg hm PySem.boot_len ha.pa () () he Am) ud.mo ud.fits ha.mo
def RI (hm:X.mg "list"=none) (ha:yH X (e::es) tA) (hg:Gl X "list") (he:AA X e es) (Am:AF X pos es):PD X (.Call (.Name "list" p) (e::es) [] pos) (xc uc tA):=
 u6 (nq Ja hg hm PyProof.Rows.boot_list ha.pa () () he Am) uc.mo uc.fits ha.mo
def Rq (hm:X.mg "tuple"=none) (ha:yH X (e::es) tA) (hg:Gl X "tuple") (he:AA X e es) (Am:AF X pos es):PD X (.Call (.Name "tuple" p) (e::es) [] pos) (xc v_ tA):=
 u6 (nq KL hg hm PyProof.Rows.boot_tuple ha.pa () () he Am) v_.mo v_.fits ha.mo
abbrev Zk:xh:=vB λ i j=>.int (if j>i then j else i)
abbrev Zj:xh:=vB λ i j=>.int (if j<i then j else i)
def RB (hm:X.mg "max"=none) (ha:yH X (e::es) tA) (hc:X.calm=true) (hg:Gl X "max") (he:AA X e es) (Am:AF X pos es):PD X (.Call (.Name "max" p) (e::es) [] pos) (xc Zk tA):=
 u6 (u5 (K_ hc) hg hm boot_max ha.pa () () he Am) vB.mo (vB.fits λ _ _ _=>by simp![ze]) ha.mo
def R8 (hm:X.mg "min"=none) (ha:yH X (e::es) tA) (hc:X.calm=true) (hg:Gl X "min") (he:AA X e es) (Am:AF X pos es):PD X (.Call (.Name "min" p) (e::es) [] pos) (xc Zj tA):=
 u6 (u5 (KZ hc) hg hm boot_min ha.pa () () he Am) vB.mo (vB.fits λ _ _ _=>by simp![ze]) ha.mo
def w6 (r:List Int):D:=.tup (r.map D.int)
theorem zh.lS {H:Hp}:∀ {ps:List (V×List Int)},(∀ q∈ps,ze K H (w6 q.2) q.1)->zh K H ((ps.map (·.2)).map w6) (ps.map (·.1))
 | [],_=>.nil
 | q::ps,h=>.cons (h q Av) (zh.lS λ q hq=>h q (AD _ hq))
theorem zh.lj {H:Hp}:∀ {rows:List (List Int)}{ys:List V},zh K H (rows.map w6) ys->∀ q∈ys.zip rows,ze K H (w6 q.2) q.1
 | [],ys,_,q,hq=>by simp at hq
 | r::rows,ys,h,q,hq=>by
  rw[Ax] at h;simp![zh] at h;let#[x,ys',rfl,h1,h3]:=h;rcases Ao.mp hq with e | hq
  .subst e;show h1
  .show zh.lj h3 q hq
theorem lK {H:Hp}:∀ {rows:List (List Int)}{ys:List V},zh K H (rows.map w6) ys->(∀ r∈rows,r≠[])->L4.rP K H ys rows
 | [],ys,h,_=>by simp![Bj,zh] at h;subst h;show .nil
 | r::rows,ys,h,hn=>by
  rw[Ax] at h;simp![zh,w6,ze] at h;let#[x,ys',rfl,#[a,xs,rfl,g1,g2],h3]:=h;rw[g2.ints] at g1;show .cons #[hn r Av,a,rfl,g1] (lK h3 λ r' hr=>hn r' (AD _ hr))
def Ra {tg:Expr}(hm:X.mg "range"=none) (ha:yH X [a] tA) (hg:Gl X "range") (hs:starEach [a] X.env=[(false,eval a X.env)]):wZ X tg (.Call (.Name "range" p) [a] [] pos) (gh tA):=Rb (Ta hg hm ha.pa hs) ha.mo
def sZ (d:D) (S:SS):Option String:=match d with
 | .zo=>↑"NoneType"
 | .bl _=>↑"bool"
 | .int _=>↑"int"
 | .str _=>↑"str"
 | .tup _=>↑"tuple"
 | .xi _=>↑"list"
 | .ref p=>match S p with
  | some (.lst _)=>↑"list"
  | some (.zC _)=>↑"dict"
  | none=>none
 | .err _ _ _=>none
def pZ (T:String) (te:zq):zq:=fun L S Q=>te L S λ x S1=>match sZ x S1 with
 | some ty=>Q (.bl (xx ty T)) S1
 | none=>False
theorem sZ.ok {H:Hp}{d:D}{v:V}{S:SS}{ty:String}(r:ze K H d v) (p:zB K H S) (h:sZ d S=↑ty):Y1 K H v ty/\ty∈["NoneType","bool","int","str","tuple","list","dict"]:=by
 cases d with
 | err _ _ _=>cases h
 | tup ds=>
  simp![ze] at r;let#[a,xs,rfl,g1,_]:=r;cases h;show#[.inl #[rfl,xs,g1],#[]]
 | xi ds=>
  simp![ze] at r;let#[a,xs,rfl,g1,_]:=r;cases h;show#[.inr (.inl #[rfl,xs,g1.sq]),#[]]
 | ref a=>
  simp![ze] at r;subst r;unfold sZ at h;dsimp only at h;split at h
  .rename_i e;cases h;let#[xs,g1,_]:=p _ _ e;show#[.inr (.inl #[rfl,xs,zH.of g1]),#[]]
  .rename_i e;cases h;let#[xs,g1,_]:=p _ _ e;show#[.inr (.inr #[rfl,xs,g1]),#[]]
  .cases h
 | _=>simp![ze] at r;subst r;cases h;show#[rfl,#[]]
def lT {T:String}{x:Str}(hT:T∈["int","bool","tuple","list","str"]) (hm:X.mg "isinstance"=none) (hm2:X.mg x=none) (hv:bootBuiltins x=↑(.type T)) (Hh:Gl X x) (hn:x≠"__name__") (hd:(x == ("__debug__":Str))=false) (he:PD X e te) (hg:Gl X "isinstance")
  (h1:AA X e [.Name x q]) (h2:AF X pos [.Name x q]) (h3:AA X (.Name x q) []):
  PD X (.Call (.Name "isinstance" p) [e,.Name x q] [] pos) (pZ T te):=by
 exact#[fun L S Q Q' hq z=>he.mo L S _ _ (λ y S1 z=>?_) z,PE.imp (u5 Jg hg hm boot_isinstance (u_ he.pe (u_ (c_ (v:=.ty T) Hh hm2 hv rfl hn hd) rh h3) h1) () () h1 h2) fun O H Q hu=>?_]
 .split at z
  .show hq _ _ z
  .show z
 .let#[L,S,r1,r2,z]:=hu;exact zF.go he.mo r1 r2 z λ y S1 v H1 z1 q1 e1 p1=>?_;split at z1
  .rename_i ty ht;let#[g1,g2]:=sZ.ok q1 p1 ht;exact#[v,T,ty,rfl,g1,?_,z1 _ H1 (by simp![ze]) e1 p1];show B5.mp (B5.mp WZ ty g2) T hT
  .show z1.elim
def RS (T:Bt X.mg) (he:PD X e te) (hg:Gl X "isinstance") (Hh:Gl X "bool") (h1:AA X e [.Name "bool" q]) (h2:AF X pos [.Name "bool" q]) (h3:AA X (.Name "bool" q) []):
  PD X (.Call (.Name "isinstance" p) [e,.Name "bool" q] [] pos) (pZ "bool" te):=lT #[] T.isinstance T.bool PyProof.Rows.boot_bool Hh () () he hg h1 h2 h3
def RQ (T:Bt X.mg) (he:PD X e te) (hg:Gl X "isinstance") (Hh:Gl X "int") (h1:AA X e [.Name "int" q]) (h2:AF X pos [.Name "int" q]) (h3:AA X (.Name "int" q) []):
  PD X (.Call (.Name "isinstance" p) [e,.Name "int" q] [] pos) (pZ "int" te):=lT #[] T.isinstance T.int PyProof.Rows.boot_int Hh () () he hg h1 h2 h3
def RO (T:Bt X.mg) (he:PD X e te) (hg:Gl X "isinstance") (Hh:Gl X "tuple") (h1:AA X e [.Name "tuple" q]) (h2:AF X pos [.Name "tuple" q]) (h3:AA X (.Name "tuple" q) []):
  PD X (.Call (.Name "isinstance" p) [e,.Name "tuple" q] [] pos) (pZ "tuple" te):=lT #[] T.isinstance T.tuple PyProof.Rows.boot_tuple Hh () () he hg h1 h2 h3
def RD {o:Expr}{to:zq}{apos Aj:Pos}(ho:PD X o to) (he:PD X e te)
  (FZ:attributeBase o "append" X.env (eval o X.env)=eval o X.env)
  (AV:((backTo Aj (starEach [e] X.env)).all (λ x=>!x.1)&&(backToKw Aj (keywordEach [] X.env)).all (λ x=>x.1.isSome)
   && decide ([e].length+([]:List Keyword).length+(if ([]:List Keyword).isEmpty then 0 else 1)<30))=true)
  (Hg:(apos.endLine == Aj.line)=true) (hs:AA X e []) (GL:AF X Aj []):
  PD X (.Call (.Attribute o "append" apos) [e] [] Aj) (rM to te):=
 Qp (o:=o) (e:=e) (cZ PySem.F.plainAttrs_list PySem.F.slot_list_append PySem.F.type_list_append bM ho.pe (u_ he.pe rh hs) FZ AV Hg hs GL) ho.mo he.mo
structure FD (P:Program) (w:World) (K:Ac) (mg:Au) (base:Heap) (x:Str) (k:Nat) (ps:List Str) (sp:xR):Prop where
 ex:∃ (f:Addr) (fd:FuncData),yP P w K mg base y8 k f fd ps (uV K sp)/\mg x=↑(.ref f)/\PySem.W.keepIn K (.ref f)=true/\Binds K fd ps []
 mo:ox sp
def Qm {x:Str}{k:Nat}{ps:List Str}{sp:xR}(F:FD X.prog X.w X.K X.mg X.base x k ps sp) (hr:zN k X.A) (ha:yH X (e::es) tA) (hg:Gl X x) (A8:(x == ("__debug__":Str))=false)
  (he:AA X e es) (Am:AF X pos es):PD X (.Call (.Name x p) (e::es) [] pos) (kP sp tA):=by
 let#[#[f,fd,h1,h2,h3,h4],hm]:=F;show Qn (E:=E0) (TK h1 hr hg h2 h3 h4 .nil Qv ha.pa A8 he Am) hm ha.mo
end
def LP {S:SS}{p:Addr}{ds:List D}{Q:DK}(e:S p=↑(.lst ds)) (h:Q (.tup ds) S):v_ [.ref p] S Q:=by
 unfold v_;dsimp only;rw[e];show h
def LQ {S:SS}{d:D}{ds:List D}{Q:DK}(e:zK d S=↑ds) (h:∀ p,S p=none->Q (.ref p) (ups S p (.lst ds))):uc [d] S Q:=by
 unfold uc;dsimp only;rw[e];show h
def LR {S:SS}{d:D}{ds:List D}{Q:DK}(e:zK d S=↑ds) (h:Q (.int ds.length) S):ud [d] S Q:=by
 unfold ud;dsimp only;rw[e];show h
def Vh {S:SS}{p:Addr}{ds:List D}{Q:Bool->SS->Prop}(e:S p=↑(.lst ds)) (h:Q (!ds.isEmpty) S):vm (.ref p) S Q:=by
 unfold vm;dsimp only;rw[e];show h
def LV {S:SS}{p:Addr}{ds:List D}{i:Int}{d:D}{Q:DK}(e:S p=↑(.lst ds)) (e2:L2.zy ds i=↑d) (h:Q d S):xY (.ref p) (.int i) S Q:=by
 unfold xY;dsimp only;rw[e];dsimp only;rw[e2];show h
def LS {S:SS}{ds:List D}{i:Int}{d:D}{Q:DK}(e2:L2.zy ds i=↑d) (h:Q d S):xY (.tup ds) (.int i) S Q:=by
 unfold xY;dsimp only;rw[e2];show h
def LU {S:SS}{ds:List D}{i:Int}{d:D}{Q:DK}(e2:L2.zy ds i=↑d) (h:Q d S):xY (.xi ds) (.int i) S Q:=by
 unfold xY;dsimp only;rw[e2];show h
inductive T where
 | zo | bl (b:Bool) | int (i:Int) | str (x:Str) | tup (ts:List T) | lst (ts:List T) | yD | err (c f:Str) (t:T)
mutual
def eqT:T->T->Bool
 | .zo,.zo=>true
 | .bl a,.bl b=>a == b
 | .bl a,.int b=>(if a then 1 else 0) == b
 | .int a,.bl b=>a == (if b then 1 else 0)
 | .int a,.int b=>a == b
 | .str a,.str b=>a == b
 | .tup a,.tup b=>xk a b
 | .lst a,.lst b=>xk a b
 | .yD,.yD=>true
 | .err a b t,.err c d u=>a == c&&(b == d&&eqT t u)
 | _,_=>false
def xk:List T->List T->Bool
 | [],[]=>true
 | a::as,b::bs=>eqT a b&&xk as bs
 | _,_=>false
end
mutual
def dep:T->Nat
 | .tup ts=>1+xr ts
 | .lst ts=>1+xr ts
 | .yD=>cLine
 | .err _ _ _=>cLine
 | _=>0
def xr:List T->Nat
 | []=>0
 | t::ts=>max (dep t) (xr ts)
end
def iH:List T->Bool
 | []=>true
 | .int _::ts=>iH ts
 | _=>false
def QI (ns:List Int):iH (ns.map T.int)=true:=by
 induction ns with
 | nil=>rfl
 | cons n ns ih=>show ih
mutual
def Sn (S:SS):T->D->Prop
 | .zo,d=>d=.zo
 | .bl b,d=>d=.bl b
 | .int i,d=>d=.int i
 | .str x,d=>d=.str x
 | .tup ts,d=>∃ ds,d=.tup ds/\zg S ts ds
 | .lst ts,d=>∃ ds,((d=.xi ds/\iH ts=true)\/∃ a,d=.ref a/\S a=↑(.lst ds))/\zg S ts ds
 | .yD,d=>∃ a Ab,(d=.ref a/\Ab=[])/\S a=↑(.zC Ab)
 | .err c f t,d=>∃ x,d=.err c f x/\Sn S t x
def zg (S:SS):List T->List D->Prop
 | [],ds=>ds=[]
 | t::ts,ds=>∃ c cs,ds=c::cs/\Sn S t c/\zg S ts cs
end
mutual
theorem gQ:∀ t:T,eqT t t=true
 | .zo=>by simp[eqT]
 | .bl b=>by simp[eqT]
 | .int i=>by simp[eqT]
 | .str x=>by simp[eqT]
 | .tup ts=>by simp![eqT];show kC ts
 | .lst ts=>by simp![eqT];show kC ts
 | .yD=>by simp[eqT]
 | .err _ _ t=>by simp[eqT,gQ t]
theorem kC:∀ ts:List T,xk ts ts=true
 | []=>by simp[xk]
 | t::ts=>by simp![xk,gQ t,kC ts,DT]
end
theorem gP:∀ ts us:List T,xk ts us=((List.range (min ts.length us.length)).all (λ j=>eqT (ts.getD j .zo) (us.getD j .zo))&&ts.length == us.length)
 | [],[]=>by simp[xk]
 | [],_::_=>by simp[xk]
 | _::_,[]=>by simp[xk]
 | t::ts,u::us=>by
  simp![xk,gP ts us,Bb];rw[show min (ts.length+1) (us.length+1)=min ts.length us.length+1 by lia,Em,List.all_cons,DS];have:(ts.length+1 == us.length+1)=(ts.length == us.length):=by rw[BX];simp
  rw[this,Bool.and_assoc];rfl
theorem zg.length {S:SS}:∀ {ts:List T}{ds:List D},zg S ts ds->ts.length=ds.length
 | [],ds,h=>by simp![zg] at h;subst h;rfl
 | t::ts,ds,h=>by
  simp![zg] at h;let#[c,cs,rfl,_,h2]:=h;simp[zg.length h2]
section
variable {X:Cx}{Fd:Ai}{O:St}{H:Hp}{s:Shared}{S:SS}
theorem aC (I:Inv X Fd O H s) {a:Addr}{xs ys:List V}(h1:zO X.K H a xs) (h2:zH X.K H a ys):False:=by
 let#[_,_,#[o,e,c,_],_]:=I.tuple h1;let#[_,_,#[o',n,e',c',_],_]:=I.list h2;rw[e] at e';cases e';rw[c] at c'
 injection c' with q
 show absurd q ()
def Sn.tm (p:zB X.K H S) {ts:List T}{d:D}{x:V}(h:Sn S (.lst ts) d) (r:ze X.K H d x):∃ a xs ds,x=.ref a/\zH X.K H a xs/\zh X.K H ds xs/\zg S ts ds:=by
 simp![Sn] at h;obtain⟨ds,⟨h,_⟩ | ⟨a,h,e⟩,h2⟩:=h
 .subst h;simp![ze] at r;let#[a,xs,rfl,g1,g2]:=r;show#[a,xs,ds,rfl,g1.sq,g2,h2]
 .subst h;simp![ze] at r;let#[xs,g1,g2]:=p _ _ e;show#[a,xs,ds,r,zH.of g1,g2,h2]
def Sn.uW {ts:List T}{d:D}{x:V}(h:Sn S (.tup ts) d) (r:ze X.K H d x):∃ a xs ds,x=.ref a/\zO X.K H a xs/\zh X.K H ds xs/\zg S ts ds:=by
 simp![Sn] at h;let#[ds,rfl,h2]:=h;simp![ze] at r;let#[a,xs,rfl,g1,g2]:=r;show#[a,xs,ds,rfl,g1,g2,h2]
def Sn.rK (p:zB X.K H S) {d:D}{x:V}(h:Sn S .yD d) (r:ze X.K H d x):∃ a vs,x=.ref a/\H a=↑(.dK vs):=by
 simp![Sn] at h;let#[a,Ab,#[rfl,_],e]:=h;simp![ze] at r;let#[xs,g1,g2]:=p _ _ e;show#[a,xs,r,g1]
def aJ (I:Inv X Fd O H s) {a:Addr}{vs:List (Key×V)}(h:H a=↑(.dK vs)):∃ o,s.heap.get? a=↑o/\o.cls=.type "dict":=by
 let#[_,_,_,_,o,_,_,e,c]:=(show yI X.prog X.w H s.heap a (.dK vs) from I.zl a _ h)
 show#[o,e,c.1.1]
theorem aE (I:Inv X Fd O H s) {a:Addr}{xs:List V}{vs:List (Key×V)}(h1:zO X.K H a xs) (h2:H a=↑(.dK vs)):False:=by
 let#[_,_,#[o,e,c,_],_]:=I.tuple h1;let#[o',e',c']:=aJ I h2;rw[e] at e';cases e';rw[c] at c'
 injection c' with q
 show absurd q ()
theorem aI (I:Inv X Fd O H s) {a:Addr}{xs:List V}{vs:List (Key×V)}(h1:zH X.K H a xs) (h2:H a=↑(.dK vs)):False:=by
 let#[_,_,#[o,n,e,c,_],_]:=I.list h1;let#[o',e',c']:=aJ I h2;rw[e] at e';cases e';rw[c] at c'
 injection c' with q
 show absurd q ()
theorem Sn.flat {t:T}{d:D}{x:V}(h:Sn S t d) (r:ze X.K H d x):match t with
  | .zo=>x=.zo
  | .bl b=>x=.bl b
  | .int i=>x=.int i
  | .str y=>x=.str y
  | _=>True:=by
 cases t <;> first
  | trivial
  | (simp![Sn] at h;subst h;simpa only [ze] using r)
def Sn.sF {c f:Str}{t:T}{d:D}{x:V}(h:Sn S (.err c f t) d) (r:ze X.K H d x):∃ e C dx w y,x=.ref e/\(uT X.K c C/\H e=↑(wz e C dx)/\H dx=↑(.xd [(f,w)]))/\Sn S t y/\ze X.K H y w:=by
 simp![Sn] at h;let#[y,rfl,h]:=h;simp![ze] at r;let#[e,C,dx,w,r1,r2,r3]:=r;show#[e,C,dx,w,y,r1,r2,h,r3]
def ki (I:Inv X Fd O H s) {e C dx:Addr}(h:H e=↑(wz e C dx)):∃ oe vs,s.heap.get? e=↑oe/\oe.cls=.ref C/\oe.dict=↑dx/\oe.data=.fields vs:=(show yI X.prog X.w H s.heap e (wz e C dx) from I.zl e _ h).1
def aD (I:Inv X Fd O H s) {a C dx:Addr}{xs:List V}(h1:zO X.K H a xs) (h2:H a=↑(wz a C dx)):False:=by
 let#[_,_,#[o,e,c,_],_]:=I.tuple h1;let#[o',_,e',c',_]:=ki I h2;rw[e] at e';cases e';rw[c] at c';cases c'
def aH (I:Inv X Fd O H s) {a C dx:Addr}{xs:List V}(h1:zH X.K H a xs) (h2:H a=↑(wz a C dx)):False:=by
 let#[_,_,#[o,n,e,c,_],_]:=I.list h1;let#[o',_,e',c',_]:=ki I h2;rw[e] at e';cases e';rw[c] at c';cases c'
def aK (I:Inv X Fd O H s) {a C dx:Addr}{vs:List (Key×V)}(h1:H a=↑(.dK vs)) (h2:H a=↑(wz a C dx)):False:=by
 rw[h1] at h2;cases h2
def MJ (I:Inv X Fd O H s) {e C dx C' dx':Addr}(h1:H e=↑(wz e C dx)) (h2:H e=↑(wz e C' dx')):C=C'/\dx=dx':=by
 let#[o,_,e1,c1,d1,_]:=ki I h1;let#[o',_,e2,c2,d2,_]:=ki I h2;rw[e1] at e2;cases e2;rw[c1] at c2;rw[d1] at d2;cases c2;cases d2;show#[rfl,rfl]
def uT.inj {K:Ac}{c c':Str}{C:Addr}(h1:uT K c C) (h2:uT K c' C):c=c':=by
 let#[_,_,_,#[#[#[_,_,_,_,_,_,_,_,_,_,_,_,a],_],_,_,_,_]]:=h1;let#[_,_,_,#[#[#[_,_,_,_,_,_,_,_,_,_,_,_,b],_],_,_,_,_]]:=h2;rw[a] at b;cases b;rfl
mutual
theorem l4 (I:Inv X Fd O H s) (p:zB X.K H S):∀ (t u:T) {d e:D}{x:V},Sn S t d->Sn S u e->ze X.K H d x->ze X.K H e x->t=u
 | .tup ts,u,d,e,x,h1,h2,r1,r2=>by
  let#[a,xs,ds,rfl,g1,g2,g3]:=h1.uW r1;cases u with
  | yD=>let#[_,_,q,g]:=h2.rK p r2;cases q;show (aE I g1 g).elim
  | err _ _ _=>let#[_,_,_,_,_,q,g,_]:=h2.sF r2;cases q;show (aD I g1 g.2.1).elim
  | tup us=>
   let#[a',FH,Iu,q,k1,k2,k3]:=h2.uW r2;cases q;have:=I.jS g1 k1;subst this;rw[jQ I p ts us g3 k3 g2 k2]
  | lst us=>
   let#[a',FH,Iu,q,k1,k2,k3]:=h2.tm p r2;cases q;show (aC I g1 k1).elim
  | _=>show nomatch h2.flat r2
 | .lst ts,u,d,e,x,h1,h2,r1,r2=>by
  let#[a,xs,ds,rfl,g1,g2,g3]:=h1.tm p r1;cases u with
  | yD=>let#[_,_,q,g]:=h2.rK p r2;cases q;show (aI I g1 g).elim
  | err _ _ _=>let#[_,_,_,_,_,q,g,_]:=h2.sF r2;cases q;show (aH I g1 g.2.1).elim
  | lst us=>
   let#[a',FH,Iu,q,k1,k2,k3]:=h2.tm p r2;cases q;have:=I.hJ g1 k1;subst this;rw[jQ I p ts us g3 k3 g2 k2]
  | tup us=>
   let#[a',FH,Iu,q,k1,k2,k3]:=h2.uW r2;cases q;show (aC I k1 g1).elim
  | _=>show nomatch h2.flat r2
 | .zo,u,d,e,x,h1,h2,r1,r2=>by
  have q:=h1.flat r1;subst q;cases u with
  | yD=>let#[_,_,q,g]:=h2.rK p r2;cases q
  | err _ _ _=>let#[_,_,_,_,_,q,_]:=h2.sF r2;cases q
  | zo=>rfl
  | tup us=>let#[_,_,_,q,_]:=h2.uW r2;cases q
  | lst us=>let#[_,_,_,q,_]:=h2.tm p r2;cases q
  | _=>show nomatch h2.flat r2
 | .bl b,u,d,e,x,h1,h2,r1,r2=>by
  have q:=h1.flat r1;subst q;cases u with
  | yD=>let#[_,_,q,g]:=h2.rK p r2;cases q
  | err _ _ _=>let#[_,_,_,_,_,q,_]:=h2.sF r2;cases q
  | bl _=>have q:=h2.flat r2;cases q;rfl
  | tup us=>let#[_,_,_,q,_]:=h2.uW r2;cases q
  | lst us=>let#[_,_,_,q,_]:=h2.tm p r2;cases q
  | _=>show nomatch h2.flat r2
 | .int b,u,d,e,x,h1,h2,r1,r2=>by
  have q:=h1.flat r1;subst q;cases u with
  | yD=>let#[_,_,q,g]:=h2.rK p r2;cases q
  | err _ _ _=>let#[_,_,_,_,_,q,_]:=h2.sF r2;cases q
  | int _=>have q:=h2.flat r2;cases q;rfl
  | tup us=>let#[_,_,_,q,_]:=h2.uW r2;cases q
  | lst us=>let#[_,_,_,q,_]:=h2.tm p r2;cases q
  | _=>show nomatch h2.flat r2
 | .str b,u,d,e,x,h1,h2,r1,r2=>by
  have q:=h1.flat r1;subst q;cases u with
  | yD=>let#[_,_,q,g]:=h2.rK p r2;cases q
  | err _ _ _=>let#[_,_,_,_,_,q,_]:=h2.sF r2;cases q
  | str _=>have q:=h2.flat r2;cases q;rfl
  | tup us=>let#[_,_,_,q,_]:=h2.uW r2;cases q
  | lst us=>let#[_,_,_,q,_]:=h2.tm p r2;cases q
  | _=>show nomatch h2.flat r2
 | .err c f t,u,d,e,x,h1,h2,r1,r2=>by
  let#[a,C,dx,w,y,rfl,#[g1,g2,g3],g4,g5]:=h1.sF r1;cases u with
  | err c' f' t'=>
   let#[a',C',dx',w',y',q,#[k1,k2,k3],k4,k5]:=h2.sF r2;cases q;let#[rfl,rfl]:=MJ I g2 k2;rw[g3] at k3;cases k3;cases g1.inj k1;rw[l4 I p t t' g4 k4 g5 k5]
  | yD=>let#[_,_,q,g]:=h2.rK p r2;cases q;show (aK I g g2).elim
  | tup us=>let#[_,_,_,q,k1,_]:=h2.uW r2;cases q;show (aD I k1 g2).elim
  | lst us=>let#[_,_,_,q,k1,_]:=h2.tm p r2;cases q;show (aH I k1 g2).elim
  | _=>show nomatch h2.flat r2
 | .yD,u,d,e,x,h1,h2,r1,r2=>by
  let#[a,vs,rfl,g]:=h1.rK p r1;cases u with
  | yD=>rfl
  | err _ _ _=>let#[_,_,_,_,_,q,g',_]:=h2.sF r2;cases q;show (aK I g g'.2.1).elim
  | tup us=>let#[_,_,_,q,g1,_]:=h2.uW r2;cases q;show (aE I g1 g).elim
  | lst us=>let#[_,_,_,q,g1,_]:=h2.tm p r2;cases q;show (aI I g1 g).elim
  | _=>show nomatch h2.flat r2
theorem jQ (I:Inv X Fd O H s) (p:zB X.K H S):∀ (ts us:List T) {ds es:List D}{xs:List V},zg S ts ds->zg S us es->zh X.K H ds xs->zh X.K H es xs->ts=us
 | [],us,ds,es,xs,h1,h2,r1,r2=>by
  have e:=h1.length.trans (r1.length.trans (r2.length.symm.trans h2.length.symm));cases us with
  | nil=>rfl
  | cons _ _=>simp at e
 | t::ts,[],ds,es,xs,h1,h2,r1,r2=>by
  have e:=h1.length.trans (r1.length.trans (r2.length.symm.trans h2.length.symm));simp at e
 | t::ts,u::us,ds,es,xs,h1,h2,r1,r2=>by
  simp![zg] at h1 h2;let#[c,cs,rfl,a1,a2]:=h1;let#[c',cs',rfl,b1,b2]:=h2;simp![zh] at r1 r2;let#[y,ys,rfl,g1,g2]:=r1;let#[y',ys',q,k1,k2]:=r2;cases q;rw[l4 I p t u a1 b1 g1 k1,jQ I p ts us a2 b2 g2 k2]
end
theorem zg.get {ts:List T}{ds:List D}(h:zg S ts ds):∀ {j:Nat},j<ts.length->∃ c,ds[j]?=↑c/\Sn S (ts.getD j .zo) c:=by
 induction ts generalizing ds with
 | nil=>intro j hj;simp at hj
 | cons t ts ih=>
  intro j hj;simp![zg] at h;let#[c,cs,rfl,h1,h2]:=h;cases j with
  | zero=>show#[c,rfl,h1]
  | succ j=>
   let#[c',e,h3]:=ih h2 (j:=j) (by exists hj);show#[c',by simpa using e,by exists h3]
theorem kK:∀ {ts:List T}{j:Nat},j<ts.length->dep (ts.getD j .zo)<=xr ts
 | [],j,h=>by simp at h
 | t::ts,0,_=>by simp![xr,List.getD_cons_zero];lia
 | t::ts,j+1,h=>by
  have:=kK (ts:=ts) (j:=j) (by exists h);simp![xr,List.getD_cons_succ];lia
inductive qH (K:Ac) (H:Hp) (S:SS) (s:Shared):T->Value->Prop
 | zo:qH K H S s .zo .none
 | bl {b:Bool}:qH K H S s (.bl b) (.bool b)
 | int {i:Int}{k:Tok}:qH K H S s (.int i) (.int i k)
 | str {i:Str}{k:Tok}:qH K H S s (.str i) (.str i k)
 | tup {ts:List T}{ds:List D}{xs:List V}{us:Ae}{l:Addr}(g:zg S ts ds) (r:zh K H ds xs) (v:Vals xs us) (h:s.heap.IsTuple l us.toArray):qH K H S s (.tup ts) (.ref l)
 | lst {ts:List T}{ds:List D}{xs:List V}{us:Ae}{l:Addr}(g:zg S ts ds) (r:zh K H ds xs) (v:Vals xs us) (h:s.heap.IsList l us.toArray):qH K H S s (.lst ts) (.ref l)
def dY (I:Inv X Fd O H s) (p:zB X.K H S) {t:T}{d:D}{x:V}{a:Value}(h:Sn S t d) (r:ze X.K H d x) (v:RelV x a) (z:dep t<cLine):qH X.K H S s t a:=by
 cases t with
 | zo=>have q:=h.flat r;subst q;cases v;show .zo
 | bl _=>have q:=h.flat r;subst q;cases v;show .bl
 | int _=>have q:=h.flat r;subst q;let#[_,rfl]:=v;show .int
 | str _=>have q:=h.flat r;subst q;let#[_,rfl]:=v;show .str
 | tup _=>let#[l,xs,ds,rfl,g,r,q]:=h.uW r;cases v;let#[_,w,i,_]:=I.tuple g;show .tup q r w i
 | lst _=>let#[l,xs,ds,rfl,g,r,q]:=h.tm p r;cases v;let#[_,w,i,_]:=I.list g;show .lst q r w i.isList
 | _=>simp![dep] at z;lia
abbrev J3 (A:Around) (s:Shared) (a b:Value) (k:Bool):Prop:=SeqAt.EqAt A s a b k/\SeqAt.RcAt A s a b k/\SeqAt.RcNeAt A s a b (!k)
theorem J1 (I:Inv X Fd O H s) (p:zB X.K H S):∀ (n:Nat) (t u:T) {A:Around}{d e:D}{x y:V}{a b:Value},dep t<n->A.units+dep t<cLine->A.units+dep u<cLine->Sn S t d->Sn S u e->ze X.K H d x->ze X.K H e y->RelV x a->RelV y b->J3 A s a b (eqT t u):=by
 intro n
 induction n with
 | zero=>intros;lia
 | succ n ih=>
  intro t u A d e x y a b hn hu IK h1 h2 r1 r2 v1 v2;have hq:a=b->t=u:=λ z=>by subst z;have:=v1.inj v2;subst this;show l4 I p t u h1 h2 r1 r2
  have c1:=dY I p h1 r1 v1 ⋯;have c2:=dY I p h2 r2 v2 ⋯;clear h1 h2 r1 r2 v1 v2;have hA:A.units<cLine:=⋯;have el:∀ {ts us:List T}{ds Iu:List D}{xs FH:List V}{is is':Ae},1+xr ts<n+1->A.units+(1+xr ts)<cLine->A.units+(1+xr us)<cLine->zg S ts ds->zg S us Iu->zh X.K H ds xs->zh X.K H Iu FH->Vals xs is->Vals FH is'->is.toArray.size=ts.length/\is'.toArray.size=us.length/\
    ∀ (j:Nat) (h1:j<is.toArray.size) (h2:j<is'.toArray.size),SeqAt.EqAt A.in1 s is.toArray[j] is'.toArray[j] (eqT (ts.getD j .zo) (us.getD j .zo)):=by
   intro ts us ds Iu xs FH is is' a1 a2 a3 g1 g2 r1 r2 v1 v2;have e1:is.toArray.size=ts.length:=by rw[AB,<- v1.length,<- r1.length,<- g1.length]
   have e2:is'.toArray.size=us.length:=by rw[AB,<- v2.length,<- r2.length,<- g2.length]
   exact#[e1,e2,λ j h1 h2=>?_];let#[_,k1,s1]:=g1.get (e1▸h1);let#[_,k2,s2]:=g2.get (e2▸h2);let#[_,f1,q1]:=r1.get k1;let#[_,f2,q2]:=r2.get k2;let#[w1,o1,m1]:=v1.get f1;let#[w2,o2,m2]:=v2.get f2;have y1:=kK (e1▸h1);have y2:=kK (e2▸h2);let#[_,z1]:=AQ.mp o1;let#[_,z2]:=AQ.mp o2;rw[List.getElem_toArray,List.getElem_toArray,z1,z2];show (ih _ _ (A:=A.in1) ⋯ (by change A.units+1+_<_;lia) (by change A.units+1+_<_;lia) s1 s2 q1 q2 m1 m2).1
  have en:∀ {l l':Addr}{ts us:List T},(Value.ref l=.ref l'->ts=us)->SeqAt.RcAt A s (.ref l) (.ref l') (xk ts us)/\SeqAt.RcNeAt A s (.ref l) (.ref l') (!xk ts us)->J3 A s (.ref l) (.ref l') (xk ts us):=λ{l l' ts us} h q=>by
   exact#[?_,q];by_cases z:l=l'
   .subst z;rw[h rfl,kC];show .same _
   .show .of_refs z q.1
  cases c1 <;> cases c2 <;> simp![eqT,C5,C6]
  .show#[.same _,.none_none,.none_none]
  .show#[.none_bool _,.none_bool _,.none_bool _]
  .show#[.none_int _ _,.none_int _ _,.none_int _ _]
  .show#[.none_str _ _,.none_str _ _,.none_str _ _]
  .show#[.none_tuple ‹_› hA,.none_tuple ‹_› hA,.none_tuple ‹_› hA]
  .show#[.none_list ‹_› hA,.none_list ‹_› hA,.none_list ‹_› hA]
  .show#[.bool_none _,.bool_none _,.bool_none _]
  .show#[.bool_bool _ _,.bool_bool _ _,.bool_bool _ _]
  .show#[.bool_int _ _ _,.bool_int _ _ _,.bool_int _ _ _]
  .show#[.bool_str _ _ _,.bool_str _ _ _,.bool_str _ _ _]
  .show#[.bool_tuple _ ‹_› hA,.bool_tuple _ ‹_› hA,.bool_tuple _ ‹_› hA]
  .show#[.bool_list _ ‹_› hA,.bool_list _ ‹_› hA,.bool_list _ ‹_› hA]
  .show#[.int_none _ _,.int_none _ _,.int_none _ _]
  .show#[.int_bool _ _ _,.int_bool _ _ _,.int_bool _ _ _]
  .show#[.int_int _ _ _ _,.int_int _ _ _ _,.int_int _ _ _ _]
  .show#[.int_str _ _ _ _,.int_str _ _ _ _,.int_str _ _ _ _]
  .show#[.int_tuple _ _ ‹_› hA,.int_tuple _ _ ‹_› hA,.int_tuple _ _ ‹_› hA]
  .show#[.int_list _ _ ‹_› hA,.int_list _ _ ‹_› hA,.int_list _ _ ‹_› hA]
  .show#[.str_none _ _,.str_none _ _,.str_none _ _]
  .show#[.str_bool _ _ _,.str_bool _ _ _,.str_bool _ _ _]
  .show#[.str_int _ _ _ _,.str_int _ _ _ _,.str_int _ _ _ _]
  .show#[.str_str _ _ _ _,.str_str _ _ _ _,.str_str _ _ _ _]
  .show#[.str_tuple _ _ ‹_› hA,.str_tuple _ _ ‹_› hA,.str_tuple _ _ ‹_› hA]
  .show#[.str_list _ _ ‹_› hA,.str_list _ _ ‹_› hA,.str_list _ _ ‹_› hA]
  .show#[.tuple_none ‹_› hA,.tuple_none ‹_› hA,.tuple_none ‹_› hA]
  .show#[.tuple_bool _ ‹_› hA,.tuple_bool _ ‹_› hA,.tuple_bool _ ‹_› hA]
  .show#[.tuple_int _ _ ‹_› hA,.tuple_int _ _ ‹_› hA,.tuple_int _ _ ‹_› hA]
  .show#[.tuple_str _ _ ‹_› hA,.tuple_str _ _ ‹_› hA,.tuple_str _ _ ‹_› hA]
  .rename_i g1 r1 v1 k1 _ _ _ _ _ g2 r2 v2 k2;simp![dep] at hn hu IK;let#[e1,e2,q]:=el hn hu IK g1 g2 r1 r2 v1 v2;exact en (λ z=>by cases hq z;rfl) ?_;rw[gP,<- e1,<- e2];show#[.tuples k1 k2 hA q,.tuples k1 k2 hA q]
  .show#[.tuple_list ‹_› ‹_› hA,.tuple_list ‹_› ‹_› hA,.tuple_list ‹_› ‹_› hA]
  .show#[.list_none ‹_› hA,.list_none ‹_› hA,.list_none ‹_› hA]
  .show#[.list_bool _ ‹_› hA,.list_bool _ ‹_› hA,.list_bool _ ‹_› hA]
  .show#[.list_int _ _ ‹_› hA,.list_int _ _ ‹_› hA,.list_int _ _ ‹_› hA]
  .show#[.list_str _ _ ‹_› hA,.list_str _ _ ‹_› hA,.list_str _ _ ‹_› hA]
  .show#[.list_tuple ‹_› ‹_› hA,.list_tuple ‹_› ‹_› hA,.list_tuple ‹_› ‹_› hA]
  .rename_i i1 _ g1 r1 v1 k1 _ _ _ i2 _ g2 r2 v2 k2;simp![dep] at hn hu IK;let#[e1,e2,q]:=el hn hu IK g1 g2 r1 r2 v1 v2;exact en (λ z=>by cases hq z;rfl) ?_;rw[gP,<- e1,<- e2];by_cases z:i1.toArray.size=i2.toArray.size
   .rw[<- z,Nat.min_self,beq_self_eq_true,Bool.and_true];show#[.lists k1 k2 z hA q,.lists k1 k2 z hA q]
   .rw[beq_eq_false_iff_ne.mpr z,C0];have z':=bne_iff_ne.mpr z;show#[.lists_lengths k1 k2 z' hA,.lists_lengths k1 k2 z' hA]
def fL (I:Inv X Fd O H s) (p:zB X.K H S) (t u:T) {A:Around}{d e:D}{x y:V}{a b:Value}(hu:A.units+dep t<cLine) (IK:A.units+dep u<cLine) (h1:Sn S t d) (h2:Sn S u e) (r1:ze X.K H d x) (r2:ze X.K H e y) (v1:RelV x a) (v2:RelV y b):J3 A s a b (eqT t u):=J1 I p _ t u (CI _) hu IK h1 h2 r1 r2 v1 v2
end
def ix (K:Ac) (neg:Bool):R2:=λ x y H Q=>∃ S d e t u,ze K H d x/\ze K H e y/\zB K H S/\Sn S t d/\Sn S u e/\dep t<=60/\dep u<=60/\Q (.bl (cond neg (!eqT t u) (eqT t u))) H
def wU (neg:Bool):y6:=λ x y S Q=>∃ t u,Sn S t x/\Sn S u y/\dep t<=60/\dep u<=60/\Q (.bl (cond neg (!eqT t u) (eqT t u))) S
def wU.mo {neg:Bool}:yY (wU neg):=λ _ _ _ _ _ hq #[t,u,a,b,c,d,h]=>#[t,u,a,b,c,d,hq _ _ h]
def wU.fits {K:Ac}{neg:Bool}:yQ K (wU neg) (ix K neg):=λ x y d e H S Q h1 h2 h3 #[t,u,a,b,c,c',h]=>#[S,d,e,t,u,h1,h2,h3,a,b,c,c',h _ H (by simp![ze]) (.refl H) h3]
section
variable {X:Cx}{a b:Expr}{ta tb:zq}{pos:Pos}
theorem bz (hu:X.A.units+64<cLine):zV X (compareOp .Eq) (ix X.K false):=by
 intro Fd s O H x y v u Q I rx ry h;let#[S,d,e,t,u',a1,a2,a3,a4,a5,a6,a7,q]:=h;show (fL I a3 t u' (A:=X.A) ⋯ ⋯ a4 a5 a1 a2 rx ry).2.1 X.prog X.w X.xe _ #[.bl _,H,I,rfl,q]
theorem Q1 (hu:X.A.units+64<cLine):zV X (compareOp .NotEq) (ix X.K true):=by
 intro Fd s O H x y v u Q I rx ry h;let#[S,d,e,t,u',a1,a2,a3,a4,a5,a6,a7,q]:=h;show (fL I a3 t u' (A:=X.A) ⋯ ⋯ a4 a5 a1 a2 rx ry).2.2 X.prog X.w X.xe _ #[.bl _,H,I,rfl,q]
def Qg {k:Nat}(hr:zN k X.A) (ha:PD X a ta) (hb:PD X b tb):PD X (.Compare a [.Eq] [b] pos) (yf (wU false) ta tb):=pB (bz hr.units) wU.fits wU.mo ha hb (u7 _)
def Sv {k:Nat}(hr:zN k X.A) (ha:PD X a ta) (hb:PD X b tb):yO X (.Compare a [.Eq] [b] pos) (wW (yf (wU false) ta tb)):=qk (bz hr.units) wU.fits wU.mo ha hb (u7 _)
def Sj {k:Nat}(hr:zN k X.A) (ha:PD X a ta) (hb:PD X b tb):yO X (.Compare a [.NotEq] [b] pos) (wW (yf (wU true) ta tb)):=qk (Q1 hr.units) wU.fits wU.mo ha hb (u7 _)
def cH (K:Ac) (neg:Bool):R2:=λ x y H Q=>∃ S d e u ts ds,ze K H d x/\ze K H e y/\zB K H S/\Sn S u d/\zK e S=↑ds/\zg S ts ds/\dep u<=60/\xr ts<=60/\Q (.bl (cond neg (!(ts.any λ t=>eqT t u)) (ts.any λ t=>eqT t u))) H
def uJ (neg:Bool):y6:=λ x y S Q=>∃ u ts ds,Sn S u x/\zK y S=↑ds/\zg S ts ds/\dep u<=60/\xr ts<=60/\Q (.bl (cond neg (!(ts.any λ t=>eqT t u)) (ts.any λ t=>eqT t u))) S
def uJ.mo {neg:Bool}:yY (uJ neg):=λ _ _ _ _ _ hq #[u,ts,ds,a,b,c,d,e,h]=>#[u,ts,ds,a,b,c,d,e,hq _ _ h]
def uJ.fits {K:Ac}{neg:Bool}:yQ K (uJ neg) (cH K neg):=λ x y d e H S Q h1 h2 h3 #[u,ts,ds,a,b,c,c',c2,h]=>#[S,d,e,u,ts,ds,h1,h2,h3,a,b,c,c',c2,h _ H (by simp![ze]) (.refl H) h3]
open Classical in
def tJ (Aa:Ae) (ts:List T) (u:T) (v:Value):Bool:=if h:∃ j,Aa[j]?=↑v then eqT (ts.getD (Classical.choose h) .zo) u else false
def fJ {Fd:Ai}{O:St}{H:Hp}{s:Shared}{S:SS}(I:Inv X Fd O H s) (p:zB X.K H S) {ts:List T}{ds:List D}{xs:List V}{Aa:Ae}(h1:zg S ts ds) (h2:zh X.K H ds xs) (h3:Vals xs Aa) (u:T) {j:Nat}{v:Value}(hj:Aa[j]?=↑v):
  tJ Aa ts u v=eqT (ts.getD j .zo) u:=by
 have h:∃ j,Aa[j]?=↑v:=#[j,hj];unfold tJ;rw[dif_pos h];have hc:=Classical.choose_spec h;have lt:∀ i,Aa[i]?=↑v->i<ts.length:=λ i hi=>by
  rw[h1.length,h2.length,h3.length];show (AQ.mp hi).1
 let#[c1,e1,s1]:=h1.get (lt _ hc);let#[c2,e2,s2]:=h1.get (lt _ hj);let#[x1,f1,r1]:=h2.get e1;let#[x2,f2,r2]:=h2.get e2;let#[v1,g1,q1]:=h3.get f1;let#[v2,g2,q2]:=h3.get f2;rw[hc] at g1;cases g1;rw[hj] at g2;cases g2;have hx:=q1.inj q2;subst hx;rw[l4 I p _ _ s1 s2 r1 r2]
theorem Yy {Fd:Ai}{O:St}{H:Hp}{s:Shared}{S:SS}(I:Inv X Fd O H s) (p:zB X.K H S) {ts:List T}{ds:List D}{xs:List V}{Aa:Ae}(h1:zg S ts ds) (h2:zh X.K H ds xs) (h3:Vals xs Aa) (u:T):Aa.any (tJ Aa ts u)=ts.any λ t=>eqT t u:=by
 have hl:ts.length=Aa.length:=by rw[h1.length,h2.length,h3.length]
 rw[BX,Bl,Bl];constructor
 .rintro⟨v,hv,h⟩;let#[j,hj,rfl]:=Ce.mp hv;rw[fJ I p h1 h2 h3 u (j:=j) (by simp[hj])] at h;have HK:j<ts.length:=⋯;show#[ts[j],Ci HK,by simpa [HK] using h]
 .rintro⟨t,ht,h⟩;let#[j,hj,rfl]:=Ce.mp ht;have HK:j<Aa.length:=⋯;show#[Aa[j],Ci HK,by rw[fJ I p h1 h2 h3 u (j:=j) (by simp[HK])];simpa [hj] using h]
def Yz {Fd:Ai}{O:St}{H:Hp}{s:Shared}{S:SS}(I:Inv X Fd O H s) (p:zB X.K H S) {ts:List T}{ds:List D}{xs:List V}{Aa:Ae}(h1:zg S ts ds) (h2:zh X.K H ds xs) (h3:Vals xs Aa) {u:T}{d:D}{x:V}{v:Value}(hu:Sn S u d) (hd:ze X.K H d x) (hx:RelV x v) {A:Around}(b1:A.units+xr ts<cLine) (b2:A.units+dep u<cLine) {y:Value}(hy:y∈Aa):
  SeqAt.EqAt A s y v (tJ Aa ts u y):=by
 let#[j,hj,rfl]:=Ce.mp hy;have hjt:j<ts.length:=by rw[h1.length,h2.length,h3.length];show hj
 rw[fJ I p h1 h2 h3 u (j:=j) (by simp[hj])];let#[c1,e1,s1]:=h1.get hjt;let#[x1,f1,r1]:=h2.get e1;let#[v1,g1,q1]:=h3.get f1;have:Aa[j]=v1:=by
  have:=AQ.mp g1;show this.2
 rw[this];have:=kK hjt;show (fL I p _ u (A:=A) ⋯ b2 s1 hu r1 hd q1 hx).1
theorem bx (hu:X.A.units+64<cLine):zV X (compareOp .In) (cH X.K false):=by
 intro Fd s O H x y v w Q I rx ry h;let#[S,d,e,u,ts,ds,a1,a2,a3,a4,a5,a6,a7,a8,q]:=h;let#[l,xs,rfl,g1,g2]:=zK.sq a2 a3 a5;cases ry;rcases g1 with g1 | g1
 .let#[Aa,w1,pl,_]:=I.list g1;exact SeqAt.in_listAt (tJ Aa ts u) pl.isList (λ y hy=>Yz I a3 a6 g2 w1 a4 a1 rx (A:=X.A.in1) (by change X.A.units+1+_<_;lia) (by change X.A.units+1+_<_;lia) (by exists hy)) #[.bl _,H,I,rfl,?_];rw[show Aa.toArray.any (tJ Aa ts u)=Aa.any (tJ Aa ts u) by simp,Yy I a3 a6 g2 w1];show q
 .let#[Aa,w1,pt,_]:=I.tuple g1;exact SeqAt.in_tupleAt (tJ Aa ts u) pt (λ y hy=>Yz I a3 a6 g2 w1 a4 a1 rx (A:=X.A.in1) (by change X.A.units+1+_<_;lia) (by change X.A.units+1+_<_;lia) (by exists hy)) #[.bl _,H,I,rfl,?_];rw[show Aa.toArray.any (tJ Aa ts u)=Aa.any (tJ Aa ts u) by simp,Yy I a3 a6 g2 w1];show q
def RW {k:Nat}(hr:zN k X.A) (ha:PD X a ta) (hb:PD X b tb) (hm:behindInMarks .In b=false):PD X (.Compare a [.In] [b] pos) (yf (uJ false) ta tb):=pB (bx hr.units) uJ.fits uJ.mo ha hb hm
def Ss {k:Nat}(hr:zN k X.A) (ha:PD X a ta) (hb:PD X b tb) (hm:behindInMarks .In b=false):yO X (.Compare a [.In] [b] pos) (wW (yf (uJ false) ta tb)):=qk (bx hr.units) uJ.fits uJ.mo ha hb hm
end
end L3
namespace L2
open PySem PySem.Spec PyProof.Rows
section
variable {κ:Type}[DecidableEq κ]
def xS (Ab:List (κ × V)) (k:κ):Option V:=(Ab.find? λ kv=>decide (kv.1=k)).map (·.2)
def putK (Ab:List (κ × V)) (k:κ) (v:V):List (κ × V):=
 if (Ab.any λ kv=>decide (kv.1=k))=true then Ab.map (λ kv=>if kv.1=k then (kv.1,v) else kv) else Ab++[(k,v)]
def jO {p:κ × V}{r:List (κ × V)}{k:κ}(e:p.1=k):xS (p::r) k=↑p.2:=by simp[xS,BE,e]
def jP {p:κ × V}{r:List (κ × V)}{k:κ}(e:¬ p.1=k):xS (p::r) k=xS r k:=by simp[xS,BE,e]
theorem de (k:κ):∀ Ab:List (κ × V),(Ab.any λ kv=>decide (kv.1=k))=(xS Ab k).isSome
 | []=>rfl
 | p::r=>by
  rw[BR];by_cases e:p.1=k
  .simp![jO e,zaA e,Bool.true_or,Option.isSome_some]
  .rw[jP e,za5 e,Bool.false_or];show de k r
def bZ (Ab:List (κ × V)) (k:κ) (v:V):(putK Ab k v).length<=Ab.length+1:=by
 unfold putK;split
 .rw[AH];lia
 .rw[Cj,Bb,Cz];lia
def vH.MA {o:Option V}{u:Option Value}(r:vH o u):o.isSome=u.isSome:=by
 cases o with
 | none=>cases u with
  | none=>rfl
  | some _=>show (show False from r).elim
 | some _=>cases u with
  | none=>show (show False from r).elim
  | some _=>rfl
theorem vH.getD {o:Option V}{u:Option Value}{d:V}{d':Value}(r:vH o u) (rd:RelV d d'):RelV (o.getD d) (u.getD d'):=by
 cases o with
 | none=>cases u with
  | none=>show rd
  | some _=>show (show False from r).elim
 | some _=>cases u with
  | none=>show (show False from r).elim
  | some _=>show r
def KV.val {Ab:List (κ × V)}{vs:List (κ × Value)}(r:KV Ab vs) (k:κ):vH (xS Ab k) (valueAt vs k):=by
 unfold KV at r
 induction r with
 | nil=>show True.intro
 | @cons p q ps qs h t ih=>
  let#[h1,h2]:=h;by_cases e:p.1=k
  .have e':q.1=k:=h1.symm.trans e;have b:valueAt (q::qs) k=↑q.2:=by simp[valueAt,BE,e']
   rw[jO e,b];show h2
  .have e':¬ q.1=k:=λ z=>e (h1.trans z);have b:valueAt (q::qs) k=valueAt qs k:=by simp[valueAt,BE,e']
   rw[jP e,b];show ih
theorem KV.any {Ab:List (κ × V)}{vs:List (κ × Value)}(r:KV Ab vs) (k:κ):(Ab.any λ kv=>decide (kv.1=k))=vs.any λ kv=>decide (kv.1=k):=by
 unfold KV at r
 induction r with
 | nil=>rfl
 | cons h t ih=>rw[BR,BR,ih,h.1]
def KV.uZ {Ab:List (κ × V)}{vs:List (κ × Value)}(r:KV Ab vs) (k:κ) {y:V}{u:Value}(ry:RelV y u):
  KV (Ab.map λ kv=>if kv.1=k then (kv.1,y) else kv) (vs.map λ kv=>if kv.1=k then (kv.1,u) else kv):=by
 unfold KV at r ⊢
 induction r with
 | nil=>show .nil
 | @cons p q ps qs h t ih=>
  rw[Ax,Ax];exact .cons ?_ ih;let#[h1,h2]:=h;by_cases e:p.1=k
  .rw[if_pos e,if_pos (h1.symm.trans e)];show#[h1,ry]
  .rw[if_neg e,if_neg (λ z=>e (h1.trans z))];show#[h1,h2]
def KV.put {Ab:List (κ × V)}{vs:List (κ × Value)}(r:KV Ab vs) (k:κ) {y:V}{u:Value}(ry:RelV y u):KV (putK Ab k y) (stored vs k u):=by
 unfold putK stored;rw[r.any k];by_cases e:(vs.any λ kv=>decide (kv.1=k))=true
 .rw[if_pos e,if_pos e];show r.uZ k ry
 .rw[if_neg e,if_neg e];show Paired.snoc r #[rfl,ry]
theorem KV.length {Ab:List (κ × V)}{vs:List (κ × Value)}(r:KV Ab vs):Ab.length=vs.length:=Paired.length r
end
def kf {P:Program}{w:World}{k:Key}{u:Value}(r:RelV (kV k) u):(we P w).is k u=true:=by
 cases k with
 | inl i=>let#[t,e]:=(show ∃ t,u=Value.int i t from r);subst e;show NC P w i t
 | inr x=>let#[t,e]:=(show ∃ t,u=Value.str x t from r);subst e;show NB P w x t
theorem ay {P:Program}{w:World}:∀ {ks:List Key}{us:Ae},Vals (ks.map kV) us->ItemsAre (we P w) ks us
 | [],_,r=>by rw[Bj] at r;cases r;show .nil
 | k::ks,_,r=>by
  rw[Ax] at r;cases r with
  | cons h t=>show .cons (kf h) (ay t)
abbrev KT (H:Hp):List (List Key×V)->List (List Key×Addr×Value)->Prop:=Paired λ p q=>p.1=q.1/\H q.2.1=↑(.tup (p.1.map kV))/\RelV p.2 q.2.2
def KT.val {H:Hp}{Ab:List (List Key×V)}{xs:List (List Key×Addr×Value)}(r:KT H Ab xs) (k:List Key):vH (xS Ab k) ((atKey xs k).map (·.2)):=by
 induction r with
 | nil=>show True.intro
 | @cons p q ps qs h t ih=>
  let#[h1,_,h2]:=h;by_cases e:p.1=k
  .have e':q.1=k:=h1.symm.trans e;have b:atKey (q::qs) k=↑q.2:=by simp[atKey,BE,e']
   rw[jO e,b];show h2
  .have e':¬ q.1=k:=λ z=>e (h1.trans z);have b:atKey (q::qs) k=atKey qs k:=by simp[atKey,BE,e']
   rw[jP e,b];show ih
def KT.uZ {H:Hp}{Ab:List (List Key×V)}{xs:List (List Key×Addr×Value)}(r:KT H Ab xs) (k:List Key) {y:V}{u:Value}(ry:RelV y u):
  KT H (Ab.map λ kv=>if kv.1=k then (kv.1,y) else kv) (xs.map (putAt k u)):=by
 induction r with
 | nil=>show .nil
 | @cons p q ps qs h t ih=>
  rw[Ax,Ax];exact .cons ?_ ih;let#[h1,h2,h3]:=h;unfold putAt;by_cases e:p.1=k
  .rw[if_pos e,if_pos (h1.symm.trans e)];show#[h1,h2,ry]
  .rw[if_neg e,if_neg (λ z=>e (h1.trans z))];show#[h1,h2,h3]
def KT.put {H:Hp}{Ab:List (List Key×V)}{xs:List (List Key×Addr×Value)}(r:KT H Ab xs) (k:List Key) {b:Addr}{y:V}{u:Value}(hb:H b=↑(.tup (k.map kV))) (ry:RelV y u):
  KT H (putK Ab k y) (storedH xs k b u):=by
 have e:(Ab.any λ kv=>decide (kv.1=k))=(atKey xs k).isSome:=by
  rw[de,(r.val k).MA,Option.isSome_map]
 unfold putK storedH;rw[e];by_cases q:(atKey xs k).isSome=true
 .rw[if_pos q,if_pos q];show r.uZ k ry
 .rw[if_neg q,if_neg q];show Paired.snoc r #[rfl,hb,ry]
def KT.keeps {H H':Hp}{Ab:List (List Key×V)}{xs:List (List Key×Addr×Value)}(r:KT H Ab xs) (ht:∀ b ys,H b=↑(.tup ys)->H' b=↑(.tup ys)):KT H' Ab xs:=
 Paired.ka r λ _ _ z=>#[z.1,ht _ _ z.2.1,z.2.2]
section
variable {P:Program}{w:World}{H:Hp}{h:Heap}{a:Addr}
def c6 {u:HO}(ok:yc P w H h) (e:Rd H a u):yI P w H h a u:=e.ok ok
def pY {Ab:List (Key×V)}(ok:yc P w H h) (e:Rd H a (.dK Ab)):Ab.length<=sizeLine/\(a == sysModules)=false/\∃ vs,KV Ab vs/\h.DictOf (we P w) a vs:=
 show yI P w H h a (.dK Ab) from c6 ok e
def Km {Ab:List (Key×V)}(ok:yc P w H h) (e:H a=↑(.dK Ab)):Ab.length<=sizeLine/\(a == sysModules)=false/\∃ vs,KV Ab vs/\h.DictOf (we P w) a vs:=pY ok (.inl e)
def pK {ks:List Key}(ok:yc P w H h) (e:H a=↑(.tup (ks.map kV))):(tupleKind (we P w)).is h ks a:=by
 let#[_,Aa,r,o,h1,h2,n,h3]:=(show yI P w H h a (.tup (ks.map kV)) from ok a _ e)
 show#[o,Aa.toArray,n,h1,h2,h3,by exists ay r]
def n_ {Ab:List (List Key×V)}(ok:yc P w H h) (e:Rd H a (.dT Ab)):Ab.length<=sizeLine/\(a == sysModules)=false/\
  ∃ xs,KT H Ab xs/\h.DictOfH (tupleKind (we P w)) a xs:=by
 let#[z,y,xs,r,o,es,ep,h1,h2,h3,h4,h5]:=(show yI P w H h a (.dT Ab) from c6 ok e)
 exact#[z,y,xs,r,o,es,ep,h1,h2,h3,h4,λ x hx=>?_,h5];have all:∀ {l:List (List Key×V)}{m:List (List Key×Addr×Value)},KT H l m->∀ x∈m,(tupleKind (we P w)).is h x.1 x.2.1:=by
  intro l m q
  induction q with
  | nil=>intro x hx;show nomatch hx
  | @cons p q ps qs hq t ih=>
   intro x hx;rcases Ao.mp hx with e | hx
   .subst e;show pK ok (by rw[<- hq.1];show hq.2.1)
   .show ih x hx
 show all r x hx
def Kh {Ab:List (List Key×V)}(ok:yc P w H h) (e:H a=↑(.dT Ab)):Ab.length<=sizeLine/\(a == sysModules)=false/\
  ∃ xs,KT H Ab xs/\h.DictOfH (tupleKind (we P w)) a xs:=n_ ok (.inl e)
end
def sU (H:Hp) (a:Addr) (y:V) (r:Option V):Prop:=
 (∃ Ab k,Rd H a (.dK Ab)/\y=kV k/\r=xS Ab k)\/∃ Ab k b,Rd H a (.dT Ab)/\y=.ref b/\H b=↑(.tup (k.map kV))/\r=xS Ab k
def lg (H:Hp) (a:Addr) (y v:V) (H':Hp):Prop:=
 (∃ Ab k,H a=↑(.dK Ab)/\y=kV k/\Ab.length<sizeLine/\H'=upd H a (.dK (putK Ab k v)))\/
 ∃ Ab k b,H a=↑(.dT Ab)/\y=.ref b/\H b=↑(.tup (k.map kV))/\Ab.length<sizeLine/\H'=upd H a (.dT (putK Ab k v))
theorem sU.k {H:Hp}{a:Addr}{Ab:List (Key×V)}{k:Key}(e:H a=↑(.dK Ab)):sU H a (kV k) (xS Ab k):=.inl #[Ab,k,.inl e,rfl,rfl]
theorem lg.k {H:Hp}{a:Addr}{Ab:List (Key×V)}{k:Key}{v:V}(e:H a=↑(.dK Ab)) (hl:Ab.length<sizeLine):lg H a (kV k) v (upd H a (.dK (putK Ab k v))):=.inl #[Ab,k,e,rfl,hl,rfl]
section
variable {X:Cx}{Fd:Ai}{O:St}{H:Hp}{s:Shared}{a:Addr}{y v:V}{u r:Value}{o:Option V}{A:Around}{E:Af}
theorem Inv.big (I:Inv X Fd O H s):sysModules<s.heap.objs.size:=by
 have h:mainGlobals<s.heap.objs.size:=(I.mod.glob.keeps I.bk).lt;show Di () h
def Ku {Q:Af}(hu:A.units+1<cLine) (I:Inv X Fd O H s) (g:sU H a y ↑v) (ry:RelV y u) (h:∀ w' s',Inv X Fd O H s'->RelV v w'->Q w' s'):
  wpAny (model X.prog X.w) A (getItem (.ref a) u) Q E s:=by
 rcases g with ⟨Ab,k,e,ey,l⟩ | ⟨Ab,k,b,e,ey,eb,l⟩
 .subst ey;let#[z,hd,vs,rel,dd]:=pY I.zl e;let#[w',hw,Ig]:=vH.some_of (v:=v) (o:=valueAt vs k) (by rw[l];show rel.val k);show wpAny_getItem_of (kf ry) dd.mapOf hw (h w' _ (I.tok _) Ig)
 .subst ey;cases (show u=Value.ref b from ry);let#[z,hd,xs,rel,dd]:=n_ I.zl e;let#[w',hw,Ig]:=vH.some_of (v:=v) (o:=(atKey xs k).map (·.2)) (by rw[l];show rel.val k);let#[p,hp,pS]:=AK.mp hw;exact wpAny_getItem_heap (tupleKind_room_in1 hu) (pK I.zl eb) dd hp ?_;rw[pS];show h w' _ (I.tok _) Ig
def Z7 {h':Heap}{t':Nat}{ob:HO}(I:Inv X Fd O H s) (mu:mB (H a)) (hs:Heap.SameBut a s.heap h') (he:∃ q,h'.get? a=↑q) (new:yI X.prog X.w (upd H a ob) h' a ob):
  Inv X Fd O (upd H a ob) { s with heap:=h',toks:=t' }:=
 I.write (x:=a) (e:=a) mu (.inl rfl) (λ b q hb z=>(hs.2 b hb).trans z) he new
def Kn {P:Program}{w:World}{H':Hp}{h':Heap}{Ab:List (Key×V)}{vs:List (Key×Value)}(z:Ab.length<=sizeLine) (hd:(a == sysModules)=false) (rel:KV Ab vs) (dd:h'.DictOf (we P w) a vs):
  yI P w H' h' a (.dK Ab):=#[z,hd,vs,rel,dd]
def Ks {H':Hp}{Q:Unit->Shared->Prop}(hu:A.units+1<cLine) (I:Inv X Fd O H s) (g:lg H a y v H') (ry:RelV y u) (rv:RelV v r) (h:∀ s',Inv X Fd O H' s'->Q Unit.unit s'):
  wpAny (model X.prog X.w) A (setItem (.ref a) u r) Q E s:=by
 rcases g with ⟨Ab,k,e,ey,l,eH⟩ | ⟨Ab,k,b,e,ey,eb,l,eH⟩
 .subst ey eH;let#[z,hd,vs,rel,dd]:=Km I.zl e;have hz:vs.length<=sizeLine:=by rw[<- rel.length];show z
  have hl:(putK Ab k v).length<=sizeLine:=by have:=bZ Ab k v;lia
  exact wpAny_setItem_pairs (hsz:=hz) (kf ry) dd λ h' HZ hs=>h _ ?_;have he:∃ q,h'.get? a=↑q:=let #[q,_,_,hq,_]:=HZ;#[q,hq]
  show Z7 I (by rw[e];show True.intro) hs he (Kn hl hd (rel.put k rv) HZ)
 .subst ey eH;cases (show u=Value.ref b from ry);let#[z,hd,xs,rel,dd]:=Kh I.zl e;have hz:xs.length<=sizeLine:=by rw[<- Paired.length rel];show z
  have hl:(putK Ab k v).length<=sizeLine:=by have:=bZ Ab k v;lia
  exact wpAny_setItem_heap (hsz:=hz) (tupleKind_room_in1 hu) (pK I.zl eb) dd λ h' HZ hs=>h _ ?_;let#[q,es,ep,hq,h2,h3,h4,_,h5]:=HZ;exact Z7 I (by rw[e];show True.intro) hs #[q,hq] #[hl,hd,_,(rel.put k eb rv).keeps λ c ys ec=>?_,q,es,ep,hq,h2,h3,h4,h5];rw[zE (vX ec e (λ z=>nomatch z))];show ec
end
section
variable {X:Cx}{Fd:Ai}{O:St}{H:Hp}{s:Shared}{a:Addr}{Ab:List (Key×V)}{A:Around}{E:Af}
theorem Kt {Q:Af}(I:Inv X Fd O H s) (e:Rd H a (.dK Ab)) (h:∀ t s',Inv X Fd O H s'->Q (.int Ab.length t) s'):wpAny (model X.prog X.w) A (call (.builtin "len") [.ref a]) Q E s:=by
 let#[z,hd,vs,rel,dd]:=pY I.zl e;exact call_len_dict hd dd (by rw[<- rel.length];rw[sizeLine_eq] at z;lia) ?_;rw[<- rel.length];show h _ _ (I.tok _)
end
def fW (i:Expr):Prop:=∀ ov iv,subscripted i false ov iv=operate [ov,iv] (getItem ov iv)
def V9 {prog:Program}{w:World}{A:Around}{E:Af}{s:Shared}{env:Env}{value slice:Expr}{pos:Pos}{T id:String}{Q:Af}
  (hl:typeLookup (.type T) "__getitem__"=pure ↑(.builtin id)) (hs:fW slice)
  (h:wpAny (model prog w) A (eval value env) (λ o s₁=>wpAny (model prog w) A (eval slice env) (λ i s₂=>s₂.TypeIs o T/\wpAny (model prog w) A (getItem o i) Q E s₂) E s₁) E s):
  wpAny (model prog w) A (eval (.Subscript value slice pos) env) Q E s:=by
 exact Subscript_ (za3 h (λ o s₁ h₁=>za3 h₁ (λ i s₂ h₂=>?_) λ _ _ x=>x) λ _ _ x=>x);let#[hT,h₂]:=h₂;unfold subscriptTail;exact gV ?_;rw[getitemInPython_of_ne hT.not_modules];exact gV (wpAny_specialOf hT hl ?_);have fin:wpAny (model prog w) A (subscripted slice false o i) (λ r s₃=>wpAny (model prog w) A (letTemporaryGo value o r >>= λ _=>pure r) Q E s₃) E s₂:=by
  rw[hs o i];show wpAny_operating (za3 h₂ (λ r s₃ h₃=>gV (wpAny_letTemporaryGo (Ad h₃))) λ _ _ x=>x)
 first
  | show Ad (gV fin)
  | show gV (Ad (gV fin))
  | show gV fin
def Kp {X:Cx}{Fd:Ai}{O:St}{H:Hp}{s:Shared}{a:Addr}{y:V}{o:Option V}(I:Inv X Fd O H s) (g:sU H a y o):s.TypeIs (.ref a) "dict":=by
 rcases g with ⟨Ab,k,e,_,_⟩ | ⟨Ab,k,b,e,_,_,_⟩
 .let#[_,_,vs,_,dd]:=pY I.zl e;show dd.typeIs
 .let#[_,_,xs,_,dd]:=n_ I.zl e;show dd.typeIs
def V6 (td ty:TE):TE:=fun O H Q=>td O H λ x H1=>ty O H1 λ y H2=>∃ a v,x=.ref a/\sU H2 a y ↑v/\Q v H2
def Ue (td ty tv:TE):TS:=λ D O H=>tv O H λ v H1=>td O H1 λ x H2=>ty O H2 λ y H3=>∃ a H4,x=.ref a/\lg H3 a y v H4/\D.nx O H4
section
variable {X:Cx}{o i value:Expr}{pos pos':Pos}{td ty tv:TE}
def TF (hu:X.A.units+1<cLine) (ho:PE X o td) (hi:PE X i ty) (hs:fW i):PE X (.Subscript o i pos) (V6 td ty):=by
 intro Fd s O H Q I h;exact V9 PySem.F.slot_dict_getitem.lookup hs (zt (ho Fd s O H _ I h) λ u s1 #[x,H1,I1,rx,q1]=>zt (hi Fd s1 O H1 _ I1 q1) λ iv s2 #[y,H2,I2,ry,a,v,ex,g,q2]=>?_);subst ex;obtain rfl:u=Value.ref a:=rx;show#[Kp I2 g,Ku hu I2 g ry λ w' s3 I3 Ig=>#[v,H2,I3,Ig,q2]]
def UJ (hu:X.A.units+1<cLine) (ho:PE X o td) (hi:PE X i ty) (hv:PE X value tv) (hs:swapsWith value ↑(.Subscript o i pos') pos.line X.env=pure false):
  PS X (.Assign [.Subscript o i pos'] value pos) (Ue td ty tv):=by
 intro Fd s O H D I h;exact wpAny_Assign_Subscript (zt (hv Fd s O H _ I h) λ r s1 #[v,H1,I1,rv,q1]=>zt (ho Fd s1 O H1 _ I1 q1) λ u s2 #[x,H2,I2,rx,q2]=>zt (hi Fd s2 O H2 _ I2 q2) λ iv s3 #[y,H3,I3,ry,a,H4,ex,g,q3]=>?_) hs;subst ex;obtain rfl:u=Value.ref a:=rx;show Ks hu I3 g ry rv λ s4 I4=>#[O,H4,I4,q3]
end
def Ko {P:Program}{w:World}{H:Hp}(h:Heap) (hb:sysModules<h.objs.size):yI P w H (h.push { cls:=.type "dict",data:=.dict [].toArray }) h.objs.size (.dK []):=
 #[A2 _,beq_eq_false_iff_ne.mpr (Ne.symm (Aw hb)),[],.nil,Heap.DictOf.new h]
def V4:TE:=λ _ H Q=>∀ p,H p=none->Q (.ref p) (upd H p (.dK []))
section
variable {X:Cx}{pos:Pos}
def TB:PE X (.Dict [] [] pos) V4:=λ Fd s O H Q I h=>
 wpAny_Dict_empty #[.ref s.heap.objs.size,_,I.laid (a:=s.heap.objs.size) (o:=.dK []) (t':=s.toks) (λ _ _ q=>za1 _ q) (Ak _) (Ko s.heap I.big),rfl,h _ (I.zl.fresh (Ak _))]
end
structure M2 (X:Cx) (o:Expr) (m:Str) (apos:Pos) (e f:Expr) (Aj:Pos):Prop where
 base:attributeBase o m X.env (eval o X.env)=eval o X.env
 nS:((backTo Aj (starEach [e,f] X.env)).all (λ x=>!x.1)&&(backToKw Aj (keywordEach [] X.env)).all (λ x=>x.1.isSome)
  && decide (([e,f]:List Expr).length+([]:List Keyword).length+(if ([]:List Keyword).isEmpty then 0 else 1)<30))=true
 line:(apos.endLine == Aj.line)=true
 trees:backTo Aj (starEach [e,f] X.env)=[(false,eval e X.env),(false,eval f X.env)]
def YF (H:Hp) (a:Addr):Prop:=(∃ Ab,Rd H a (.dK Ab))\/∃ Ab,Rd H a (.dT Ab)
def MF {X:Cx}{Fd:Ai}{O:St}{H:Hp}{s:Shared}{a:Addr}(I:Inv X Fd O H s) (d:YF H a):
  s.TypeIs (.ref a) "dict"/\(∀ b,Value.ref a=.ref b->∃ ob,s.heap.get? b=↑ob/\ob.dict=none)/\(a == sysModules)=false:=by
 rcases d with ⟨Ab,e⟩ | ⟨Ab,e⟩
 .let#[_,hd,vs,_,dd]:=pY I.zl e;exact#[dd.typeIs,λ b q=>?_,hd];cases q;let#[ob,_,_,h1,h2,_]:=dd;show#[ob,h1,h2.2.1]
 .let#[_,hd,xs,_,dd]:=n_ I.zl e;exact#[dd.typeIs,λ b q=>?_,hd];cases q;let#[ob,_,_,h1,h2,_]:=dd;show#[ob,h1,h2.2.1]
section
variable {X:Cx}{Fd:Ai}{O:St}{H:Hp}{s:Shared}{a:Addr}{y d:V}{u r:Value}{o:Option V}{A:Around}{E:Af}
def Kv {Q:Af}(hu:A.units+1<cLine) (I:Inv X Fd O H s) (g:sU H a y o) (ry:RelV y u) (rd:RelV d r) (h:∀ w' s',Inv X Fd O H s'->RelV (o.getD d) w'->Q w' s'):
  wpAny (model X.prog X.w) A (call (.builtin "dict.get") [.ref a,u,r]) Q E s:=by
 rcases g with ⟨Ab,k,e,ey,l⟩ | ⟨Ab,k,b,e,ey,eb,l⟩
 .subst ey;let#[z,hd,vs,rel,dd]:=pY I.zl e;exact call_meetsIn PySem.F.slot_dict_get dd.typeIs PySem.F.entry_dict_get (PySem.F.args_dict_get_3 _ _ _) (meets_dict_get_default (we X.prog X.w) a (kf ry) hd r) #[_,dd.mapOf,h _ _ (I.tok _) ?_];rw[l];show (rel.val k).getD rd
 .subst ey;cases (show u=Value.ref b from ry);let#[z,hd,xs,rel,dd]:=n_ I.zl e;exact call_meetsIn PySem.F.slot_dict_get dd.typeIs PySem.F.entry_dict_get (PySem.F.args_dict_get_3 _ _ _) (meetsH_dict_get_default (tupleKind (we X.prog X.w)) a b hd r) #[tupleKind_room_in1 hu,k,xs,pK I.zl eb,dd,h _ _ (I.tok _) ?_];rw[l];show (rel.val k).getD rd
end
def V5 (td ty tx:TE):TE:=fun O H Q=>td O H λ x H1=>∃ a,x=.ref a/\YF H1 a/\ty O H1 λ y H2=>tx O H2 λ z H3=>∃ o,sU H3 a y o/\Q (o.getD z) H3
section
variable {X:Cx}{o e f:Expr}{apos Aj:Pos}{td ty tx:TE}
def TC (hu:X.A.units+1<cLine) (ho:PE X o td) (he:PE X e ty) (hf:PE X f tx) (m:M2 X o "get" apos e f Aj):PE X (.Call (.Attribute o "get" apos) [e,f] [] Aj) (V5 td ty tx):=by
 intro Fd s O H Q I h;exact wpAny_Call_method m.base m.nS m.line PySem.F.plainAttrs_dict PySem.F.slot_dict_get PySem.F.type_dict_get (zt (ho Fd s O H _ I h) λ u s1 #[x,H1,I1,rx,a,ex,d,q1]=>?_);subst ex;obtain rfl:u=Value.ref a:=rx;let#[t1,t2,_]:=MF I1 d;exact#[t1,t2,?_];rw[m.trees];exact Calls.callWith_builtin rfl (Calls.evalArgs_plain (Calls.spliced_cons (zt (he Fd s1 O H1 _ I1 q1) λ iv s2 #[y,H2,I2,ry,q2]=>
  Calls.spliced_cons (zt (hf Fd s2 O H2 _ I2 q2) λ fv s3 #[z,H3,I3,rz,ov,g,q3]=>Calls.spliced_nil ?_))))
 show Kv hu I3 g ry rz λ w' s4 I4 Ig=>#[_,H3,I4,Ig,q3]
end
end L2
namespace L3
open PySem PySem.Spec L2
open PyProof.Rows hiding St
def vN (Ab:List (Key×D)) (k:Key):Option D:=(Ab.find? λ kv=>decide (kv.1=k)).map (·.2)
def putD (Ab:List (Key×D)) (k:Key) (v:D):List (Key×D):=
 if (Ab.any λ kv=>decide (kv.1=k))=true then Ab.map (λ kv=>if kv.1=k then (kv.1,v) else kv) else Ab++[(k,v)]
section
variable {K:Ac}{H:Hp}
theorem yG.val:∀ {Ab:List (Key×D)}{vs:List (Key×V)},yG K H Ab vs->∀ k,(vN Ab k=none/\xS vs k=none)\/∃ d v,vN Ab k=↑d/\xS vs k=↑v/\ze K H d v
 | _,_,.nil,k=>.inl #[rfl,rfl]
 | (a,d)::Ab,(b,v)::vs,.cons #[e,r] t,k=>by
  have e':a=b:=e;subst e';by_cases h:a=k
  .subst h;show .inr #[d,v,by simp[vN],by simp[xS],r]
  .rcases yG.val t k with ⟨h1,h2⟩ | ⟨d',v',h1,h2,h3⟩
   .show .inl #[by simpa [vN,h] using h1,by simpa [xS,h] using h2]
   .show .inr #[d',v',by simpa [vN,h] using h1,by simpa [xS,h] using h2,h3]
theorem yG.any {Ab:List (Key×D)}{vs:List (Key×V)}(h:yG K H Ab vs) (k:Key):(Ab.any λ kv=>decide (kv.1=k))=vs.any λ kv=>decide (kv.1=k):=by
 induction h with
 | nil=>rfl
 | cons r _ ih=>rw[BR,BR,ih,r.1]
def yG.len {Ab:List (Key×D)}{vs:List (Key×V)}(h:yG K H Ab vs):Ab.length=vs.length:=Paired.length h
theorem yG.uZ {k:Key}{d:D}{v:V}(r:ze K H d v):∀ {Ab:List (Key×D)}{vs:List (Key×V)},yG K H Ab vs->yG K H (Ab.map λ kv=>if kv.1=k then (kv.1,d) else kv) (vs.map λ kv=>if kv.1=k then (kv.1,v) else kv)
 | _,_,.nil=>.nil
 | (a1,a2)::_,(b1,b2)::_,.cons #[e,q] t=>by
  have e':a1=b1:=e;subst e';exact .cons ?_ (yG.uZ r t);by_cases hk:a1=k
  .simp[hk,r]
  .simpa [hk] using q
theorem yG.snoc {k:Key}{d:D}{v:V}(r:ze K H d v):∀ {Ab:List (Key×D)}{vs:List (Key×V)},yG K H Ab vs->yG K H (Ab++[(k,d)]) (vs++[(k,v)])
 | _,_,.nil=>.cons #[rfl,r] .nil
 | _,_,.cons q t=>.cons q (yG.snoc r t)
def yG.put {Ab:List (Key×D)}{vs:List (Key×V)}(h:yG K H Ab vs) (k:Key) {d:D}{v:V}(r:ze K H d v):yG K H (putD Ab k d) (putK vs k v):=by
 unfold putD putK;rw[h.any k];split
 .show yG.uZ r h
 .show yG.snoc r h
end
section
variable {X:Cx}{o i e f v:Expr}{td ty tx tv:zq}{pos pos' apos Aj:Pos}
def ZH:zq:=λ _ S Q=>∀ p,S p=none->Q (.ref p) (ups S p (.zC []))
theorem Qj:PD X (.Dict [] [] pos) ZH:=by
 exact#[λ _ _ _ _ hq z p hp=>hq _ _ (z p hp),PE.imp TB fun O H Q hu p hp=>?_];let#[L,S,r1,r2,z]:=hu;show z p (r2.none hp) _ _ (by simp![ze]) (.new hp _) (r2.ups (.new hp _) #[[],zX,.nil])
def ZK (td ty:zq):zq:=fun L S Q=>td L S λ x S1=>ty L S1 λ y S2=>∃ p Ab k d,x=.ref p/\y=.int k/\S2 p=↑(.zC Ab)/\vN Ab (.inl k)=↑d/\Q d S2
def Qi {k:Nat}(hr:zN k X.A) (ho:PD X o td) (hi:PD X i ty) (hs:fW i):PD X (.Subscript o i pos) (ZK td ty):=by
 exact#[fun L S Q Q' hq z=>ho.mo L S _ _ (λ x S1 z=>hi.mo L S1 _ _ (λ y S2 #[p,Ab,k,d,a,b,c,e,h]=>#[p,Ab,k,d,a,b,c,e,hq _ _ h]) z) z,PE.imp (TF (gj hr) ho.pe hi.pe hs) fun O H Q hu=>?_];let#[L,S,r1,r2,z]:=hu;exact zF.go ho.mo r1 r2 z λ x S1 w H1 h1 q1 e1 p1=>?_;exact zF.go hi.mo (r1.ext e1) p1 h1 λ y S2 w2 H2 h2 q2 e2 p2=>?_;let#[p,Ab,k,d,rfl,rfl,c1,c2,h]:=h2;simp![ze] at q1 q2;subst q1 q2;let#[vs,g1,g2]:=p2 _ _ c1;rcases yG.val g2 (.inl k) with ⟨n1,_⟩ | ⟨d',v',n1,n2,n3⟩
 .rw[c2] at n1;cases n1
 .rw[c2] at n1;cases n1;show#[p,v',rfl,n2▸sU.k (k:=Sum.inl k) g1,h v' H2 n3 (e1.trans e2) p2]
def ZJ (td ty tx:zq):zq:=fun L S Q=>td L S λ x S1=>∃ p,x=.ref p/\(∃ Ab,S1 p=↑(.zC Ab))/\ty L S1 λ y S2=>tx L S2 λ z S3=>∃ k Ab,y=.int k/\S3 p=↑(.zC Ab)/\Q ((vN Ab (.inl k)).getD z) S3
def Qk {k:Nat}(hr:zN k X.A) (ho:PD X o td) (he:PD X e ty) (hf:PD X f tx) (m:M2 X o "get" apos e f Aj):PD X (.Call (.Attribute o "get" apos) [e,f] [] Aj) (ZJ td ty tx):=by
 exact#[fun L S Q Q' hq z=>ho.mo L S _ _ (λ x S1 #[p,a,b,z]=>#[p,a,b,he.mo L S1 _ _ (λ y S2 z=>hf.mo L S2 _ _ (λ w S3 #[k,Ab,a,b,h]=>#[k,Ab,a,b,hq _ _ h]) z) z]) z,PE.imp (TC (gj hr) ho.pe he.pe hf.pe m) fun O H Q hu=>?_];let#[L,S,r1,r2,z]:=hu;exact zF.go ho.mo r1 r2 z λ x S1 w H1 h1 q1 e1 p1=>?_;let#[p,rfl,#[kvs0,c0],h1]:=h1;simp![ze] at q1;subst q1;let#[vs0,g0,_]:=p1 _ _ c0;exact#[p,rfl,.inl #[vs0,.inl g0],?_];exact zF.go he.mo (r1.ext e1) p1 h1 λ y S2 w2 H2 h2 q2 e2 p2=>?_;exact zF.go hf.mo ((r1.ext e1).ext e2) p2 h2 λ y3 S3 w3 H3 h3 q3 e3 p3=>?_;let#[k,Ab,rfl,c1,h]:=h3;simp![ze] at q2;subst q2;let#[vs,g1,g2]:=p3 _ _ c1;exact#[xS vs (.inl k),sU.k (k:=Sum.inl k) g1,?_];rcases yG.val g2 (.inl k) with ⟨n1,n2⟩ | ⟨d',v',n1,n2,n3⟩
 .rw[n1] at h;rw[n2];show h _ H3 q3 ((e1.trans e2).trans e3) p3
 .rw[n1] at h;rw[n2];show h _ H3 n3 ((e1.trans e2).trans e3) p3
def ZI (td ty tv:zq):zY:=λ E L S=>tv L S λ v S1=>td L S1 λ x S2=>ty L S2 λ y S3=>∃ p Ab k,x=.ref p/\y=.int k/\S3 p=↑(.zC Ab)/\Ab.length<sizeLine/\E.nx L (ups S3 p (.zC (putD Ab (.inl k) v)))
theorem Ext.dK {H:Hp}{p:Addr}{Ab:List (Key×V)}(h:H p=↑(.dK Ab)) (o:HO):Ext H (upd H p o):=
 #[λ b ys q=>by rw[zE (vX q h (by intro z;cases z))];show q,λ b ob u q=>by rw[zE (vX q h (by intro z;cases z))];show q,λ b u q=>by rw[zE (vX q h (by intro z;cases z))];show q,λ b u q=>by rw[zE (vX q h (by intro z;cases z))];show q]
theorem SU {k:Nat}(hr:zN k X.A) (ho:PD X o td) (hi:PD X i ty) (hv:PD X v tv) (hs:swapsWith v ↑(.Subscript o i pos') pos.line X.env=pure false):xD X (.Assign [.Subscript o i pos'] v pos) (ZI td ty tv):=by
 exact#[λ E E' L S hE z=>hv.mo L S _ _ (λ w S1 z=>ho.mo L S1 _ _ (λ x S2 z=>hi.mo L S2 _ _ (λ y S3 #[p,Ab,k,a,b,c,d,h]=>#[p,Ab,k,a,b,c,d,hE.nx _ _ h]) z) z) z,PS.imp (UJ (gj hr) ho.pe hi.pe hv.pe hs) λ D O H hu=>?_];let#[L,S,r1,r2,z]:=hu;exact zF.go hv.mo r1 r2 z λ w S1 w1 H1 h1 q1 e1 p1=>?_;exact zF.go ho.mo (r1.ext e1) p1 h1 λ x S2 w2 H2 h2 q2 e2 p2=>?_;exact zF.go hi.mo ((r1.ext e1).ext e2) p2 h2 λ y S3 w3 H3 h3 q3 e3 p3=>?_;let#[p,Ab,k,rfl,rfl,c1,c2,h]:=h3;simp![ze] at q2 q3;subst q2 q3;let#[vs,g1,g2]:=p3 _ _ c1;have e4:Ext H3 (upd H3 p (.dK (putK vs (.inl k) w1))):=.dK g1 _;exact#[p,_,rfl,lg.k (k:=Sum.inl k) g1 (by rw[<- g2.len];show c2),?_];show h O _ ((((r1.ext e1).ext e2).ext e3).ext e4) (((e1.trans e2).trans e3).trans e4) (p3.ups e4 #[_,zX,(yG.put g2 _ (ze.ext (e2.trans e3) w q1)).ext e4])
def Je:y7 X (.builtin "len") (λ xs H Q=>∃ p Ab,xs=[.ref p]/\H p=↑(.dK Ab)/\Q (.int Ab.length) H):=by
 intro Fd s O H xs us Q I r h;let#[p,Ab,rfl,e,q]:=h;let#[u,rfl,ru]:=vals1 r;cases ru;show Kt I (.inl e) λ t s' I'=>#[.int _,H,I',#[_,rfl],q]
def Zl:xh:=λ ds S Q=>∃ p Ab,ds=[.ref p]/\S p=↑(.zC Ab)/\Q (.int Ab.length) S
def Qh {es:List Expr}{tA:zZ}{p:Pos}(hm:X.mg "len"=none) (ha:yH X (e::es) tA) (hg:Gl X "len") (he:AA X e es) (Am:AF X pos es):PD X (.Call (.Name "len" p) (e::es) [] pos) (xc Zl tA):=
 u6 (u5 Je hg hm PySem.boot_len ha.pa () () he Am) (λ _ _ _ _ hq #[p,Ab,a,b,h]=>#[p,Ab,a,b,hq _ _ h]) (λ xs ds H S Q h0 h2 #[p,Ab,a,b,h]=>by
  subst a;let#[x,rfl,h1]:=h0.one;simp![ze] at h1;subst h1;let#[vs,g1,g2]:=h2 _ _ b;exact#[p,vs,rfl,g1,?_];rw[<- g2.len];show h _ H (by simp![ze]) (.refl H) h2) ha.mo
end
end L3
namespace L3
open PySem L2
section
variable {S S':SS}
mutual
theorem Sn.sx (h:Sx S S'):∀ (t:T) {d:D},Sn S t d->Sn S' t d
 | .zo,d,q=>by simpa only [Sn] using q
 | .bl b,d,q=>by simpa only [Sn] using q
 | .int i,d,q=>by simpa only [Sn] using q
 | .str x,d,q=>by simpa only [Sn] using q
 | .tup ts,d,q=>by
  simp![Sn] at q ⊢;let#[ds,q1,q2]:=q;show#[ds,q1,zg.sx h ts q2]
 | .lst ts,d,q=>by
  simp![Sn] at q ⊢;let#[ds,q1,q2]:=q;exact#[ds,?_,zg.sx h ts q2];rcases q1 with q1 | ⟨a,q1,q3⟩
  .show .inl q1
  .show .inr #[a,q1,h _ _ q3]
 | .err _ _ t,d,q=>by
  simp![Sn] at q ⊢;let#[x,q1,q2]:=q;show#[x,q1,Sn.sx h t q2]
 | .yD,d,q=>by
  simp![Sn] at q ⊢;let#[a,Ab,q1,q2]:=q;show#[a,Ab,q1,h _ _ q2]
theorem zg.sx (h:Sx S S'):∀ (ts:List T) {ds:List D},zg S ts ds->zg S' ts ds
 | [],ds,q=>by simpa only [zg] using q
 | t::ts,ds,q=>by
  simp![zg] at q ⊢;let#[c,cs,q1,q2,q3]:=q;show#[c,cs,q1,Sn.sx h t q2,zg.sx h ts q3]
end
def zg.nil:zg S [] []:=by simp![zg]
def zg.cons {t:T}{ts:List T}{d:D}{ds:List D}(h:Sn S t d) (h':zg S ts ds):zg S (t::ts) (d::ds):=by
 simp![zg];show#[d,ds,rfl,h,h']
theorem zg.append:∀ {ts us:List T}{ds es:List D},zg S ts ds->zg S us es->zg S (ts++us) (ds++es)
 | [],us,ds,es,h,h'=>by simp![zg] at h;subst h;exists h'
 | t::ts,us,ds,es,h,h'=>by
  simp![zg] at h;let#[c,cs,rfl,h1,h2]:=h;show zg.cons h1 (zg.append h2 h')
theorem zg.gA:∀ {ts:List T}{ds:List D}{i:Nat}{t:T},zg S ts ds->ts[i]?=↑t->∃ d,ds[i]?=↑d/\Sn S t d
 | [],_,i,t,_,e=>by simp at e
 | u::ts,ds,i,t,h,e=>by
  simp![zg] at h;let#[c,cs,rfl,h1,h2]:=h;cases i with
  | zero=>simp at e;subst e;show#[c,rfl,h1]
  | succ i=>
   let#[y,e1,e2]:=zg.gA (i:=i) h2 (by exists e);show#[y,by simpa using e1,e2]
theorem zg.gC:∀ {ts:List T}{ds:List D}{i:Nat}{d:D},zg S ts ds->ds[i]?=↑d->∃ t,ts[i]?=↑t/\Sn S t d
 | [],ds,i,t,h,e=>by simp![zg] at h;subst h;simp at e
 | u::ts,ds,i,t,h,e=>by
  simp![zg] at h;let#[c,cs,rfl,h1,h2]:=h;cases i with
  | zero=>simp at e;subst e;show#[u,rfl,h1]
  | succ i=>
   let#[y,e1,e2]:=zg.gC (i:=i) h2 (by exists e);show#[y,by simpa using e1,e2]
def zg.len {ts:List T}{ds:List D}(h:zg S ts ds):ds.length=ts.length:=(L3.zg.length h).symm
theorem zg.at {ts:List T}{ds:List D}{i:Int}{t:T}(h:zg S ts ds) (e:L2.zy ts i=↑t):∃ d,L2.zy ds i=↑d/\Sn S t d:=by
 unfold L2.zy at e ⊢;rw[h.len];cases q:L2.wD ts.length i with
 | none=>rw[q] at e;cases e
 | some j=>
  rw[q] at e;show h.gA e
theorem zg.d_:∀ {ts:List T}{ds:List D}{t:T}{d:D}(i:Nat),zg S ts ds->Sn S t d->zg S (ts.set i t) (ds.set i d)
 | [],ds,t,d,i,h,_=>by simp![zg] at h;subst h;exists zg.nil
 | u::ts,ds,t,d,0,h,hd=>by
  simp![zg] at h;let#[c,cs,rfl,h1,h2]:=h;show zg.cons hd h2
 | u::ts,ds,t,d,i+1,h,hd=>by
  simp![zg] at h;let#[c,cs,rfl,h1,h2]:=h;show zg.cons h1 (zg.d_ i h2 hd)
theorem zg.take':∀ {ts:List T}{ds:List D}(n:Nat),zg S ts ds->zg S (ts.take n) (ds.take n)
 | ts,ds,0,h=>by exists zg.nil
 | [],ds,n+1,h=>by simp![zg] at h;subst h;exists zg.nil
 | t::ts,ds,n+1,h=>by
  simp![zg] at h;let#[c,cs,rfl,h1,h2]:=h;show zg.cons h1 (zg.take' n h2)
theorem zg.drop':∀ {ts:List T}{ds:List D}(n:Nat),zg S ts ds->zg S (ts.drop n) (ds.drop n)
 | ts,ds,0,h=>h
 | [],ds,n+1,h=>by simp![zg] at h;subst h;exists zg.nil
 | t::ts,ds,n+1,h=>by
  simp![zg] at h;let#[c,cs,rfl,h1,h2]:=h;show zg.drop' n h2
def zg.empty {ts:List T}{ds:List D}(h:zg S ts ds):ds.isEmpty=ts.isEmpty:=by
 have:=h.len;cases ds <;> cases ts <;> simp_all
theorem zg.Yh:∀ {bs:List Bool}{ds:List D},zg S (bs.map T.bl) ds->ds=bs.map D.bl
 | [],ds,h=>by simpa only [Bj,zg] using h
 | b::bs,ds,h=>by
  rw[Ax] at h;simp![zg,Sn] at h;let#[c,cs,rfl,rfl,h3]:=h;rw[zg.Yh h3];rfl
end
end L3
namespace L5
open PySem L2 L3
def zJ (S:SS) (Z:Addr->Prop):SS:=open Classical in λ a=>if Z a then none else S a
section
variable {S S':SS}{Z Z':Addr->Prop}{a p:Addr}
def vY (h:¬ Z a):zJ S Z a=S a:=if_neg h
def gk (h:Z a):zJ S Z a=none:=if_pos h
def uF {o:O}(h:zJ S Z a=↑o):¬ Z a/\S a=↑o:=by
 by_cases z:Z a
 .rw[gk z] at h;cases h
 .rw[vY z] at h;show#[z,h]
def kr (S:SS) (Z:Addr->Prop):Sx (zJ S Z) S:=λ _ _ h=>(uF h).2
def wg (h:Sx S S'):Sx (zJ S Z) (zJ S' Z):=λ b o q=>by
 let#[q1,q2]:=uF q;rw[vY q1];show h _ _ q2
def vZ (h:∀ a,Z' a->Z a):Sx (zJ S Z) (zJ S Z'):=λ b o q=>by
 let#[q1,q2]:=uF q;rw[vY (λ z=>q1 (h _ z))];show q2
def pT (h:Sx S S') (hp:S p=none):Sx (zJ S Z) (zJ S' λ a=>Z a\/a=p):=λ b o q=>by
 let#[q1,q2]:=uF q;rw[vY]
 .show h _ _ q2
 .rintro (z | z)
  .show q1 z
  .subst z;rw[hp] at q2;cases q2
theorem MV {o:O}(h:Z p):zJ (ups S p o) Z=zJ S Z:=by
 funext b;by_cases z:Z b
 .rw[gk z,gk z]
 .rw[vY z,vY z,tV (λ e=>z (by rw[e];show h))]
end
inductive C where
 | lst (ts:List T) | zC (Ab:List (Key×T))
def yt (S:SS):List (Key×T)->List (Key×D)->Prop
 | [],l=>l=[]
 | (k,t)::r,l=>∃ d m,l=(k,d)::m/\Sn S t d/\yt S r m
theorem yt.sx {S S':SS}(h:Sx S S'):∀ {a:List (Key×T)}{b:List (Key×D)},yt S a b->yt S' a b
 | [],_,q=>q
 | (k,t)::r,_,q=>by
  let#[d,m,q1,q2,q3]:=q;show#[d,m,q1,Sn.sx h t q2,yt.sx h q3]
def tK (S:SS):C->O->Prop
 | .lst ts,.lst ds=>zg S ts ds
 | .zC a,.zC b=>yt S a b
 | _,_=>False
theorem tK.sx {S S':SS}(h:Sx S S'):∀ {c:C}{o:O},tK S c o->tK S' c o
 | .lst ts,.lst ds,q=>zg.sx h ts q
 | .zC a,.zC b,q=>yt.sx h q
inductive W where
 | im (t:T) | own (c:C)
abbrev Ev:=List (Option W)
abbrev Ag:=Ev->Option T
abbrev Al:=List T->Option T
structure ER (S:SS) (Z:Addr->Prop) (L:zW) (Y:Ev):Prop where
 zd:∀ a,Z a->S a≠none
 im:∀ (i:Nat) t,Y[i]?=↑↑(.im t)->∃ d,L[i]?=↑↑d/\Sn (zJ S Z) t d
 ow:∀ (i:Nat) c,Y[i]?=↑↑(.own c)->∃ p o,L[i]?=↑↑(.ref p)/\S p=↑o/\tK (zJ S Z) c o/\Z p
def Vw (S:SS) (Z:Addr->Prop) (y:T) (d:D):Prop:=Sn (zJ S Z) y d\/∃ ts p ds,y=.lst ts/\d=.ref p/\S p=↑(.lst ds)/\zg (zJ S Z) ts ds/\Z p
abbrev Rk:=SS->SS->(Addr->Prop)->T->D->Prop
def Y3:Rk:=λ _ S' Z y d=>Vw S' Z y d
def xg:Rk:=λ _ S' Z y d=>Sn (zJ S' Z) y d
def zv:Rk:=λ S S' Z y d=>Sn (zJ S' Z) y d/\∀ ts,y=.lst ts->∃ p ds,d=.ref p/\S p=none/\S' p=↑(.lst ds)/\zg (zJ S' λ a=>Z a\/a=p) ts ds
class Cl (R:Rk):Prop where
 cl:∀ {S S1 S':SS}{Z:Addr->Prop}{y:T}{d:D},Sx S S1->R S1 S' Z y d->R S S' Z y d
 of:∀ {S S':SS}{Z:Addr->Prop}{y:T}{d:D},(∀ ts,y≠.lst ts)->Sn (zJ S' Z) y d->R S S' Z y d
instance:Cl Y3:=#[λ _ h=>h,λ _ h=>.inl h]
instance:Cl xg:=#[λ _ h=>h,λ _ h=>h]
instance:Cl zv:=#[λ s h=>#[h.1,λ ts e=>by
 let#[p,ds,h1,h2,h3]:=h.2 ts e;show#[p,ds,h1,s.none h2,h3]],λ n h=>#[h,λ ts e=>absurd e (n ts)]]
section
variable {S S':SS}{Z:Addr->Prop}{L:zW}{Y:Ev}{y:T}{d:D}
def ER.grow (h:ER S Z L Y) (s:Sx S S'):ER S' Z L Y:=
 #[λ a z q=>h.zd a z (s.none q),λ i t e=>by
  let#[d,h1,h2]:=h.im i t e;show#[d,h1,Sn.sx (wg s) t h2],λ i ts e=>by
  let#[p,ds,h1,h2,h3,h4]:=h.ow i ts e;show#[p,ds,h1,s _ _ h2,tK.sx (wg s) h3,h4]]
def Vw.grow (h:Vw S Z y d) (s:Sx S S'):Vw S' Z y d:=by
 rcases h with h | ⟨ts,p,ds,h1,h2,h3,h4,h5⟩
 .show .inl (Sn.sx (wg s) y h)
 .show .inr #[ts,p,ds,h1,h2,s _ _ h3,zg.sx (wg s) ts h4,h5]
def Vw.sn (h:Vw S Z y d):Sn S y d:=by
 rcases h with h | ⟨ts,p,ds,rfl,rfl,h3,h4,_⟩
 .show Sn.sx (kr S Z) y h
 .simp![Sn];show#[ds,.inr #[p,rfl,h3],zg.sx (kr S Z) ts h4]
theorem Vw.zo (h:Vw S Z .zo d):d=.zo:=by
 rcases h with h | ⟨_,_,_,h,_⟩
 .simpa only [Sn] using h
 .cases h
theorem Vw.bl {b:Bool}(h:Vw S Z (.bl b) d):d=.bl b:=by
 rcases h with h | ⟨_,_,_,h,_⟩
 .simpa only [Sn] using h
 .cases h
theorem Vw.int {b:Int}(h:Vw S Z (.int b) d):d=.int b:=by
 rcases h with h | ⟨_,_,_,h,_⟩
 .simpa only [Sn] using h
 .cases h
theorem Vw.str {b:Str}(h:Vw S Z (.str b) d):d=.str b:=by
 rcases h with h | ⟨_,_,_,h,_⟩
 .simpa only [Sn] using h
 .cases h
theorem Vw.tup {ts:List T}(h:Vw S Z (.tup ts) d):∃ ds,d=.tup ds/\zg (zJ S Z) ts ds:=by
 rcases h with h | ⟨_,_,_,h,_⟩
 .simpa only [Sn] using h
 .cases h
theorem Vw.lst {ts:List T}(h:Vw S Z (.lst ts) d):∃ ds,(d=.xi ds\/∃ a,d=.ref a/\S a=↑(.lst ds))/\zg (zJ S Z) ts ds:=by
 rcases h with h | ⟨us,p,ds,h1,h2,h3,h4,_⟩
 .simp![Sn] at h;let#[ds,h1,h2]:=h;exact#[ds,?_,h2];rcases h1 with h1 | ⟨a,h1,h3⟩
  .show .inl h1.1
  .show .inr #[a,h1,(uF h3).2]
 .cases h1;show#[ds,.inr #[p,h2,h3],h4]
def xI:T->Option (List T)
 | .tup ts=>↑ts
 | .lst ts=>↑ts
 | _=>none
@[simp] theorem Ua (ts:List T):xI (.tup ts)=↑ts:=rfl
@[simp] theorem cf (ts:List T):xI (.lst ts)=↑ts:=rfl
def Vw.seq {ts:List T}(h:Vw S Z y d) (e:xI y=↑ts):∃ ds,zK d S=↑ds/\zg (zJ S Z) ts ds:=by
 cases y with
 | tup us=>cases e;let#[ds,rfl,h2]:=h.tup;show#[ds,rfl,h2]
 | lst us=>
  cases e;obtain⟨ds,h1 | ⟨a,rfl,h1⟩,h2⟩:=h.lst
  .subst h1;show#[ds,rfl,h2]
  .show#[ds,by unfold zK;dsimp only;rw[h1],h2]
 | _=>cases e
theorem Vw.yD (h:Vw S Z .yD d):∃ a Ab,(d=.ref a/\Ab=[])/\S a=↑(.zC Ab):=by
 rcases h with h | ⟨_,_,_,h,_⟩
 .simp![Sn] at h;let#[a,Ab,h1,h2]:=h;show#[a,Ab,h1,(uF h2).2]
 .cases h
def ib:Sn S .zo .zo:=by simp![Sn]
def x_ {b:Bool}:Sn S (.bl b) (.bl b):=by simp![Sn]
def xU {i:Int}:Sn S (.int i) (.int i):=by simp![Sn]
def dQ {x:Str}:Sn S (.str x) (.str x):=by simp![Sn]
def qh {ts:List T}{ds:List D}(h:zg S ts ds):Sn S (.tup ts) (.tup ds):=by simp![Sn];show#[ds,rfl,h]
def tZ {ts:List T}{ds:List D}{p:Addr}(hz:∀ a,Z a->S a≠none) (hp:S p=none) (h:zg (zJ S Z) ts ds):zv S (ups S p (.lst ds)) Z (.lst ts) (.ref p):=by
 have nz:¬ Z p:=λ z=>hz p z hp;have s:Sx S (ups S p (.lst ds)):=.new hp _;exact#[?_,λ us e=>?_]
 .simp![Sn];show#[ds,.inr #[p,rfl,by rw[vY nz,sX]],zg.sx (wg s) ts h]
 .cases e;show#[p,ds,rfl,hp,sX,zg.sx (pT s hp) ts h]
end
def yV (R:Rk) (f:Ag) (t:zq):Prop:=∀ S Z L Y y Q,ER S Z L Y->f Y=↑y->(∀ d S',Sx S S'->R S S' Z y d->Q d S')->t L S Q
abbrev wI:=yV xg
abbrev yk:=yV Y3
abbrev yX:=yV zv
def yV.imp {R R':Rk}{f:Ag}{t:zq}(h:yV R f t) (i:∀ S S' Z y d,R S S' Z y d->R' S S' Z y d):yV R' f t:=λ S Z L Y y Q hE e hq=>h S Z L Y y Q hE e λ d S' s r=>hq d S' s (i _ _ _ _ _ r)
def yV.er {f:Ag}{t:zq}(h:wI f t):yk f t:=h.imp λ _ _ _ _ _ r=>.inl r
def yV.fe {f:Ag}{t:zq}(h:yX f t):wI f t:=h.imp λ _ _ _ _ _ r=>r.1
def yV.fr {f:Ag}{t:zq}(h:yX f t):yk f t:=h.fe.er
@[simp] def zi (i:Nat):Ag:=fun Y=>match Y[i]? with
 | some ↑(.im t)=>↑t
 | _=>none
@[simp] def zc (i:Nat):Ag:=fun Y=>match Y[i]? with
 | some ↑(.im t)=>↑t
 | some ↑(.own (.lst ts))=>↑(.lst ts)
 | _=>none
@[simp] def cS (t:T):Ag:=λ _=>↑t
@[simp] abbrev cI (i:Int):Ag:=cS (.int i)
def bA (i:Nat):wI (zi i) (yj i):=λ S Z L Y y Q hE e hq=>by
 unfold zi at e;split at e
 .rename_i t h;cases e;let#[d,h1,h2]:=hE.im i _ h;unfold yj;rw[h1];show hq d S (.refl S) h2
 .cases e
def PC (i:Nat):yk (zc i) (yj i):=λ S Z L Y y Q hE e hq=>by
 unfold zc at e;split at e
 .rename_i t h;cases e;let#[d,h1,h2]:=hE.im i _ h;unfold yj;rw[h1];show hq d S (.refl S) (.inl h2)
 .rename_i ts h;cases e;let#[p,o,h1,h2,h3,h4]:=hE.ow i _ h;unfold yj;rw[h1];cases o with
  | zC _=>show h3.elim
  | lst ds=>show hq _ S (.refl S) (.inr #[ts,p,ds,rfl,rfl,h2,h3,h4])
 .cases e
def OC (i:Int):yX (cS (.int i)) (dC (.int i)):=λ S Z L Y y Q hE e hq=>by cases e;show hq _ S (.refl S) (Cl.of (λ _=>nofun) xU)
def Ng (i:Bool):yX (cS (.bl i)) (dC (.bl i)):=λ S Z L Y y Q hE e hq=>by cases e;show hq _ S (.refl S) (Cl.of (λ _=>nofun) x_)
def PN (i:Str):yX (cS (.str i)) (dC (.str i)):=λ S Z L Y y Q hE e hq=>by cases e;show hq _ S (.refl S) (Cl.of (λ _=>nofun) dQ)
def P_:yX (cS .zo) (dC .zo):=λ S Z L Y y Q hE e hq=>by cases e;show hq _ S (.refl S) (Cl.of (λ _=>nofun) ib)
@[simp] def zb (f:T->T->Option T) (fa fb:Ag):Ag:=fun Y=>(fa Y).bind λ x=>(fb Y).bind λ y=>f x y
def Good2 (R:Rk) (f:T->T->Option T) (g:y6):Prop:=∀ S Z x y z d e Q,(∀ a,Z a->S a≠none)->Vw S Z x d->Vw S Z y e->f x y=↑z->(∀ c S',Sx S S'->R S S' Z z c->Q c S')->g d e S Q
def sf {R:Rk} [Cl R] {f:T->T->Option T}{g:y6}{fa fb:Ag}{ta tb:zq}(hg:Good2 R f g) (ha:yk fa ta) (hb:yk fb tb):yV R (zb f fa fb) (yf g ta tb):=λ S Z L Y y Q hE e hq=>by
 unfold zb at e;let#[x,e1,e]:=An.mp e;let#[z,e2,e]:=An.mp e;exact ha S Z L Y x _ hE e1 λ d S1 s1 r1=>?_;exact hb S1 Z L Y z _ (hE.grow s1) e2 λ d2 S2 s2 r2=>?_;show hg S2 Z x z y d d2 Q ((hE.grow (s1.trans s2)).zd) (Vw.grow r1 s2) r2 e λ c S' s r=>hq c S' ((s1.trans s2).trans s) (Cl.cl (s1.trans s2) r)
@[simp] def i2 (g:Int->Int->T):T->T->Option T
 | .int i,.int j=>↑(g i j)
 | _,_=>none
instance {i j:Int}:Decidable (vM i j):=by unfold vM;infer_instance
instance {i j:Int}:Decidable (xE i j):=by unfold xE;infer_instance
instance {i j:Int}:Decidable (tT i j):=by unfold tT;infer_instance
@[simp] def qu (C:Int->Int->Prop) [∀ i j,Decidable (C i j)] (g:Int->Int->T):T->T->Option T
 | .int i,.int j=>if C i j then ↑(g i j) else none
 | _,_=>none
def ku {g:Int->Int->T}{g':Int->Int->D}(h:∀ i j S,Sn S (g i j) (g' i j)) (n:∀ i j ts,g i j≠.lst ts):Good2 zv (i2 g) (yM g'):=λ S Z x y z d e Q hz hx hy ef hq=>by
 unfold i2 at ef;split at ef
 .cases ef;cases hx.int;cases hy.int;show hq _ S (.refl S) (Cl.of (n _ _) (h _ _ _))
 .cases ef
def nP {C:Int->Int->Prop} [∀ i j,Decidable (C i j)] {g:Int->Int->T}{g':Int->Int->D}(h:∀ i j S,Sn S (g i j) (g' i j)) (n:∀ i j ts,g i j≠.lst ts):Good2 zv (qu C g) (fI C g'):=λ S Z x y z d e Q hz hx hy ef hq=>by
 unfold qu at ef;split at ef
 .split at ef
  .rename_i hh;cases ef;cases hx.int;cases hy.int;show#[hh,hq _ S (.refl S) (Cl.of (n _ _) (h _ _ _))]
  .cases ef
 .cases ef
@[simp] def vP:T->T->Option T:=i2 λ i j=>.int (i-j)
@[simp] def yi:T->T->Option T:=qu (λ _ j=>0<j) λ i j=>.int (i%j)
@[simp] def wQ:T->T->Option T:=qu xE λ i j=>.int (i/j)
@[simp] def yZ:T->T->Option T:=qu tT λ i j=>.int (i ^ j.toNat)
@[simp] def uC:T->T->Option T:=i2 λ i j=>.bl (decide (i<=j))
@[simp] def aV:T->T->Option T:=i2 λ i j=>.bl (decide (j<i))
@[simp] def ky:T->T->Option T:=i2 λ i j=>.bl (decide (j<=i))
section
variable {fa fb:Ag}{ta tb:zq}
def PM (ha:yk fa ta) (hb:yk fb tb):yX (zb vP fa fb) (yf (yM λ i j=>.int (i-j)) ta tb):=sf (ku (λ _ _ _=>xU) λ _ _ _=>nofun) ha hb
def Oh (ha:yk fa ta) (hb:yk fb tb):yX (zb yi fa fb) (yf (fI (λ _ j=>0<j) λ i j=>.int (i%j)) ta tb):=sf (nP (λ _ _ _=>xU) λ _ _ _=>nofun) ha hb
def OJ (ha:yk fa ta) (hb:yk fb tb):yX (zb wQ fa fb) (yf (fI xE λ i j=>.int (i/j)) ta tb):=sf (nP (λ _ _ _=>xU) λ _ _ _=>nofun) ha hb
def PV (ha:yk fa ta) (hb:yk fb tb):yX (zb yZ fa fb) (yf (fI tT λ i j=>.int (i ^ j.toNat)) ta tb):=sf (nP (λ _ _ _=>xU) λ _ _ _=>nofun) ha hb
end
def zL (neg:Bool):T->T->Option T:=λ x y=>if dep x<=60/\dep y<=60 then ↑(.bl (cond neg (!eqT x y) (eqT x y))) else none
def uE (neg:Bool):T->T->Option T:=λ x y=>match xI y with
 | some ts=>if dep x<=60/\xr ts<=60 then ↑(.bl (cond neg (!(ts.any λ t=>eqT t x)) (ts.any λ t=>eqT t x))) else none
 | none=>none
def Ls {neg:Bool}:Good2 zv (zL neg) (wU neg):=λ S Z x y z d e Q hz hx hy ef hq=>by
 unfold zL at ef;split at ef
 .rename_i h;cases ef;show#[x,y,hx.sn,hy.sn,h.1,h.2,hq _ S (.refl S) (Cl.of (λ _=>nofun) x_)]
 .cases ef
def Lr {neg:Bool}:Good2 zv (uE neg) (uJ neg):=λ S Z x y z d e Q hz hx hy ef hq=>by
 unfold uE at ef;split at ef
 .rename_i ts ht;split at ef
  .rename_i h;cases ef;let#[ds,h1,h2]:=hy.seq ht;show#[x,ts,ds,hx.sn,h1,zg.sx (kr S Z) ts h2,h.1,h.2,hq _ S (.refl S) (Cl.of (λ _=>nofun) x_)]
  .cases ef
 .cases ef
@[simp] def zm:T->T->Option T:=λ x y=>match xI x,y with
 | some ts,.int i=>L2.zy ts i
 | _,_=>none
def aX:Good2 xg zm xY:=λ S Z x y z d e Q hz hx hy ef hq=>by
 unfold zm at ef;split at ef
 .rename_i ts i ht;cases hy.int;let#[ds,h1,h2]:=hx.seq ht;let#[c,h3,h4]:=h2.at ef;unfold zK at h1;split at h1
  .cases h1;show LS h3 (hq c S (.refl S) h4)
  .cases h1;show LU h3 (hq c S (.refl S) h4)
  .split at h1
   .rename_i q;cases h1;show LV q h3 (hq c S (.refl S) h4)
   .cases h1
  .cases h1
 .cases ef
@[simp] def yg:T->T->Option T
 | .int i,.int j=>↑(.int (i+j))
 | .str i,.str j=>if i.length+j.length<=sizeLine then ↑(.str (i++j)) else none
 | .lst ts,.lst us=>if ts.length+us.length<=sizeLine then ↑(.lst (ts++us)) else none
 | .tup ts,.tup us=>if ts.length+us.length<=sizeLine then ↑(.tup (ts++us)) else none
 | _,_=>none
def uf:y6:=λ x y S Q=>match x,y with
 | .int i,.int j=>Q (.int (i+j)) S
 | .str i,.str j=>i.length+j.length<=sizeLine/\Q (.str (i++j)) S
 | .tup ds,.tup es=>ds.length+es.length<=sizeLine/\Q (.tup (ds++es)) S
 | .zo,_=>False
 | .bl _,_=>False
 | .int _,_=>False
 | .str _,_=>False
 | .tup _,_=>False
 | x,y=>match zK x S,zK y S with
  | some ds,↑es=>(∀ ts,y≠.tup ts)/\ds.length+es.length<=sizeLine/\∀ r,S r=none->Q (.ref r) (ups S r (.lst (ds++es)))
  | _,_=>False
def good_add:Good2 zv yg uf:=λ S Z x y z d e Q hz hx hy ef hq=>by
 unfold yg at ef;split at ef
 .cases ef;cases hx.int;cases hy.int;show hq _ S (.refl S) (Cl.of (λ _=>nofun) xU)
 .split at ef
  .rename_i h;cases ef;cases hx.str;cases hy.str;show#[h,hq _ S (.refl S) (Cl.of (λ _=>nofun) dQ)]
  .cases ef
 .split at ef
  .rename_i h;cases ef;let#[ds,h1,h2]:=hx.seq rfl;let#[es,h3,h4]:=hy.seq rfl;have nt:∀ ts,e≠.tup ts:=by
    obtain⟨_,q | ⟨_,q,_⟩,_⟩:=hy.lst <;> subst q <;> show λ _=>nofun
   have key:(∀ ts,e≠.tup ts)/\ds.length+es.length<=sizeLine/\∀ r,S r=none->Q (.ref r) (ups S r (.lst (ds++es))):=
    #[nt,by rw[h2.len,h4.len];show h,λ r hr=>hq _ _ (.new hr _) (tZ hz hr (h2.append h4))]
   obtain⟨_,q | ⟨a,q,_⟩,_⟩:=hx.lst
   .subst q;unfold uf;dsimp only;rw[h1,h3];show key
   .subst q;unfold uf;dsimp only;rw[h1,h3];show key
  .cases ef
 .split at ef
  .rename_i h;cases ef;let#[ds,rfl,h2]:=hx.tup;let#[es,rfl,h4]:=hy.tup;show#[by rw[h2.len,h4.len];show h,hq _ S (.refl S) (Cl.of (λ _=>nofun) (qh (h2.append h4)))]
  .cases ef
 .cases ef
def wu (f:Ev->Option Bool) (t:yp):Prop:=∀ S Z L Y y Q,ER S Z L Y->f Y=↑y->(∀ S',Sx S S'->Q y S')->t L S Q
@[simp] def yu (f:Ag):Ev->Option Bool:=fun Y=>(f Y).bind λ x=>match x with
 | .bl b=>↑b
 | _=>none
@[simp] def s_:T->Option Bool
 | .zo=>↑false
 | .bl b=>↑b
 | .int i=>↑(i != 0)
 | .str x=>if x.length<=sizeLine then ↑((x.length:Int) != 0) else none
 | .tup ts=>↑(!ts.isEmpty)
 | .lst ts=>↑(!ts.isEmpty)
 | .yD=>none
 | .err _ _ _=>none
@[simp] def yv (f:Ag):Ev->Option Bool:=fun Y=>(f Y).bind s_
@[simp] def Zy (f g:Ev->Option Bool):Ev->Option Bool:=fun Y=>(f Y).bind λ b=>if b=true then g Y else ↑false
@[simp] def rH (f g:Ev->Option Bool):Ev->Option Bool:=fun Y=>(f Y).bind λ b=>if b=true then ↑true else g Y
@[simp] def xb (f:Ev->Option Bool):Ev->Option Bool:=fun Y=>(f Y).map (!·)
section
variable {f g:Ag}{t u:zq}{fb gb:Ev->Option Bool}{tb ub:yp}{R:Rk}
def PJ (h:yk f t):wu (yu f) (wW t):=λ S Z L Y y Q hE e hq=>by
 let#[x,e1,e2]:=An.mp e;exact h S Z L Y x _ hE e1 λ d S1 s1 r1=>?_;split at e2
 .cases e2;cases Vw.bl r1;show hq S1 s1
 .cases e2
def PL (h:yk f t):wu (yv f) (Zx t):=λ S Z L Y y Q hE e hq=>by
 let#[x,e1,e2]:=An.mp e;exact h S Z L Y x _ hE e1 λ d S1 s1 r1=>?_;cases x with
 | zo=>cases Vw.zo r1;cases e2;show hq S1 s1
 | bl b=>cases Vw.bl r1;cases e2;show hq S1 s1
 | int b=>cases Vw.int r1;cases e2;show hq S1 s1
 | str b=>
  cases Vw.str r1;simp![s_] at e2;split at e2
  .rename_i hh;cases e2;show#[hh,hq S1 s1]
  .cases e2
 | tup ts=>
  let#[ds,rfl,h2]:=Vw.tup r1;cases e2;change Q (!ds.isEmpty) S1;rw[h2.empty];show hq S1 s1
 | lst ts=>
  obtain⟨ds,rfl | ⟨a,rfl,h1⟩,h2⟩:=Vw.lst r1
  .cases e2;change Q (!ds.isEmpty) S1;rw[h2.empty];show hq S1 s1
  .cases e2;exact Vh h1 ?_;rw[h2.empty];show hq S1 s1
 | _=>cases e2
def OQ (h:wu fb tb) (h':wu gb ub):wu (Zy fb gb) (nZ tb ub):=λ S Z L Y y Q hE e hq=>by
 let#[b,e1,e2]:=An.mp e;exact h S Z L Y b _ hE e1 λ S1 s1=>?_;split at e2
 .rename_i hb;rw[if_pos hb];show h' S1 Z L Y y _ (hE.grow s1) e2 λ S2 s2=>hq S2 (s1.trans s2)
 .rename_i hb;rw[if_neg hb];cases e2;show hq S1 s1
def OK (h:wu fb tb) (h':wu gb ub):wu (rH fb gb) (nX tb ub):=λ S Z L Y y Q hE e hq=>by
 let#[b,e1,e2]:=An.mp e;exact h S Z L Y b _ hE e1 λ S1 s1=>?_;split at e2
 .rename_i hb;rw[if_pos hb];cases e2;show hq S1 s1
 .rename_i hb;rw[if_neg hb];show h' S1 Z L Y y _ (hE.grow s1) e2 λ S2 s2=>hq S2 (s1.trans s2)
def OO (h:wu fb tb):wu (xb fb) (nY tb):=λ S Z L Y y Q hE e hq=>by
 unfold xb at e;let#[b,e1,rfl]:=AK.mp e;show h S Z L Y b _ hE e1 λ S1 s1=>hq S1 s1
@[simp] def wo (f g:Ag):Ag:=fun Y=>(f Y).bind λ x=>match x with
 | .bl k=>if k=true then g Y else ↑(.bl false)
 | _=>none
@[simp] def iO (f:Ag):Ag:=fun Y=>(f Y).bind λ x=>match x with
 | .bl k=>↑(.bl (!k))
 | _=>none
@[simp] def aR (c:Ev->Option Bool) (f g:Ag):Ag:=fun Y=>(c Y).bind λ b=>if b=true then f Y else g Y
def Np [Cl R] (h:yk f t) (h':yV R g u):yV R (wo f g) (mi t u):=λ S Z L Y y Q hE e hq=>by
 let#[x,e1,e2]:=An.mp e;exact h S Z L Y x _ hE e1 λ d S1 s1 r1=>?_;split at e2
 .cases Vw.bl r1;split at e2
  .rename_i hb;dsimp only;rw[if_pos hb];show h' S1 Z L Y y _ (hE.grow s1) e2 λ d S2 s2 r2=>hq d S2 (s1.trans s2) (Cl.cl s1 r2)
  .rename_i hb;dsimp only;rw[if_neg hb];cases e2;show hq _ S1 s1 (Cl.of (λ _=>nofun) x_)
 .cases e2
def PZ [Cl R] (h:yk f t):yV R (iO f) (mf t):=λ S Z L Y y Q hE e hq=>by
 let#[x,e1,e2]:=An.mp e;exact h S Z L Y x _ hE e1 λ d S1 s1 r1=>?_;split at e2
 .cases Vw.bl r1;cases e2;show hq _ S1 s1 (Cl.of (λ _=>nofun) x_)
 .cases e2
def OE [Cl R] (hc:wu fb tb) (h:yV R f t) (h':yV R g u):yV R (aR fb f g) (mh tb t u):=λ S Z L Y y Q hE e hq=>by
 let#[b,e1,e2]:=An.mp e;exact hc S Z L Y b _ hE e1 λ S1 s1=>?_;split at e2
 .rename_i hb;rw[if_pos hb];show h S1 Z L Y y _ (hE.grow s1) e2 λ d S2 s2 r2=>hq d S2 (s1.trans s2) (Cl.cl s1 r2)
 .rename_i hb;rw[if_neg hb];show h' S1 Z L Y y _ (hE.grow s1) e2 λ d S2 s2 r2=>hq d S2 (s1.trans s2) (Cl.cl s1 r2)
end
def oh (S:SS) (Z:Addr->Prop):List T->List D->Prop
 | [],ds=>ds=[]
 | t::ts,ds=>∃ c cs,ds=c::cs/\Vw S Z t c/\oh S Z ts cs
def rV (f:Ev->Option (List T)) (t:zZ):Prop:=∀ S Z L Y ys Q,ER S Z L Y->f Y=↑ys->(∀ ds S',Sx S S'->oh S' Z ys ds->Q ds S')->t L S Q
def qL (f:Ev->Option (List T)) (t:zZ):Prop:=∀ S Z L Y ys Q,ER S Z L Y->f Y=↑ys->(∀ ds S',Sx S S'->zg (zJ S' Z) ys ds->Q ds S')->t L S Q
@[simp] def zf:Ev->Option (List T):=λ _=>↑[]
@[simp] def za (f:Ag) (g:Ev->Option (List T)):Ev->Option (List T):=fun Y=>(f Y).bind λ x=>(g Y).bind λ xs=>↑(x::xs)
section
variable {f:Ag}{g:Ev->Option (List T)}{t:zq}{u:zZ}
def Py:rV zf kL:=λ S Z L Y y Q hE e hq=>by cases e;show hq [] S (.refl S) rfl
def Pw:qL zf kL:=λ S Z L Y y Q hE e hq=>by cases e;show hq [] S (.refl S) .nil
def Pz (h:yk f t) (h':rV g u):rV (za f g) (qz t u):=λ S Z L Y y Q hE e hq=>by
 let#[x,e1,e0]:=An.mp e;let#[xs,e2,e3]:=An.mp e0;cases e3;exact h S Z L Y x _ hE e1 λ d S1 s1 r1=>?_;exact h' S1 Z L Y xs _ (hE.grow s1) e2 λ ds S2 s2 r2=>?_;show hq _ S2 (s1.trans s2) #[d,ds,rfl,Vw.grow r1 s2,r2]
def Px (h:wI f t) (h':qL g u):qL (za f g) (qz t u):=λ S Z L Y y Q hE e hq=>by
 let#[x,e1,e0]:=An.mp e;let#[xs,e2,e3]:=An.mp e0;cases e3;exact h S Z L Y x _ hE e1 λ d S1 s1 r1=>?_;exact h' S1 Z L Y xs _ (hE.grow s1) e2 λ ds S2 s2 r2=>?_;show hq _ S2 (s1.trans s2) (.cons (Sn.sx (wg s2) x r1) r2)
@[simp] def tupS (g:Ev->Option (List T)):Ag:=fun Y=>(g Y).bind λ xs=>if xs.length<=sizeLine then ↑(.tup xs) else none
@[simp] def xn (g:Ev->Option (List T)):Ag:=fun Y=>(g Y).bind λ xs=>if xs.length<=sizeLine then ↑(.lst xs) else none
def PH (h:qL g u):yX (tupS g) (Z9 u):=λ S Z L Y y Q hE e hq=>by
 let#[xs,e1,e2]:=An.mp e;split at e2
 .rename_i hl;cases e2;exact h S Z L Y xs _ hE e1 λ ds S1 s1 r1=>#[by rw[r1.len];show hl,hq _ S1 s1 (Cl.of (λ _=>nofun) (qh r1))]
 .cases e2
def Oi (h:qL g u):yX (xn g) (ZE u):=λ S Z L Y y Q hE e hq=>by
 let#[xs,e1,e2]:=An.mp e;split at e2
 .rename_i hl;cases e2;exact h S Z L Y xs _ hE e1 λ ds S1 s1 r1=>#[by rw[r1.len];show hl,λ p hp=>hq _ _ (s1.trans (.new hp _)) (Cl.cl s1 (tZ (hE.grow s1).zd hp r1))]
 .cases e2
end
@[simp] def zk (F:Al) (g:Ev->Option (List T)):Ag:=fun Y=>(g Y).bind F
def vf (R:Rk) (F:Al) (f:xh):Prop:=∀ S Z ys z ds Q,(∀ a,Z a->S a≠none)->oh S Z ys ds->F ys=↑z->(∀ c S',Sx S S'->R S S' Z z c->Q c S')->f ds S Q
def OY {R:Rk} [Cl R] {F:Al}{f:xh}{g:Ev->Option (List T)}{u:zZ}(hf:vf R F f) (h:rV g u):yV R (zk F g) (xc f u):=λ S Z L Y y Q hE e hq=>by
 let#[xs,e1,e2]:=An.mp e;exact h S Z L Y xs _ hE e1 λ ds S1 s1 r1=>?_;show hf S1 Z xs y ds Q (hE.grow s1).zd r1 e2 λ c S' s r=>hq c S' (s1.trans s) (Cl.cl s1 r)
@[simp] def xo:Al
 | [.str z]=>if z.length<=sizeLine then ↑(.int z.length) else none
 | [y]=>(xI y).map λ ts=>.int ts.length
 | _=>none
def vk {S:SS}{Z:Addr->Prop}{y:T}{ds:List D}(h:oh S Z [y] ds):∃ d,ds=[d]/\Vw S Z y d:=by
 let#[c,cs,rfl,h1,h2]:=h;cases h2;show#[c,rfl,h1]
def eY {S:SS}{Z:Addr->Prop}{y z:T}{ds:List D}(h:oh S Z [y,z] ds):∃ d e,ds=[d,e]/\Vw S Z y d/\Vw S Z z e:=by
 let#[c,cs,rfl,h1,c2,cs2,rfl,h2,h3]:=h;cases h3;show#[c,c2,rfl,h1,h2]
def Lp:vf zv xo ud:=λ S Z ys z ds Q hz hv e hq=>by
 unfold xo at e;split at e
 .let#[d,rfl,h1]:=vk hv;split at e
  .rename_i hl;cases e;cases h1.str;show#[hl,hq _ S (.refl S) (Cl.of (λ _=>nofun) xU)]
  .cases e
 .let#[d,rfl,h1]:=vk hv;let#[ts,e1,rfl]:=AK.mp e;let#[es,h2,h3]:=h1.seq e1;exact LR h2 ?_;rw[h3.len];show hq _ S (.refl S) (Cl.of (λ _=>nofun) xU)
 .cases e
@[simp] def listS:Al
 | [y]=>(xI y).map .lst
 | _=>none
def Ln:vf zv listS uc:=λ S Z ys z ds Q hz hv e hq=>by
 unfold listS at e;split at e
 .let#[d,rfl,h1]:=vk hv;let#[ts,e1,rfl]:=AK.mp e;let#[es,h2,h3]:=h1.seq e1;show LQ h2 λ p hp=>hq _ _ (.new hp _) (tZ hz hp h3)
 .cases e
@[simp] def tW:Al
 | [y]=>(xI y).map .tup
 | _=>none
def Ld:vf zv tW v_:=λ S Z ys z ds Q hz hv e hq=>by
 unfold tW at e;split at e
 .rename_i y;let#[d,rfl,h1]:=vk hv;let#[ts,e1,rfl]:=AK.mp e;let#[es,h2,h3]:=h1.seq e1;have k:Q (.tup es) S:=hq _ S (.refl S) (Cl.of (λ _=>nofun) (qh h3));unfold zK at h2;split at h2
  .cases h2;show k
  .cases h2;show k
  .split at h2
   .rename_i q;cases h2;show LP q k
   .cases h2
  .cases h2
 .cases e
@[simp] def pQ (g:Int->Int->Int):Al
 | [.int i,.int j]=>↑(.int (g i j))
 | _=>none
def aY {g:Int->Int->Int}:vf zv (pQ g) (vB λ i j=>.int (g i j)):=λ S Z ys z ds Q hz hv e hq=>by
 unfold pQ at e;split at e
 .let#[d,d',rfl,h1,h2]:=eY hv;cases e;cases h1.int;cases h2.int;show hq _ S (.refl S) (Cl.of (λ _=>nofun) xU)
 .cases e
@[simp] def rn:Al:=pQ λ i j=>if j>i then j else i
@[simp] def rm:Al:=pQ λ i j=>if j<i then j else i
def wX:List T->Option (List Bool)
 | []=>↑[]
 | .bl b::ts=>(wX ts).map (b::·)
 | _::_=>none
theorem Yf:∀ {ts:List T}{bs:List Bool},wX ts=↑bs->ts=bs.map T.bl
 | [],bs,h=>by cases h;rfl
 | .bl b::ts,bs,h=>by
  unfold wX at h;let#[cs,h1,rfl]:=AK.mp h;rw[Ax,<- Yf h1]
 | .zo::ts,bs,h=>by cases h
 | .int _::ts,bs,h=>by cases h
 | .str _::ts,bs,h=>by cases h
 | .tup _::ts,bs,h=>by cases h
 | .lst _::ts,bs,h=>by cases h
def Yg (bs:List Bool):wX (bs.map T.bl)=↑bs:=by
 induction bs with
 | nil=>rfl
 | cons b bs ih=>rw[Ax];unfold wX;rw[ih];rfl
@[simp] def uP (g:List Bool->Bool):Al
 | [.lst ts]=>(wX ts).map λ bs=>.bl (g bs)
 | _=>none
def vC (g:List Bool->Bool):xh:=λ ds S Q=>match ds with
 | [.tup _]=>False
 | [d]=>∃ bs:List Bool,zK d S=↑(bs.map D.bl)/\Q (.bl (g bs)) S
 | _=>False
def Lu {g:List Bool->Bool}:vf zv (uP g) (vC g):=λ S Z ys z ds Q hz hv e hq=>by
 unfold uP at e;split at e
 .let#[d,rfl,h1]:=vk hv;let#[bs,e1,rfl]:=AK.mp e;cases Yf e1;let#[es,h2,h3]:=h1.seq rfl;cases h3.Yh;have key:∃ bs:List Bool,zK d S=↑(bs.map D.bl)/\Q (.bl (g bs)) S:=#[bs,h2,hq _ S (.refl S) (Cl.of (λ _=>nofun) x_)];obtain⟨_,q | ⟨a,q,_⟩,_⟩:=h1.lst
  .subst q;show key
  .subst q;show key
 .cases e
structure FR (S0:SS) (Z0:Addr->Prop) (S:SS) (Z:Addr->Prop) (L:zW) (Y:Ev):Prop where
 er:ER S Z L Y
 len:L.length=Y.length
 sx:Sx S0 S
 z0:∀ a,Z0 a->S0 a≠none
 zz:∀ a,Z0 a->Z a
 zn:∀ a,Z a->Z0 a\/S0 a=none
 fr:∀ (i:Nat) ts p,Y[i]?=↑↑(.own ts)->L[i]?=↑↑(.ref p)->S0 p=none
 dj:∀ (i j:Nat) ts us p,i≠j->Y[i]?=↑↑(.own ts)->Y[j]?=↑↑(.own us)->L[i]?=↑↑(.ref p)->L[j]?=↑↑(.ref p)->False
def yq {α:Type}{l:List α}{i j:Nat}{a b:α}(h:(l.set i a)[j]?=↑b):(i=j/\i<l.length/\b=a)\/(i≠j/\l[j]?=↑b):=by
 rw[CZ] at h;by_cases e:i=j
 .subst e;rw[if_pos rfl] at h;by_cases hl:i<l.length
  .rw[if_pos hl] at h;cases h;show .inl #[rfl,hl,rfl]
  .rw[if_neg hl] at h;cases h
 .rw[if_neg e] at h;show .inr #[e,h]
def xq {α:Type}{l:List α}{i j:Nat}{a:α}(h:i≠j):(l.set i a)[j]?=l[j]?:=by rw[CZ,if_neg h]
def pV {α:Type}{l:List α}{i:Nat}{a:α}(h:i<l.length):(l.set i a)[i]?=↑a:=by rw[CZ,if_pos rfl,if_pos h]
section
variable {S0 S S':SS}{Z0 Z:Addr->Prop}{L:zW}{Y:Ev}{y:T}{d:D}
theorem FR.grow (h:FR S0 Z0 S Z L Y) (s:Sx S S'):FR S0 Z0 S' Z L Y:=#[h.er.grow s,h.len,h.sx.trans s,h.z0,h.zz,h.zn,h.fr,h.dj]
theorem FR.pj (h:FR S0 Z0 S Z L Y) (i:Nat) (r:Sn (zJ S Z) y d):FR S0 Z0 S Z (L.set i ↑d) (Y.set i ↑(.im y)):=by
 exact#[#[h.er.zd,λ j t e=>?_,λ j ts e=>?_],by simp[h.len],h.sx,h.z0,h.zz,h.zn,λ j ts p e e'=>?_,λ j k ts us p n e1 e2 e3 e4=>?_]
 .rcases yq e with ⟨rfl,hl,e⟩ | ⟨n,e⟩
  .cases e;show#[d,pV (by rw[h.len];show hl),r]
  .rw[xq n];show h.er.im j t e
 .rcases yq e with ⟨rfl,hl,e⟩ | ⟨n,e⟩
  .cases e
  .rw[xq n];show h.er.ow j ts e
 .rcases yq e with ⟨rfl,hl,e⟩ | ⟨n,e⟩
  .cases e
  .rw[xq n] at e';show h.fr j ts p e e'
 .rcases yq e1 with ⟨rfl,hl,e⟩ | ⟨n1,e1⟩
  .cases e
  rcases yq e2 with ⟨rfl,hl,e⟩ | ⟨n2,e2⟩
  .cases e
  rw[xq n1] at e3;rw[xq n2] at e4;show h.dj j k ts us p n e1 e2 e3 e4
def FR.dZ {ts:C}{ds:O}{p:Addr}(h:FR S0 Z0 S Z L Y) (s:Sx S S') (i:Nat) (hp:S p=none) (hd:S' p=↑ds) (r:tK (zJ S' λ a=>Z a\/a=p) ts ds):
  FR S0 Z0 S' (λ a=>Z a\/a=p) (L.set i ↑(.ref p)) (Y.set i ↑(.own ts)):=by
 have np:∀ (j:Nat) us q,Y[j]?=↑↑(.own us)->L[j]?=↑↑(.ref q)->q≠p:=λ j us q e e' z=>by
  subst z;let#[p',Iu,h1,h2,_]:=h.er.ow j us e;rw[e'] at h1;cases h1;rw[hp] at h2;cases h2
 exact#[#[λ a z=>?_,λ j t e=>?_,λ j us e=>?_],by simp[h.len],h.sx.trans s,h.z0,λ a z=>.inl (h.zz a z),λ a z=>z.elim (h.zn a) (λ q=>.inr (by subst q;show h.sx.none hp)),λ j us q e e'=>?_,λ j k us vs q n e1 e2 e3 e4=>?_]
 .rcases z with z | rfl
  .show λ q=>h.er.zd a z (s.none q)
  .rw[hd];nofun
 .rcases yq e with ⟨rfl,hl,e⟩ | ⟨n,e⟩
  .cases e
  .rw[xq n];let#[d,h1,h2]:=h.er.im j t e;show#[d,h1,Sn.sx (pT s hp) t h2]
 .rcases yq e with ⟨rfl,hl,e⟩ | ⟨n,e⟩
  .cases e;show#[p,ds,pV (by rw[h.len];show hl),hd,r,.inr rfl]
  .rw[xq n];let#[q,es,h1,h2,h3,h4]:=h.er.ow j us e;show#[q,es,h1,s _ _ h2,tK.sx (pT s hp) h3,.inl h4]
 .rcases yq e with ⟨rfl,hl,e⟩ | ⟨n,e⟩
  .rw[pV (by rw[h.len];show hl)] at e';cases e';show h.sx.none hp
  .rw[xq n] at e';show h.fr j us q e e'
 .rcases yq e1 with ⟨rfl,hl,e⟩ | ⟨n1,e1⟩
  .rcases yq e2 with ⟨rfl,_,_⟩ | ⟨n2,e2⟩
   .show n rfl
   .rw[pV (by rw[h.len];show hl)] at e3;cases e3;rw[xq n2] at e4;show np k vs p e2 e4 rfl
  .rcases yq e2 with ⟨rfl,hl,_⟩ | ⟨n2,e2⟩
   .rw[pV (by rw[h.len];show hl)] at e4;cases e4;rw[xq n1] at e3;show np j us p e1 e3 rfl
   .rw[xq n1] at e3;rw[xq n2] at e4;show h.dj j k us vs q n e1 e2 e3 e4
def FR.forget (h:FR S0 Z0 S Z L Y) (i:Nat):FR S0 Z0 S Z L (Y.set i none):=by
 exact#[#[h.er.zd,λ j t e=>?_,λ j ts e=>?_],by simp[h.len],h.sx,h.z0,h.zz,h.zn,λ j ts p e e'=>?_,λ j k ts us p n e1 e2 e3 e4=>?_]
 .rcases yq e with ⟨rfl,hl,e⟩ | ⟨n,e⟩
  .cases e
  .show h.er.im j t e
 .rcases yq e with ⟨rfl,hl,e⟩ | ⟨n,e⟩
  .cases e
  .show h.er.ow j ts e
 .rcases yq e with ⟨rfl,hl,e⟩ | ⟨n,e⟩
  .cases e
  .show h.fr j ts p e e'
 .rcases yq e1 with ⟨rfl,hl,e⟩ | ⟨n1,e1⟩
  .cases e
  rcases yq e2 with ⟨rfl,hl,e⟩ | ⟨n2,e2⟩
  .cases e
  show h.dj j k ts us p n e1 e2 e3 e4
@[simp] def yz (is:List Nat) (Y:Ev):Ev:=is.foldl (fun Y i=>Y.set i none) Y
theorem FR.yz:∀ (is:List Nat) {Y:Ev},FR S0 Z0 S Z L Y->FR S0 Z0 S Z L (yz is Y)
 | [],_,h=>h
 | i::is,_,h=>FR.yz is (h.forget i)
def FR.freeze {ts:List T}{p:Addr}(h:FR S0 Z0 S Z L Y) (i:Nat) (e:Y[i]?=↑↑(.own (.lst ts))) (ed:L[i]?=↑↑(.ref p)):
  FR S0 Z0 S (λ a=>Z a/\a≠p) L (Y.set i ↑(.im (.lst ts)))/\Sn (zJ S λ a=>Z a/\a≠p) (.lst ts) (.ref p):=by
 let#[p',o,h1,h2,h3,h4]:=h.er.ow i _ e;rw[ed] at h1;cases h1;obtain⟨ds,rfl⟩:∃ ds,o=.lst ds:=by
  cases o with
  | lst ds=>show#[ds,rfl]
  | zC _=>show h3.elim
 replace h3:zg (zJ S Z) ts ds:=h3;have hS:Sn (zJ S λ a=>Z a/\a≠p) (.lst ts) (.ref p):=by
  simp![Sn];show#[ds,.inr #[p,rfl,by rw[vY (λ z=>z.2 rfl)];show h2],zg.sx (vZ λ a z=>z.1) ts h3]
 exact#[?_,hS];exact#[#[λ a z=>h.er.zd a z.1,λ j t e'=>?_,λ j us e'=>?_],by simp[h.len],h.sx,h.z0,λ a z=>#[h.zz a z,λ q=>?_],λ a z=>h.zn a z.1,λ j us q e' ed'=>?_,λ j k us vs q n e1 e2 e3 e4=>?_]
 .rcases yq e' with ⟨rfl,hl,e'⟩ | ⟨n,e'⟩
  .cases e';show#[_,ed,hS]
  .let#[d,g1,g2]:=h.er.im j t e';show#[d,g1,Sn.sx (vZ λ a z=>z.1) t g2]
 .rcases yq e' with ⟨rfl,hl,e'⟩ | ⟨n,e'⟩
  .cases e'
  .let#[q,es,g1,g2,g3,g4]:=h.er.ow j us e';show#[q,es,g1,g2,tK.sx (vZ λ a z=>z.1) g3,g4,λ z=>by subst z;show h.dj i j _ us q n e e' ed g1]
 .subst q;show h.z0 a z (h.fr i _ a e ed)
 .rcases yq e' with ⟨rfl,hl,e'⟩ | ⟨n,e'⟩
  .cases e'
  .show h.fr j us q e' ed'
 .rcases yq e1 with ⟨rfl,hl,e⟩ | ⟨n1,e1⟩
  .cases e
  rcases yq e2 with ⟨rfl,hl,e⟩ | ⟨n2,e2⟩
  .cases e
  show h.dj j k us vs q n e1 e2 e3 e4
def FR.mut {ts us:C}{es:O}{p:Addr}(h:FR S0 Z0 S Z L Y) (i:Nat) (e:Y[i]?=↑↑(.own ts)) (ed:L[i]?=↑↑(.ref p)) (r:tK (zJ S Z) us es):
  FR S0 Z0 (ups S p es) Z L (Y.set i ↑(.own us)):=by
 let#[p',ds,h1,h2,h3,h4]:=h.er.ow i ts e;rw[ed] at h1;cases h1;have hh:zJ (ups S p es) Z=zJ S Z:=MV h4;have hpn:=h.fr i ts p e ed;exact#[#[λ a z=>?_,λ j t e'=>?_,λ j vs e'=>?_],by simp[h.len],λ b o q=>?_,h.z0,h.zz,h.zn,λ j vs q e' ed'=>?_,λ j k vs ws q n e1 e2 e3 e4=>?_]
 .by_cases hp:a=p
  .subst hp;rw[sX];nofun
  .rw[tV hp];show h.er.zd a z
 .rw[hh];rcases yq e' with ⟨rfl,hl,e'⟩ | ⟨n,e'⟩
  .cases e'
  .show h.er.im j t e'
 .rw[hh];rcases yq e' with ⟨rfl,hl,e'⟩ | ⟨n,e'⟩
  .cases e';show#[p,es,ed,sX,r,h4]
  .let#[q,Gr,g1,g2,g3,g4]:=h.er.ow j vs e';exact#[q,Gr,g1,?_,g3,g4];rw[tV (λ z=>by subst z;show h.dj i j ts vs q n e e' ed g1)];show g2
 .rw[tV (λ z=>by subst z;rw[hpn] at q;cases q)];show h.sx b o q
 .rcases yq e' with ⟨rfl,hl,_⟩ | ⟨n,e'⟩
  .rw[ed] at ed';cases ed';show hpn
  .show h.fr j vs q e' ed'
 .rcases yq e1 with ⟨rfl,hl,_⟩ | ⟨n1,e1⟩
  .rcases yq e2 with ⟨rfl,hl,_⟩ | ⟨n2,e2⟩
   .show n rfl
   .show h.dj _ k ts ws q n e e2 e3 e4
  .rcases yq e2 with ⟨rfl,hl,_⟩ | ⟨n2,e2⟩
   .show h.dj j _ vs ts q n e1 e e3 e4
   .show h.dj j k vs ws q n e1 e2 e3 e4
def iq (S0 S:SS) (Z:Addr->Prop):SS:=open Classical in λ a=>if S0 a=none/\Z a then none else S a
def lN {a:Addr}(h:¬ (S0 a=none/\Z a)):iq S0 S Z a=S a:=if_neg h
def ip {a:Addr}(h:S0 a=none/\Z a):iq S0 S Z a=none:=if_pos h
def FR.rebase (h:FR S0 Z0 S Z L Y):∃ S1,Sx S0 S1/\FR S1 Z0 S Z L Y/\Sx (zJ S Z) S1:=by
 exact#[iq S0 S Z,λ b o q=>?_,#[h.er,h.len,λ b o q=>?_,λ a z=>?_,h.zz,λ a z=>?_,λ i ts p e ed=>?_,h.dj],λ b o q=>?_]
 .rw[lN (λ z=>by rw[z.1] at q;cases q)];show h.sx _ _ q
 .by_cases w:S0 b=none/\Z b
  .rw[ip w] at q;cases q
  .rw[lN w] at q;show q
 .rw[lN (λ q=>h.z0 a z q.1)];show h.er.zd a (h.zz a z)
 .rcases h.zn a z with w | w
  .show .inl w
  .show .inr (ip #[w,z])
 .let#[p',ds,h1,h2,h3,h4]:=h.er.ow i ts e;rw[ed] at h1;cases h1;show ip #[h.fr i ts p e ed,h4]
 .let#[q1,q2]:=uF q;rw[lN (λ z=>q1 z.2)];show q2
def FR.back {S1:SS}(h:FR S1 Z0 S Z L Y) (s:Sx S0 S1) (z0:∀ a,Z0 a->S0 a≠none):FR S0 Z0 S Z L Y:=#[h.er,h.len,s.trans h.sx,z0,h.zz,λ a z=>(h.zn a z).imp id s.none,λ i ts p e ed=>s.none (h.fr i ts p e ed),h.dj]
def FR.Ub {S1:SS}{Z1:Addr->Prop}(h:FR S0 Z0 S Z L Y) (b:Sx (zJ S1 Z1) S0) (zz:∀ a,Z0 a->Z1 a):Sx (zJ S1 Z1) (zJ S Z):=λ a o q=>by
 have q0:=b _ _ q;let#[q1,q2]:=uF q;rw[vY]
 .show h.sx _ _ q0
 .intro z;rcases h.zn a z with w | w
  .show q1 (zz a w)
  .rw[w] at q0;cases q0
end
inductive Out where
 | nx (Y:Ev) | rt (t:T) | bk (Y:Ev) | ct (Y:Ev)
abbrev Sm:=Ev->Option Out
def JA (R:Rk) (S0:SS) (Z0:Addr->Prop) (o:Out) (E:tR):Prop:=match o with
 | .nx Y=>∀ S Z L,FR S0 Z0 S Z L Y->E.nx L S
 | .bk Y=>∀ S Z L,FR S0 Z0 S Z L Y->E.bk L S
 | .ct Y=>∀ S Z L,FR S0 Z0 S Z L Y->E.ct L S
 | .rt y=>∀ d S,Sx S0 S->R S0 S Z0 y d->E.rt d S
def z_ (R:Rk) (g:Sm) (t:zY):Prop:=∀ S0 Z0 S Z L Y o E,FR S0 Z0 S Z L Y->g Y=↑o->JA R S0 Z0 o E->t E L S
class Lo (R:Rk):Prop extends Cl R where
 lo:∀ {S0 S S':SS}{Z0 Z:Addr->Prop}{y:T}{d:D},Sx S0 S->(∀ a,Z0 a->Z a)->R S S' Z y d->R S0 S' Z0 y d
instance:Lo xg:=#[λ _ z h=>Sn.sx (vZ z) _ h]
instance:Lo zv:=#[λ s z h=>#[Sn.sx (vZ z) _ h.1,λ ts e=>by
 let#[p,ds,h1,h2,h3,h4]:=h.2 ts e;show#[p,ds,h1,s.none h2,h3,zg.sx (vZ λ a q=>q.imp (z a) id) ts h4]]]
@[simp] def zr (g h:Sm):Sm:=fun Y=>(g Y).bind λ o=>match o with
 | .nx Y'=>h Y'
 | o=>↑o
@[simp] def yw:Sm:=fun Y=>↑(.nx Y)
@[simp] def zR (i:Nat) (f:Ag):Sm:=fun Y=>(f Y).map λ y=>.nx (Y.set i ↑(.im y))
@[simp] def ui (i:Nat) (f:Ag):Sm:=fun Y=>(f Y).bind λ y=>match y with
 | .lst ts=>↑(.nx (Y.set i ↑(.own (.lst ts))))
 | y=>↑(.nx (Y.set i ↑(.im y)))
@[simp] def gS (f:Ag):Sm:=fun Y=>(f Y).map λ _=>.nx Y
@[simp] def retS (f:Ag):Sm:=fun Y=>(f Y).map .rt
@[simp] def uY (i:Nat):Sm:=fun Y=>match Y[i]? with
 | some ↑(.own (.lst ts))=>↑(.rt (.lst ts))
 | _=>none
@[simp] def yn (c:Ev->Option Bool) (g h:Sm):Sm:=fun Y=>(c Y).bind λ b=>if b=true then g Y else h Y
@[simp] def gE (i:Nat) (Y:Ev):Ev:=match Y[i]? with
 | some ↑(.own (.lst ts))=>Y.set i ↑(.im (.lst ts))
 | _=>Y
@[simp] def gD (i:Nat) (g:Sm):Sm:=fun Y=>g (gE i Y)
section
variable {R:Rk}{g h:Sm}{t u:zY}{f:Ag}{te:zq}
def QM (hg:z_ R g t) (hh:z_ R h u):z_ R (zr g h) (qx t u):=λ S0 Z0 S Z L Y o E F e P=>by
 let#[o1,e1,e2]:=An.mp e;exact hg S0 Z0 S Z L Y o1 { E with nx:=u E } F e1 ?_;cases o1 with
 | nx Y1=>show λ S1 Z1 L1 F1=>hh S0 Z0 S1 Z1 L1 Y1 o E F1 e2 P
 | rt y=>cases e2;show P
 | bk y=>cases e2;show P
 | ct y=>cases e2;show P
def QL:z_ R yw g_:=λ S0 Z0 S Z L Y o E F e P=>by cases e;show P S Z L F
def Q_ (i:Nat) (hf:wI f te):z_ R (zR i f) (uN te (hName i)):=λ S0 Z0 S Z L Y o E F e P=>by
 let#[y,e1,rfl]:=AK.mp e;show hf S Z L Y y _ F.er e1 λ d S1 s1 r1=>P S1 Z _ ((F.grow s1).pj i r1)
def QZ (i:Nat) (hf:yX f te):z_ R (ui i f) (uN te (hName i)):=λ S0 Z0 S Z L Y o E F e P=>by
 let#[y,e1,e2]:=An.mp e;exact hf S Z L Y y _ F.er e1 λ d S1 s1 r1=>?_;cases y with
 | lst ts=>
  cases e2;let#[p,ds,rfl,h1,h2,h3]:=r1.2 ts rfl;show P S1 _ _ (F.dZ (ts:=.lst ts) (ds:=.lst ds) s1 i h1 h2 h3)
 | _=>cases e2;show P S1 Z _ ((F.grow s1).pj i r1.1)
def QW (hf:yk f te):z_ R (gS f) (kO te):=λ S0 Z0 S Z L Y o E F e P=>by
 let#[y,e1,rfl]:=AK.mp e;show hf S Z L Y y _ F.er e1 λ d S1 s1 r1=>P S1 Z _ (F.grow s1)
def QP [Lo R] (hf:yV R f te):z_ R (retS f) (gY te):=λ S0 Z0 S Z L Y o E F e P=>by
 let#[y,e1,rfl]:=AK.mp e;show hf S Z L Y y _ F.er e1 λ d S1 s1 r1=>P d S1 (F.sx.trans s1) (Lo.lo F.sx F.zz r1)
def iI (i:Nat):z_ zv (uY i) (gY (yj i)):=λ S0 Z0 S Z L Y o E F e P=>by
 unfold uY at e;split at e
 .rename_i ts h;cases e;let#[p,ob,h1,h2,h3,h4]:=F.er.ow i _ h;obtain⟨ds,rfl⟩:∃ ds,ob=.lst ds:=by
   cases ob with
   | lst ds=>show#[ds,rfl]
   | zC _=>show h3.elim
  replace h3:zg (zJ S Z) ts ds:=h3;have hn:=F.fr i _ p h h1;have nz:¬ Z0 p:=λ z=>F.z0 p z hn;change yj i L S E.rt;unfold yj;rw[h1];exact P _ S F.sx #[?_,λ us e=>?_]
  .simp![Sn];show#[ds,.inr #[p,rfl,by rw[vY nz];show h2],zg.sx (vZ F.zz) ts h3]
  .cases e;show#[p,ds,rfl,hn,h2,zg.sx (vZ λ a q=>q.elim (F.zz a) λ q=>q▸h4) ts h3]
 .cases e
def z_.fv (h:z_ zv g t):z_ xg g t:=λ S0 Z0 S Z L Y o E F e P=>by
 exact h S0 Z0 S Z L Y o E F e ?_;cases o with
 | rt y=>show λ d S s r=>P d S s r.1
 | _=>show P
def QS {c:Ev->Option Bool}{tc:yp}(hc:wu c tc) (hg:z_ R g t) (hh:z_ R h u):z_ R (yn c g h) (kN tc t u):=λ S0 Z0 S Z L Y o E F e P=>by
 let#[b,e1,e2]:=An.mp e;exact hc S Z L Y b _ F.er e1 λ S1 s1=>?_;split at e2
 .rename_i hb;rw[if_pos hb];show hg S0 Z0 S1 Z L Y o E (F.grow s1) e2 P
 .rename_i hb;rw[if_neg hb];show hh S0 Z0 S1 Z L Y o E (F.grow s1) e2 P
def FR.fz {S0 S:SS}{Z0 Z:Addr->Prop}{L:zW}{Y:Ev}(F:FR S0 Z0 S Z L Y) (i:Nat):∃ Z',FR S0 Z0 S Z' L (gE i Y):=by
 unfold gE;split
 .rename_i ts h;let#[p,ds,h1,_]:=F.er.ow i _ h;show#[_,(F.freeze i h h1).1]
 .show#[Z,F]
def QT (i:Nat) (hg:z_ R g t):z_ R (gD i g) t:=λ S0 Z0 S Z L Y o E F e P=>by
 let#[Z',F']:=F.fz i;show hg S0 Z0 S Z' L _ o E F' e P
def ju (g:T->Ev->Option Ev) (t:yU):Prop:=∀ S0 Z0 S Z L Y Y' y d Q,FR S0 Z0 S Z L Y->Sn (zJ S Z) y d->g y Y=↑Y'->(∀ L',FR S0 Z0 S Z L' Y'->Q L' S)->t d L S Q
def jt (g:List T->Ev->Option Ev) (t:xP):Prop:=∀ S0 Z0 S Z L Y Y' ys ds Q,FR S0 Z0 S Z L Y->zg (zJ S Z) ys ds->g ys Y=↑Y'->(∀ L',FR S0 Z0 S Z L' Y'->Q L' S)->t ds L S Q
@[simp] def zw (i:Nat):T->Ev->Option Ev:=λ y Y=>↑(Y.set i ↑(.im y))
@[simp] def u9:List T->Ev->Option Ev
 | [],Y=>↑Y
 | _::_,_=>none
@[simp] def yT (g:T->Ev->Option Ev) (h:List T->Ev->Option Ev):List T->Ev->Option Ev
 | y::ys,Y=>(g y Y).bind fun Y'=>h ys Y'
 | [],_=>none
@[simp] def vn (n:Nat) (g:List T->Ev->Option Ev):T->Ev->Option Ev
 | .tup ys,Y=>if ys.length=n then g ys Y else none
 | _,_=>none
def Pl (i:Nat):ju (zw i) (hName i):=λ S0 Z0 S Z L Y Y' y d Q F r e hq=>by cases e;show hq _ (F.pj i r)
def Ph:jt u9 gm:=λ S0 Z0 S Z L Y Y' ys ds Q F r e hq=>by
 cases ys with
 | nil=>simp![zg] at r;subst r;cases e;show#[rfl,hq _ F]
 | cons _ _=>cases e
def Pj {g:T->Ev->Option Ev}{h:List T->Ev->Option Ev}{t:yU}{u:xP}(hg:ju g t) (hh:jt h u):jt (yT g h) (gp t u):=λ S0 Z0 S Z L Y Y' ys ds Q F r e hq=>by
 cases ys with
 | nil=>cases e
 | cons y ys=>
  simp![zg] at r;let#[c,cs,rfl,r1,r2]:=r;let#[Y1,e1,e2]:=An.mp e;show hg S0 Z0 S Z L Y Y1 y c _ F r1 e1 fun L1 F1=>hh S0 Z0 S Z L1 Y1 Y' ys cs Q F1 r2 e2 hq
def Pk {n:Nat}{g:List T->Ev->Option Ev}{t:xP}(hg:jt g t):ju (vn n g) (pU n t):=λ S0 Z0 S Z L Y Y' y d Q F r e hq=>by
 cases y with
 | tup ys=>
  simp![Sn] at r;let#[ds,rfl,r]:=r;simp![vn] at e;split at e
  .rename_i hl;show#[by rw[r.len];show hl,hg S0 Z0 S Z L Y Y' ys ds Q F r e hq]
  .cases e
 | _=>cases e
def rR (free:Bool) (f:Ev->Option (List T)) (ti:xC):Prop:=∀ S Z L Y ts Q,ER S Z L Y->f Y=↑ts->(∀ I S',Sx S S'->zg (zJ S' Z) ts I.items->(∀ S'',Sx (if free=true then zJ S' Z else S') S''->I.keep S'')->Q I S')->ti L S Q
@[simp] def yy (f:Ag):Ev->Option (List T):=fun Y=>(f Y).bind xI
def Pc {f:Ag}{te:zq}(hf:yk f te):rR false (yy f) (gg te):=λ S Z L Y ts Q hE e hq=>by
 let#[y,e1,e2]:=An.mp e;exact hf S Z L Y y _ hE e1 λ d S1 s1 r1=>?_;cases y with
 | tup us=>
  cases e2;let#[ds,rfl,h2]:=Vw.tup r1;show hq _ S1 s1 h2 λ _ _=>trivial
 | lst us=>
  cases e2;obtain⟨ds,rfl | ⟨a,rfl,h1⟩,h2⟩:=Vw.lst r1
  .show hq _ S1 s1 h2 λ _ _=>trivial
  .dsimp only;rw[h1];show hq #[ds,_] S1 s1 h2 λ S'' s=>s _ _ h1
 | _=>cases e2
def Pd {f:Ag}{te:zq}(hf:wI f te):rR true (yy f) (gg te):=λ S Z L Y ts Q hE e hq=>by
 let#[y,e1,e2]:=An.mp e;exact hf S Z L Y y _ hE e1 λ d S1 s1 r1=>?_;cases y with
 | tup us=>
  cases e2;let#[ds,rfl,h2]:=Vw.tup (.inl r1);show hq _ S1 s1 h2 λ _ _=>trivial
 | lst us=>
  cases e2;have r2:=r1;unfold xg at r2;simp![Sn] at r2;obtain⟨ds,⟨rfl,_⟩ | ⟨a,rfl,h1⟩,h2⟩:=r2
  .show hq _ S1 s1 h2 λ _ _=>trivial
  .dsimp only;rw[(uF h1).2];show hq #[ds,_] S1 s1 h2 λ S'' s=>s _ _ h1
 | _=>cases e2
def rangeT (lo:Int) (n:Nat):List T:=(List.range n).map λ(k:Nat)=>T.int (lo+(k:Int))
def dN {S:SS}(lo:Int) (n:Nat):zg S (rangeT lo n) (vt lo n):=by
 unfold rangeT vt
 induction List.range n with
 | nil=>show .nil
 | cons k l ih=>show .cons xU ih
def inR (j:Int):Bool:=decide (-100000000<=j)&&decide (j<=100000000)
def aQ {j:Int}:inR j=true↔-100000000<=j/\j<=100000000:=by simp[inR]
def MQ {j:Int}(h:inR j=true):-(2 ^ 62)<=j/\j<2 ^ 62:=by have:=aQ.mp h;lia
def vS:List T->Option (List T)
 | [.int j]=>if inR j=true then ↑(rangeT 0 j.toNat) else none
 | _=>none
@[simp] def xa (F:List T->Option (List T)) (g:Ev->Option (List T)):Ev->Option (List T):=fun Y=>(g Y).bind F
def Pf {b:Bool}{g:Ev->Option (List T)}{tA:zZ}(h:rV g tA):rR b (xa vS g) (gh tA):=λ S Z L Y ts Q hE e hq=>by
 let#[ys,e1,e2]:=An.mp e;exact h S Z L Y ys _ hE e1 λ ds S1 s1 r1=>?_;unfold vS at e2;split at e2
 .split at e2
  .rename_i hc;cases e2;let#[d,rfl,h1]:=vk r1;cases h1.int;show#[MQ hc,hq _ S1 s1 (dN _ _) λ _ _=>trivial]
  .cases e2
 .cases e2
def yK (is:List Nat) (g:T->Ev->Option Ev) (b:Sm):List T->Ev->Option Out
 | [],Y=>↑(.nx (yz is Y))
 | y::ys,Y=>(g y (yz is Y)).bind fun Y1=>(b Y1).bind λ o=>match o with
  | .nx Y2=>yK is g b ys Y2
  | .ct Y2=>yK is g b ys Y2
  | .bk Y2=>↑(.nx (yz is Y2))
  | .rt t=>↑(.rt t)
@[simp] def xX (is:List Nat) (f:Ev->Option (List T)) (g:T->Ev->Option Ev) (b:Sm):Sm:=fun Y=>(f Y).bind λ ts=>yK is g b ts Y
def QU {is:List Nat}{fi:Ev->Option (List T)}{ti:xC}{g:T->Ev->Option Ev}{tg:yU}{b:Sm}{tb:zY} [Lo R] (hi:rR true fi ti) (hg:ju g tg) (hb:z_ R b tb):z_ R (xX is fi g b) (qy ti tg tb):=λ S0 Z0 S Z L Y o E F e P=>by
 let#[ts,e1,e2]:=An.mp e;exact hi S Z L Y ts _ F.er e1 λ I S1 s1 r1 hk=>?_;rw[if_pos rfl] at hk;let#[SB,b1,FB,b2]:=(F.grow s1).rebase;have lo:∀ S' d y,R SB S' Z0 y d->R S0 S' Z0 y d:=λ S' d y r=>Lo.lo b1 (λ _ z=>z) r;have zz:=F.zz;exact#[λ i L' S'=>∃ Z' Y',FR SB Z0 S' Z' L' Y'/\yK is g b (ts.drop i) Y'=↑o,#[Z,Y,FB,e2],λ i L' S' #[Z',Y',F',_]=>hk S' (b2.trans F'.sx),λ i d L' S' hd #[Z',Y',F',e']=>?_,fun L' S' #[Z',Y',F',e']=>?_]
 .let#[y,hy,r2]:=r1.gC hd;have Az:=(AQ.mp hy).1;have C_:ts.drop i=y::ts.drop (i+1):=by
   rw[List.drop_eq_getElem_cons Az,(AQ.mp hy).2]
  rw[C_] at e';unfold yK at e';let#[Y1,g1,e']:=An.mp e';let#[o1,g2,e']:=An.mp e';exact hg SB Z0 S' Z' L' _ Y1 y d _ (F'.yz is) (Sn.sx (F'.Ub b2 zz) y r2) g1 fun L2 F2=>?_
  exact hb SB Z0 S' Z' L2 Y1 o1 _ F2 g2 ?_;cases o1 with
  | nx Y2=>show λ S3 Z3 L3 F3=>#[Z3,Y2,F3,e']
  | ct Y2=>show λ S3 Z3 L3 F3=>#[Z3,Y2,F3,e']
  | bk Y2=>cases e';show λ S3 Z3 L3 F3=>P S3 Z3 L3 ((F3.yz is).back b1 F.z0)
  | rt y=>cases e';show λ d S3 s3 r3=>P d S3 (b1.trans s3) (lo _ _ _ r3)
 .rw[show I.items.length=ts.length from r1.len,List.drop_length] at e';unfold yK at e';cases e';show P S' Z' L' ((F'.yz is).back b1 F.z0)
end
@[simp] def xA (i:Nat) (f:Ag):Sm:=fun Y=>match Y[i]? with
 | some ↑(.own (.lst ts))=>(f Y).bind λ y=>if ts.length<sizeLine then ↑(.nx (Y.set i ↑(.own (.lst (ts++[y]))))) else none
 | _=>none
section
variable {R:Rk}{f:Ag}{te:zq}
def Pa (i:Nat) (hf:wI f te):z_ R (xA i f) (kO (rM (yj i) te)):=λ S0 Z0 S Z L Y o E F e P=>by
 unfold xA at e;split at e
 .rename_i ts h;let#[y,e1,e2]:=An.mp e;split at e2
  .rename_i hl;cases e2;let#[p,ob,h1,h2,h3,h4]:=F.er.ow i _ h;obtain⟨ds,rfl⟩:∃ ds,ob=.lst ds:=by
    cases ob with
    | lst ds=>show#[ds,rfl]
    | zC _=>show h3.elim
   replace h3:zg (zJ S Z) ts ds:=h3;change rM (yj i) te L S _;unfold rM yj;rw[h1];exact#[#[ds,h2],hf S Z L Y y _ F.er e1 λ d S1 s1 r1=>?_];dsimp only;rw[s1 _ _ h2];have F1:=F.grow s1;exact#[by rw[h3.len];show hl,P _ Z L (F1.mut (us:=.lst (ts++[y])) (es:=.lst (ds++[d])) i h h1 ((zg.sx (wg s1) ts h3).append (.cons r1 .nil)))]
  .cases e2
 .cases e
end
def uL (pick:List (Option Nat)) (ti:xC) (g:yU) (tc:yp) (te:zq):zq:=fun L S Q=>ti L S λ I S1=>I.items.length<=sizeLine/\(∀ S,Sx S1 S->I.keep S)/\∀ p,S1 p=none->∃ W:Nat->SS->List D->Prop,W 0 S1 []/\
 (∀ i S S' acc,(∀ b o,b≠p->S b=↑o->S' b=↑o)->W i S acc->W i S' acc)/\
 (∀ i d S acc,I.items[i]?=↑d->Sx S1 S->S p=↑(.lst acc)->W i S acc->g d (vV pick L) S fun L2 S2=>qG (vV pick L) L2/\tc L2 S2 λ b S3=>if b=true then te L2 S3 λ y S4=>Sx S S4/\W (i+1) S4 (acc++[y]) else Sx S S3/\W (i+1) S3 acc)/\
 ∀ S2 acc,Sx S1 S2->S2 p=↑(.lst acc)->W I.items.length S2 acc->Q (.ref p) S2
@[simp] def nk (pick:List (Option Nat)) (Y:Ev):Ev:=pick.map λ o=>o.bind λ i=>(Y[i]?).join
def q8 (h:T->Option (Option T)):List T->Option (List T)
 | []=>↑[]
 | y::ys=>(h y).bind λ o=>(q8 h ys).map λ zs=>match o with
  | some z=>z::zs
  | none=>zs
@[simp] def sj (pick:List (Option Nat)) (g:T->Ev->Option Ev) (c:Ev->Option Bool) (f:Ag) (Y:Ev) (y:T):Option (Option T):=
 (g y (nk pick Y)).bind fun Y2=>(c Y2).bind λ b=>if b=true then (f Y2).map some else ↑none
def yA (pick:List (Option Nat)) (it:Ev->Option (List T)) (g:T->Ev->Option Ev) (c:Ev->Option Bool) (f:Ag):Ag:=fun Y=>(it Y).bind λ ts=>if ts.length<=sizeLine then (q8 (sj pick g c f Y) ts).map .lst else none
@[simp] def xt:Ev->Option Bool:=λ _=>↑true
def PK:wu xt Zw:=λ S Z L Y y Q hE e hq=>by cases e;show hq S (.refl S)
def jw (pick:List (Option Nat)) (g:T->Ev->Option Ev) (t:yU):Prop:=∀ B S Z L Y Y' y d Q,(∀ i:Nat,pick[i]?=↑none->B[i]?=↑none)->qG B L->L.length=Y.length->ER S Z L Y->Sn (zJ S Z) y d->g y Y=↑Y'->
 (∀ L',ER S Z L' Y'->qG B L'->L'.length=Y'.length->Q L' S)->t d L S Q
def jv (pick:List (Option Nat)) (g:List T->Ev->Option Ev) (t:xP):Prop:=∀ B S Z L Y Y' y d Q,(∀ i:Nat,pick[i]?=↑none->B[i]?=↑none)->qG B L->L.length=Y.length->ER S Z L Y->zg (zJ S Z) y d->g y Y=↑Y'->
 (∀ L',ER S Z L' Y'->qG B L'->L'.length=Y'.length->Q L' S)->t d L S Q
theorem ER.pj {S:SS}{Z:Addr->Prop}{L:zW}{Y:Ev}{y:T}{d:D}(h:ER S Z L Y) (hl:L.length=Y.length) (i:Nat) (r:Sn (zJ S Z) y d):ER S Z (L.set i ↑d) (Y.set i ↑(.im y)):=by
 exact#[h.zd,λ j t e=>?_,λ j ts e=>?_]
 .rcases yq e with ⟨rfl,Hx,e⟩ | ⟨n,e⟩
  .cases e;show#[d,pV (by rw[hl];show Hx),r]
  .rw[xq n];show h.im j t e
 .rcases yq e with ⟨rfl,Hx,e⟩ | ⟨n,e⟩
  .cases e
  .rw[xq n];show h.ow j ts e
variable {pick:List (Option Nat)}
theorem Pq (i:Nat) (hi:pick[i]?=↑none:=by rfl):jw pick (zw i) (hName i):=λ B S Z L Y Y' y d Q hB hs hl hE r e hq=>by
 cases e;exact hq _ (hE.pj hl i r) #[by rw[C1];show hs.1,λ j c q=>?_] (by simp[hl]);by_cases hj:i=j
 .subst hj;rw[hB i hi] at q;cases q
 .rw[xq hj];show hs.2 j c q
def Pn:jv pick u9 gm:=λ B S Z L Y Y' y d Q hB hs hl hE r e hq=>by
 cases y with
 | nil=>simp![zg] at r;subst r;cases e;show#[rfl,hq _ hE hs hl]
 | cons _ _=>cases e
def Po {g:T->Ev->Option Ev}{h:List T->Ev->Option Ev}{t:yU}{u:xP}(hg:jw pick g t) (hh:jv pick h u):jv pick (yT g h) (gp t u):=λ B S Z L Y Y' y d Q hB hs hl hE r e hq=>by
 cases y with
 | nil=>cases e
 | cons y ys=>
  simp![zg] at r;let#[c,cs,rfl,r1,r2]:=r;let#[Y1,e1,e2]:=An.mp e;show hg B S Z L Y Y1 y c _ hB hs hl hE r1 e1 fun L1 E1 s1 l1=>hh B S Z L1 Y1 Y' ys cs Q hB s1 l1 E1 r2 e2 hq
def Pp {n:Nat}{g:List T->Ev->Option Ev}{t:xP}(hg:jv pick g t):jw pick (vn n g) (pU n t):=λ B S Z L Y Y' y d Q hB hs hl hE r e hq=>by
 cases y with
 | tup ys=>
  simp![Sn] at r;let#[ds,rfl,r]:=r;simp![vn] at e;split at e
  .rename_i hn;show#[by rw[r.len];show hn,hg B S Z L Y Y' ys ds Q hB hs hl hE r e hq]
  .cases e
 | _=>cases e
def cW {Y:Ev}{i:Nat}{w:W}(h:(nk pick Y)[i]?=↑↑w):∃ j:Nat,pick[i]?=↑↑j/\Y[j]?=↑↑w:=by
 unfold nk at h;rw[AM] at h;cases q:pick[i]? with
 | none=>rw[q] at h;cases h
 | some o=>
  rw[q] at h;cases o with
  | none=>simp at h
  | some j=>
   simp![Option.map_some,BH,Option.some.injEq] at h;exact#[j,rfl,?_];cases q2:Y[j]? with
   | none=>rw[q2] at h;cases h
   | some o2=>rw[q2] at h;simp![Option.join_some] at h;rw[h]
def cX {L:zW}{i j:Nat}{d:D}(h:pick[i]?=↑↑j) (h':L[j]?=↑↑d):(vV pick L)[i]?=↑↑d:=by
 unfold vV;rw[AM,h];simp[h']
def ER.UX {S:SS}{Z:Addr->Prop}{L:zW}{Y:Ev}(h:ER S Z L Y):ER S Z (vV pick L) (nk pick Y):=by
 exact#[h.zd,λ i t e=>?_,λ i ts e=>?_]
 .let#[j,h1,h2]:=cW e;let#[d,h3,h4]:=h.im j t h2;show#[d,cX h1 h3,h4]
 .let#[j,h1,h2]:=cW e;let#[p,ds,h3,h4]:=h.ow j ts h2;show#[p,ds,cX h1 h3,h4]
def ER.hide {S S':SS}{Z:Addr->Prop}{L:zW}{Y:Ev}{p:Addr}(h:ER S Z L Y) (s:Sx S S') (hp:S p=none) (HI:S' p≠none):ER S' (λ a=>Z a\/a=p) L Y:=by
 exact#[λ a z q=>?_,λ i t e=>?_,λ i ts e=>?_]
 .rcases z with z | rfl
  .show h.zd a z (s.none q)
  .show HI q
 .let#[d,h1,h2]:=h.im i t e;show#[d,h1,Sn.sx (pT s hp) t h2]
 .let#[q,ds,h1,h2,h3,h4]:=h.ow i ts e;show#[q,ds,h1,s _ _ h2,tK.sx (pT s hp) h3,.inl h4]
def Om {it:Ev->Option (List T)}{ti:xC}{g:T->Ev->Option Ev}{tg:yU}{c:Ev->Option Bool}{tc:yp}{f:Ag}{te:zq}{b:Bool}(hi:rR b it ti) (hg:jw pick g tg) (hc:wu c tc) (hf:wI f te):
  yX (yA pick it g c f) (uL pick ti tg tc te):=λ S Z L Y y Q hE e hq=>by
 let#[ts,e1,e2]:=An.mp e;split at e2
 case isFalse=>cases e2
 rename_i hlen;let#[zs,e3,rfl]:=AK.mp e2;exact hi S Z L Y ts _ hE e1 λ I S1 s1 r1 hk=>#[by rw[r1.len];show hlen,λ S' s'=>hk S' ?_,λ p hp=>?_]
 .cases b
  .show s'
  .show (kr _ _).trans s'
 have E1:=hE.grow s1;have nz:¬ Z p:=λ z=>E1.zd p z hp;exact#[λ i S' acc=>∃ us ws,zg (zJ S' λ a=>Z a\/a=p) us acc/\q8 (sj pick g c f Y) (ts.drop i)=↑ws/\zs=us++ws,#[[],zs,.nil,e3,rfl],λ i S' S'' acc hh #[us,ws,h1,h2]=>#[us,ws,zg.sx (λ a o q=>?_) us h1,h2],λ i d S2 acc hd s2 AZ #[us,ws,h1,h2,h3]=>?_,λ S2 acc s2 AZ #[us,ws,h1,h2,h3]=>?_]
 .let#[q1,q2]:=uF q;rw[vY q1];show hh a o (λ z=>q1 (.inr z)) q2
 .let#[x,hx,rx]:=r1.gC hd;have Az:=(AQ.mp hx).1;have C_:ts.drop i=x::ts.drop (i+1):=by rw[List.drop_eq_getElem_cons Az,(AQ.mp hx).2]
  rw[C_] at h2;unfold q8 at h2;let#[o,o1,h2]:=An.mp h2;let#[ws',o2,rfl]:=AK.mp h2;have E2:=(E1.hide s2 hp (by rw[AZ];nofun)).UX (pick:=pick);unfold sj at o1;let#[Y2,g1,o1]:=An.mp o1;let#[bb,g2,o1]:=An.mp o1;exact hg (vV pick L) S2 _ _ _ Y2 x d _ (λ j hj=>?_) #[rfl,λ _ _ q=>q] (by unfold vV nk;simp) E2 (Sn.sx (pT s2 hp) x rx) g1 fun L2 E3 l3 _=>#[l3,?_]
  .unfold vV;rw[AM,hj];rfl
  exact hc S2 _ L2 Y2 bb _ E3 g2 λ S3 s3=>?_;split at o1
  .rename_i hb;rw[if_pos hb];let#[z,g3,rfl]:=AK.mp o1;exact hf S3 _ L2 Y2 z _ (E3.grow s3) g3 λ dz S4 s4 r4=>#[s3.trans s4,us++[z],ws',?_,o2,by rw[h3];simp];show (zg.sx (wg (s3.trans s4)) us h1).append (.cons r4 .nil)
  .rename_i hb;rw[if_neg hb];cases o1;show#[s3,us,ws',zg.sx (wg s3) us h1,o2,h3]
 .rw[show I.items.length=ts.length from r1.len,List.drop_length] at h2;cases h2;rw[CF] at h3;subst h3;exact hq _ S2 (s1.trans s2) #[?_,λ vs e=>?_]
  .simp![Sn];show#[acc,.inr #[p,rfl,by rw[vY nz];show AZ],zg.sx (vZ λ a z=>.inl z) zs h1]
  .cases e;show#[p,acc,rfl,s1.none hp,AZ,h1]
class Sr (R:Rk):Prop extends Lo R where
 sn:∀ {S S':SS}{Z:Addr->Prop}{y:T}{d:D},R S S' Z y d->Sn (zJ S' Z) y d
instance:Sr xg:=#[λ h=>h]
instance:Sr zv:=#[λ h=>h.1]
def zx (R:Rk) (F:Al):xR:=λ ds S Q=>∃ Z ys y,(∀ a,Z a->S a≠none)/\zg (zJ S Z) ys ds/\F ys=↑y/\∀ d S',Sx S S'->R S S' Z y d->Q d S'
def zx.mo {R:Rk}{F:Al}:ox (zx R F):=λ _ _ _ _ hq #[Z,ys,y,h1,h2,h3,h4]=>#[Z,ys,y,h1,h2,h3,λ d S' s r=>hq _ _ (h4 d S' s r)]
def iJ {R:Rk} [Lo R] {F:Al}{g:Ev->Option (List T)}{u:zZ}(h:qL g u):yV R (zk F g) (kP (zx R F) u):=λ S Z L Y y Q hE e hq=>by
 let#[xs,e1,e2]:=An.mp e;exact h S Z L Y xs _ hE e1 λ ds S1 s1 r1=>?_;show#[Z,xs,y,(hE.grow s1).zd,r1,e2,λ d S' s r=>hq d S' (s1.trans s) (Cl.cl s1 r)]
@[simp] def qZ (N:List Str) (ys:List T):Ev:=ys.map (λ y=>↑(.im y))++List.replicate (N.length-ys.length) none
@[simp] def bp:Option Out->Option T
 | some (.rt y)=>↑y
 | some (.nx _)=>↑.zo
 | _=>none
@[simp] def zD (N:List Str) (n:Nat) (g:Sm):Al:=λ ys=>if ys.length=n then bp (g (qZ N ys)) else none
theorem zx.len {R:Rk}{N:List Str}{n:Nat}{g:Sm}{ds:List D}{S:SS}{Q:DK}(hs:zx R (zD N n g) ds S Q):ds.length=n:=by
 let#[Z,ys,y,hz,r,e,hq]:=hs;unfold zD at e;split at e
 .rename_i h;rw[r.len];show h
 .cases e
theorem VE {N:List Str}{ds:List D}{i:Nat}{d:D}(h:ds[i]?=↑d):(uw N ds)[i]?=↑↑d:=by
 have hi:=(AQ.mp h).1;unfold uw;rw[CA (by exists hi),AM,h];rfl
theorem lD {N:List Str}{ys:List T}{i:Nat}{w:W}(h:(qZ N ys)[i]?=↑↑w):∃ y,ys[i]?=↑y/\w=.im y:=by
 unfold qZ at h;have hi:i<ys.length:=by
  rcases BS i ys.length with q | q
  .show q
  .rw[CB (by exists q),DX] at h;split at h <;> cases h
 rw[CA (by exists hi),AM] at h;cases q:ys[i]? with
 | none=>rw[q] at h;cases h
 | some y=>rw[q] at h;cases h;show#[y,rfl,rfl]
def Ye {R:Rk} [Lo R] {N:List Str}{n:Nat}{g:Sm}{t:zY}(h:z_ R g t) {ds:List D}{S:SS}{Q:DK}(hs:zx R (zD N n g) ds S Q):t { nx:=λ _ S'=>Q .zo S',rt:=Q } (uw N ds) S:=by
 let#[Z,ys,y,hz,r,e,hq]:=hs;unfold zD at e;split at e
 case isFalse=>cases e
 obtain⟨o,e1,e2⟩:∃ o,g (qZ N ys)=↑o/\bp ↑o=↑y:=by
  cases q:g (qZ N ys) with
  | none=>rw[q] at e;cases e
  | some o=>show#[o,rfl,by rw[<- q];show e]
 exact h S Z S Z _ _ o _ #[#[hz,λ i t e=>?_,λ i ts e=>?_],?_,.refl S,hz,λ _ z=>z,λ _ z=>.inl z,λ i ts p e _=>?_,λ i j ts us p _ e _ _ _=>?_] e1 ?_
 .let#[y',h1,h2]:=lD e;cases h2;let#[d,h3,h4]:=r.gA h1;show#[d,VE h3,h4]
 .let#[y',h1,h2]:=lD e;cases h2
 .unfold uw qZ;have:=r.len;simp[this]
 .let#[y',h1,h2]:=lD e;cases h2
 .let#[y',h1,h2]:=lD e;cases h2
 .cases o with
  | rt y'=>cases e2;show λ d S' s r=>hq d S' s r
  | nx Y'=>
   cases e2;show λ S' Z' L' F=>hq .zo S' F.sx (Cl.of (λ _=>nofun) ib)
  | _=>cases e2
def yE (Ab:List (Key×T)) (k:Key):Option T:=(Ab.find? λ kv=>decide (kv.1=k)).map (·.2)
def wA (Ab:List (Key×T)) (k:Key) (v:T):List (Key×T):=
 if (Ab.any λ kv=>decide (kv.1=k))=true then Ab.map (λ kv=>if kv.1=k then (kv.1,v) else kv) else Ab++[(k,v)]
section
variable {S:SS}
theorem yt.len:∀ {a:List (Key×T)}{b:List (Key×D)},yt S a b->b.length=a.length
 | [],_,h=>by cases h;rfl
 | (k,t)::r,_,h=>by
  let#[d,m,rfl,_,h2]:=h;simp[yt.len h2]
theorem yt.val:∀ {a:List (Key×T)}{b:List (Key×D)}(k:Key),yt S a b->(yE a k=none/\vN b k=none)\/∃ t d,yE a k=↑t/\vN b k=↑d/\Sn S t d
 | [],_,k,h=>by cases h;show .inl #[rfl,rfl]
 | (j,t)::r,_,k,h=>by
  let#[d,m,rfl,h1,h2]:=h;by_cases e:j=k
  .subst e;show .inr #[t,d,by simp[yE],by simp[vN],h1]
  .rcases yt.val k h2 with ⟨g1,g2⟩ | ⟨t',d',g1,g2,g3⟩
   .show .inl #[by simpa [yE,e] using g1,by simpa [vN,e] using g2]
   .show .inr #[t',d',by simpa [yE,e] using g1,by simpa [vN,e] using g2,g3]
theorem yt.any:∀ {a:List (Key×T)}{b:List (Key×D)}(k:Key),yt S a b->(b.any λ kv=>decide (kv.1=k))=a.any λ kv=>decide (kv.1=k)
 | [],_,k,h=>by cases h;rfl
 | (j,t)::r,_,k,h=>by
  let#[d,m,rfl,h1,h2]:=h;rw[BR,BR,yt.any k h2]
theorem yt.uZ {k:Key}{t:T}{d:D}(r:Sn S t d):∀ {a:List (Key×T)}{b:List (Key×D)},yt S a b->yt S (a.map λ kv=>if kv.1=k then (kv.1,t) else kv) (b.map λ kv=>if kv.1=k then (kv.1,d) else kv)
 | [],_,h=>by cases h;rfl
 | (j,u)::a,_,h=>by
  let#[e,m,rfl,h1,h2]:=h;rw[Ax,Ax];by_cases q:j=k
  .rw[if_pos q,if_pos q];show#[d,_,rfl,r,yt.uZ r h2]
  .rw[if_neg q,if_neg q];show#[e,_,rfl,h1,yt.uZ r h2]
theorem yt.snoc {k:Key}{t:T}{d:D}(r:Sn S t d):∀ {a:List (Key×T)}{b:List (Key×D)},yt S a b->yt S (a++[(k,t)]) (b++[(k,d)])
 | [],_,h=>by cases h;show#[d,[],rfl,r,rfl]
 | (j,u)::a,_,h=>by
  let#[e,m,rfl,h1,h2]:=h;show#[e,_,rfl,h1,yt.snoc r h2]
def yt.put {a:List (Key×T)}{b:List (Key×D)}(h:yt S a b) (k:Key) {t:T}{d:D}(r:Sn S t d):yt S (wA a k t) (putD b k d):=by
 unfold wA putD;rw[h.any k];split
 .show yt.uZ r h
 .show yt.snoc r h
end
@[simp] def Z2 (i:Nat):Sm:=fun Y=>↑(.nx (Y.set i ↑(.own (.zC []))))
@[simp] def qw (i:Nat) (f:Ag):Ag:=fun Y=>(f Y).bind λ y=>match Y[i]?,y with
 | some ↑(.own (.zC Ab)),.int k=>yE Ab (.inl k)
 | _,_=>none
@[simp] def gU (i:Nat) (f g:Ag):Ag:=fun Y=>(f Y).bind λ y=>(g Y).bind λ z=>match Y[i]?,y with
 | some ↑(.own (.zC Ab)),.int k=>↑((yE Ab (.inl k)).getD z)
 | _,_=>none
@[simp] def gT (i:Nat) (f v:Ag):Sm:=fun Y=>(v Y).bind λ z=>(f Y).bind λ y=>match Y[i]?,y with
 | some ↑(.own (.zC Ab)),.int k=>if Ab.length<sizeLine then ↑(.nx (Y.set i ↑(.own (.zC (wA Ab (.inl k) z))))) else none
 | _,_=>none
@[simp] def md (i:Nat):Ag:=fun Y=>match Y[i]? with
 | some ↑(.own (.zC Ab))=>↑(.int Ab.length)
 | _=>none
def lU {S:SS}{Z:Addr->Prop}{L:zW}{Y:Ev}(hE:ER S Z L Y) {i:Nat}{Ab:List (Key×T)}(h:Y[i]?=↑↑(.own (.zC Ab))):∃ p b,L[i]?=↑↑(.ref p)/\S p=↑(.zC b)/\yt (zJ S Z) Ab b:=by
 let#[p,o,h1,h2,h3,_]:=hE.ow i _ h;cases o with
 | zC b=>show#[p,b,h1,h2,h3]
 | lst _=>show h3.elim
section
variable {R:Rk}{f g v:Ag}{ty tx tv:zq}
def QY (i:Nat):z_ R (Z2 i) (uN ZH (hName i)):=λ S0 Z0 S Z L Y o E F e P=>by
 cases e;intro p hp;show P _ _ _ (F.dZ (ts:=.zC []) (ds:=.zC []) (.new hp _) i hp sX rfl)
def bC (i:Nat) (hf:yk f ty):wI (qw i f) (ZK (yj i) ty):=λ S Z L Y y Q hE e hq=>by
 let#[x,e1,e2]:=An.mp e;split at e2
 .rename_i Ab k h;let#[p,b,h1,h2,h3]:=lU hE h;change yj i L S _;unfold yj;rw[h1];exact hf S Z L Y _ _ hE e1 λ d S1 s1 r1=>?_;cases Vw.int r1;rcases (yt.sx (wg s1) h3).val (.inl k) with ⟨g1,_⟩ | ⟨t,d,g1,g2,g3⟩
  .rw[g1] at e2;cases e2
  .rw[g1] at e2;cases e2;show#[p,b,k,d,rfl,rfl,s1 _ _ h2,g2,hq d S1 s1 g3]
 .cases e2
def bD (i:Nat) (hf:yk f ty) (hg:wI g tx):wI (gU i f g) (ZJ (yj i) ty tx):=λ S Z L Y y Q hE e hq=>by
 let#[x,e1,e]:=An.mp e;let#[z,e2,e3]:=An.mp e;split at e3
 .rename_i Ab k h;cases e3;let#[p,b,h1,h2,h3]:=lU hE h;change yj i L S _;unfold yj;rw[h1];exact#[p,rfl,#[b,h2],hf S Z L Y _ _ hE e1 λ d S1 s1 r1=>?_];cases Vw.int r1;exact hg S1 Z L Y z _ (hE.grow s1) e2 λ dz S2 s2 r2=>#[k,b,rfl,(s1.trans s2) _ _ h2,?_];rcases (yt.sx (wg (s1.trans s2)) h3).val (.inl k) with ⟨g1,g2⟩ | ⟨t,d,g1,g2,g3⟩
  .rw[g2];rw[g1] at hq;show hq _ S2 (s1.trans s2) r2
  .rw[g2];rw[g1] at hq;show hq _ S2 (s1.trans s2) g3
 .cases e3
def QX (i:Nat) (hf:yk f ty) (hv:wI v tv):z_ R (gT i f v) (ZI (yj i) ty tv):=λ S0 Z0 S Z L Y o E F e P=>by
 let#[z,e1,e]:=An.mp e;let#[x,e2,e3]:=An.mp e;split at e3
 .rename_i Ab k h;split at e3
  .rename_i hl;cases e3;exact hv S Z L Y z _ F.er e1 λ dz S1 s1 r1=>?_;have F1:=F.grow s1;let#[p,b,h1,h2,h3]:=lU F1.er h;change yj i L S1 _;unfold yj;rw[h1];exact hf S1 Z L Y _ _ F1.er e2 λ d S2 s2 r2=>?_;cases Vw.int r2;have h4:=yt.sx (wg s2) h3;show#[p,b,k,rfl,rfl,s2 _ _ h2,by rw[h4.len];show hl,P _ Z L ((F1.grow s2).mut (us:=.zC (wA Ab (.inl k) z)) (es:=.zC (putD b (.inl k) dz)) i h h1 (h4.put _ (Sn.sx (wg s2) z r1)))]
  .cases e3
 .cases e3
def OS (i:Nat):yX (md i) (xc Zl (qz (yj i) kL)):=λ S Z L Y y Q hE e hq=>by
 unfold md at e;split at e
 .rename_i Ab h;cases e;let#[p,b,h1,h2,h3]:=lU hE h;change yj i L S _;unfold yj;rw[h1];exact#[p,b,rfl,h2,?_];rw[h3.len];show hq _ S (.refl S) (Cl.of (λ _=>nofun) xU)
 .cases e
end
@[simp] def nC (f:Ag):Ag:=fun Y=>(f Y).bind λ x=>match x with
 | .int i=>↑(.int (-i))
 | _=>none
def ZD (ta:zq):zq:=fun L S Q=>ta L S λ x S1=>match x with
 | .int i=>Q (.int (-i)) S1
 | _=>False
def Oc {f:Ag}{te:zq}(h:yk f te):yX (nC f) (ZD te):=λ S Z L Y y Q hE e hq=>by
 let#[x,e1,e2]:=An.mp e;exact h S Z L Y x _ hE e1 λ d S1 s1 r1=>?_;split at e2
 .cases Vw.int r1;cases e2;show hq _ S1 s1 (Cl.of (λ _=>nofun) xU)
 .cases e2
def Ll:vf zv rn Zk:=aY
def Lk:vf zv rm Zj:=aY
def vz:List T->Option (List Int)
 | []=>↑[]
 | .int i::ts=>(vz ts).map (i::·)
 | _::_=>none
def vp:List T->Option (List (List Int))
 | []=>↑[]
 | .tup r::ts=>(vz r).bind λ x=>(vp ts).map (x::·)
 | _::_=>none
def zu (r:List Int):T:=.tup (r.map T.int)
theorem pO:∀ {ts:List T}{is:List Int},vz ts=↑is->ts=is.map T.int
 | [],is,h=>by cases h;rfl
 | .int b::ts,is,h=>by
  unfold vz at h;let#[cs,h1,rfl]:=AK.mp h;rw[Ax,<- pO h1]
 | .zo::ts,bs,h=>by cases h
 | .bl _::ts,bs,h=>by cases h
 | .str _::ts,bs,h=>by cases h
 | .tup _::ts,bs,h=>by cases h
 | .lst _::ts,bs,h=>by cases h
theorem ij:∀ {ts:List T}{rs:List (List Int)},vp ts=↑rs->ts=rs.map zu
 | [],is,h=>by cases h;rfl
 | .tup r::ts,is,h=>by
  unfold vp at h;let#[x,h1,h]:=An.mp h;let#[cs,h2,rfl]:=AK.mp h;rw[Ax,<- ij h2,pO h1];rfl
 | .zo::ts,bs,h=>by cases h
 | .bl _::ts,bs,h=>by cases h
 | .str _::ts,bs,h=>by cases h
 | .int _::ts,bs,h=>by cases h
 | .lst _::ts,bs,h=>by cases h
def kj (is:List Int):vz (is.map T.int)=↑is:=by
 induction is with
 | nil=>rfl
 | cons b bs ih=>rw[Ax];unfold vz;rw[ih];rfl
def lL (rs:List (List Int)):vp (rs.map zu)=↑rs:=by
 induction rs with
 | nil=>rfl
 | cons b bs ih=>
  change vp (.tup (b.map T.int)::bs.map zu)=_;unfold vp;rw[kj,ih];rfl
theorem uz {S:SS}:∀ {is:List Int}{ds:List D},zg S (is.map T.int) ds↔ds=is.map D.int
 | [],ds=>by simp![Bj,zg]
 | i::is,ds=>by
  rw[Ax];simp![zg,Sn];constructor
  .rintro⟨c,cs,rfl,rfl,h⟩;rw[uz.mp h];rfl
  .rintro rfl;show#[.int i,_,rfl,rfl,uz.mpr rfl]
theorem pb {S:SS}:∀ {rs:List (List Int)}{ds:List D},zg S (rs.map zu) ds↔ds=rs.map w6
 | [],ds=>by simp![Bj,zg]
 | r::rs,ds=>by
  rw[Ax];simp![zg,zu,Sn];constructor
  .rintro⟨c,cs,rfl,⟨es,rfl,h1⟩,h⟩;rw[pb.mp h,uz.mp h1];rfl
  .rintro rfl;show#[w6 r,_,rfl,#[_,rfl,uz.mpr rfl],pb.mpr rfl]
@[simp] def jR:T->Option String
 | .zo=>↑"NoneType"
 | .bl _=>↑"bool"
 | .int _=>↑"int"
 | .str _=>↑"str"
 | .tup _=>↑"tuple"
 | .lst _=>↑"list"
 | .yD=>↑"dict"
 | .err _ _ _=>none
@[simp] def FK (ty:String) (f:Ag):Ag:=fun Y=>(f Y).bind λ x=>(jR x).map λ t=>.bl (xx t ty)
theorem Vw.err {S:SS}{Z:Addr->Prop}{c f:Str}{t:T}{d:D}(h:Vw S Z (.err c f t) d):∃ x,d=.err c f x/\Sn (zJ S Z) t x:=by
 rcases h with h | ⟨_,_,_,h,_⟩
 .simpa only [Sn] using h
 .cases h
def OD {ty:String}{f:Ag}{te:zq}(hf:yk f te):yX (FK ty f) (pZ ty te):=λ S Z L Y y Q hE e hq=>by
 let#[x,e1,e2]:=An.mp e;let#[n,e3,rfl]:=AK.mp e2;exact hf S Z L Y x _ hE e1 λ d S1 s1 r1=>?_;have key:sZ d S1=↑n:=by
  rw[<- e3];cases x with
  | zo=>cases Vw.zo r1;rfl
  | bl _=>cases Vw.bl r1;rfl
  | int _=>cases Vw.int r1;rfl
  | str _=>cases Vw.str r1;rfl
  | tup _=>let#[ds,rfl,_]:=Vw.tup r1;rfl
  | lst _=>
   obtain⟨ds,rfl | ⟨a,rfl,h1⟩,h2⟩:=Vw.lst r1
   .rfl
   .unfold sZ;dsimp only;rw[h1];rfl
  | yD=>
   let#[a,Ab,#[rfl,_],h1]:=Vw.yD r1;unfold sZ;dsimp only;rw[h1];rfl
  | err _ _ _=>cases e3
 rw[key];show hq _ S1 s1 (Cl.of (λ _=>nofun) x_)
@[simp] def isNone:T->Bool
 | .zo=>true
 | _=>false
def pN:D->Bool
 | .zo=>true
 | _=>false
def zj (p:Int×Int):T:=.tup [.int p.1,.int p.2]
def wL (ns:List Int):T:=.lst (ns.map .int)
@[simp] theorem zaa:sizeLine=16777216:=rfl
def NT {n:Nat}(h:n<=10000):n<=sizeLine:=Bk h ()
theorem vG {α:Type}{xs:List α}{k:Nat}{x:α}(h:xs[k]?=↑x):L2.zy xs (k:Int)=↑x:=by
 unfold L2.zy L2.wD;have hk:=(AQ.mp h).1;rw[if_pos ⋯,if_pos ⋯];exists h
@[simp] theorem fD {α:Type}{xs:List α}{x:α}:L2.zy (xs++[x]) (-1)=↑x:=by
 unfold L2.zy L2.wD;rw[if_neg ⋯,if_pos (by simp;lia)];have:(-1+((xs++[x]).length:Int)).toNat=xs.length:=by simp;lia
 rw[BH,this];simp
@[simp] theorem zan {α:Type}{x:α}{xs:List α}:L2.zy (x::xs) 0=↑x:=vG (k:=0) rfl
@[simp] theorem zam {α:Type}{x y:α}{xs:List α}:L2.zy (x::y::xs) 1=↑y:=vG (k:=1) rfl
@[simp] theorem zal {α:Type}{x y z:α}{xs:List α}:L2.zy (x::y::z::xs) 2=↑z:=vG (k:=2) rfl
@[simp] theorem zak {α:Type}{x y z w:α}{xs:List α}:L2.zy (x::y::z::w::xs) 3=↑w:=vG (k:=3) rfl
theorem fg {α:Type}(enc:α->T) (g:α->Option T) (h:T->Option (Option T)):∀ (xs:List α),(∀ x∈xs,h (enc x)=↑(g x))->q8 h (xs.map enc)=↑(xs.filterMap g)
 | [],_=>rfl
 | x::xs,hh=>by
  rw[Ax];unfold q8;rw[hh x Av,fg enc g h xs λ y hy=>hh y (AD _ hy)];cases q:g x <;> simp[q]
def K3 {α:Type}(enc:α->T) (g:α->T) (h:T->Option (Option T)) (xs:List α) (hh:∀ x∈xs,h (enc x)=↑↑(g x)):q8 h (xs.map enc)=↑(xs.map g):=by
 rw[fg enc (λ x=>↑(g x)) h xs hh];simp
def xw {α:Type}(enc:α->T) (h:α->T) {pick:List (Option Nat)}{it:Ev->Option (List T)}{g:T->Ev->Option Ev}{c:Ev->Option Bool}{f:Ag}{Y:Ev}(xs:List α) (hi:it Y=↑(xs.map enc)) (hl:xs.length<=16777216)
  (hh:∀ x∈xs,sj pick g c f Y (enc x)=↑↑(h x)):yA pick it g c f Y=↑(.lst (xs.map h)):=by
 unfold yA;rw[hi,BH,if_pos (by rw[AH];show hl),K3 enc h _ xs hh];rfl
def nI {α:Type}(enc:α->T) (h:α->Option T) {pick:List (Option Nat)}{it:Ev->Option (List T)}{g:T->Ev->Option Ev}{c:Ev->Option Bool}{f:Ag}{Y:Ev}(xs:List α) (hi:it Y=↑(xs.map enc)) (hl:xs.length<=16777216)
  (hh:∀ x∈xs,sj pick g c f Y (enc x)=↑(h x)):yA pick it g c f Y=↑(.lst (xs.filterMap h)):=by
 unfold yA;rw[hi,BH,if_pos (by rw[AH];show hl),fg enc h _ xs hh];rfl
section
variable {α:Type}{is:List Nat}{g:T->Ev->Option Ev}{b:Sm}
def turn (g:T->Ev->Option Ev) (b:Sm) (y:T) (Y:Ev):Option Out:=(g y Y).bind b
theorem hG (y:T) (ys:List T) (Y:Ev):yK is g b (y::ys) Y=(turn g b y (yz is Y)).bind λ o=>match o with
  | .nx Y2=>yK is g b ys Y2
  | .ct Y2=>yK is g b ys Y2
  | .bk Y2=>↑(.nx (yz is Y2))
  | .rt t=>↑(.rt t):=by
 unfold turn;rw[yK];cases g y (yz is Y) <;> rfl
theorem kc (enc:α->T) (test:α->Bool) (v:T) (Y0:Ev):∀ (xs:List α) (Y:Ev),yz is Y=Y0->(∀ x∈xs,∃ Y',yz is Y'=Y0/\turn g b (enc x) Y0=↑(if test x=true then .rt v else .nx Y'))->yK is g b (xs.map enc) Y=↑(if xs.any test=true then .rt v else .nx Y0)
 | [],Y,h,_=>by rw[Bj,yK,h];rfl
 | x::xs,Y,h,hs=>by
  let#[Y',h1,h2]:=hs x Av;rw[Ax,hG,h,h2,BR];cases q:test x with
  | true=>simp
  | false=>
   have ih:=kc enc test v Y0 xs Y' h1 λ y hy=>hs y (AD _ hy);exists ih
theorem bQ (enc:α->T) (I:List α->Ev->Prop):∀ (xs:List α) (pre:List α) (Y:Ev),I pre (yz is Y)->
  (∀ p x q,pre++xs=p++x::q->∀ Y,I p Y->∃ Y',turn g b (enc x) Y=↑(.nx Y')/\I (p++[x]) (yz is Y'))->∃ Y',yK is g b (xs.map enc) Y=↑(.nx Y')/\I (pre++xs) Y'
 | [],pre,Y,h,_=>#[yz is Y,by rw[Bj,yK],by exists h]
 | x::xs,pre,Y,h,hs=>by
  let#[Y',h1,h2]:=hs pre x xs rfl _ h;rw[Ax,hG,h1];have ih:=bQ enc I xs (pre++[x]) Y' h2 λ p y q e=>hs p y q (by rw[<- e];simp);exists ih
def tp (enc:α->T) (I:List α->Ev->Prop) (xs:List α) (Y:Ev) (h:I [] (yz is Y))
  (hs:∀ p x q,xs=p++x::q->∀ Y,I p Y->∃ Y',turn g b (enc x) Y=↑(.nx Y')/\I (p++[x]) (yz is Y')):∃ Y',yK is g b (xs.map enc) Y=↑(.nx Y')/\I xs Y':=bQ enc I xs [] Y h hs
end
theorem p0 (n:Nat) (h:n<=100000):vS [.int (n:Int)]=↑((List.range n).map λ(k:Nat)=>T.int (0+(k:Int))):=by
 change (if inR (n:Int)=true then ↑(rangeT 0 (n:Int).toNat) else none)=_;rw[if_pos (aQ.mpr #[⋯,⋯])];rfl
def qf (a:Key) (b:T) (Ab:List (Key×T)) (j:Key):yE ((a,b)::Ab) j=if a=j then ↑b else yE Ab j:=by
 by_cases h:a=j <;> simp[yE,h]
theorem dg (k j:Key) (d:T):∀ Ab:List (Key×T),yE (Ab.map λ kv=>if kv.1=k then (kv.1,d) else kv) j=(yE Ab j).map λ x=>if j=k then d else x
 | []=>rfl
 | (a,b)::Ab=>by
  have ih:=dg k j d Ab;rw[Ax];by_cases hk:a=k
  .rw[if_pos hk,qf,qf,ih];by_cases hj:a=j
   .subst hj;subst hk;simp
   .rw[if_neg hj,if_neg hj]
  .rw[if_neg hk,qf,qf,ih];by_cases hj:a=j
   .subst hj;simp[hk]
   .rw[if_neg hj,if_neg hj]
theorem df (k j:Key) (d:T):∀ Ab:List (Key×T),(∀ kv∈Ab,¬ kv.1=k)->yE (Ab++[(k,d)]) j=if j=k then ↑d else yE Ab j
 | [],_=>by
  change yE [(k,d)] j=_;rw[qf];by_cases h:j=k
  .subst h;simp
  .rw[if_neg h,if_neg (λ z=>h z.symm)]
 | (a,b)::Ab,hn=>by
  have ih:=df k j d Ab λ kv EV=>hn kv (AD _ EV);have ha:¬ a=k:=hn (a,b) Av;change yE ((a,b)::(Ab++[(k,d)])) j=_;rw[qf,qf,ih];by_cases hj:a=j
  .subst hj;simp[ha]
  .rw[if_neg hj,if_neg hj]
def Yx (Ab:List (Key×T)) (k:Key):(Ab.any λ kv=>decide (kv.1=k))=(yE Ab k).isSome:=by
 unfold yE;rw[Option.isSome_map,BX,Bl,List.find?_isSome]
def lu (Ab:List (Key×T)) (k j:Key) (d:T):yE (wA Ab k d) j=if j=k then ↑d else yE Ab j:=by
 unfold wA;split
 .rename_i h;rw[Yx] at h;rw[dg];by_cases hj:j=k
  .subst hj;let#[x,hx]:=DY.mp h;simp[hx]
  .simp[hj]
 .rename_i h;show df k j d Ab λ kv EV z=>h (Bl.mpr #[kv,EV,zaA z])
def b_ (Ab:List (Key×T)) (k:Key) (d:T):(wA Ab k d).length=if (yE Ab k).isSome=true then Ab.length else Ab.length+1:=by
 have e:=Yx Ab k;unfold wA;rw[e];split <;> simp
def vq (p:Int×Int):List Int:=[p.1,p.2]
def tY (ps:List (Int×Int)):List (Int×Int):=(L4.xm (ps.map vq)).map λ r=>(r.getD 0 0,r.getD 1 0)
def dJ (ps:List (Int×Int)):(tY ps).map vq=L4.xm (ps.map vq):=by
 unfold tY;rw[AU]
 conv=>rhs;rw[<- List.map_id (L4.xm (ps.map vq))]
 exact DR λ r hr=>?_;let#[p,_,rfl]:=Ar.mp ((L4.uX _).mem_iff.mp hr);rfl
def j_ (ps:List (Int×Int)):(tY ps).Perm ps:=by
 have h:=L4.uX (ps.map vq);have:(tY ps).Perm ((ps.map vq).map λ r=>(r.getD 0 0,r.getD 1 0)):=h.map _
 rwa [AU,show ((λ r:List Int=>(r.getD 0 0,r.getD 1 0)) ∘ vq)=id from rfl,List.map_id] at this
def pG (p q:Int×Int):Prop:=p.1<q.1\/(p.1=q.1/\p.2<=q.2)
def dI (ps:List (Int×Int)):(tY ps).Pairwise pG:=by
 have h:=L4.lH (ps.map vq);rw[<- dJ,CD] at h;exact h.imp λ{p q} CO=>?_;unfold vq at CO;rw[HT.tq,HT.tq] at CO;unfold pG;by_cases e:q.1=p.1
 .rw[if_pos e] at CO;by_cases e2:q.2=p.2
  .lia
  .rw[if_neg e2] at CO;have:=of_decide_eq_false CO;lia
 .rw[if_neg e] at CO;have:=of_decide_eq_false CO;lia
def Ui (ps:List (Int×Int)):vp (ps.map zj)=↑(ps.map vq):=by
 have:=lL (ps.map vq)
 rwa [AU,show zu ∘ vq=zj from rfl] at this
def wj (q p:Int×Int):Bool:=decide (p.1<=q.1)&&decide (p.2<=q.2)
def ya (ps:List (Int×Int)) (q:Int×Int):Bool:=ps.any (wj q)
def xf {ps:List (Int×Int)}{q:Int×Int}:ya ps q=true↔∃ p∈ps,p.1<=q.1/\p.2<=q.2:=by
 unfold ya wj;simp[Bl]
def Ky {ps qs:List (Int×Int)}(h:ps.Perm qs) (q:Int×Int):ya ps q=ya qs q:=by
 rw[BX,xf,xf];show#[λ#[p,h1,h2]=>#[p,h.mem_iff.mp h1,h2],λ#[p,h1,h2]=>#[p,h.mem_iff.mpr h1,h2]]
def Kz (ps qs:List (Int×Int)) (q:Int×Int):ya (ps++qs) q=(ya ps q||ya qs q):=by
 unfold ya;rw[List.any_append]
def ve (ps:List (Int×Int)):Prop:=ps.Pairwise λ p q=>p.1<q.1/\q.2<p.2
theorem ve.eq:∀ {ps qs:List (Int×Int)},ve ps->ve qs->(∀ q,ya ps q=ya qs q)->ps=qs
 | [],[],_,_,_=>rfl
 | [],q::qs,_,_,h=>by
  have:=h q;rw[show ya [] q=false from rfl] at this;have h2:ya (q::qs) q=true:=xf.mpr #[q,Av,A3 _,A3 _];rw[h2] at this;cases this
 | p::ps,[],_,_,h=>by
  have:=h p;rw[show ya [] p=false from rfl] at this;have h2:ya (p::ps) p=true:=xf.mpr #[p,Av,A3 _,A3 _];rw[h2] at this;cases this
 | p::ps,q::qs,hp,hq,h=>by
  have hp1:=Br.mp hp;have Ir:=Br.mp hq;have a1:∃ r∈q::qs,r.1<=p.1/\r.2<=p.2:=xf.mp (by rw[<- h];show xf.mpr #[p,Av,A3 _,A3 _]);have a2:∃ r∈p::ps,r.1<=q.1/\r.2<=q.2:=xf.mp (by rw[h];show xf.mpr #[q,Av,A3 _,A3 _]);let#[r,hr,r1,r2]:=a1;let#[u,hu,u1,u2]:=a2;have qr:q.1<=r.1:=by
   rcases Ao.mp hr with e | e
   .subst e;show A3 _
   .show Int.le_of_lt (Ir.1 r e).1
  have pu:p.1<=u.1:=by
   rcases Ao.mp hu with e | e
   .subst e;show A3 _
   .show Int.le_of_lt (hp1.1 u e).1
  have e1:p.1=q.1:=⋯;have er:r=q:=by
   rcases Ao.mp hr with e | e
   .show e
   .have:=(Ir.1 r e).1;lia
  have eu:u=p:=by
   rcases Ao.mp hu with e | e
   .show e
   .have:=(hp1.1 u e).1;lia
  subst er eu;have e2:u.2=r.2:=⋯;have epq:u=r:=Prod.ext e1 e2;subst epq;rw[ve.eq hp1.2 Ir.2 λ x=>?_];have hx:=h x;unfold ya at hx ⊢;rw[BR,BR] at hx;cases g:wj x u with
  | false=>rw[g] at hx;exists hx
  | true=>
   have gx:u.1<=x.1/\u.2<=x.2:=by simpa [wj] using g
   have key:∀ {l:List (Int×Int)},(∀ v∈l,u.1<v.1/\v.2<u.2)->l.any (wj x)=l.any (wj (x.1,u.2-1)):=by
    intro l hl;rw[BX,Bl,Bl];constructor
    .rintro⟨v,hv,hg⟩;have:=hl v hv;have hg':v.1<=x.1/\v.2<=x.2:=by simpa [wj] using hg
     show#[v,hv,by simp[wj];lia]
    .rintro⟨v,hv,hg⟩;have:=hl v hv;have hg':v.1<=x.1/\v.2<=u.2-1:=by simpa [wj] using hg
     show#[v,hv,by simp[wj];lia]
   rw[key hp1.1,key Ir.1];have hy:=h (x.1,u.2-1);unfold ya at hy;rw[BR,BR] at hy;have gn:wj (x.1,u.2-1) u=false:=by
    unfold wj;rw[show decide (u.2<=(x.1,u.2-1).2)=false from za5 (by change ¬ u.2<=u.2-1;lia),C0]
   rw[gn] at hy;exists hy
def tH (l:Option Int) (x:Int):Bool:=match l with
 | none=>true
 | some m=>decide (x<m)
def y9:List (Int×Int)->Option Int->List (Int×Int)
 | [],_=>[]
 | p::ps,l=>if tH l p.2=true then p::y9 ps ↑p.2 else y9 ps l
def wC (ps:List (Int×Int)):List (Int×Int):=y9 (tY ps) none
theorem nN:∀ (ps:List (Int×Int)) (l:Option Int) (q:Int×Int),q∈y9 ps l->q∈ps/\∀ m,l=↑m->q.2<m
 | [],l,q,h=>by simp[y9] at h
 | p::ps,l,q,h=>by
  unfold y9 at h;split at h
  .rename_i c;have hm:∀ m,l=↑m->p.2<m:=λ m e=>by subst e;simpa [tH] using c
   rcases Ao.mp h with e | e
   .subst e;show#[Av,hm]
   .let#[h1,h2]:=nN ps _ q e;show#[AD _ h1,λ m e=>by have:=h2 _ rfl;have:=hm m e;lia]
  .let#[h1,h2]:=nN ps _ q h;show#[AD _ h1,h2]
theorem gr:∀ (ps:List (Int×Int)) (l:Option Int),ps.Pairwise pG->ve (y9 ps l)
 | [],l,_=>by simp[y9,ve]
 | p::ps,l,h=>by
  have h1:=Br.mp h;unfold y9;split
  .exact Br.mpr #[λ q hq=>?_,gr ps _ h1.2];let#[g1,g2]:=nN ps _ q hq;have:=h1.1 q g1;have:=g2 _ rfl;unfold pG at *;lia
  .show gr ps _ h1.2
theorem gs:∀ (ps:List (Int×Int)) (l:Option Int),ps.Pairwise pG->∀ p∈ps,(∃ q∈y9 ps l,q.1<=p.1/\q.2<=p.2)\/∃ m,l=↑m/\m<=p.2
 | [],l,_,p,hp=>by cases hp
 | r::ps,l,h,p,hp=>by
  have h1:=Br.mp h;unfold y9;split
  .rename_i c;rcases Ao.mp hp with e | e
   .subst e;show .inl #[p,Av,A3 _,A3 _]
   .rcases gs ps ↑r.2 h1.2 p e with ⟨q,q1,q2⟩ | ⟨m,e1,e2⟩
    .show .inl #[q,AD _ q1,q2]
    .cases e1;have:=h1.1 p e;unfold pG at this;show .inl #[r,Av,⋯,e2]
  .rename_i c;rcases Ao.mp hp with e | e
   .subst e;cases l with
    | none=>simp[tH] at c
    | some m=>show .inr #[m,rfl,by simpa [tH] using c]
   .show gs ps l h1.2 p e
def h_ (ps:List (Int×Int)):ve (wC ps):=gr _ _ (dI ps)
def Mb {ps:List (Int×Int)}{q:Int×Int}(h:q∈wC ps):q∈ps:=(j_ ps).mem_iff.mp (nN _ _ q h).1
theorem kd (ps:List (Int×Int)) (q:Int×Int):ya (wC ps) q=ya ps q:=by
 rw[<- Ky (j_ ps) q,BX,xf,xf];constructor
 .rintro⟨p,h1,h2⟩;show#[p,(nN _ _ p h1).1,h2]
 .rintro⟨p,h1,h2⟩;rcases gs (tY ps) none (dI ps) p h1 with ⟨r,r1,r2⟩ | ⟨m,e,_⟩
  .show#[r,r1,⋯,⋯]
  .cases e
end L5
namespace L2
open PySem PySem.Spec PyProof.Rows
section
variable {X:Cx}
def cM (K:Ac):R2:=λ x y H Q=>∃ l b xs zs,x=.ref l/\y=.ref b/\zH K H l xs/\zH K H b zs/\xs.length+zs.length<=sizeLine/\∀ p,H p=none->Q (.ref p) (upd H p (.lst (xs++zs)))
theorem QF:zV X (binaryOp .Add) (cM X.K):=by
 intro Fd s O H x y v u Q I rx ry h;let#[l,b,xs,zs,rfl,rfl,hH,hB,hz,q]:=h;cases rx;cases ry;let#[Aa,r,p1,_]:=I.list hH;let#[FQ,r2,p2,_]:=I.list hB;let#[#[cls,dd,data,sl],ho,hc,n,hd]:=p1.isList;let#[#[IE,HM,data2,HC],Hn,GA,n2,hd2]:=p2.isList;simp only at hc hd GA hd2;subst hc hd GA hd2;have e:Aa.toArray++FQ.toArray=(Aa++FQ).toArray:=#[];exact concat_meets #[_,ho,rfl] #[_,Hn,rfl] noFill_list_add seq_list_add PySem.F.slot_list_add PySem.F.entry_list_add (PySem.F.args_list_add_2 _ _) (list_addW l b Aa.toArray FQ.toArray n n2 dd HM sl HC (by rw[AB,AB,<- r.length,<- r2.length];show hz)) #[ho,Hn,?_];rw[e];show#[.ref _,_,I.NQ (t':=s.toks) (r.append r2) (by rw[Cj];lia),rfl,q _ I.fresh]
def cK (K:Ac):R2:=λ x y H Q=>∃ a b ys,x=.ref a/\y=.ref b/\zO K H a []/\zO K H b ys/\Q (.ref b) H
theorem QD:zV X (binaryOp .Add) (cK X.K):=by
 intro Fd s O H x y v u Q I rx ry h;let#[l,b,ys,rfl,rfl,hH,hB,q]:=h;cases rx;cases ry;let#[Aa,r,p1,_]:=I.tuple hH;let#[FQ,r2,p2,_]:=I.tuple hB;let#[#[cls,dd,data,sl],ho,hc,n,hd]:=id p1;let#[#[IE,HM,data2,HC],Hn,GA,n2,hd2]:=id p2;simp only at hc hd GA hd2;subst hc hd GA hd2;show concat_meets #[_,ho,rfl] #[_,Hn,rfl] noFill_tuple_add seq_tuple_add PySem.F.slot_tuple_add PySem.F.entry_tuple_add (PySem.F.args_tuple_add_2 _ _)
   (tuple_addW0 l b Aa.toArray FQ.toArray n n2 dd HM sl HC (by cases r;rfl)) #[ho,Hn,#[.ref b,H,I,rfl,q]]
end
end L2
namespace L5
open PySem PySem.Spec L2 L3
open PyProof.Rows hiding St
section
variable {X:Cx}{K:Ac}{a b c e:Expr}{es:List Expr}{ta tb tc te:zq}{tA:zZ}{pos p:Pos}
def uf.mo:yY uf:=λ x y S Q Q' hq h=>by
 cases x with
 | int i=>cases y <;> first | show hq _ _ h | show h
 | str i=>cases y <;> first | show#[h.1,hq _ _ h.2] | show h
 | tup i=>cases y <;> first | show#[h.1,hq _ _ h.2] | show h
 | xi ds=>
  unfold uf at h ⊢;dsimp only at h ⊢;split at h
  .show#[h.1,h.2.1,λ r hr=>hq _ _ (h.2.2 r hr)]
  .show h.elim
 | ref q=>
  unfold uf at h ⊢;dsimp only at h ⊢;split at h
  .show#[h.1,h.2.1,λ r hr=>hq _ _ (h.2.2 r hr)]
  .show h.elim
 | _=>show h
def rf {H:Hp}{S:SS}{d:D}{v:V}{ds:List D}(r:ze K H d v) (p:zB K H S) (e:zK d S=↑ds) (n:∀ ts,d≠.tup ts):∃ a xs,v=.ref a/\zH K H a xs/\zh K H ds xs:=by
 unfold zK at e;split at e
 .show absurd rfl (n _)
 .cases e;simp![ze] at r;let#[a,xs,h1,h2,h3]:=r;show#[a,xs,h1,h2.sq,h3]
 .split at e
  .rename_i q;cases e;simp![ze] at r;subst r;let#[xs,h1,h2]:=p _ _ q;show#[_,xs,rfl,zH.of h1,h2]
  .cases e
 .cases e
abbrev cO (K:Ac):R2:=λ x y H Q=>w9 (λ i j=>.int (i+j)) x y H Q\/((∃ i j,x=.str i/\y=.str j/\i.length+j.length<=sizeLine/\Q (.str (i++j)) H)\/(cM K x y H Q\/(cK K x y H Q\/cL K x y H Q)))
def uf.fits:yQ K uf (cO K):=λ x y d e H S Q h1 h2 h3 h=>by
 have lst:(∀ ts,d≠.tup ts)->(match zK d S,zK e S with
  | some ds,↑es=>(∀ ts,e≠.tup ts)/\ds.length+es.length<=sizeLine/\∀ r,S r=none->x8 K H Q (.ref r) (ups S r (.lst (ds++es)))
  | _,_=>False)->cO K x y H Q:=λ n h=>by
  split at h
  .rename_i ds es q1 q2;let#[a,xs,rfl,g1,g2]:=rf h1 h3 q1 n;let#[b,ys,rfl,g3,g4]:=rf h2 h3 q2 h.1;exact .inr (.inr (.inl #[a,b,xs,ys,rfl,rfl,g1,g3,by rw[<- g2.length,<- g4.length];show h.2.1,λ p hp=>?_]));show h.2.2 p (h3.none hp) _ _ (by simp![ze]) (.new hp _) (h3.ups (.new hp _) #[_,zX,zh.ext (.new hp _) _ (g2.append g4)])
  .show h.elim
 cases d with
 | int i=>
  cases e with
  | int j=>
   simp![ze] at h1 h2;show .inl #[_,_,h1,h2,h _ H (by simp![ze]) (.refl H) h3]
  | _=>show h.elim
 | str i=>
  cases e with
  | str j=>
   simp![ze] at h1 h2;show .inr (.inl #[_,_,h1,h2,h.1,h.2 _ H (by simp![ze]) (.refl H) h3])
  | _=>show h.elim
 | tup ds=>
  cases e with
  | tup es=>
   have h1':=h1;have h2':=h2;simp![ze] at h1 h2;let#[a,xs,rfl,g1,g2]:=h1;let#[b,ys,rfl,g3,g4]:=h2;have hl:=g2.length;have Hx:=g4.length;by_cases hx:xs=[]
   .subst hx;have:ds=[]:=by cases ds <;> simp_all
    subst this;show .inr (.inr (.inr (.inl #[a,b,ys,rfl,rfl,g1,g3,h.2 _ H h2' (.refl H) h3])))
   .exact .inr (.inr (.inr (.inr #[a,b,xs,ys,rfl,rfl,g1,g3,hx,by rw[<- hl,<- Hx];show h.1,λ hy=>?_,λ hy p hp=>?_])))
    .subst hy;have:es=[]:=by cases es <;> simp_all
     subst this;exact h.2 _ H ?_ (.refl H) h3;rw[CF];show h1'
    .exact h.2 _ _ ?_ (.new hp _) (h3.new hp);simp![ze];show#[p,_,rfl,zO.of zX,zh.ext (.new hp _) _ (g2.append g4)]
  | _=>show h.elim
 | xi ds=>show lst (λ _=>nofun) h
 | ref q=>show lst (λ _=>nofun) h
 | _=>show h.elim
def Qt (ha:PD X a ta) (hb:PD X b tb):PD X (.BinOp a .Add b pos) (yf uf ta tb):=rg (QH.or (QG.or (QF.or (QD.or QE)))) uf.fits uf.mo ha hb
def vC.mo {g:List Bool->Bool}:vd (vC g):=λ ds S Q Q' hq h=>by
 unfold vC at h ⊢;split at h
 .show h.elim
 .let#[bs,h1,h2]:=h;show#[bs,h1,hq _ _ h2]
 .show h.elim
def vC.fits {g:List Bool->Bool}:uo K (vC g) (λ xs H Q=>∃ p,∃ bs:List Bool,xs=[.ref p]/\zH K H p (bs.map V.bl)/\Q (.bl (g bs)) H):=λ xs ds H S Q h0 h2 h=>by
 unfold vC at h;split at h
 .show h.elim
 .rename_i d hn;let#[x,hx,h1]:=h0.one;subst hx;let#[bs,e,h]:=h;let#[a,ys,rfl,g1,g2]:=rf h1 h2 e (λ ts z=>hn ts z);rw[g2.bools] at g1;show#[a,bs,rfl,g1,h _ H (by simp![ze]) (.refl H) h2]
 .show h.elim
def Qs (hm:X.mg "all"=none) (ha:yH X (e::es) tA) (hc:X.calm=true) (hg:Gl X "all") (he:AA X e es) (Am:AF X pos es):PD X (.Call (.Name "all" p) (e::es) [] pos) (xc (vC λ bs=>bs.all id) tA):=
 u6 (u5 (Ji hc) hg hm boot_all ha.pa () () he Am) vC.mo vC.fits ha.mo
def Qq (hm:X.mg "any"=none) (ha:yH X (e::es) tA) (hc:X.calm=true) (hg:Gl X "any") (he:AA X e es) (Am:AF X pos es):PD X (.Call (.Name "any" p) (e::es) [] pos) (xc (vC λ bs=>bs.any id) tA):=
 u6 (u5 (Jh hc) hg hm boot_any ha.pa () () he Am) vC.mo vC.fits ha.mo
def MB {H:Hp}{d:D}{v:V}(r:ze K H d v):decide (v=.zo)=pN d:=by
 cases d with
 | tup _=>simp![ze] at r;let#[a,xs,rfl,_]:=r;rfl
 | xi _=>simp![ze] at r;let#[a,xs,rfl,_]:=r;rfl
 | err _ _ _=>simp![ze] at r;let#[a,_,_,_,rfl,_]:=r;rfl
 | _=>simp![ze] at r;subst r;rfl
theorem R4 (ha:PD X a ta):PD X (.UnaryOp .USub a pos) (ZD ta):=by
 exact#[fun L S Q Q' hq h=>ha.mo L S _ _ (λ x S1 z=>by
  cases x <;> first
   | show hq _ _ z
   | show z) h,PE.imp (Ts WV ha.pe) fun O H Q hu=>?_]
 let#[L,S,r1,r2,h]:=hu;exact zF.go ha.mo r1 r2 h λ x S1 v H1 h1 q1 e1 p1=>?_;cases x with
 | int i=>simp![ze] at q1;show#[i,q1,h1 _ H1 (by simp![ze]) e1 p1]
 | _=>show h1.elim
section
variable {N':List Str}{pick:List (Option Nat)}{scope:Scope}{tg elt iter:Expr}{ifs:List Expr}{ti:xC}{g:yU}{Hr:yp}
def uL.mo (hi:jy ti):ye (uL pick ti g Hr te):=fun L S Q Q' hq z=>hi L S _ _ (λ I S1 #[h1,h2,h3]=>#[h1,h2,λ p hp=>by
 let#[W,w0,w1,w2,w3]:=h3 p hp;show#[W,w0,w1,w2,λ S2 acc a b c=>hq _ _ (w3 S2 acc a b c)]]) z
theorem dm (hi:jy ti) (hg:jz g) (hc:wx Hr) (he:ye te) {O:St}{H:Hp}{Q:VK}(hu:zF K (uL pick ti g Hr te) O H Q):jU pick (xZ K ti) (ly K g) (xG K Hr) (zF K te) O H Q:=by
 let#[L,S,r1,r2,z]:=hu;exact#[L,S,r1,r2,hi L S _ _ (λ I S1 hF J H1 e1 p1 rep D hD=>?_) z];let#[hlen,hk,hF]:=hF;have hS1:S1 D=none:=p1.none hD;let#[W,w0,wm,wstep,wfin]:=hF D hS1;exact#[λ i m O H2=>m=I.items.length-i/\i<=I.items.length/\Ext H1 H2/\yh K H2 (vV pick L) O/\∃ S2 acc,zB K H2 S2/\Sx S1 S2/\S2 D=↑(.lst acc)/\acc.length<=i/\W i S2 acc,#[_,rfl,A2 _,.new hD _,((r1.ext e1).pick pick).ext (.new hD _),ups S1 D (.lst []),[],?_,.new hS1 _,sX,Ak _,?_],?_]
 .show p1.ups (.new hD _) #[[],zX,.nil]
 .show wm 0 S1 _ [] (λ b o hb q=>by rw[tV hb];show q) w0
 rintro i m O2 H2 ⟨rfl,Hy,x2,q1,S2,acc,q2,sx,hS2,AZ,hW⟩;let#[g1,g2]:=rep i H2 S2 x2 q2 (hk S2 sx);by_cases hl:i<I.items.length
 .have hd:I.items[i]?=↑I.items[i]:=by simp[hl]
  let#[go,yl]:=g1 _ hd;exact .inr #[go,λ x H3 hy=>?_];let#[x3,p3,d3]:=yl x H3 hy;exact#[_,_,S2,d3,q1.ext x3,p3,hg _ _ S2 _ _ (fun L4 S4 z4 O4 H4 a1 a2 a3=>?_) (wstep i _ S2 acc hd sx hS2 hW)];let#[hle,z4]:=z4;exact xG.go hc a1 a3 z4 λ b S5 H5 z5 x5 p5=>xW (λ z5=>?_) (λ z5=>?_) z5
  .exact zF.go he (a1.ext x5) p5 z5 λ y S6 v H6 z6 q6 x6 p6=>?_;let#[s6,hW6]:=z6;let#[ys,h6,r6]:=p6 _ _ (s6 _ _ hS2);have e6:Ext H6 (upd H6 D (.lst (ys++[v]))):=.lst h6 _;have IP:ys.length<=i:=by rw[<- r6.length];show AZ
   exact#[ys,I.items.length-(i+1),h6,⋯,⋯,rfl,hl,((((x2.trans x3).trans a2).trans x5).trans x6).trans e6,hle.rep ((a1.ext (x5.trans x6)).ext e6),ups S6 D (.lst (acc++[y])),acc++[y],?_,λ b o hb=>?_,sX,by simp;lia,?_]
   .show p6.ups e6 #[_,zX,zh.ext e6 _ (r6.snoc q6)]
   .rw[tV (by intro q;subst q;rw[hS1] at hb;cases hb)];show s6 _ _ (sx _ _ hb)
   .show wm _ S6 _ _ (λ b o hb q=>by rw[tV hb];show q) hW6
  .let#[s5,hW5]:=z5;show#[I.items.length-(i+1),⋯,rfl,hl,((x2.trans x3).trans a2).trans x5,hle.rep (a1.ext x5),S5,acc,p5,sx.trans s5,s5 _ _ hS2,⋯,hW5]
 .have e:i=I.items.length:=⋯;subst e;show .inl #[g2 (Ak _),wfin S2 acc sx hS2 hW _ H2 (by simp![ze]) (e1.trans x2) q2]
def RE (Sc:sV X N' pick scope) (hc:X.calm=true) (hi:wZ X tg iter ti) (hg:∀ cl C s H fp,w_ (yo X N' scope cl C s H fp) tg g) (hf:∀ cl C s H fp,ou (yo X N' scope cl C s H fp) ifs Hr) (he:∀ cl C s H fp,PD (yo X N' scope cl C s H fp) elt te)
  (hs:∀ x,foldedSetIterable iter X.env x=pure x):
  PD X (.ListComp elt [#[tg,iter,ifs,0]] scope pos) (uL pick ti g Hr te):=
 #[uL.mo hi.mo,λ Fd s O H Q I hu=>T5 (g:=ly X.K g) (tc:=xG X.K Hr) (te:=zF X.K te) Sc hc hi.pi (λ cl C s H fp=>(hg cl C s H fp).pg) (λ cl C s H fp=>(hf cl C s H fp).pf) (λ cl C s H fp=>(he cl C s H fp).pe) hs Fd s O H Q I (dm hi.mo (hg [] 0 s H []).mo (hf [] 0 s H []).mo (he [] 0 s H []).mo hu)]
def SK {i:Nat}{y:Str}{py Bm:Pos}(Sc:sV X N' pick scope) (hc:X.calm=true) (hi:wZ X tg iter ti) (hg:∀ cl C s H fp,w_ (yo X N' scope cl C s H fp) tg g) (hf:∀ cl C s H fp,ou (yo X N' scope cl C s H fp) ifs Hr) (he:∀ cl C s H fp,PD (yo X N' scope cl C s H fp) elt te)
  (hN:X.N.Nodup) (hy:X.N[i]?=↑y) (hx:Loc X.env.scope y)
  (Bv:swapsWith (.ListComp elt [#[tg,iter,ifs,0]] scope pos) ↑(.Name y py) Bm.line X.env=pure true)
  (Ca:X.fn y=true\/X.env.scope.names.lookup y=↑.local)
  (hs:∀ x,foldedSetIterable iter X.env x=pure x):
  xD X (.Assign [.Name y py] (.ListComp elt [#[tg,iter,ifs,0]] scope pos) Bm) (uN (uL pick ti g Hr te) (hName i)):=by
 exact#[uN.mo (uL.mo hi.mo) λ _ _ _ _ _ hq z=>hq _ _ z,λ Fd s O H D I hu=>UD (g:=ly X.K g) (tc:=xG X.K Hr) (te:=zF X.K te) Sc hc hi.pi (λ cl C s H fp=>(hg cl C s H fp).pg) (λ cl C s H fp=>(hf cl C s H fp).pf) (λ cl C s H fp=>(he cl C s H fp).pe) hN hy hx Bv Ca hs Fd s O H D I ?_];let#[L,S,r1,r2,z]:=hu;exact dm hi.mo (hg [] 0 s H []).mo (hf [] 0 s H []).mo (he [] 0 s H []).mo #[L,S,r1,r2,uL.mo hi.mo L S _ _ (λ x S1 z v H1 q1 e1 p1=>?_) z];show z _ H1 ((r1.ext e1).set i q1) e1 p1
end
end
section
variable {P:Program}{w:World}{K:Ac}{mg:Au}{base:Heap}{f:Addr}{fd:FuncData}
def Zf {R:Rk} [Lo R] {x:Str}{st:Stmt}{N ps:List Str}{k n:Nat}{g:Sm}(F:wy K x x st f fd) (Sc:vg N ps (zG st)) (hn:n=ps.length)
  (Ft:∀ (Ah:Value) (A:Around) (outer:List Env) (s:Shared) (H:Hp) (E:XK),zN k (A.deeper (envOfC x (zG st) s.heap.objs.size f Ah))->
   ∃ t,wH (yL y8 P w K mg base N x (zG st) f Ah A outer s H E).y_ (yN st) t/\z_ R g t):yP P w K mg base y8 (k+1) f fd ps (uV K (zx R (zD N n g))):=
 L8 F Sc (λ ds S Q h=>by rw[h.len,hn]) λ Ah A outer s H E hr=>by
  let#[t,h1,h2]:=Ft Ah A outer s H E hr;show#[t,h1,λ ds S Q h=>Ye h2 h]
def LO {R:Rk} [Lo R] {x:Str}{st:Stmt}{N ps:List Str}{k n:Nat}{g:Sm}(F:wy K x x st f fd) (hm:mg x=↑(.ref f)) (Sc:vg N ps (zG st)) (hn:n=ps.length)
  (hb:∀ (kV doc pm:Value) (an:Option Addr) (Ah ct:Value) (us:Ae),us.length=ps.length->bindArgs (PySem.W.fnOf x x (wV st) (yN st) (zG st) .none kV doc pm an Ah ct) #[us,[]]=pure (ps.zip us))
  (Ft:∀ (Ah:Value) (A:Around) (outer:List Env) (s:Shared) (H:Hp) (E:XK),zN k (A.deeper (envOfC x (zG st) s.heap.objs.size f Ah))->
   ∃ t,wH (yL y8 P w K mg base N x (zG st) f Ah A outer s H E).y_ (yN st) t/\z_ R g t):FD P w K mg base x (k+1) ps (zx R (zD N n g)):=
 #[#[f,fd,Zf F Sc hn Ft,hm,F.kp,F.binds hb],zx.mo]
def Mm {R:Rk} [Sr R] {F:Al}(hF:∀ ns:List Int,ns.length<=63->F [.lst (ns.map T.int)]=↑(.bl true)) {H:Hp}{a:Addr}{ns:List Int}{E:XK}(hO:js H) (hS:zH K H a (ns.map V.int)) (hl:ns.length<=63):uV K (zx R F) [.ref a] H (λ v _=>v=.bl true) E:=by
 have hFz:oo K H a (ns.map V.int):=by
  rcases hS with (h | h) | h
  .rcases hO a with z | ⟨o,xs,z⟩
   .rw[h] at z;cases z
   .rw[h] at z;cases z
  .show .inl h
  .show .inr h
 exact#[[.xi (ns.map D.int)],λ _=>none,.cons ?_ .nil,(λ a o z=>nomatch z),λ _=>False,[.lst (ns.map T.int)],.bl true,nofun,.cons ?_ .nil,hF ns hl,λ d S' s r v H' rv _ _=>?_]
 .simp![ze];show#[a,_,rfl,hFz,zh.iK ns]
 .simp![Sn];show#[_,.inl #[rfl,QI ns],uz.mpr rfl]
 .have:=Sr.sn r;simp![Sn] at this;subst this;simpa only [ze] using rv
end
end L5
namespace ST
open PySem PySem.SetTable
def uQ (xs:List Nat):Prop:=xs.Pairwise (· < ·)
def gB {xs:Array Nat}{m d:Nat}(h:m<xs.size):xs.getD m d=xs[m]:=by simp[Array.getD,h]
theorem fB (xs:Array Nat) (j:Nat) (hr:uQ xs.toList):∀ (f lo hi:Nat),hi-lo<=f->lo<=hi->hi<=xs.size->(∀ i (h:i<xs.size),i<lo->xs[i]<j)->(∀ i (h:i<xs.size),hi<=i->j<=xs[i])->
  below.go xs j f lo hi<=xs.size/\(∀ i (h:i<xs.size),i<below.go xs j f lo hi->xs[i]<j)/\∀ i (h:i<xs.size),below.go xs j f lo hi<=i->j<=xs[i]
 | 0,lo,hi,h1,h2,h3,h4,h5=>by
  unfold below.go;have:lo=hi:=⋯;subst this;show#[h3,h4,h5]
 | f+1,lo,hi,h1,h2,h3,h4,h5=>by
  unfold below.go;have wb:∀ i k (hi:i<xs.size) (hk:k<xs.size),i<=k->xs[i]<=xs[k]:=λ i k hi hk D3=>by
   rcases BS i k with q | q
   .have r:=Dg.mp hr i k (by exists hi) (by exists hk) q;rw[Cw,Cw] at r;show BV r
   .have:i=k:=⋯;subst this;show Ak _
  by_cases hl:lo<hi
  .rw[if_pos hl];dsimp only;have hm:(lo+hi)/2<xs.size:=⋯;rw[gB hm];by_cases c:xs[(lo+hi)/2]<j
   .rw[if_pos c];exact fB xs j hr f _ hi ⋯ ⋯ h3 (λ i Hy Az=>?_) h5;have:=wb i ((lo+hi)/2) Hy hm ⋯;lia
   .rw[if_neg c];exact fB xs j hr f lo _ ⋯ ⋯ ⋯ h4 (λ i Hy hge=>?_);have:=wb ((lo+hi)/2) i hm Hy hge;lia
  .rw[if_neg hl];have:lo=hi:=⋯;subst this;show#[h3,h4,h5]
def jj {xs:Array Nat}{j:Nat}(hr:uQ xs.toList):below xs j<=xs.size/\(∀ i (h:i<xs.size),i<below xs j->xs[i]<j)/\∀ i (h:i<xs.size),below xs j<=i->j<=xs[i]:=
 fB xs j hr xs.size 0 xs.size ⋯ ⋯ (Ak _) (λ i h q=>⋯) (λ i h q=>⋯)
theorem below_at {xs:Array Nat}{j i:Nat}(hr:uQ xs.toList) (h:xs[i]?=↑j):below xs j=i:=by
 let#[h1,h2,h3]:=jj (j:=j) hr;let#[hi,e]:=Array.getElem?_eq_some_iff.mp h;have a:¬ i<below xs j:=λ q=>by have:=h2 i hi q;lia
 have b:¬ below xs j<i:=λ q=>by
  have:=h3 (below xs j) ⋯ (Ak _);have r:=Dg.mp hr (below xs j) i (by simp;lia) (by exists hi) q;simp at r;lia
 lia
def Jt {xs:Array Nat}{j:Nat}(hr:uQ xs.toList):(xs[below xs j]?=↑j)↔j∈xs.toList:=by
 constructor
 .intro h;let#[hi,e]:=Array.getElem?_eq_some_iff.mp h;rw[<- e];simp
 .intro h;let#[i,hi,e]:=Ce.mp h;have hx:xs[i]?=↑j:=by
   simp at hi;simp[hi] at e ⊢;show e
  rw[below_at hr hx];show hx
def uj (M:Nat) (p:Probe):Probe:=
 if p.more>0 then { p with j:=p.j+1,more:=p.more-1 } else
 let (i,perturb):=leap M p.i p.perturb
 { p with j:=i,more:=runEnd M i-i,i,perturb }
def fN (t:SetTable) (p:Probe):t.advance p=uj t.mask p:=rfl
def pk (M i perturb:Nat):Probe:={ j:=i,more:=runEnd M i-i,i:=i,perturb:=perturb,dummy:=none }
def way (M:Nat) (h:Int):Nat->Probe
 | 0=>pk M (bits h%(M+1)) (bits h)
 | k+1=>uj M (way M h k)
def J4 (M:Nat) (p:Probe) (h:p.dummy=none):(uj M p).dummy=none:=by
 unfold uj;split
 .show h
 .show h
theorem jN (M:Nat) (h:Int):∀ k,(way M h k).dummy=none
 | 0=>rfl
 | k+1=>J4 M _ (jN M h k)
def zP (M:Nat) (h:Int):Nat->Nat×Nat
 | 0=>(bits h%(M+1),bits h)
 | n+1=>leap M (zP M h n).1 (zP M h n).2
theorem ig (M i pt:Nat) (h:Int) (k:Nat) (hk:way M h k=pk M i pt):∀ m,m<=runEnd M i-i->way M h (k+m)={ j:=i+m,more:=runEnd M i-i-m,i:=i,perturb:=pt,dummy:=none }
 | 0,_=>by rw[Nat.add_zero,hk];rfl
 | m+1,hm=>by
  have ih:=ig M i pt h k hk m ⋯;change uj M (way M h (k+m))=_;rw[ih];unfold uj;rw[if_pos (by change runEnd M i-i-m>0;lia)];simp![Probe.mk.injEq];show#[⋯,⋯,trivial,trivial,trivial]
def Uh (M i:Nat):runEnd M i-i<=9:=by unfold runEnd;split <;> lia
theorem ck (M:Nat) (h:Int) (n k:Nat) (hk:way M h k=pk M (zP M h n).1 (zP M h n).2):way M h (k+(runEnd M (zP M h n).1-(zP M h n).1)+1)=pk M (zP M h (n+1)).1 (zP M h (n+1)).2:=by
 have:=ig M _ _ h k hk _ (Ak _);change uj M (way M h (k+_))=_;rw[this];unfold uj;rw[if_neg (by change ¬ _-_-(_-_)>0;lia)];rfl
theorem cm (M:Nat) (h:Int):∀ n,∃ k,k<=10*n/\way M h k=pk M (zP M h n).1 (zP M h n).2
 | 0=>#[0,⋯,rfl]
 | n+1=>by
  let#[k,h1,h2]:=cm M h n;have:=Uh M (zP M h n).1;show#[_,⋯,ck M h n k h2]
def Jr (h:Int):bits h<2 ^ 64:=by
 unfold bits;have h1:=BU h (show (2 ^ 64:Int)≠0 by decide);have h2:=B4 h (show (0:Int)<2 ^ 64 by decide);lia
theorem cY (M:Nat) (h:Int):∀ n,(zP M h n).2*32 ^ n<=bits h
 | 0=>by simp[zP]
 | n+1=>by
  have ih:=cY M h n;change ((zP M h n).2/32)*32 ^ (n+1)<=_;have:(zP M h n).2/32*32<=(zP M h n).2:=Nat.div_mul_le_self _ _
  calc (zP M h n).2/32*32 ^ (n+1)=((zP M h n).2/32*32)*32 ^ n:=by rw[Nat.pow_succ,DQ (32 ^ n) 32,Nat.mul_assoc]
   _<=(zP M h n).2*32 ^ n:=Nat.mul_le_mul_right _ this
   _<=_:=ih
theorem Tq (M:Nat) (h:Int) (n:Nat) (hn:13<=n):(zP M h n).2=0:=by
 rcases El (zP M h n).2 with q | q
 .show q
 .have h1:=cY M h n;have h2:=Jr h;have h3:32 ^ 13<=32 ^ n:=Nat.pow_le_pow_right () hn;have h4:1*32 ^ n<=(zP M h n).2*32 ^ n:=Nat.mul_le_mul_right _ q;have h5:(2:Nat) ^ 64<32 ^ 13:=()
  lia
def se (M:Nat) (i:Nat):Nat->Nat
 | 0=>i
 | n+1=>(se M i n*5+1)%(M+1)
theorem ae (M:Nat) (h:Int):∀ n,(zP M h (13+n)).1=se M (zP M h 13).1 n
 | 0=>rfl
 | n+1=>by
  have ih:=ae M h n;have hz:=Tq M h (13+n) ⋯;change ((zP M h (13+n)).1*5+1+(zP M h (13+n)).2/32)%(M+1)=_;rw[hz,ih];rfl
theorem nv (M i:Nat):∀ a b,se M i (a+b)=se M (se M i a) b
 | a,0=>rfl
 | a,b+1=>by
  change (se M i (a+b)*5+1)%(M+1)=_;rw[nv M i a b];rfl
def nr (M:Nat):Nat->Nat->List Nat
 | 0,_=>[]
 | n+1,i=>i::nr M n ((i*5+1)%(M+1))
theorem iG (M:Nat):∀ n i x,x∈nr M n i->∃ k,k<n/\se M i k=x
 | 0,i,x,h=>by cases h
 | n+1,i,x,h=>by
  rcases Ao.mp h with e | e
  .show#[0,⋯,e.symm]
  .let#[k,h1,h2]:=iG M n _ x e;show#[k+1,⋯,by rw[Nat.add_comm,nv];show h2]
def vc (M:Nat):Prop:=M=7\/M=31\/M=127
theorem Qy (M:Nat) (hM:vc M):(∀ e,e<=M->e∈nr M (M+1) 0)/\se M 0 (M+1)=0:=by
 have key:∀ M,((List.range (M+1)).all λ e=>(nr M (M+1) 0).contains e)=true->∀ e,e<=M->e∈nr M (M+1) 0:=λ M h e he=>by
  have:=B5.mp h e (AO.mpr ⋯);exists this
 rcases hM with rfl | rfl | rfl
 .show#[key 7 (AI),AI]
 .show#[key 31 (AI),AI]
 .show#[key 127 (AI),AI]
theorem Qw (M:Nat) (hM:vc M) (i e:Nat) (hi:i<=M) (he:e<=M):∃ n,n<=M/\se M i n=e:=by
 let#[h1,h2]:=Qy M hM;let#[a,a1,a2]:=iG M _ _ _ (h1 i hi);let#[b,b1,b2]:=iG M _ _ _ (h1 e he);rcases BS b a with q | q
 .exact#[M+1+b-a,⋯,?_];rw[<- a2,<- nv,show a+(M+1+b-a)=(M+1)+b by lia,nv,h2,b2]
 .exact#[b-a,⋯,?_];rw[<- a2,<- nv,show a+(b-a)=b by lia,b2]
theorem Me (M:Nat) (h:Int):∀ n,(zP M h n).1<=M
 | 0=>by have:=Df (bits h) (show 0<M+1 by lia);change bits h%(M+1)<=M;lia
 | n+1=>by
  have:=Df ((zP M h n).1*5+1+(zP M h n).2/32) (show 0<M+1 by lia);change (_%(M+1):Nat)<=M;lia
theorem af (M:Nat) (hM:vc M) (h:Int) (e:Nat) (he:e<=M):∃ n,n<M+14/\(zP M h n).1=e:=by
 let#[n,h1,h2]:=Qw M hM (zP M h 13).1 e (Me M h 13) he;show#[13+n,⋯,by rw[ae,h2]]
theorem WG (M:Nat) (hM:vc M) (h:Int) (e:Nat) (he:e<=M):∃ k,k<10*(M+15)/\(way M h k).j=e:=by
 let#[n,h1,h2]:=af M hM h e he;let#[k,k1,k2]:=cm M h n;show#[k,⋯,by rw[k2];show h2]
theorem eX (M:Nat) (h:Int):∀ k,(way M h k).j+(way M h k).more<=M/\(way M h k).i<=M
 | 0=>by
  have h1:bits h%(M+1)<=M:=by have:=Df (bits h) (show 0<M+1 by lia);lia
  exact#[?_,h1];change bits h%(M+1)+(runEnd M (bits h%(M+1))-bits h%(M+1))<=M;unfold runEnd;split <;> lia
 | k+1=>by
  let#[h1,h2]:=eX M h k;change (uj M (way M h k)).j+(uj M (way M h k)).more<=M/\(uj M (way M h k)).i<=M;unfold uj;split
  .rename_i c;show#[by change (way M h k).j+1+((way M h k).more-1)<=M;lia,h2]
  .have h3:((way M h k).i*5+1+(way M h k).perturb/32)%(M+1)<=M:=by have:=Df ((way M h k).i*5+1+(way M h k).perturb/32) (show 0<M+1 by lia);lia
   exact#[?_,h3];change _%(M+1)+(runEnd M (_%(M+1))-_%(M+1))<=M;unfold runEnd;split <;> lia
def jM (M:Nat) (h:Int) (k:Nat):(way M h k).j<=M:=by have:=(eX M h k).1;lia
structure Tab (t:SetTable) (hs:List Int):Prop where
 mask:vc t.mask
 rJ:t.dummies=[].toArray
 len:t.place.size=hs.length
 wb:uQ t.place.toList
 top:∀ j∈t.place.toList,j<=t.mask
 nh:∀ (i:Nat) h j,hs[i]?=↑h->t.place[i]?=↑j->∃ k,(way t.mask h k).j=j/\∀ k'<k,(way t.mask h k').j∈t.place.toList
theorem Tab.live {t:SetTable}{hs:List Int}(T:Tab t hs) {i j:Nat}(h:t.place[i]?=↑j):t.slot j=.live i:=by
 unfold SetTable.slot;dsimp only;rw[below_at T.wb h,if_pos (by rw[h];simp)]
theorem Tab.empty {t:SetTable}{hs:List Int}(T:Tab t hs) {j:Nat}(h:j∉t.place.toList):t.slot j=.empty:=by
 unfold SetTable.slot;dsimp only;have n1:¬ (t.place[below t.place j]? == ↑j)=true:=λ q=>h ((Jt T.wb).mp (by exists q));rw[if_neg n1,if_neg (by rw[T.rJ];simp[has])]
theorem Tab.at {t:SetTable}{hs:List Int}(T:Tab t hs) {j:Nat}(h:j∈t.place.toList):∃ (i:Nat) (g:Int),t.place[i]?=↑j/\hs[i]?=↑g:=by
 let#[i,hi,e]:=Ce.mp h;have Hy:i<t.place.size:=by exists hi
 exact#[i,hs[i]'(by rw[<- T.len];show Hy),?_,#[]];rw[Bu Hy];rw[Cw] at e;rw[e]
theorem aZ {t:SetTable}{hs:List Int}(T:Tab t hs) {hashAt:Nat->Int}(hA:∀ (i:Nat) g,hs[i]?=↑g->hashAt i=g) (h:Int):∀ (f k:Nat),(∃ e,k<=e/\e<k+f/\(way t.mask h e).j∉t.place.toList)->
  ∃ k1,k<=k1/\(∀ m,k<=m->m<k1->∃ (i:Nat) (g:Int),t.place[i]?=↑(way t.mask h m).j/\hs[i]?=↑g/\g≠h)/\
   ((way t.mask h k1).j∉t.place.toList/\probe.go t hashAt h f (way t.mask h k)=↑(.empty (way t.mask h k1).j none)\/
    ∃ i,t.place[i]?=↑(way t.mask h k1).j/\hs[i]?=↑h/\probe.go t hashAt h f (way t.mask h k)=↑(.candidate (way t.mask h k1).j i (way t.mask h (k1+1))))
 | 0,k,#[e,h1,h2,_]=>⋯
 | f+1,k,#[e,h1,h2,h3]=>by
  by_cases hm:(way t.mask h k).j∈t.place.toList
  .let#[i,g,p1,p2]:=T.at hm;by_cases hg:g=h
   .exact#[k,Ak _,λ m a b=>⋯,.inr #[i,p1,by rw[<- hg];show p2,?_]];unfold probe.go;rw[T.live p1];dsimp only;rw[hA i g p2,if_pos (by simp[hg]),fN];rfl
   .have Ay:e≠k:=λ q=>by subst q;show h3 hm
    let#[k1,q1,q2,q3]:=aZ T hA h f (k+1) #[e,⋯,⋯,h3];have eq:probe.go t hashAt h (f+1) (way t.mask h k)=probe.go t hashAt h f (way t.mask h (k+1)):=by
     conv=>lhs;unfold probe.go
     rw[T.live p1];dsimp only;rw[hA i g p2,if_neg (by simp[hg]),fN];rfl
    rw[eq];exact#[k1,⋯,λ m a b=>?_,q3];rcases Nat.eq_or_lt_of_le a with w | w
    .subst w;show#[i,g,p1,p2,hg]
    .show q2 m w b
  .exact#[k,Ak _,λ m a b=>⋯,.inl #[hm,?_]];unfold probe.go;rw[T.empty hm,jN]
def bF {xs ys:List Nat}(hx:xs.Nodup) (h:∀ x∈xs,x∈ys):xs.length<=ys.length:=by
 induction xs generalizing ys with
 | nil=>simp
 | cons x xs ih=>
  have h1:=BF.mp hx;have hxy:=h x Av;have:=ih h1.2 (ys:=ys.erase x) λ z hz=>by
   have Ay:z≠x:=λ e=>h1.1 (e▸hz);show (List.mem_erase_of_ne Ay).mpr (h z (AD _ hz))
  rw[List.length_erase_of_mem hxy] at this;have hp:=List.length_pos_of_mem hxy;simp![Bb];lia
theorem least {P:Nat->Prop}(k:Nat) (h:P k):∃ m,m<=k/\P m/\∀ m'<m,¬ P m':=by
 induction k using Nat.strongRecOn with
 | ind k ih=>
  rcases Classical.em (∃ m',m'<k/\P m') with ⟨m',h1,h2⟩ | q
  .let#[m,g1,g2]:=ih m' h1 h2;show#[m,⋯,g2]
  .show#[k,Ak _,h,λ m' hm hp=>q #[m',hm,hp]]
theorem LA {xs:List Nat}{M:Nat}(h:xs.length<=M):∃ e,e<=M/\e∉xs:=by
 rcases Classical.em (∃ e,e<=M/\e∉xs) with q | q
 .show q
 .have:=bF (xs:=List.range (M+1)) (ys:=xs) Ek λ e he=>by
   have:=AO.mp he;rcases Classical.em (e∈xs) with w | w
   .show w
   .show absurd #[e,⋯,w] q
  simp at this;lia
def f_ (t:SetTable) (h:Int) (j:Nat):Prop:=j∉t.place.toList/\∃ k,(way t.mask h k).j=j/\∀ k'<k,(way t.mask h k').j∈t.place.toList
theorem Tab.first {t:SetTable}{hs:List Int}(T:Tab t hs) (hl:hs.length<=t.mask) (h:Int):∃ K,K<10*(t.mask+15)/\(way t.mask h K).j∉t.place.toList/\∀ k'<K,(way t.mask h k').j∈t.place.toList:=by
 let#[e,e1,e2]:=LA (xs:=t.place.toList) (M:=t.mask) (by rw[BG,T.len];show hl);let#[k,k1,k2]:=WG t.mask T.mask h e e1;let#[K,q1,q2,q3]:=least (P:=λ n=>(way t.mask h n).j∉t.place.toList) k (by rw[k2];show e2);show#[K,⋯,q2,λ k' hk=>Classical.not_not.mp (q3 k' hk)]
def Uk {xs:List Nat}{j p:Nat}(h:uQ xs) (h1:∀ x∈xs.take p,x<j) (h2:∀ x∈xs.drop p,j<x):uQ (xs.take p++j::xs.drop p):=by
 exact Ej.mpr #[h.sublist (List.take_sublist _ _),Br.mpr #[h2,h.sublist (List.drop_sublist _ _)],λ a ha b hb=>?_];rcases Ao.mp hb with e | e
 .subst e;show h1 a ha
 .have:=h1 a ha;have:=h2 b e;lia
theorem aO {α:Type}{xs:List α}{p i:Nat}{x y:α}(hp:p<=xs.length) (h:(xs.take p++x::xs.drop p)[i]?=↑y):(i=p/\y=x)\/(i<p/\xs[i]?=↑y)\/(p<i/\xs[i-1]?=↑y):=by
 have hl:(xs.take p).length=p:=by rw[Dj];lia
 rcases DP i p with q | q | q
 .rw[CA ⋯,List.getElem?_take,if_pos q] at h;show .inr (.inl #[q,h])
 .subst q;rw[CB ⋯,hl] at h;simp at h;show .inl #[rfl,h.symm]
 .rw[CB ⋯,hl] at h;obtain⟨d,hd⟩:∃ d,i-p=d+1:=#[i-p-1,⋯];rw[hd] at h;simp![Eh,List.getElem?_drop] at h;exact .inr (.inr #[q,?_]);rw[show i-1=p+d by lia];show h
theorem Tab.put {t:SetTable}{hs:List Int}(T:Tab t hs) {h:Int}{j:Nat}(F:f_ t h j):
  (t.put j).2<=hs.length/\(t.put j).1={ t with place:=insertAt t.place (t.put j).2 j }/\Tab (t.put j).1 (hs.take (t.put j).2++h::hs.drop (t.put j).2):=by
 let#[b1,b2,b3]:=jj (xs:=t.place) (j:=j) T.wb;let#[fn,K,k1,k2]:=F;have e2:(t.put j).2=below t.place j:=rfl;have e1:(t.put j).1={ t with place:=insertAt t.place (t.put j).2 j }:=by
  change ({ t with place:=insertAt t.place (below t.place j) j,dummies:=_ }:SetTable)=_;rw[if_neg (by rw[T.rJ];simp[has]),e2]
 have pl:(insertAt t.place (below t.place j) j).toList=t.place.toList.take (below t.place j)++j::t.place.toList.drop (below t.place j):=toList_insertAt _ _ _;have old:∀ x∈t.place.toList,x∈(insertAt t.place (below t.place j) j).toList:=λ x hx=>by
  rw[pl];have:=Eg (below t.place j) t.place.toList;rw[<- this] at hx;rcases A4.mp hx with q | q
  .show C3 _ q
  .show A5 _ (AD _ q)
 rw[e2] at e1 ⊢;exact#[by rw[<- T.len];show b1,e1,?_];rw[e1];exact#[T.mask,T.rJ,?_,?_,?_,?_]
 .change (insertAt t.place (below t.place j) j).size=_;rw[<- BG,pl];simp[T.len]
 .change uQ (insertAt t.place (below t.place j) j).toList;rw[pl];exact Uk T.wb (λ x hx=>?_) (λ x hx=>?_)
  .let#[i,hi,e]:=Ce.mp hx;rw[Dj] at hi;rw[List.getElem_take,Cw] at e;rw[<- e];show b2 i (by simp at hi;lia) ⋯
  .let#[i,hi,e]:=Ce.mp hx;rw[Ep] at hi;rw[List.getElem_drop,Cw] at e;have h3:=b3 (below t.place j+i) (by simp at hi;lia) ⋯;have hm:x∈t.place.toList:=List.mem_of_mem_drop hx;have Ay:x≠j:=λ q=>fn (q▸hm);lia
 .intro x hx;change x<=t.mask;have hx:x∈(insertAt t.place (below t.place j) j).toList:=hx;rw[pl] at hx;rcases A4.mp hx with q | q
  .show T.top x (List.mem_of_mem_take q)
  .rcases Ao.mp q with e | e
   .subst e;rw[<- k1];show jM _ _ _
   .show T.top x (List.mem_of_mem_drop e)
 .intro i g x hg hx;change ∃ k,(way t.mask g k).j=x/\∀ k'<k,(way t.mask g k').j∈(insertAt t.place (below t.place j) j).toList;have hx:(insertAt t.place (below t.place j) j)[i]?=↑x:=hx;rw[<- BW,pl] at hx;have Am:below t.place j<=t.place.toList.length:=by exists b1
  have EH:below t.place j<=hs.length:=by rw[<- T.len];show b1
  rcases aO Am hx with ⟨c1,c2⟩ | ⟨c1,c2⟩ | ⟨c1,c2⟩ <;> rcases aO EH hg with ⟨d1,d2⟩ | ⟨d1,d2⟩ | ⟨d1,d2⟩ <;> first
   | lia
   | (subst c2 d2;show#[K,k1,λ k' hk=>old _ (k2 k' hk)])
   | (let#[k,g1,g2]:=T.nh _ g x d2 (by rw[<- BW];show c2)
      show#[k,g1,λ k' hk=>old _ (g2 k' hk)])
def rW (owner:Array (Option Nat)) (j:Nat):Prop:=∃ k,owner[j]?=↑↑k
theorem LJ {P:Nat->Bool}{n k:Nat}(h:(List.range n).find? P=↑k):k<n/\P k=true/\∀ k'<k,P k'=false:=by
 let#[h1,as,bs,h2,h3]:=List.find?_eq_some_iff_append.mp h;have hlen:as.length=k:=by
  have e:(List.range n)[as.length]?=↑k:=by rw[h2];simp
  have:=(AQ.mp e)
  let#[q1,q2]:=this;rw[DV] at q2;show q2
 have hk:k<n:=by
  have:k∈List.range n:=by rw[h2];simp
  show AO.mp this
 exact#[hk,h1,λ k' GX=>?_];have:k'∈as:=by
  have e:(List.range n)[k']?=↑k':=List.getElem?_range ⋯;rw[h2,CA ⋯] at e;show B6 e
 have:=h3 k' this;exists this
def getD_none {owner:Array (Option Nat)}{j:Nat}(h:((owner.getD j ↑0).isNone)=true):owner[j]?=↑none:=by
 unfold Array.getD at h;split at h
 .rename_i hj;have e:owner[j]=none:=by exists h
  rw[Bu hj,e]
 .simp at h
def Za {owner:Array (Option Nat)}{j:Nat}(hj:j<owner.size) (h:((owner.getD j ↑0).isNone)=false):rW owner j:=by
 unfold Array.getD at h;rw[dif_pos hj] at h;cases q:owner[j] with
 | none=>simp[q] at h
 | some k=>show#[k,by rw[Bu hj,q]]
theorem Zd (M:Nat) (owner:Array (Option Nat)) (hsz:owner.size=M+1) (h:Int):∀ (fuel n kn:Nat),way M h kn=pk M (zP M h n).1 (zP M h n).2->(∀ q<kn,rW owner (way M h q).j)->
  (∃ n',n<=n'/\n'<n+fuel/\owner[(zP M h n').1]?=↑none)->
  ∃ j q,layClean.free M owner fuel (zP M h n).1 (zP M h n).2=↑j/\(way M h q).j=j/\owner[j]?=↑none/\∀ q'<q,rW owner (way M h q').j
 | 0,n,kn,_,_,#[n',h1,h2,_]=>⋯
 | fuel+1,n,kn,hk,ho,#[n',h1,h2,h3]=>by
  have hre:runEnd M (zP M h n).1+1-(zP M h n).1=runEnd M (zP M h n).1-(zP M h n).1+1:=by unfold runEnd;split <;> lia
  have HG:∀ m,m<=runEnd M (zP M h n).1-(zP M h n).1->(way M h (kn+m)).j=(zP M h n).1+m:=λ m hm=>by rw[ig M _ _ h kn hk m hm]
  unfold layClean.free;cases hf:(List.range (runEnd M (zP M h n).1+1-(zP M h n).1)).find? (λ k=>(owner.getD ((zP M h n).1+k) ↑0).isNone) with
  | some k=>
   let#[f1,f2,f3]:=LJ hf;exact#[_,kn+k,rfl,HG k ⋯,getD_none f2,λ q' hq=>?_];rcases BS q' kn with w | w
   .show ho q' w
   .have e:(way M h q').j=(zP M h n).1+(q'-kn):=by
     have:=HG (q'-kn) ⋯
     rwa [show kn+(q'-kn)=q' by lia] at this
    have hle:=jM M h q';rw[e] at hle ⊢;show Za ⋯ (f3 (q'-kn) ⋯)
  | none=>
   have f3:=List.find?_eq_none.mp hf;have occ:∀ m,m<=runEnd M (zP M h n).1-(zP M h n).1->rW owner ((zP M h n).1+m):=λ m hm=>by
    have hle:=jM M h (kn+m);rw[HG m hm] at hle;show Za ⋯ (Bool.eq_false_iff.mpr (f3 m (AO.mpr ⋯)))
   have Ay:n'≠n:=λ e=>by
    subst e;let#[k,GX]:=occ 0 (A2 _);rw[Nat.add_zero] at GX;rw[GX] at h3;cases h3
   dsimp only;let#[j,q,r1,r2]:=Zd M owner hsz h fuel (n+1) _ (ck M h n kn hk) (λ q hq=>by
    rcases BS q kn with w | w
    .show ho q w
    .have e:=HG (q-kn) ⋯;rw[show kn+(q-kn)=q by lia] at e;rw[e];show occ _ ⋯) #[n',⋯,⋯,h3]
   show#[j,q,r1,r2]
structure Lay (M:Nat) (hs:List Int) (owner:Array (Option Nat)) (m:Nat):Prop where
 size:owner.size=M+1
 below:∀ (j k:Nat),owner[j]?=↑↑k->k<m
 each:∀ (k:Nat),k<m->∃ (j:Nat),owner[j]?=↑↑k
 once:∀ (i j k:Nat),owner[i]?=↑↑k->owner[j]?=↑↑k->i=j
 nh:∀ (j k:Nat) h,owner[j]?=↑↑k->hs[k]?=↑h->∃ q,(way M h q).j=j/\∀ q'<q,rW owner (way M h q').j
theorem Lay.none {M:Nat}(hM:vc M) {hs:List Int}{owner:Array (Option Nat)}{m:Nat}(L:Lay M hs owner m) (hm:m<=M):∃ (e:Nat),e<=M/\owner[e]?=↑Option.none:=by
 rcases Classical.em (∃ (e:Nat),e<=M/\owner[e]?=↑Option.none) with q | q
 .show q
 .exfalso;have AL:∀ (e:Nat),e<=M->∃ (k:Nat),owner[e]?=↑↑k:=λ e he=>by
   have Az:e<owner.size:=by rw[L.size];lia
   cases w:owner[e] with
   | none=>show absurd #[e,he,by rw[Bu Az,w]] q
   | some k=>show#[k,by rw[Bu Az,w]]
  have:=bF (xs:=(List.range (M+1)).map λ e=>((owner[e]?).getD Option.none).getD 0) (ys:=List.range m) (by
   exact CD.mpr (List.Pairwise.imp_of_mem ?_ Ek);intro a b ha hb Ay e;exact Ay ?_;let#[k,hk]:=AL a (by have:=AO.mp ha;lia);let#[k',GX]:=AL b (by have:=AO.mp hb;lia);rw[hk,GX] at e;simp at e;subst e;show L.once a b k hk GX) (λ x hx=>by
   let#[e,he,rfl]:=Ar.mp hx;let#[k,hk]:=AL e (by have:=AO.mp he;lia);rw[hk];show AO.mpr (L.below e k hk))
  simp at this;lia
def lJ {α:Type}{xs:Array α}{j i:Nat}{a b:α}(h:(xs.setIfInBounds j a)[i]?=↑b):(i=j/\b=a)\/(i≠j/\xs[i]?=↑b):=by
 rw[DN] at h;by_cases e:j=i
 .subst e;rw[if_pos rfl] at h;split at h
  .cases h;show .inl #[rfl,rfl]
  .cases h
 .rw[if_neg e] at h;show .inr #[λ q=>e q.symm,h]
def Lay.step {M:Nat}(hM:vc M) {hs:List Int}{owner:Array (Option Nat)}{m:Nat}{h:Int}(L:Lay M hs owner m) (hm:m<=M) (hh:hs[m]?=↑h):
  ∃ j,layClean.free M owner (turns M) (bits h%(M+1)) (bits h)=↑j/\Lay M hs (owner.setIfInBounds j ↑m) (m+1):=by
 let#[e,e1,e2]:=L.none hM hm;let#[n',n1,n2]:=af M hM h e e1;let#[j,q,r1,r2,r3,r4]:=Zd M owner L.size h (turns M) 0 0 rfl (λ q hq=>⋯) #[n',⋯,by unfold turns;lia,by rw[n2];show e2];have hj:j<owner.size:=(Array.getElem?_eq_some_iff.mp r3).1;have keep:∀ x,rW owner x->rW (owner.setIfInBounds j ↑m) x:=λ x #[k,hk]=>by
  have Ay:j≠x:=λ w=>by subst w;rw[r3] at hk;cases hk
  show#[k,by rw[DN,if_neg Ay];show hk]
 have self:(owner.setIfInBounds j ↑m)[j]?=↑↑m:=by rw[DN,if_pos rfl,if_pos hj]
 exact#[j,r1,#[by simp[L.size],λ x k hx=>?_,λ k hk=>?_,λ x y k hx hy=>?_,λ x k g hx hg=>?_]]
 .rcases lJ hx with ⟨_,w⟩ | ⟨_,w⟩
  .cases w;lia
  .have:=L.below x k w;lia
 .rcases BS k m with w | w
  .let#[x,hx]:=L.each k w;have Ay:j≠x:=λ w=>by subst w;rw[r3] at hx;cases hx
   show#[x,by rw[DN,if_neg Ay];show hx]
  .have:k=m:=⋯;subst this;show#[j,self]
 .rcases lJ hx with ⟨w1,w⟩ | ⟨w1,w⟩ <;> rcases lJ hy with ⟨v1,v⟩ | ⟨v1,v⟩
  .lia
  .cases w;have:=L.below y _ v;lia
  .cases v;have:=L.below x _ w;lia
  .show L.once x y k w v
 .rcases lJ hx with ⟨w1,w⟩ | ⟨w1,w⟩
  .cases w;rw[hh] at hg;cases hg;subst w1;show#[q,r2,λ q' hq=>keep _ (r4 q' hq)]
  .let#[q,g1,g2]:=L.nh x k g w hg;show#[q,g1,λ q' hq=>keep _ (g2 q' hq)]
theorem ah {M:Nat}(hM:vc M) {hs:List Int}(hl:hs.length<=M+1):∀ (Ff:List Int) (owner:Array (Option Nat)) (m:Nat),m<=hs.length->hs.drop m=Ff->Lay M hs owner m->
  ∃ Ii,Ff.foldl (λ acc h=>do
   let (owner,k) <- acc
   let j <- layClean.free M owner (turns M) (bits h%(M+1)) (bits h)
   pure (owner.setIfInBounds j ↑k,k+1)) ↑(owner,m)=↑(Ii,hs.length)/\Lay M hs Ii hs.length
 | [],owner,m,hl2,hd,L=>by
  have hm:hs.length<=m:=List.drop_eq_nil_iff.mp hd;have e:m=hs.length:=⋯;subst e;show#[owner,rfl,L]
 | h::Ff,owner,m,hl2,hd,L=>by
  have hm:hs[m]?=↑h:=by
   have:=congrArg (λ l=>l[0]?) hd;exists this
  have Az:m<hs.length:=(AQ.mp hm).1;let#[j,j1,j2]:=L.step hM ⋯ hm;have IA:hs.drop (m+1)=Ff:=by
   have:=congrArg List.tail hd;exists this
  let#[o',h1,h2]:=ah hM hl Ff _ (m+1) ⋯ IA j2;exact#[o',?_,h2];rw[DM,<- h1];change _=_;congr 1;change ((layClean.free M owner (turns M) (bits h%(M+1)) (bits h)).bind λ j=>↑(owner.setIfInBounds j ↑m,m+1))=_;rw[j1];rfl
theorem Mh (M:Nat) (hs:List Int):Lay M hs (Array.replicate (M+1) Option.none) 0:=by
 have no:∀ (j k:Nat),(Array.replicate (M+1) (Option.none:Option Nat))[j]?≠↑↑k:=λ j k h=>by
  rw[Array.getElem?_replicate] at h;split at h <;> cases h
 show#[#[],λ j k h=>absurd h (no j k),λ k hk=>⋯,λ i j k h=>absurd h (no i k),λ j k h e=>absurd e (no j k)]
theorem Mi {M:Nat}(hM:vc M) (hashes:Array Int) (hl:hashes.size<=M+1):∃ owner,layClean M hashes=↑owner/\Lay M hashes.toList owner hashes.size:=by
 let#[o,h1,h2]:=ah hM (hs:=hashes.toList) (by exists hl) hashes.toList _ 0 (A2 _) #[] (Mh M _);exact#[o,?_,by exists h2];unfold layClean;rw[<- Array.foldl_toList,h1];rfl
def lives (M:Nat) (owner:Array (Option Nat)):List (Nat×Nat):=(List.range (M+1)).filterMap λ j=>(owner.getD j Option.none).map (j,·)
theorem getD_some {owner:Array (Option Nat)}{j k:Nat}:owner.getD j Option.none=↑k↔owner[j]?=↑↑k:=by
 unfold Array.getD;split
 .rename_i h;rw[Bu h];simp
 .rename_i h;rw[CY ⋯];simp
theorem qo {M:Nat}{owner:Array (Option Nat)}(hs:owner.size=M+1) {j k:Nat}:(j,k)∈lives M owner↔owner[j]?=↑↑k:=by
 unfold lives;rw[C2];constructor
 .rintro⟨x,hx,e⟩;let#[y,e1,e2]:=AK.mp e;cases e2;show getD_some.mp e1
 .intro h;have hj:=(Array.getElem?_eq_some_iff.mp h).1;show#[j,AO.mpr ⋯,by rw[getD_some.mpr h];rfl]
def bW (M:Nat) (owner:Array (Option Nat)):(lives M owner).Pairwise λ a b=>a.1<b.1:=by
 unfold lives;rw[List.pairwise_filterMap];exact List.Pairwise.imp ?_ List.pairwise_lt_range;intro a b Cu x hx y hy;let#[_,_,e1]:=AK.mp hx;let#[_,_,e2]:=AK.mp hy;subst e1 e2;show Cu
def ai {M:Nat}(hM:vc M) (finger moves:Nat) (led plain:Bool) (hashes:Array Int) (hl:hashes.size<=M+1):
  ∃ t order,laid M finger moves led plain hashes=↑(t,order)/\t.mask=M/\t.finger=finger/\t.led=led/\t.plain=plain/\order.toList.Perm (List.range hashes.size)/\Tab t (order.toList.map λ k=>hashes.toList.getD k 0):=by
 let#[owner,h1,L]:=Mi hM hashes hl;exact#[_,_,by unfold laid;rw[h1];rfl,rfl,rfl,rfl,rfl,?_,?_]
 .change ((lives M owner).map (·.2)).toArray.toList.Perm _;rw[De];exact (Ef ?_ Ek).mpr λ k=>?_
  .exact CD.mpr (List.Pairwise.imp_of_mem ?_ (bW M owner));intro a b ha hb Cu e;have h2:=(qo L.size (j:=a.1) (k:=a.2)).mp ha;have h3:=(qo L.size (j:=b.1) (k:=b.2)).mp hb;have e:a.2=b.2:=e;rw[e] at h2;have:=L.once _ _ _ h2 h3;lia
  .rw[AO];constructor
   .intro h;let#[#[j,k'],h2,rfl]:=Ar.mp h;show L.below j _ ((qo L.size).mp h2)
   .intro h;let#[j,hj]:=L.each k h;show Ar.mpr #[(j,k),(qo L.size).mpr hj,rfl]
 .have pl:∀ x,x∈(lives M owner).map (·.1)↔rW owner x:=λ x=>by
   constructor
   .intro h;let#[#[j,k],h2,rfl]:=Ar.mp h;show#[k,(qo L.size).mp h2]
   .rintro⟨k,hk⟩;show Ar.mpr #[(x,k),(qo L.size).mpr hk,rfl]
  exact#[hM,rfl,?_,?_,?_,?_]
  .change ((lives M owner).map (·.1)).toArray.size=(((lives M owner).map (·.2)).toArray.toList.map _).length;simp
  .change uQ ((lives M owner).map (·.1)).toArray.toList;rw[De];show CD.mpr (bW M owner)
  .intro x hx;change x<=M;have hx:x∈((lives M owner).map (·.1)).toArray.toList:=hx;rw[De] at hx;let#[k,hk]:=(pl x).mp hx;have:=(Array.getElem?_eq_some_iff.mp hk).1;rw[L.size] at this;lia
  .intro i g x hg hx;have hx:((lives M owner).map (·.1)).toArray[i]?=↑x:=hx;have hg:(((lives M owner).map (·.2)).toArray.toList.map λ k=>hashes.toList.getD k 0)[i]?=↑g:=hg;rw[Ee,AM] at hx;rw[De,AM,AM] at hg;let#[p,p1,p2]:=AK.mp hx;rw[p1] at hg;simp![Option.map_some,Option.some.injEq] at hg;let#[j,k]:=p;cases p2;have hm:=(qo L.size).mp (B6 p1);have hk:=L.below _ _ hm;let#[q,q1,q2]:=L.nh _ k g hm (by rw[<- hg];simp[hk]);exact#[q,q1,λ q' hq=>?_];change _∈((lives M owner).map (·.1)).toArray.toList;rw[De];show (pl _).mpr (q2 q' hq)
section
variable {prog:Program}{w:World}{A:Around}{E:Af}{s:Shared}
abbrev rk (prog:Program) (w:World):HeapKind prog w (List Int):=tupleKind (intKind prog w)
def items_int {ks:List Int}{vs:Ae}(h:ItemsAre (intKind prog w) ks vs):∀ v∈vs,∃ n t,v=.int n t:=by
 induction h with
 | nil=>intro v hv;cases hv
 | cons h1 _ ih=>
  intro v hv;rcases Ao.mp hv with rfl | hv
  .let#[t,e]:=Value.isInt_shape h1;show#[_,t,e]
  .show ih v hv
def bH {ks:List Int}{a:Addr}{Q:Bool->Shared->Prop}(hk:IsTupleKey (intKind prog w) s.heap ks a) (h:Q false s):wpAny (model prog w) A (ofAClassStatement 8 (.ref a)) Q E s:=by
 have hT:=hk.typeIs;let#[o,items,n,ho,_,hd,hi]:=hk;unfold ofAClassStatement;exact gV (zaI hT ?_);change wpAny _ _ (pure true >>= _) _ _ s;exact gV (Ad ?_);simp![C5,Bh,if_false];exact gV (zaC ho hd ?_);dsimp only;exact gV ?_;change wpAny _ _ (forIn items _ _) _ _ s;rw[<- Array.forIn_toList];exact zaR _ (λ Ff r s'=>r.1=none/\s'=s/\∀ v∈Ff,∃ n t,v=.int n t) _ ?_ ?_ _ _ #[rfl,rfl,items_int hi]
 .rintro v Ff r s' ⟨hr,rfl,AL⟩;let#[m,t,rfl]:=AL v Av;change wpAny _ _ (pure false >>= _) _ _ _;exact gV (Ad ?_);simp![Bh,if_false];show Ad #[rfl,rfl,λ u hu=>AL u (AD _ hu)]
 .rintro⟨r1,r2⟩ s' ⟨hr,rfl,_⟩;simp only at hr;subst hr;show Ad h
def MZ {ks:List Int}{a:Addr}{Q:Bool->Shared->Prop}(hk:IsTupleKey (intKind prog w) s.heap ks a) (h:Q true s):wpAny (model prog w) A (hashByValue 8 (.ref a)) Q E s:=by
 have hT:=hk.typeIs;let#[o,items,n,ho,_,hd,hi]:=hk;unfold hashByValue;exact gV (wpAny_specialOf hT F.slot_tuple_hash.lookup ?_);dsimp only;exact gV (zaC ho hd ?_);exact gV ?_;change wpAny _ _ (forIn items _ _) _ _ s;rw[<- Array.forIn_toList];exact zaR _ (λ Ff r s'=>r.1=none/\s'=s/\∀ v∈Ff,∃ n t,v=.int n t) _ ?_ ?_ _ _ #[rfl,rfl,items_int hi]
 .rintro v Ff r s' ⟨hr,rfl,AL⟩;let#[m,t,rfl]:=AL v Av;change wpAny _ _ (pure true >>= _) _ _ _;exact gV (Ad ?_);simp![C5,Bh,if_false];show Ad #[rfl,rfl,λ u hu=>AL u (AD _ hu)]
 .rintro⟨r1,r2⟩ s' ⟨hr,rfl,_⟩;simp only at hr;subst hr;show Ad h
def WT {ks:List Int}{b:Addr}{Q:Bool->Shared->Prop}(hk:IsTupleKey (intKind prog w) s.heap ks b) (l:Ae) (hl:∀ v∈l,∃ k c,v=.ref c/\IsTupleKey (intKind prog w) s.heap k c) (h:Q false s):
  wpAny (model prog w) A (searchCouldBeSeen (.ref b) l) Q E s:=by
 unfold searchCouldBeSeen;exact gV ?_;exact zaR _ (λ Ff r s'=>r.1=none/\s'=s/\∀ v∈Ff,∃ k c,v=.ref c/\IsTupleKey (intKind prog w) s.heap k c) _ ?_ ?_ _ _ #[rfl,rfl,hl]
 .rintro v Ff r s' ⟨hr,rfl,AL⟩;let#[k,c,rfl,hc]:=AL v Av;have IJ:∀ u∈Ff,∃ k c,u=Value.ref c/\IsTupleKey (intKind prog w) s'.heap k c:=λ u hu=>AL u (AD _ hu);dsimp only;by_cases e:(b == c||(carriedByValue (.ref b)&&carriedByValue (.ref c)))=true
  .rw[if_pos e];show Ad #[rfl,rfl,IJ]
  .rw[if_neg e];exact gV ((rk prog w).quiet hk ?_);simp![C5,Bh,if_false];exact gV ((rk prog w).quiet hc ?_);simp![C5,Bh,if_false];exact gV (bH hk ?_);simp![Bh,if_false];exact gV (bH hc ?_);simp![Bh,if_false];show Ad #[rfl,rfl,IJ]
 .rintro⟨r1,r2⟩ s' ⟨hr,rfl,_⟩;simp only at hr;subst hr;show Ad h
structure qd (h:Heap) (es:Array (Int×Value)) (t:SetTable) (xs:List (List Int×Addr)):Prop where
 es:es.toList=xs.map λ e=>((rk prog w).hash e.1,Value.ref e.2)
 is:∀ e∈xs,IsTupleKey (intKind prog w) h e.1 e.2
 tab:Tab t (xs.map λ e=>(rk prog w).hash e.1)
 nS:xs.length<=t.mask
theorem qd.fits {h:Heap}{es:Array (Int×Value)}{t:SetTable}{xs:List (List Int×Addr)}(X:qd (prog:=prog) (w:=w) h es t xs):t.fits es.size=true:=by
 have hl:es.size=xs.length:=by have:=congrArg List.length X.es;exists this
 have h1:=X.tab.len;rw[AH] at h1;have h2:=X.nS;unfold SetTable.fits SetTable.fill;rw[X.tab.rJ,hl,h1];simp;lia
def qd.at {h:Heap}{es:Array (Int×Value)}{t:SetTable}{xs:List (List Int×Addr)}(X:qd (prog:=prog) (w:=w) h es t xs) {i:Nat}{e:List Int×Addr}(he:xs[i]?=↑e):es[i]?=↑((rk prog w).hash e.1,Value.ref e.2):=by
 rw[<- BW,X.es,AM,he];rfl
theorem cj {a:Addr}{o:Obj}{es:Array (Int×Value)}{ep:Nat}{t:SetTable}{xs:List (List Int×Addr)}{key:List Int}{b:Addr}{Q:SetFound->Shared->Prop}
  (hu:A.units<cLine) (ho:s.heap.get? a=↑o) (hd:o.data=.set es ep t) (X:qd (prog:=prog) (w:=w) s.heap es t xs) (hb:IsTupleKey (intKind prog w) s.heap key b)
  (h1:key∈xs.map (·.1)->Q (.there none) s) (h2:key∉xs.map (·.1)->∀ j,f_ t ((rk prog w).hash key) j->Q (.free j false) s):
  ∀ (fuel k:Nat) (HB:Option Probe),HB.getD (t.probeStart ((rk prog w).hash key))=way t.mask ((rk prog w).hash key) k->(∀ m<k,∃ (i:Nat) (e:List Int×Addr),t.place[i]?=↑(way t.mask ((rk prog w).hash key) m).j/\xs[i]?=↑e/\e.1≠key)->(∃ K,k<=K/\K<k+fuel/\K<10*(t.mask+15)/\(way t.mask ((rk prog w).hash key) K).j∉t.place.toList/\∀ m<K,(way t.mask ((rk prog w).hash key) m).j∈t.place.toList)->
   wpAny (model prog w) A (setSearchFrom a (.ref b) ((rk prog w).hash key) true fuel HB) Q E s
 | 0,k,HB,_,_,#[K,q1,q2,_]=>⋯
 | fuel+1,k,HB,AG,hpast,#[K,q1,q2,q3,q4,q5]=>by
  have T:=X.tab;have EL:t.gaveWay=false:=by
   unfold SetTable.gaveWay;rcases T.mask with e | e | e <;> rw[e] <;> rfl
  unfold setSearchFrom;exact gV (zaD ho hd X.fits ?_);dsimp only;rw[EL];simp![Bh,if_false];have hA:∀ (i:Nat) g,(xs.map λ e=>(rk prog w).hash e.1)[i]?=↑g->((es[i]?).map (·.1)).getD 0=g:=λ i g hg=>by
   rw[AM] at hg;let#[e,e1,e2]:=AK.mp hg;rw[X.at e1];show e2
  let#[k1,g1,g2,g3]:=aZ T (hashAt:=λ i=>((es[i]?).map (·.1)).getD 0) hA ((rk prog w).hash key) (10*turns t.mask) k #[K,q1,by unfold turns;lia,q4];rw[AG];have look:∀ (i:Nat) g,(xs.map λ e=>(rk prog w).hash e.1)[i]?=↑g->∃ e,xs[i]?=↑e/\(rk prog w).hash e.1=g:=λ i g hg=>by
   rw[AM] at hg;let#[e,e1,e2]:=AK.mp hg;show#[e,e1,e2]
  have Hb:∀ m<k1,∃ (i:Nat) (e:List Int×Addr),t.place[i]?=↑(way t.mask ((rk prog w).hash key) m).j/\xs[i]?=↑e/\e.1≠key:=λ m hm=>by
   rcases BS m k with c | c
   .show hpast m c
   .let#[i,g,p1,p2,p3]:=g2 m c hm;let#[e,e1,e2]:=look i g p2;show#[i,e,p1,e1,λ q=>p3 (by rw[<- e2,q])]
  rcases g3 with ⟨n1,n2⟩ | ⟨i,n1,n2,n3⟩
  .have n2':t.probe _ ((rk prog w).hash key) (way t.mask ((rk prog w).hash key) k)=_:=n2;simp![SetTable.probe] at n2' ⊢
   erw [n2]
   dsimp only;exact Ad (h2 (λ hm=>?_) _ #[n1,k1,rfl,λ m hm=>?_])
   .let#[e,he,ek]:=Ar.mp hm;let#[i,hi]:=Ed.mp he;have hh:(xs.map λ e=>(rk prog w).hash e.1)[i]?=↑((rk prog w).hash key):=by rw[AM,hi,<- ek];rfl
    have hil:i<t.place.size:=by rw[T.len];show (AQ.mp hh).1
    let#[kk,w1,w2]:=T.nh i _ _ hh (Bu hil);rcases DP kk k1 with c | c | c
    .let#[i',e',p1,p2,p3]:=Hb kk c;rw[w1] at p1;have:i=i':=by
      rw[<- below_at T.wb (Bu hil),<- below_at T.wb p1]
     subst this;rw[hi] at p2;cases p2;show p3 ek
    .subst c;rw[w1] at n1;show n1 #[]
    .show n1 (w2 k1 c)
   .let#[i',e',p1,_]:=Hb m hm;show B6 (by rw[BW];show p1)
  .simp![SetTable.probe]
   erw [n3]
   dsimp only;let#[e,e1,e2]:=look i _ n2;have D5:=X.at e1;have hey:=X.is e (B6 e1);have main:wpAny (model prog w) A (holding [Value.ref e.2] (eqBool (.ref e.2) (.ref b)) >>= λ equal=>setState a >>= λ x=>match x with
     | (Gr,_,t')=>if (true&&equal)=true then pure (SetFound.there none) else
      match t'.sameMemory t.moves t.mask with
      | some same=>
       have jp:=λ GG=>match GG with
        | none=>do
         rule "set.search.anew"
         setSearchFrom a (.ref b) ((rk prog w).hash key) true fuel none
        | some i'=>if equal=true then pure (SetFound.there ↑i') else setSearchFrom a (.ref b) ((rk prog w).hash key) true fuel ↑(way t.mask ((rk prog w).hash key) (k1+1))
       match if same=true then t'.slot (way t.mask ((rk prog w).hash key) k1).j else Slot.empty with
       | .live i'=>match Gr[i']? with
        | some (_,y')=>do
         let r <- isSame y' (.ref e.2)
         let GG <- pure (if r=true then ↑i' else none)
         jp GG
        | none=>do
         let GG <- pure none
         jp GG
       | _=>do
        let GG <- pure none
        jp GG
      | _=>unsupported "set.changed-during-lookup:is-the-new-block-at-the-old-address") Q E s:=by
    exact gV (za7 ((rk prog w).eqBool hu hey hb ?_));exact gV (zaD ho hd X.fits ?_);dsimp only;by_cases hk:e.1=key
    .rw[zaA hk];simp![DT,if_true];show Ad (h1 (Ar.mpr #[e,B6 e1,hk]))
    .rw[za5 hk];simp![C0,Bh,if_false];have sm:t.sameMemory t.moves t.mask=↑true:=by unfold SetTable.sameMemory;simp
     rw[sm];dsimp only;rw[if_pos rfl,T.live n1];dsimp only;rw[D5];dsimp only;exact gV (wpAny_isSame_ref_self ?_);exact gV (Ad ?_);rw[if_pos rfl];dsimp only;have hKk:k1<K:=by
      rcases DP K k1 with c | c | c
      .let#[i',e',p1,_]:=Hb K c;show absurd (B6 (by rw[BW];show p1)) q4
      .subst c;show absurd (B6 (by rw[BW];show n1)) q4
      .show c
     exact cj hu ho hd X hb h1 h2 fuel (k1+1) _ rfl (λ m hm=>?_) #[K,⋯,⋯,q3,q4,q5];rcases BS m k1 with c | c
     .show Hb m c
     .have:m=k1:=⋯;subst this;show#[i,e,n1,e1,hk]
   rw[D5];by_cases hl:t.led=true
   .rw[hl];simp![C5,Bh,if_false];show main
   .have Hx:t.led=false:=by exists hl
    rw[Hx];simp![C6,if_true];exact gV (WT hb _ (λ v hv=>?_) ?_)
    .let#[p,hp,rfl]:=Ar.mp hv;rw[Array.toList_filter,BI,X.es] at hp;let#[#[e',he',rfl],_]:=(And.intro (Ar.mp hp.1) hp.2)
     show#[e'.1,e'.2,rfl,X.is e' he']
    .simp![Bh,if_false];show main
structure rO (prog:Program) (w:World) (h:Heap) (a:Addr) (xs:List (List Int×Addr)) (led:Bool):Prop where
 ex:∃ es ep t,h.get? a=↑{ cls:=.type "set",dict:=none,data:=.set es ep t }/\qd (prog:=prog) (w:=w) h es t xs/\t.led=led/\t.plain=true/\xs.length*5<t.mask*3
 nd:(xs.map (·.1)).Nodup
def jT {h h':Heap}{ks:List Int}{b a:Addr}{es:Array (Int×Value)}{ep:Nat}{t:SetTable}{c:Value}{d:Option Addr}{sl:Array (Option Value)}(x:IsTupleKey (intKind prog w) h ks b) (ho:h.get? a=↑{ cls:=c,dict:=d,data:=.set es ep t,slots:=sl }) (hs:Heap.SameBut a h h'):IsTupleKey (intKind prog w) h' ks b:=by
 let#[o',items,n,FY,hc,IA,hi]:=x;have Ay:b≠a:=by
  rintro rfl;obtain rfl:o'=_:=A_ (FY.symm.trans ho);cases IA
 show#[o',items,n,(hs.2 b Ay).trans FY,hc,IA,hi]
theorem lR {h:Heap}{a:Addr}{es Gr:Array (Int×Value)}{ep:Nat}{t t':SetTable}(ho:h.get? a=↑{ cls:=.type "set",dict:=none,data:=.set es ep t }):(h.update a (Obj.putSet Gr t')).get? a=↑{ cls:=.type "set",dict:=none,data:=.set Gr (ep+1) t' }:=by
 have e:Obj.putSet Gr t' { cls:=.type "set",dict:=none,data:=.set es ep t }={ cls:=.type "set",dict:=none,data:=.set Gr (ep+1) t' }:=putSet_of Gr t' rfl;have:=za8 (Obj.putSet Gr t') ho (by rw[e];rfl);rw[e] at this;show this
theorem iB {α β:Type}(l:List α) (f:α->β) (d:β):∀ (order:List Nat),(∀ k∈order,k<l.length)->order.map (λ k=>(l.map f).getD k d)=(order.filterMap λ k=>l[k]?).map f
 | [],_=>rfl
 | k::order,h=>by
  have hk:=h k Av;have ih:=iB l f d order λ j hj=>h j (AD _ hj);rw[Ax,CG,Be hk];dsimp only;rw[Ax,ih];congr 1;simp[hk]
def Um {a:Addr}{es:Array (Int×Value)}{ep:Nat}{t:SetTable}{xs:List (List Int×Addr)}{led:Bool}{wanted M:Nat}{Q:Unit->Shared->Prop}
  (ho:s.heap.get? a=↑{ cls:=.type "set",dict:=none,data:=.set es ep t }) (X:qd (prog:=prog) (w:=w) s.heap es t xs) (BQ:t.led=led) (Am:t.plain=true) (hM:vc M) (hw:sizeAbove wanted=M+1) (AV:xs.length*5<M*3) (BK:(xs.map (·.1)).Nodup)
  (h:∀ h' FH,Heap.SameBut a s.heap h'->rO prog w h' a FH led->FH.Perm xs->Q Unit.unit { s with heap:=h' }):wpAny (model prog w) A (setRelay a wanted) Q E s:=by
 have hlen:es.size=xs.length:=by have:=congrArg List.length X.es;exists this
 have EZ:(es.map (·.1)).toList=xs.map λ e=>(rk prog w).hash e.1:=by rw[Array.toList_map,X.es,AU];rfl
 have hsz:(es.map (·.1)).size=xs.length:=by rw[Dh,hlen]
 let#[t',order,h1,h2,h3,h4,h5,h6,h7]:=ai hM t.finger (t.movedTo M) t.led t.plain (es.map (·.1)) (by rw[hsz];lia);rw[hsz] at h6;have Az:∀ k∈order.toList,k<xs.length:=λ k hk=>by exists h6.mem_iff.mp hk
 unfold setRelay;exact gV (zaD ho rfl X.fits ?_);dsimp only;rw[if_neg (by rw[hw];rcases hM with e | e | e <;> rw[e] <;> decide)];have hr:t.relaid (es.map (·.1)) wanted=↑(t',order):=by
  unfold SetTable.relaid;rw[hw,Nat.add_sub_cancel];show h1
 rw[hr];have Cb:(order.filterMap (es[·]?)).toList=(order.toList.filterMap λ k=>xs[k]?).map λ e=>((rk prog w).hash e.1,Value.ref e.2):=by
  rw[Array.toList_filterMap,List.map_filterMap];congr 1;funext k;rw[<- BW,X.es,AM]
 have Fs:(order.toList.filterMap λ k=>xs[k]?).Perm xs:=(h6.filterMap _).trans (by rw[List.filterMap_getElem?_range_length]);have B7:(order.filterMap (es[·]?)).size=es.size:=by
  rw[<- BG,Cb,AH,Fs.length_eq,hlen]
 exact gV (m:=_) ?_;change wpAny _ _ (do
  let ↑(t,order):=↑(t',order) | unsupported "internal:set-table-without-room"
  let Gr:=order.filterMap (es[·]?)
  if Gr.size != es.size then unsupported "internal:set-table-lost-an-element"
  pure (Gr,t)) _ _ _
 dsimp only;rw[if_neg (by rw[B7];simp)];exact Ad ?_;have Bw:(order.filterMap (es[·]?)).size<=sizeLine:=by
  rw[B7,hlen];have:sizeLine=16777216:=rfl;rcases hM with e | e | e <;> subst e <;> lia
 exact wpAny_storeSet_of ho rfl ?_ Bw;have sb:=Heap.SameBut.update s.heap a (Obj.putSet (order.filterMap (es[·]?)) t');exact h _ _ sb #[#[_,ep+1,t',lR ho,#[Cb,λ e he=>jT (X.is e (Fs.mem_iff.mp he)) ho sb,?_,?_],by rw[h4];show BQ,by rw[h5];show Am,?_],(Fs.map _).nodup_iff.mpr BK] Fs
 .rw[<- iB xs (λ e=>(rk prog w).hash e.1) 0 order.toList Az,<- EZ];show h7
 .rw[Fs.length_eq,h2];lia
 .rw[Fs.length_eq,h2];show AV
theorem dX (n:Nat) (M:Nat) (hM:vc M) (h1:n*5<M*3) (h2:M*3<=(n+1)*5) (hn:n<70):∃ M',vc M'/\sizeAbove (grown (n+1))=M' + 1/\(n+1)*5<M'*3:=by
 rcases hM with e | e | e <;> subst e
 .have:n=4:=⋯;subst this;show#[31,.inr (.inl rfl),AI,⋯]
 .have:n=18:=⋯;subst this;show#[127,.inr (.inr rfl),AI,⋯]
 .lia
def J6 {a:Addr}{xs:List (List Int×Addr)}{key:List Int}{b:Addr}{led:Bool}{Q:Bool->Shared->Prop}(hu:A.units<cLine) (S:rO prog w s.heap a xs led) (hb:IsTupleKey (intKind prog w) s.heap key b) (hn:xs.length<70)
  (h:∀ h' FH r,Heap.SameBut a s.heap h'->rO prog w h' a FH led->(key∈xs.map (·.1)/\FH=xs\/key∉xs.map (·.1)/\FH.Perm (xs++[(key,b)]))->Q r { s with heap:=h' }):
  wpAny (model prog w) A (setAddHashed a (.ref b) ((rk prog w).hash key)) Q E s:=by
 let#[#[es,ep,t,ho,X,BQ,Am,AV],BK]:=S;have hlen:es.size=xs.length:=by have:=congrArg List.length X.es;exists this
 unfold setAddHashed setAddHashedIn;exact za7 (gV (zaD ho rfl X.fits ?_));dsimp only;rw[if_neg (by simp[byScan,Value.scannable])];let#[K,k1,k2,k3]:=X.tab.first (by rw[AH];show X.nS) ((rk prog w).hash key);have hmk:t.mask<=127:=by rcases X.tab.mask with e | e | e <;> lia
 exact gV ?_;unfold setSearch;exact cj (key:=key) (b:=b) hu ho rfl X hb (λ hm=>?_) (λ hm j F=>?_) 100000 0 none rfl (λ m hm=>⋯) #[K,⋯,⋯,k1,k2,k3]
 .dsimp only;exact Ad ?_;have:=h s.heap xs false #[rfl,λ _ _=>rfl] #[#[es,ep,t,ho,X,BQ,Am,AV],BK] (.inl #[hm,rfl]);show this
 .dsimp only;exact gV (zaD ho rfl X.fits ?_);dsimp only;let#[p1,p2,p3]:=X.tab.put F;rw[AH] at p1;have CN:(t.put j).1.plain=true:=by rw[p2];show Am
  have Cr:(t.put j).1.mask=t.mask:=by rw[p2]
  have Az:(t.put j).1.led=led:=by rw[p2];show BQ
  generalize hT:(t.put j)=P at *;let#[t1,p]:=P;dsimp only at *;rw[CN];simp![if_true];exact gV (MZ hb ?_);simp![if_true];let GB:=xs.take p++(key,b)::xs.drop p
  have Fs:GB.Perm (xs++[(key,b)]):=by
   have e:xs.take p++xs.drop p=xs:=Eg p xs;have:GB.Perm ((key,b)::(xs.take p++xs.drop p)):=List.perm_middle;rw[e] at this;show this.trans (List.perm_append_singleton _ _).symm
  have HJ:GB.length=xs.length+1:=by rw[Fs.length_eq];simp
  have HV:(insertAt es p ((rk prog w).hash key,Value.ref b)).toList=GB.map λ e=>((rk prog w).hash e.1,Value.ref e.2):=by
   rw[toList_insertAt,X.es];simp[GB,DL,CW]
  have Il:(insertAt es p ((rk prog w).hash key,Value.ref b)).size=xs.length+1:=by rw[<- BG,HV,AH,HJ]
  have Bw:(insertAt es p ((rk prog w).hash key,Value.ref b)).size<=sizeLine:=by
   rw[Il];have:sizeLine=16777216:=rfl;lia
  exact gV (wpAny_storeSet_of ho rfl ?_ Bw);have sb:=Heap.SameBut.update s.heap a (Obj.putSet (insertAt es p ((rk prog w).hash key,Value.ref b)) t1);have ho1:=lR (Gr:=insertAt es p ((rk prog w).hash key,Value.ref b)) (t':=t1) ho;have hm7:7<=t.mask:=by rcases X.tab.mask with e | e | e <;> lia
  have X1:qd (prog:=prog) (w:=w) (s.heap.update a (Obj.putSet (insertAt es p ((rk prog w).hash key,Value.ref b)) t1)) (insertAt es p ((rk prog w).hash key,Value.ref b)) t1 GB:=by
   exact#[HV,λ e he=>?_,?_,by rw[HJ,Cr];lia]
   .rcases A4.mp (Fs.mem_iff.mp he) with q | q
    .show jT (X.is e q) ho sb
    .cases AX.mp q;show jT hb ho sb
   .have:GB.map (λ e=>(rk prog w).hash e.1)=(xs.map λ e=>(rk prog w).hash e.1).take p++(rk prog w).hash key::(xs.map λ e=>(rk prog w).hash e.1).drop p:=by simp[GB,DL,CW]
    rw[this];show p3
  have Io:(GB.map (·.1)).Nodup:=by
   exact (Fs.map _).nodup_iff.mpr ?_;rw[Cf,List.nodup_append];exact#[BK,#[],λ x hx y hy=>?_];simp at hy;subst hy;show λ e=>hm (e▸hx)
  by_cases hf:t1.tooFull=true
  .rw[hf];simp![C6,DT,if_true];have G5:t1.fill=xs.length+1:=by
    unfold SetTable.fill;rw[p3.rJ,p3.len];simp;lia
   have GN:t.mask*3<=(xs.length+1)*5:=by
    have:=hf;unfold SetTable.tooFull at this;rw[G5,Cr] at this;exists this
   let#[M',g1,g2,g3]:=dX xs.length t.mask X.tab.mask AV GN hn;rw[hlen];exact gV (Um (led:=led) ho1 X1 Az CN g1 g2 (by rw[HJ];show g3) Io λ h' FH sb' S' pm=>?_);exact Ad ?_;show h h' FH true (sb.trans sb') S' (.inr #[hm,pm.trans Fs])
  .have HU:t1.tooFull=false:=by exists hf
   rw[HU];simp![C6,C0,Bh,if_false];exact Ad ?_;have G5:t1.fill=xs.length+1:=by
    unfold SetTable.fill;rw[p3.rJ,p3.len];simp;lia
   have GN:(xs.length+1)*5<t.mask*3:=by
    have:=HU;unfold SetTable.tooFull at this;rw[G5,Cr] at this;exists this
   show h _ GB true sb #[#[_,ep+1,t1,ho1,X1,Az,CN,by rw[HJ,Cr];show GN],Io] (.inr #[hm,Fs])
end
def sg (w:World):Bool:=!w.params.followText "set-order"
def wa (w:World):Obj:={ cls:=.type "set",dict:=none,data:=.set [].toArray 0 (.fresh 0 0 (sg w)) }
section
variable {prog:Program}{w:World}{A:Around}{E:Af}{s:Shared}
set_option maxHeartbeats 3200000 in
def K6 (a:Value) {Q:Af}(h:Q (.ref s.heap.objs.size) { s with heap:=s.heap.push (wa w) }):
  codeAny (model prog w) A (.call (.builtin "set.__new__") #[[.type "set",a],[]]) (wants Q E) s:=by
 exact codeAny_of_tree ?_;change wpAny _ A.in1 (checkBuiltinCall "set.__new__" #[[.type "set",a],[]] >>= λ _=>again (.builtin "set.__new__" #[[.type "set",a],[]])) _ _ s;exact gV (wpAny_of_eq (F.newCall_set_1 a) (Ad #[plainId_quiet F.plain_set_new _,codeAny_builtin F.entry_set_new ?_]));rw[Around.under_plainId F.plain_set_new _];unfold Builtin.«set.__new__» Builtin.Frozenset.newClass newSet setsByText;have sub:=sub_set_self;let#[hp,g,d,tk,os]:=s;dsimp only
 wp_walk
 exact zaS (Ad ?_);dsimp only;simp![newObj];show gV (wpAny_alloc (Ad (Ad h)))
def VZ {h:Heap}{a:Addr}(ho:h.get? a=↑(wa w)):rO prog w h a [] (sg w):=
 #[#[[].toArray,0,_,ho,#[rfl,λ e he=>(by cases he),#[.inl rfl,rfl,rfl,.nil,λ j hj=>(by cases hj),λ i g j hg=>(by cases hg)],#[]],rfl,rfl,by change 0*5<7*3;lia],.nil]
end
end ST
namespace ST
open PySem PySem.SetTable PyProof.Rows
section
variable {κ β:Type}[DecidableEq κ]{val:κ->β->Value}{Aa:Aq}{ks:List κ}{i:Nat}{xs FH:List (κ × β)}
structure Up (val:κ->β->Value) (Aa:Aq) (ks:List κ) (i:Nat) (xs:List (κ × β)):Prop where
 own:∀ e∈xs,∃ j,j<i/\Aa[j]?=↑(val e.1 e.2)/\ks[j]?=↑e.1
 all:∀ (j:Nat) r,j<i->ks[j]?=↑r->r∈xs.map (·.1)
theorem iP:∀ (l m:List κ),l.Nodup->(∀ x∈l,x∈m)->l.length<=m.length
 | [],m,_,_=>A2 _
 | x::l,m,hn,hs=>by
  have h1:=BF.mp hn;have hx:=hs x Av;have:=iP l (m.erase x) h1.2 λ z hz=>(List.mem_erase_of_ne (λ e:z=x=>h1.1 (by rw[<- e];show hz))).mpr (hs z (AD _ hz));rw[List.length_erase_of_mem hx] at this;have:=List.length_pos_of_mem hx;simp![Bb];lia
def Up.len (U:Up val Aa ks i xs) (nd:(xs.map (·.1)).Nodup):xs.length<=i:=by
 have:=iP (xs.map λ e=>↑e.1) ((List.range i).map λ j=>ks[j]?) (by
  have:(xs.map λ e=>↑e.1)=(xs.map (·.1)).map some:=by rw[AU];rfl
  rw[this];show List.Pairwise.map _ (λ a b h e=>h (A_ e)) nd) λ x hx=>by
  let#[e,he,rfl]:=Ar.mp hx;let#[j,h1,_,h3]:=U.own e he;show Ar.mpr #[j,AO.mpr h1,h3]
 exists this
def Up.step {key:κ}{b:β}(U:Up val Aa ks i xs) (hi:Aa[i]?=↑(val key b)) (hr:ks[i]?=↑key)
  (h:key∈xs.map (·.1)/\FH=xs\/key∉xs.map (·.1)/\FH.Perm (xs++[(key,b)])):Up val Aa ks (i+1) FH:=by
 have eqi:∀ j:Nat,j<i+1->¬ j<i->j=i:=λ j a b=>⋯;rcases h with ⟨hm,rfl⟩ | ⟨_,hp⟩
 .exact#[λ e he=>?_,λ j r hj CM=>?_]
  .let#[j,h1,h2]:=U.own e he;show#[j,B2 h1,h2]
  .by_cases q:j<i
   .show U.all j r q CM
   .rw[eqi j hj q,hr] at CM;cases CM;show hm
 .exact#[λ e he=>?_,λ j r hj CM=>?_]
  .rcases A4.mp (hp.mem_iff.mp he) with q | q
   .let#[j,h1,h2]:=U.own e q;show#[j,B2 h1,h2]
   .cases AX.mp q;show#[i,CI i,hi,hr]
  .rw[(hp.map (·.1)).mem_iff,Cf];by_cases q:j<i
   .show C3 _ (U.all j r q CM)
   .rw[eqi j hj q,hr] at CM;cases CM;show A5 _ Av
structure Kd (prog:Program) (w:World) (A:Around) (val:κ->β->Value) (Aa:Aq) (ks:List κ) (Sa:Addr) (wr:List Addr) (Se:Heap->List (κ × β)->Prop) (Tp:Heap->Prop):Prop where
 nd:∀ {h xs},Se h xs->(xs.map (·.1)).Nodup
 keep:∀ {h h' xs i},(∀ b o,b∉wr->h.get? b=↑o->h'.get? b=↑o)->Up val Aa ks i xs->Se h xs->Se h' xs
 ke:∀ {h h'},(∀ b o,b∉Sa::wr->h.get? b=↑o->h'.get? b=↑o)->Tp h->Tp h'
 add:∀ {s:Shared}{xs:List (κ × β)}{i:Nat}{v:Value}{Q:Bool->Shared->Prop}{E:Af},Tp s.heap->Se s.heap xs->xs.length<70->Aa[i]?=↑v->
  (∀ h' tk FH rr k b,v=val k b->ks[i]?=↑k->Heap.SameBut Sa s.heap h'->s.toks<=tk->Se h' FH->(k∈xs.map (·.1)/\FH=xs\/k∉xs.map (·.1)/\FH.Perm (xs++[(k,b)]))->Q rr { s with heap:=h',toks:=tk })->
  wpAny (model prog w) A (setAdd Sa v) Q E s
variable {prog:Program}{w:World}{A:Around}{R:Result->Shared->Prop}{I:Addr}{fp wr:List Addr}{G:Array GenState->Array GenState->Prop}{n:Nat}{P:Nat->Value->Prop}{St:Nat->Shared->Prop}{Sa:Addr}{Se:Heap->List (κ × β)->Prop}{Tp:Heap->Prop}
def kc (W:WalksS prog w A.in1 I fp wr G n (λ i v=>P i v) St) (D:Kd prog w A.in1 val Aa ks Sa wr Se Tp) (hSf:Sa∉fp) (hP:∀ i v,P i v->Aa[i]?=↑v) (hn:n<70):
  ∀ (k i:Nat) (s:Shared) (xs:List (κ × β)),n-i=k->i<=n->St i s->Se s.heap xs->Tp s.heap->Up val Aa ks i xs->
   (∀ s' FH,Moved (Sa::wr) G s s'->Se s'.heap FH->Up val Aa ks n FH->R (.ok (.ret .none)) s')->
   codeAny (model prog w) A (.builtin "set.update.loop" #[[.ref Sa,.ref I],[]]) R s:=by
 have more:∀ b∈wr,b∈Sa::wr:=λ b hb=>AD _ hb;intro k
 induction k with
 | zero=>
  intro i s xs hk hi AG hS hT hU hR;have e:i=n:=⋯;subst e;exact codeAny_builtin F.entry_set_update_loop ?_;rw[Around.under_plainId F.plain_set_update_loop _];change wpAny _ A.in1 (pyNext (.ref I) >>= _) _ _ s;show gV (W.done s _ _ AG λ s' hm=>Ad (hR s' xs (hm.mono more) (D.keep hm.heap hU hS) hU))
 | succ k ih=>
  intro i s xs hk hi AG hS hT hU hR;have Az:i<n:=⋯;exact codeAny_builtin F.entry_set_update_loop ?_;rw[Around.under_plainId F.plain_set_update_loop _];change wpAny _ A.in1 (pyNext (.ref I) >>= _) _ _ s;exact gV (W.item i s _ _ Az AG λ v s1 hPv hst1 hm=>?_);have hv:=hP i v hPv;have T1:=D.ke (λ b o hb e=>hm.heap b o (λ z=>hb (more _ z)) e) hT;have hl:xs.length<70:=by have:=hU.len (D.nd hS);lia
  change wpAny _ A.in1 (holding [v] (setAdd Sa v) >>= _) _ _ s1;exact gV (za7 (D.add T1 (D.keep hm.heap hU hS) hl hv λ h' tk FH rr key b ev hr sb ht S' hx=>?_));subst ev;have fr:=W.frame (i+1) s1 h' tk hst1 ht λ c hc o e=>(sb.2 c (λ z:c=Sa=>hSf (z▸hc))).trans e;exact Ad #[plainId_quiet F.plain_set_update_loop _,ih (i+1) _ FH ⋯ Az fr S' (D.ke (λ c o hc e=>(sb.2 c (λ z=>hc (z▸Av))).trans e) T1) (hU.step hv hr hx) λ s2 xs2 hm2 S2 U2=>?_];exact hR s2 xs2 (Moved.trans W.gtrans ((hm.mono more).then_heap ht λ c o hc e=>?_) hm2) S2 U2;show (sb.2 c (λ z=>hc (z▸Av))).trans e
end
section
variable {prog:Program}{w:World}{A:Around}{Aa:Aq}{rows:List (List Int)}{Sa:Addr}{wr:List Addr}
def oj (prog:Program) (w:World) (h:Heap) (Aa:Aq) (rows:List (List Int)):Prop:=∀ (i:Nat) v,Aa[i]?=↑v->∃ b r,v=.ref b/\rows[i]?=↑r/\IsTupleKey (intKind prog w) h r b
def oj.at {h h':Heap}(T:oj prog w h Aa rows) (k:∀ (i:Nat) b,Aa[i]?=↑(.ref b)->∀ o,h.get? b=↑o->h'.get? b=↑o):oj prog w h' Aa rows:=λ i v hv=>by
 let#[b,r,rfl,h1,o,items,m,h2,h3]:=T i v hv;show#[b,r,rfl,h1,o,items,m,k i b hv o h2,h3]
abbrev dh:List Int->Addr->Value:=λ _ b=>.ref b
def Mz {led:Bool}(hSw:Sa∉wr) (hu:A.units<cLine) (Ds:∀ (i:Nat) b,Aa[i]?=↑(.ref b)->b∉Sa::wr):Kd prog w A dh Aa rows Sa wr (λ h xs=>rO prog w h Sa xs led) (λ h=>oj prog w h Aa rows) where
 nd:=λ S=>S.nd
 keep:=λ{h h' xs i} k U S=>by
  let#[#[es,ep,t,ho,X,r],nd]:=S;exact#[#[es,ep,t,k Sa _ hSw ho,#[X.es,λ e he=>?_,X.tab,X.nS],r],nd];let#[o,items,m,g1,g2]:=X.is e he;let#[j,_,h2,_]:=U.own e he;show#[o,items,m,k _ _ (λ z=>Ds j e.2 h2 (AD _ z)) g1,g2]
 ke:=λ k T=>T.at λ i b hi o e=>k b o (Ds i b hi) e
 add:=λ{s xs i v Q E} T S hl hv hQ=>by
  let#[b,r,rfl,hr,hb]:=T i v hv;unfold setAdd;exact za7 (gV ((rk prog w).pyHash (k:=r) (a:=b) (A:=A) hu hb ?_));show J6 (s:={ s with toks:=s.toks+(rk prog w).draws r }) (A:=A) hu S hb hl λ h' FH rr sb S' hx=>hQ h' _ FH rr r b rfl hr sb (CV _ _) S' hx
end
section
variable {prog:Program}{w:World}{A:Around}{E:Af}{s:Shared}
set_option maxHeartbeats 6400000 in
def ZW {κ β:Type} [DecidableEq κ] {val:κ->β->Value}{ks:List κ}{Se:Heap->List (κ × β)->Prop}{Tp:Heap->Prop}{l:Addr}{Aa:Aq}{Q:Af}(hh:A.handled=none) (hl:s.heap.IsList l Aa) (hn:Aa.size<70)
  (D:Kd prog w A.in1.in1.in1 val Aa ks s.heap.objs.size [s.heap.objs.size+1] Se Tp) (hS0:∀ h,h.get? s.heap.objs.size=↑(wa w)->Se h []) (hT0:∀ h,(∀ b o,s.heap.get? b=↑o->h.get? b=↑o)->Tp h)
  (h:∀ (h':Heap) (tk:Nat) xs,Se h' xs->Up val Aa ks Aa.size xs->(∀ b o,b<s.heap.objs.size->s.heap.get? b=↑o->h'.get? b=↑o)->Q (.ref s.heap.objs.size) { s with heap:=h',toks:=tk }):
  wpAny (model prog w) A (call (.type "set") [.ref l]) Q E s:=by
 let#[c,tl,hmro]:=F.called_set.mro;have made:=F.called_set.made;have subm:=F.called_set.sub;exact wpAny_call (codeAny_of_tree ?_);change wpAny _ _ (callAny (.type "set") _) _ _ _;exact Ad #[Code.quiet_builtin _ (AI),codeAny_builtin F.entry_type_call ?_];rw[Around.under_plain (weight_type_call_type "set" [.ref l] []) rfl];have nt:=F.called_set.notType;have cc:=F.called_set.canCreate;have tc:=F.typeCall_set_1 (.ref l)
 repeat (any_goals (first | assumption | wp_step))
 exact codeAny_mono (K6 (.ref l) (E:=E) (Q:=λ obj s₁=>obj=.ref s.heap.objs.size/\s₁={ s with heap:=s.heap.push (wa w) }) #[rfl,rfl]) λ r s₁ hr=>?_;cases r with
 | error e=>show hr
 | ok fl=>
  cases fl with
  | ret obj=>
   let#[rfl,rfl]:=hr;have hS:(s.heap.push (wa w)).get? s.heap.objs.size=↑(wa w):=AJ _ rfl;have hTy:Shared.TypeIs { s with heap:=s.heap.push (wa w) } (.ref s.heap.objs.size) "set":=#[_,hS,rfl];have li:=F.called_set.init.lookup;have bi:=F.called_set.init.bind (.ref s.heap.objs.size)
   repeat (any_goals (first | assumption | wp_step))
   let s1:Shared:={ s with heap:=s.heap.push (wa w) }
   exact codeAny_mono (codeAny_call_builtin (R:=wants (λ r s₂=>r=.none/\∃ h' tk xs,s₂={ s with heap:=h',toks:=tk }/\Se h' xs/\Up val Aa ks Aa.size xs/\
     ∀ b o,b<s.heap.objs.size->s.heap.get? b=↑o->h'.get? b=↑o) E) F.called_set.init.plain F.entry_set_init (check_set_init_1 hTy ?_)) λ r₂ s₂ hr₂=>?_
   .let#[#[ocls,odict,odata,oslots],hol,CT,nl,DD]:=id hl;simp only at CT DD;subst CT DD;have hol1:(s.heap.push (wa w)).get? l=↑{ cls:=.type "list",dict:=odict,data:=.seq Aa nl,slots:=oslots }:=za1 _ hol;have sls:=F.sub_list_set;have slf:=F.sub_list_frozenset;have nd:(Value.type "list" == Value.type "dict")=false:=()
    have HJ:(s.heap.push (wa w)).IsList l Aa:=#[_,hol1,rfl,nl,rfl];unfold Builtin.«set.__init__» noKeywords Builtin.Frozenset.updateFrom;generalize hPI:pyIter=PI;unfold wa at *
    wp_walk
    subst hPI;exact zaO HJ (gV (wpAny_runValue ?_));have hlS:l<s.heap.objs.size:=Ap hol;have hsz:(s.heap.push (wa w)).objs.size=s.heap.objs.size+1:=Heap.size_push _ _;have hneI:l≠(s.heap.push (wa w)).objs.size:=by rw[hsz];show Aw (B2 hlS)
    have szne:s.heap.objs.size≠(s.heap.push (wa w)).objs.size:=by rw[hsz];show Aw (CI _)
    have low:∀ b:Addr,b<s.heap.objs.size->b≠(s.heap.push (wa w)).objs.size:=λ b hb=>by rw[hsz];show Aw (B2 hb)
    rw[<- hsz] at D;exact kc (A:=A.in1.in1) (P:=λ i v=>Aa[i]?=↑v) ((Walks.list (A:=A.in1.in1.in1) (by simp[hh]) _ l hneI Aa).toS) D ?_ (λ _ _ q=>q) hn Aa.size 0 _ [] ⋯ (A2 _)
     #[#[_,AJ _ rfl,rfl,rfl],HJ.push _] (hS0 _ (za1 _ hS)) (hT0 _ λ b o e=>za1 _ (za1 _ e)) #[λ e he=>(by cases he),λ j r hj=>⋯] ?_
    .intro hm;rcases Ao.mp hm with q | q
     .show szne q
     .show BM hlS (AX.mp q)
    .intro s' FH hm S' U';let#[h',g',d',H_,os']:=s';obtain rfl:g'=s.gens:=hm.gens;obtain rfl:d'=s.drawn:=hm.drawn;obtain rfl:os'=s.os:=hm.os;exact Ad (Ad #[rfl,h',H_,FH,rfl,S',U',λ b o hb e=>?_]);exact hm.heap b o (λ q=>?_) (za1 _ (za1 _ e));rcases Ao.mp q with q | q
     .show Aw hb q
     .show low b hb (AX.mp q)
   .cases r₂ with
    | error e=>show hr₂
    | ok fl₂=>
     cases fl₂ with
     | ret r=>
      let#[rfl,h',tk,xs,rfl,g1,g2,g3]:=hr₂
      repeat (any_goals (first | assumption | wp_step))
      show h h' tk xs g1 g2 g3
     | _=>show hr₂.elim
  | _=>show hr.elim
def KW {l:Addr}{Aa:Aq}{rows:List (List Int)}{Q:Af}(hh:A.handled=none) (hu:A.units+64<cLine) (hl:s.heap.IsList l Aa) (hT:oj prog w s.heap Aa rows) (hn:Aa.size<70)
  (h:∀ (h':Heap) (tk:Nat) xs,rO prog w h' s.heap.objs.size xs (sg w)->Up dh Aa rows Aa.size xs->(∀ b o,b<s.heap.objs.size->s.heap.get? b=↑o->h'.get? b=↑o)->Q (.ref s.heap.objs.size) { s with heap:=h',toks:=tk }):
  wpAny (model prog w) A (call (.type "set") [.ref l]) Q E s:=by
 exact ZW hh hl hn (Mz #[] (show A.units+1+1+1<cLine by lia) λ i b hb hm=>?_) (λ h e=>VZ e) (λ h k=>hT.at λ i b _ o e=>k b o e) h;let#[b',r,e,_,o,_,_,ho,_]:=hT i _ hb;cases e;have:=Ap ho;rcases Ao.mp hm with q | q
 .show Aw this q
 .show Aw (B2 this) (AX.mp q)
end
end ST
namespace ST
open PySem PySem.SetTable
section facts
def bo:Manifest.owners.lookup (String.ofList ['r','o','t','a','r','e','t','i','_','t','e','s'].reverse)=↑Manifest.sig_set_iterator:=by kernel_rfl
def ph:Slot "set_iterator" "__next__" "set_iterator.__next__":=
 .of (owner:="set_iterator") (n:="__next__") (by rw[typeLookup_type,builtinLookup_eq_fast];kernel_rfl) (AI) (AI) (AI) (by first | show .inl (AI) | show .inr (AI)) (by rw[isSubtype_type];kernel_rfl)
def Zq:entryFor table "set_iterator.__next__"=↑Builtin.«set_iterator.__next__»:=entryFor_of_tree (by kernel_rfl)
theorem Ys (a:Value):argsOk "set_iterator.__next__" #[[a],[]]:=by
 unfold argsOk;rw[signature?_of (id:="set_iterator.__next__") (n:=['_','_','t','x','e','n','_','_']) (o:=['r','o','t','a','r','e','t','i','_','t','e','s']) (by kernel_rfl) bo]
 kernel_rfl
def Kc:entryFor table "set.__iter__"=↑Builtin.«frozenset.__iter__»:=entryFor_alias (id':="frozenset.__iter__") (by kernel_rfl) rfl (AI) (by kernel_rfl)
def dW:Slot "set_iterator" "__iter__" "set_iterator.__iter__":=
 .of (owner:="set_iterator") (n:="__iter__") (by rw[typeLookup_type,builtinLookup_eq_fast];kernel_rfl) (AI) (AI) (AI) (by first | show .inl (AI) | show .inr (AI)) (by rw[isSubtype_type];kernel_rfl)
def Kb:entryFor table "set_iterator.__iter__"=↑Builtin.«dict_keyiterator.__iter__»:=entryFor_alias (id':="dict_keyiterator.__iter__") (by kernel_rfl) rfl (AI) (by kernel_rfl)
theorem Jz (a:Value):argsOk "set_iterator.__iter__" #[[a],[]]:=by
 unfold argsOk;rw[signature?_of (id:="set_iterator.__iter__") (n:=['_','_','r','e','t','i','_','_']) (o:=['r','o','t','a','r','e','t','i','_','t','e','s']) (by kernel_rfl) bo]
 kernel_rfl
end facts
theorem Zo {α:Type}:∀ (l:List α) (i:Nat) (x:α),l[i]?=↑x->l.Perm (x::l.eraseIdx i)
 | [],i,x,h=>by simp at h
 | y::l,0,x,h=>by simp at h;subst h;simp
 | y::l,i+1,x,h=>by
  have ih:=Zo l i x (by exists h);rw[List.eraseIdx_cons_succ];show (ih.cons y).trans (.swap x y _)
theorem cV {α:Type}(next:Nat->Nat):∀ (f k:Nat) (left:List α) (out:Array α),left.length=f->(pickOrder.go next f k left out).toList.Perm (out.toList++left)
 | 0,k,left,out,h=>by
  cases left with
  | nil=>unfold pickOrder.go;simp
  | cons _ _=>simp at h
 | f+1,k,left,out,h=>by
  unfold pickOrder.go;have Az:next k%left.length<left.length:=Df _ ⋯;rw[Be Az];dsimp only;exact (cV next f (k+1) _ _ (by rw[List.length_eraseIdx_of_lt Az];lia)).trans ?_;rw[Array.toList_push,List.append_assoc];show (Zo left _ _ (Be Az)).symm.append_left _
theorem UT {α:Type}(next:Nat->Nat) (xs:Array α):(pickOrder next xs).toList.Perm xs.toList:=by
 unfold pickOrder;exists cV next xs.size 0 xs.toList [].toArray #[]
def comes (w:World) (a:Addr) (es:Array (Int×Value)) (ep:Nat):Array (Int×Value):=if w.params.followText "set-order"=true then pickOrder (w.params.setOrder a ep) es else es
def mj (w:World) (a:Addr) (es:Array (Int×Value)) (ep:Nat):(comes w a es ep).toList.Perm es.toList:=by
 unfold comes;split
 .show UT _ _
 .show .refl _
def rA (a:Addr) (slot i n ep:Nat):Obj:={ cls:=.type "set_iterator",data:=.fields [rawInt slot,rawInt i,.ref a,rawInt n,rawInt ep].toArray }
def slotAt (t:SetTable):Nat->Nat
 | 0=>0
 | i+1=>t.place.getD i 0+1
theorem Js {t:SetTable}(hr:uQ t.place.toList):∀ i,i<=t.place.size->below t.place (slotAt t i)=i
 | 0,_=>by
  let#[h1,h2,h3]:=jj (xs:=t.place) (j:=0) hr;rcases El (below t.place 0) with q | q
  .show q
  .have:=h2 0 ⋯ q;lia
 | i+1,hi=>by
  have hd:t.place.getD i 0=t.place[i]:=gB ⋯;change below t.place (t.place.getD i 0+1)=i+1;rw[hd];let#[h1,h2,h3]:=jj (xs:=t.place) (j:=t.place[i] + 1) hr;have wb:∀ a b (ha:a<t.place.size) (hb:b<t.place.size),a<b->t.place[a]<t.place[b]:=λ a b ha hb Cu=>by
   have r:=Dg.mp hr a b (by exists ha) (by exists hb) Cu;rw[Cw,Cw] at r;show r
  rcases DP (below t.place (t.place[i] + 1)) (i+1) with q | q | q
  .have:=h3 i ⋯ ⋯;lia
  .show q
  .have a:=h2 (i+1) ⋯ q;have b:=wb i (i+1) ⋯ ⋯ ⋯;lia
structure wq (w:World) (h:Heap) (a:Addr) (es:Array (Int×Value)) (ep:Nat) (t:SetTable):Prop where
 get:h.get? a=↑{ cls:=.type "set",dict:=none,data:=.set es ep t }
 fits:t.fits es.size=true
 wb:uQ t.place.toList
 led:t.led=sg w
 plain:t.plain=true
theorem wq.size {w:World}{h:Heap}{a:Addr}{es:Array (Int×Value)}{ep:Nat}{t:SetTable}(S:wq w h a es ep t):t.place.size=es.size:=by
 have:=S.fits;simp![SetTable.fits,Bc,beq_iff_eq] at this;show this.1
section
variable {prog:Program}{w:World}{A:Around}{E:Af}{s:Shared}
def bI {a:Addr}{es:Array (Int×Value)}{ep:Nat}{t:SetTable}{i:Nat}{Q:Option (Value×Nat)->Shared->Prop}(S:wq w s.heap a es ep t) (hi:i<=es.size) (slot:Nat) (hs:w.params.followText "set-order"=false->slot=slotAt t i)
  (h:∀ FX,(w.params.followText "set-order"=false->FX=slotAt t (i+1))->Q ((comes w a es ep)[i]?.map λ e=>(e.2,FX)) s):wpAny (model prog w) A (setNext a slot i ep) Q E s:=by
 unfold setNext setsByText;exact gV (zaD S.get rfl S.fits ?_);dsimp only;exact gV (gV (zaS (Ad ?_)));change wpAny _ A (if w.params.followText "set-order"=true then _ else _) Q E s;cases hb:w.params.followText "set-order" with
 | true=>
  rw[if_pos rfl,if_neg #[]];unfold setWalk setsByText;exact gV (gV (zaD S.get rfl S.fits ?_));dsimp only;exact gV (gV (zaS (Ad ?_)));change wpAny _ A (if w.params.followText "set-order"=true then _ else _) _ E s;rw[if_pos hb];exact gV (zaS (Ad ?_));exact Ad ?_;have:=h slot (λ q=>by rw[hb] at q;cases q);unfold comes at this;rw[if_pos hb] at this;show this
 | false=>
  rw[if_neg #[]];split
  .rename_i hd;have IA:(!t.plain&&decide (es.size>1))=true:=hd;rw[S.plain] at IA;simp at IA
  .change wpAny _ A ((if (!t.led&&!es.isEmpty)=true then unsupported "set:maker-not-led" else pure Unit.unit) >>= _) Q E s;have hl:t.led=true:=by rw[S.led];unfold sg;rw[hb];rfl
   rw[if_neg (by rw[hl];simp)];exact gV (Ad (Ad ?_));have Bw:=hs hb;have hz:=S.size;rw[Bw,Js S.wb i (by rw[hz];show hi)];have:=h (slotAt t (i+1)) (λ _=>rfl);unfold comes at this;rw[if_neg (by rw[hb];simp)] at this;rcases BS i es.size with q | q
   .have hp:i<t.place.size:=by rw[hz];show q
    rw[Bu q] at this;rw[Bu q,Bu hp];have e:slotAt t (i+1)=t.place[i] + 1:=by change t.place.getD i 0+1=_;rw[gB hp]
    rw[e] at this;show this
   .rw[CY q] at this;rw[CY q];show this
def qq {a I:Addr}{slot i n ep:Nat}(ho:s.heap.get? I=↑(rA a slot i n ep)):s.TypeIs (.ref I) "set_iterator":=#[_,ho,rfl]
def dD (k:Nat):((k:Int)).toNat=k:=CC k
def VX {I a:Addr}{es:Array (Int×Value)}{ep:Nat}{t:SetTable}{i slot:Nat}{e:Int×Value}{Q:Option Value->Shared->Prop}(ho:s.heap.get? I=↑(rA a slot i es.size ep)) (S:wq w s.heap a es ep t) (hs:w.params.followText "set-order"=false->slot=slotAt t i) (he:(comes w a es ep)[i]?=↑e)
  (hi:i<es.size) (h:∀ h' FX,(w.params.followText "set-order"=false->FX=slotAt t (i+1))->h'.get? I=↑(rA a FX (i+1) es.size ep)->Heap.SameBut I s.heap h'->Q ↑e.2 { s with heap:=h' }):wpAny (model prog w) A (pyNext (.ref I)) Q E s:=by
 unfold pyNext;exact gV (wpAny_attempt (zaH (name:=Str.ofString "__next__") (qq ho) ph (zaB ph (qq ho) Zq ?_ (Ys _))));exact gV (Ad ?_);dsimp only;exact gV (wpAny_fieldsOf ho rfl ?_);dsimp only[rawInt];exact gV (gV (zaD S.get rfl S.fits (Ad ?_)));rw[if_neg #[]];exact gV (bI S ⋯ slot hs λ FX HX=>?_);rw[dD] at HX ⊢;rw[he];dsimp only[Option.map_some];exact gV (zaE ho rfl #[] ?_);have o1:=za8 (Obj.mapFields (·.set! 0 (Value.int (FX:Int) 0))) ho rfl;exact gV (zaE o1 rfl #[] ?_);have o2:=za8 (Obj.mapFields (·.set! 1 (Value.int ((i:Int)+1) 0))) o1 rfl;exact Ad #[_,rfl,Ad (h _ FX HX o2 ((Heap.SameBut.update ..).trans (Heap.SameBut.update ..)))]
def VY {I a:Addr}{es:Array (Int×Value)}{ep:Nat}{t:SetTable}{slot:Nat}{Q:Option Value->Shared->Prop}(hh:A.handled=none) (ho:s.heap.get? I=↑(rA a slot es.size es.size ep)) (S:wq w s.heap a es ep t) (hs:w.params.followText "set-order"=false->slot=slotAt t es.size)
  (h:∀ h',Heap.ExtBut I s.heap h'->Q none { s with heap:=h' }):wpAny (model prog w) A (pyNext (.ref I)) Q E s:=by
 have hn:(comes w a es ep)[es.size]?=none:=by
  have:=(mj w a es ep).length_eq;simp![BG] at this;rw[CY ⋯]
 unfold pyNext;exact gV (wpAny_attempt (zaH (name:=Str.ofString "__next__") (qq ho) ph (zaB ph (qq ho) Zq ?_ (Ys _))));exact gV (Ad ?_);dsimp only;exact gV (wpAny_fieldsOf ho rfl ?_);dsimp only[rawInt];exact gV (gV (zaD S.get rfl S.fits (Ad ?_)));rw[if_neg #[]];exact gV (bI S #[] slot (by exists hs) λ FX HX=>?_);rw[dD,hn];dsimp only[Option.map_none];exact gV (zaE ho rfl #[] ?_);exact gV ?_;simp![newExc,newTuple];exact gV (za9 ?_ (by size_fits));exact gV (m:=firstArgMember _ _) (wpAny_of_eq (a:=Value.none) (by first | rfl | (simp![firstArgMember];rfl)) (za9 ?_ (by size_fits)));unfold raiseNew;exact gV (wpAny_handled ?_);rw[show A.in1.handled=none from hh];exact gV ((Ad (wpAny_throw ?_)));exact gV ((wpAny_isInstance (T:="StopIteration") (b:=true) #[_,AJ _ rfl,rfl] isSubtype_stop ?_));show Ad (h _ (((Heap.SameBut.update ..).extBut.push _).push _))
def VW {I a:Addr}{slot i n ep:Nat}{Q:Af}(ho:s.heap.get? I=↑(rA a slot i n ep)) (h:Q (.ref I) s):wpAny (model prog w) A (pyIter (.ref I)) Q E s:=by
 exact wpAny_pyIter_slot (qq ho) dW (zaB dW (qq ho) Kb ?_ (Jz _));show Ad #[_,rfl,"set_iterator",_,qq ho,ph.lookup,h]
def wq.keep {h h':Heap}{a:Addr}{es:Array (Int×Value)}{ep:Nat}{t:SetTable}(S:wq w h a es ep t) (k:∀ o,h.get? a=↑o->h'.get? a=↑o):wq w h' a es ep t:=#[k _ S.get,S.fits,S.wb,S.led,S.plain]
def WH (hh:A.handled=none) (I a:Addr) (Ay:a≠I) (es:Array (Int×Value)) (ep:Nat) (t:SetTable):
  Walks prog w A I [I,a] [I] es.size (λ i v=>∃ e,(comes w a es ep)[i]?=↑e/\v=e.2) (λ i h=>(∃ slot,(w.params.followText "set-order"=false->slot=slotAt t i)/\h.get? I=↑(rA a slot i es.size ep))/\wq w h a es ep t) where
 sub:=λ b hb=>by simp at hb;simp[hb]
 frame:=λ _ _ _ st k=>by
  let#[#[slot,h1,h2],S]:=st;show#[#[slot,h1,k I #[] _ h2],S.keep λ o e=>k a #[] o e]
 item:=λ i s Q E hi st hQ=>by
  let#[#[slot,h1,h2],S]:=st;have hl:i<(comes w a es ep).size:=by
   have:=(mj w a es ep).length_eq;simp![BG] at this;lia
  exact VX h2 S h1 (Bu hl) hi λ h' FX g1 g2 g3=>?_;show hQ _ h' s.toks #[_,Bu hl,rfl] #[#[FX,g1,g2],S.keep λ o e=>(g3.2 a Ay).trans e] λ b o hb e=>(g3.2 b (λ z=>hb (by simp[z]))).trans e
 done:=λ s Q E st hQ=>by
  let#[#[slot,h1,h2],S]:=st;show VY hh h2 S h1 λ h' g=>hQ h' s.toks λ b o hb e=>g b o (λ z=>hb (by simp[z])) e
 self:=λ _ _ _ _ st hQ=>by
  let#[#[slot,h1,h2],S]:=st;show VW h2 hQ
def NR:typeLookup (.type "set") "__len__"=pure ↑(.builtin "set.__len__"):=F.slot_set_len.lookup
def split_len:splitId "set.__len__"=↑("set","__len__"):=by decide +kernel
def Nx {a:Addr}{es:Array (Int×Value)}{ep:Nat}{t:SetTable}{Q:Bool->Shared->Prop}(S:wq w s.heap a es ep t) (h:Q false s):wpAny (model prog w) A (setDrawn a) Q E s:=by
 unfold setDrawn setsByText;exact gV (zaD S.get rfl S.fits ?_);dsimp only;exact gV (gV (zaS (Ad (Ad ?_))));change Q (!w.params.followText "set-order"&&(!t.plain&&decide (es.size>1))) s;rw[S.plain];exists h
set_option maxHeartbeats 4000000 in
theorem N0 {a:Addr}{es:Array (Int×Value)}{ep:Nat}{t:SetTable}{Q:Bool->Shared->Prop}(S:wq w s.heap a es ep t) (h:Q false s):wpAny (model prog w) A (Builtin.List.listLengthHint (.ref a)) Q E s:=by
 have Ty:s.TypeIs (.ref a) "set":=#[_,S.get,rfl];unfold Builtin.List.listLengthHint;exact gV (wpAny_specialOf Ty NR ?_);dsimp only;rw[split_len];dsimp only;exact gV (wpAny_isInstance (b:=true) Ty sub_set_self ?_);rw[if_neg ()];rw[if_pos (AI)];exact gV (zaI Ty ?_);show Ad h
set_option maxHeartbeats 4000000 in
def K4 {a:Addr}{es:Array (Int×Value)}{ep:Nat}{t:SetTable}{Q:List Value->Shared->Prop}(hh:A.handled=none) (S:wq w s.heap a es ep t) (hn:es.size<=sizeLine)
  (h:∀ (h':Heap) (tk:Nat),(∀ b o,b<s.heap.objs.size->s.heap.get? b=↑o->h'.get? b=↑o)->s.heap.objs.size<=h'.objs.size->Q ((comes w a es ep).toList.map (·.2)) { s with heap:=h',toks:=tk }):wpAny (model prog w) A (collect (.ref a)) Q E s:=by
 have ha:a<s.heap.objs.size:=Ap S.get;unfold collect;exact gV (wpAny_runValue (codeAny_builtin F.entry_proto_collect ?_));rw[Around.under_plainId F.plain_proto_collect _];change wpAny _ A.in1 (newList [] >>= λ l=>again (.builtin "list.__iadd__" #[[l,.ref a],[]])) _ _ s;exact gV (za9 (Ad #[plainId_quiet F.plain_list_iadd _,codeAny_builtin F.entry_list_iadd ?_]));rw[Around.under_plainId F.plain_list_iadd _];let L0:Obj:={ cls:=.type "list",data:=.seq ([]:Ae).toArray }
 have S1:wq w (s.heap.push L0) a es ep t:=S.keep λ o e=>za1 _ e;have T1:Shared.TypeIs { s with heap:=s.heap.push L0 } (.ref a) "set":=#[_,S1.get,rfl];change wpAny _ A.in1 (Builtin.List.listExtendWith (.ref s.heap.objs.size) (.ref a) (.ref s.heap.objs.size)) _ _ { s with heap:=s.heap.push L0 };unfold Builtin.List.listExtendWith;exact gV (zaI T1 ?_);have Ay:s.heap.objs.size≠a:=BM ha;have c1:Builtin.List.listSameRef (.ref s.heap.objs.size) (.ref a)=false:=by simp[Builtin.List.listSameRef,Ay]
 rw[if_neg (by rw[c1];decide)];exact gV (wpAny_pyIter_slot T1 F.slot_set_iter (zaB F.slot_set_iter T1 Kc ?_ (F.args_set_iter_1 _)));exact gV (gV (Ad (Ad ?_)));exact gV (gV (gV (zaD S1.get rfl S1.fits (Ad (Ad ?_)))));exact gV (Nx S1 ?_);rw[if_neg ()];exact gV (Ad ?_);exact gV (wpAny_setEpoch_of S1.get rfl S1.fits ?_);exact gV (za9 (Ad #[_,rfl,"set_iterator",_,#[_,AJ _ rfl,rfl],ph.lookup,?_]));let I:=(s.heap.push L0).objs.size
 let h2:=(s.heap.push L0).push (rA a 0 0 es.size ep)
 have S2:wq w h2 a es ep t:=S1.keep λ o e=>za1 _ e;have hI:h2.get? I=↑(rA a 0 0 es.size ep):=AJ _ rfl;have hL:h2.get? s.heap.objs.size=↑L0:=za1 _ (AJ _ rfl);have hsz:(s.heap.push L0).objs.size=s.heap.objs.size+1:=Heap.size_push _ _;change wpAny _ A.in1 _ _ _ { s with heap:=h2 };exact gV (za7 (N0 (s:={ s with heap:=h2 }) S2 ?_));rw[if_pos (AI)];exact gV (zaJ ?_);exact gV ?_;change wpAny _ A.in1 (updateSeq s.heap.objs.size (·.push .none) >>= λ _=>updateSeq s.heap.objs.size (·.pop)) _ _ { s with heap:=h2 };exact gV (wpAny_updateSeq hL rfl ?_);have hL2:=za8 (Obj.mapSeq (·.push Value.none)) hL rfl;exact wpAny_updateSeq hL2 rfl ?_;have hL3:=za8 (Obj.mapSeq (·.pop)) hL2 rfl;let h3:=(h2.update s.heap.objs.size (Obj.mapSeq (·.push Value.none))).update s.heap.objs.size (Obj.mapSeq (·.pop))
 have oth:∀ b o,b≠s.heap.objs.size->h2.get? b=↑o->h3.get? b=↑o:=λ b o hb e=>(za6 _ _ (Ne.symm hb)).trans ((za6 _ _ (Ne.symm hb)).trans e);have haI:a≠I:=by change a≠(s.heap.push L0).objs.size;rw[hsz];show Aw (B2 ha)
 have hIn:I≠s.heap.objs.size:=by change (s.heap.push L0).objs.size≠_;rw[hsz];show BM (CI _)
 exact Ad #[plainId_quiet F.plain_extend_loop _,codeAny_extend_loopS ((WH (A:=A.in1) hh I a haI es ep t).toS) hn s.heap.objs.size ?_ _ es.size 0 { s with heap:=h3 } [].toArray _ rfl (A2 _) #[#[0,λ _=>rfl,oth I _ hIn hI],S2.keep λ o e=>oth a o (Ne.symm Ay) e] hL3 (ItemsOf.nil _) λ s' acc c' hm IY AZ=>?_]
 .intro hm;rcases Ao.mp hm with q | q
  .show hIn q.symm
  .show Ay (AX.mp q)
 .exact gV (wpAny_load IY (Ad ?_));let#[h',g',d',H_,os']:=s';obtain rfl:g'=s.gens:=hm.gens;obtain rfl:d'=s.drawn:=hm.drawn;obtain rfl:os'=s.os:=hm.os;have hcm:(comes w a es ep).size=es.size:=by
   have:=(mj w a es ep).length_eq;exists this
  have e:acc.toList=(comes w a es ep).toList.map (·.2):=by
   exact List.ext_getElem? λ j=>?_;rw[AM];rcases BS j es.size with q | q
   .have Dw:j<acc.size:=by rw[AZ.1];show q
    have hj:acc[j]?=↑acc[j]:=Bu Dw;let#[e,e1,e2]:=AZ.2 j _ hj;rw[BW,BW,hj,e1,e2];rfl
   .rw[BW,BW,CY (by rw[AZ.1];show q),CY (by rw[hcm];show q)];rfl
  rw[e];exact h h' H_ (λ b o hb e=>hm.heap b o (λ q=>?_) (oth b o (Aw hb) (za1 _ (za1 _ e)))) ?_
  .rcases Ao.mp q with q | q
   .show Aw hb q
   .have q':b=(s.heap.push L0).objs.size:=AX.mp q;rw[hsz] at q';show Aw (B2 hb) q'
  .show BV (Ap IY)
end
end ST
namespace ST
open PySem PySem.SetTable PyProof.Rows L4
section
variable {prog:Program}{w:World}{A:Around}{E:Af}{s:Shared}
def ZO {a:Addr}{es:Array (Int×Value)}{ep:Nat}{t:SetTable}(hh:A.handled=none) (S:wq w s.heap a es ep t) (hz:es.size<=sizeLine) (Q':List Value->Shared->Prop)
  (h:∀ h1 tk,(∀ b o,¬ False->s.heap.get? b=↑o->h1.get? b=↑o)->s.heap.objs.size<=h1.objs.size->Q' ((comes w a es ep).toList.map (·.2)) { s with heap:=h1,toks:=tk }):wpAny (model prog w) A (collect (.ref a)) Q' E s:=
 K4 hh S hz λ h1 tk k1 k2=>h h1 tk (λ b o _ q=>k1 b o (Ap q) q) k2
end
end ST
namespace ST
open PySem PySem.SetTable PySem.Spec PyProof.Rows L2
def yB (w:World) (a:Addr) (us:Ae):Heap->Prop:=λ h=>∃ es ep t,wq w h a es ep t/\es.toList.map (·.2)=us
def yB.wK {w:World}{a:Addr}{us:Ae}{h1 h2:Heap}(S:yB w a us h1) (k:∀ o,h1.get? a=↑o->h2.get? a=↑o):yB w a us h2:=by
 let#[es,ep,t,S,e]:=S;show#[es,ep,t,S.keep k,e]
def rO.at {prog:Program}{w:World}{h:Heap}{a:Addr}{xs:List (List Int×Addr)}(S:rO prog w h a xs (sg w)):yB w a (xs.map λ e=>Value.ref e.2) h:=by
 let#[#[es,ep,t,ho,X,h1,h2,h3],_]:=S;show#[es,ep,t,#[ho,X.fits,X.tab.wb,h1,h2],by rw[X.es,AU];rfl]
section
variable {X:Cx}
theorem ax:∀ {ns:List Int}{us:Ae},Vals (ns.map V.int) us->∀ {prog:Program}{w:World},ItemsAre (intKind prog w) ns us
 | [],_,.nil,_,_=>.nil
 | n::ns,_,.cons r t,prog,w=>by
  let#[tk,rfl]:=r;show .cons (intKind_is _ _ _ _) (ax t)
def KR (hc:X.calm=true) (hu:X.A.units+64<cLine):y7 X (.type "set") (λ xs H Q=>∃ p ys,∃ rows:List (List Int),xs=[.ref p]/\zH X.K H p ys/\L4.rP X.K H ys rows/\rows.length<64/\
  ∀ (l:Addr) (us:Ae) (ps:List (V×List Int)),H l=none->Vals (ps.map (·.1)) us->(∀ q∈ps,q∈ys.zip rows)->(ps.map (·.2)).Nodup->(∀ r∈rows,r∈ps.map (·.2))->Q (.ref l) (upd H l (.ext (yB X.w l us)))):=by
 intro Fd s O H xs us Q I r h;let#[p,ys,rows,rfl,hq,hr,G0,q]:=h;let#[u,rfl,ru]:=vals1 r;cases ru;let#[Aa,rv,pl,hz]:=I.list hq;have hl:=rv.length;have CQ:ys.length=rows.length:=Paired.length hr;have wJ:oj X.prog X.w s.heap Aa.toArray rows:=λ i v hv=>by
  have Hm:Aa[i]?=↑v:=by exists hv
  have hi:i<Aa.length:=(AQ.mp Hm).1;let#[Ay,b,hb,EF]:=L4.Paired.at' hr (i:=i) ⋯ V.zo ([]:List Int);have hy:ys[i]?=↑(V.ref b):=by
   rw[Be ⋯];have:ys.getD i V.zo=ys[i]'⋯:=by simp[show i<ys.length by lia]
   rw[this] at hb;rw[hb]
  let#[v',e1,e2]:=rv.get hy;rw[Hm] at e1;cases e1;cases (show v=Value.ref b from e2);let#[FQ,rv2,#[o,e,CT,n,hd],_]:=I.tuple EF;exact#[b,rows.getD i [],rfl,?_,o,FQ.toArray,n,e,CT,hd,by exists ax rv2];simp[show i<rows.length by lia]
 have hh:X.A.handled=none:=I.ok.hd hc;exact KW (A:=X.A) hh hu pl.isList wJ (by rw[AB];lia) λ h' tk xs S U k=>?_;have kk:∀ b o,s.heap.get? b=↑o->h'.get? b=↑o:=λ b o e=>k b o (Ap e) e;have AR:H s.heap.objs.size=none:=I.zl.fresh (Ak _);have hSO:=S.at;have vals:Vals ((xs.map λ e=>(V.ref e.2,e.1)).map (·.1)) (xs.map λ e=>Value.ref e.2):=by
  clear S U hSO
  induction xs with
  | nil=>show .nil
  | cons e xs ih=>show .cons rfl ih
 have snd:(xs.map λ e=>(V.ref e.2,e.1)).map (·.2)=xs.map (·.1):=by rw[AU];rfl
 exact#[.ref s.heap.objs.size,_,I.laid (t':=tk) (o:=.ext (yB X.w s.heap.objs.size (xs.map λ e=>Value.ref e.2))) kk (Ak _) ?_,rfl,q _ _ (xs.map λ e=>(V.ref e.2,e.1)) AR vals (λ x hx=>?_) (by rw[snd];show S.nd) λ r Iz=>?_]
 .let#[es,ep,t,St,e]:=id hSO;show#[hSO,#[_,St.get],λ h1 h2 S1 k=>S1.wK k]
 .let#[e,he,rfl]:=Ar.mp hx;let#[j,j1,j2,j3]:=U.own e he;have HK:Aa[j]?=↑(Value.ref e.2):=by exists j2
  have Dw:j<ys.length:=by rw[hl];show (AQ.mp HK).1
  let#[v',e2,e3]:=rv.get (Be Dw);rw[HK] at e2;cases e2;let#[Ay,b,hb,_]:=L4.Paired.at' hr (i:=j) ⋯ V.zo ([]:List Int);have:ys.getD j V.zo=ys[j]:=by simp[Dw]
  rw[this] at hb;rw[hb] at e3;cases (show Value.ref e.2=Value.ref b from e3);exact B6 (i:=j) ?_;rw[List.getElem?_zip_eq_some];show#[by rw[Be Dw,hb],j3]
 .rw[snd];let#[j,hj]:=Ed.mp Iz;show U.all j r (by have:=(AQ.mp hj).1;rw[AB];lia) hj
theorem Paired.mk {α β:Type}{F:α->β->Prop}:∀ {l:List α}{m:List β},l.length=m.length->(∀ (i:Nat) a b,l[i]?=↑a->m[i]?=↑b->F a b)->Paired F l m
 | [],[],_,_=>.nil
 | a::l,b::m,h,f=>.cons (f 0 a b rfl rfl) (Paired.mk (by exists h) λ i x y hx hy=>f (i+1) x y (by exists hx) (by exists hy))
 | [],_::_,h,_=>by simp at h
 | _::_,[],h,_=>by simp at h
theorem KQ (hc:X.calm=true):y7 X (.builtin "sorted") (λ xs H Q=>∃ l us vs,∃ rs:List (List Int),xs=[.ref l]/\H l=↑(.ext (yB X.w l us))/\Vals vs us/\L4.rP X.K H vs rs/\rs.length<64/\L4.m7 (vs.zip rs) H Q):=by
 intro Fd s O H xs us0 Q I r h;let#[l,us,vs,rs,rfl,hl,hv,hr,G0,q]:=h;let#[u,rfl,ru]:=vals1 r;cases ru;obtain⟨⟨es,ep,t,S,eu⟩,-,-⟩:=(show yI X.prog X.w H s.heap l (.ext (yB X.w l us)) from I.zl l _ hl)
 have hp:((comes X.w l es ep).toList.map (·.2)).Perm us:=by rw[<- eu];show (mj X.w l es ep).map _
 let#[qs,q1,q2]:=L4.Paired.perm hp (L4.VR.of hv hr);have hzl:(vs.zip rs).length<64:=by rw[List.length_zip];lia
 have D5:es.size<=sizeLine:=by
  have h1:us.length=(vs.zip rs).length:=Paired.length (L4.VR.of hv hr);have h2:=congrArg List.length eu;rw[AH,BG] at h2;have:sizeLine=16777216:=rfl;lia
 show L4.q_ I (λ Q' h=>ZO (by show I.ok.hd hc) S D5 Q' h) q2 (by rw[q1.length_eq];show hzl) λ p ps hf hp hs=>q p ps hf (hp.trans q1) hs
end
end ST
namespace L5
open PySem PySem.Spec L2 L3
open PyProof.Rows hiding St
def wc:List (List Int)->List (List Int)
 | []=>[]
 | r::rs=>if r∈wc rs then wc rs else r::wc rs
theorem nF {r:List Int}:∀ {rs:List (List Int)},r∈wc rs↔r∈rs
 | []=>.rfl
 | x::rs=>by
  unfold wc;split
  .rename_i h;rw[nF,Ao];show#[.inr,λ h'=>h'.elim (λ e=>e▸nF.mp h) id]
  .rw[Ao,Ao,nF]
theorem lW:∀ rs:List (List Int),(wc rs).Nodup
 | []=>.nil
 | x::rs=>by
  unfold wc;split
  .show lW rs
  .rename_i h;show BF.mpr #[h,lW rs]
theorem iM:∀ rs:List (List Int),(wc rs).length<=rs.length
 | []=>Ak _
 | x::rs=>by
  unfold wc;have:=iM rs;split <;> simp![Bb] <;> lia
def uH:xh:=λ ds S Q=>match ds with
 | [.tup _]=>False
 | [d]=>∃ rows:List (List Int),zK d S=↑(rows.map w6)/\rows.length<64/\(∀ r∈rows,r≠[])/\∀ l,S l=none->Q (.ref l) (ups S l (.lst ((L4.xm (wc rows)).map w6)))
 | _=>False
def lG:Al
 | [.lst ts]=>(vp ts).bind λ rs=>if rs.length<64/\∀ r∈rs,r≠[] then ↑(.lst ((L4.xm (wc rs)).map zu)) else none
 | _=>none
def Lg:vf zv lG uH:=λ S Z ys z ds Q hz hv e hq=>by
 unfold lG at e;split at e
 .let#[d,rfl,h1]:=vk hv;let#[rs,e1,e2]:=An.mp e;split at e2
  .rename_i hc;cases e2;cases ij e1;let#[es,h2,h3]:=h1.seq rfl;cases pb.mp h3;have key:∃ rows:List (List Int),zK d S=↑(rows.map w6)/\rows.length<64/\(∀ r∈rows,r≠[])/\∀ l,S l=none->Q (.ref l) (ups S l (.lst ((L4.xm (wc rows)).map w6))):=
    #[rs,h2,hc.1,hc.2,λ l hl=>hq _ _ (.new hl _) (tZ hz hl (pb.mpr rfl))]
   obtain⟨_,q | ⟨a,q,_⟩,_⟩:=h1.lst
   .subst q;show key
   .subst q;show key
  .cases e2
 .cases e
section
variable {K:Ac}{e:Expr}{p:Pos}
def uH.mo:vd uH:=λ ds S Q Q' hq h=>by
 unfold uH at h ⊢;split at h
 .show h.elim
 .let#[rows,h1,h2,h3,h4]:=h;show#[rows,h1,h2,h3,λ l hl=>hq _ _ (h4 l hl)]
 .show h.elim
def uH.fits {w:World}:uo K uH (λ xs H Q=>∃ p ys,∃ rows:List (List Int),xs=[.ref p]/\zH K H p ys/\L4.rP K H ys rows/\rows.length<64/\
  ∀ (l:Addr) (us:Ae) (ps:List (V×List Int)),H l=none->Vals (ps.map (·.1)) us->(∀ q∈ps,q∈ys.zip rows)->(ps.map (·.2)).Nodup->(∀ r∈rows,r∈ps.map (·.2))->
   ∃ l' IH Ho,∃ rs':List (List Int),[V.ref l]=[.ref l']/\(upd H l (.ext (ST.yB w l us))) l'=↑(.ext (ST.yB w l' IH))/\Vals Ho IH/\L4.rP K (upd H l (.ext (ST.yB w l us))) Ho rs'/\rs'.length<64/\L4.m7 (Ho.zip rs') (upd H l (.ext (ST.yB w l us))) Q):=λ xs ds H S Q h0 h2 h=>by
 unfold uH at h;split at h
 .show h.elim
 .rename_i d hn;let#[x,hx,h1]:=h0.one;subst hx;let#[rows,e,G0,Ay,h]:=h;let#[a,ys,rfl,g1,g2]:=rf h1 h2 e (λ ts z=>hn ts z);exact#[a,ys,rows,rfl,g1,lK g2 Ay,G0,λ l us ps hf hv sub nd all=>?_];have mem:∀ r,r∈ps.map (·.2)↔r∈rows:=λ r=>#[λ h=>by
   let#[q,hq,rfl]:=Ar.mp h;show (Dk (sub q hq)).2,all r]
  have x1:Ext H (upd H l (.ext (ST.yB w l us))):=.new hf _;have g3:zh K H ((ps.map (·.2)).map w6) (ps.map (·.1)):=zh.lS λ q hq=>zh.lj g2 q (sub q hq);have Dr:(ps.map (·.2)).Perm (wc rows):=(Ef nd (lW rows)).mpr λ r=>by rw[mem,nF]
  have Ex:(ps.map (·.1)).zip (ps.map (·.2))=ps:=by rw[List.zip_map',List.map_id''];intro a;rfl
  exact#[l,us,ps.map (·.1),ps.map (·.2),rfl,zX,hv,lK (zh.ext x1 _ g3) λ r hr=>Ay r ((mem r).mp hr),by rw[Dr.length_eq];have:=iM rows;lia,λ p qs hp hi hs=>?_];rw[Ex] at hi;have heq:=L4.jZ ((hi.map (·.2)).trans Dr) hs;have Am:p≠l:=λ z=>by subst z;rw[zX] at hp;cases hp
  have hpH:H p=none:=by rw[zE Am] at hp;show hp
  have x2:Ext (upd H l (.ext (ST.yB w l us))) (upd (upd H l (.ext (ST.yB w l us))) p (.lst (qs.map (·.1)))):=.new hp _;have r1:zB K (upd H l (.ext (ST.yB w l us))) S:=h2.new hf;exact h p (h2.none hpH) _ _ (by simp![ze]) (x1.trans x2) (r1.ups x2 #[_,zX,?_]);rw[<- heq];show zh.ext (x1.trans x2) _ (zh.lS λ q hq=>zh.lj g2 q (sub q (hi.mem_iff.mp hq)))
 .show h.elim
end
end L5
namespace ST
open PySem PySem.SetTable PyProof.Rows
theorem a_ {t:SetTable}{hs:List Int}(T:Tab t hs) (h:Int):∀ (f k K:Nat),k<=K->K<k+f->(way t.mask h K).j∉t.place.toList->(∀ m<K,(way t.mask h m).j∈t.place.toList)->probe.go t (λ _=>h+1) h f (way t.mask h k)=↑(.empty (way t.mask h K).j none)
 | 0,k,K,h1,h2,_,_=>⋯
 | f+1,k,K,h1,h2,h3,h4=>by
  by_cases e:k=K
  .subst e;unfold probe.go;rw[T.empty h3,jN]
  .let#[i,g,p1,_]:=T.at (h4 k ⋯);have ih:=a_ T h f (k+1) K ⋯ ⋯ h3 h4
   conv=>lhs;unfold probe.go
   rw[T.live p1];dsimp only;rw[if_neg (by intro q;have:=eq_of_beq q;lia),fN];show ih
theorem LB {t:SetTable}{hs:List Int}(T:Tab t hs) (hl:hs.length<=t.mask) (h:Int):∃ j,t.freeSlot h=↑(j,false)/\f_ t h j:=by
 let#[K,k1,k2,k3]:=T.first hl h;exact#[(way t.mask h K).j,?_,#[k2,K,rfl,k3]];have g:=a_ T h (10*turns t.mask) 0 K (A2 _) (by unfold turns;lia) k2 k3;unfold SetTable.freeSlot;have e:t.probe (λ _=>h+1) h (t.probeStart h)=↑(.empty (way t.mask h K).j none):=g;rw[e];rfl
structure qI (prog:Program) (w:World) (h:Heap) (a:Addr) (xs:List (Int×Tok)) (led:Bool):Prop where
 ex:∃ es ep t,h.get? a=↑{ cls:=.type "set",dict:=none,data:=.set es ep t }/\es.toList=xs.map (λ e=>((intKind prog w).hash e.1,Value.int e.1 e.2))/\Tab t (xs.map λ e=>(intKind prog w).hash e.1)/\t.led=led/\t.plain=true/\xs.length*5<t.mask*3
 nd:(xs.map (·.1)).Nodup
section
variable {prog:Program}{w:World}{A:Around}{E:Af}{s:Shared}
def fits_of {es:Array (Int×Value)}{t:SetTable}{hs:List Int}{n:Nat}(h1:es.size=n) (T:Tab t hs) (h2:hs.length=n) (h3:n<=t.mask):t.fits es.size=true:=by
 have l:=T.len;unfold SetTable.fits SetTable.fill;rw[T.rJ,h1,l,h2];simp;lia
def nM {n m:Int}{t:Tok}:(intKind prog w).is n (.int m t)=true↔n=m:=by
 constructor
 .intro h;let#[t',e]:=Value.isInt_shape (show Value.isInt n (.int m t)=true from h);cases e;rfl
 .rintro rfl;show intKind_is _ _ _ _
def Ke {es:Array (Int×Value)}{xs:List (Int×Tok)}(h:es.toList=xs.map (λ e=>((intKind prog w).hash e.1,Value.int e.1 e.2))):ElemsOf (intKind prog w) es.toList:=λ e he=>by
 rw[h] at he;let#[x,_,rfl]:=Ar.mp he;show#[#[x.1,nM.mpr rfl,rfl],rfl]
def Uo {es:Array (Int×Value)}{t:SetTable}{xs:List (Int×Tok)}{M wanted:Nat}(he:es.toList=xs.map (λ e=>((intKind prog w).hash e.1,Value.int e.1 e.2))) (hM:vc M) (hw:sizeAbove wanted=M+1) (AV:xs.length*5<M*3):
  ∃ Gr t',∃ FH:List (Int×Tok),relayAll t es wanted=(Gr,t',false)/\Gr.toList=FH.map (λ e=>((intKind prog w).hash e.1,Value.int e.1 e.2))/\FH.Perm xs/\Tab t' (FH.map λ e=>(intKind prog w).hash e.1)/\t'.mask=M/\t'.led=t.led/\t'.plain=t.plain/\Gr.size=es.size:=by
 have hlen:es.size=xs.length:=by have:=congrArg List.length he;exists this
 have EZ:(es.map (·.1)).toList=xs.map λ e=>(intKind prog w).hash e.1:=by rw[Array.toList_map,he,AU];rfl
 have hsz:(es.map (·.1)).size=xs.length:=by rw[Dh,hlen]
 let#[t',order,h1,h2,h3,h4,h5,h6,h7]:=ai hM t.finger (t.movedTo M) t.led t.plain (es.map (·.1)) (by rw[hsz];lia);rw[hsz] at h6;have Az:∀ k∈order.toList,k<xs.length:=λ k hk=>by exists h6.mem_iff.mp hk
 have hr:t.relaid (es.map (·.1)) wanted=↑(t',order):=by
  unfold SetTable.relaid;rw[hw,Nat.add_sub_cancel];show h1
 have Cb:(order.filterMap (es[·]?)).toList=(order.toList.filterMap λ k=>xs[k]?).map λ e=>((intKind prog w).hash e.1,Value.int e.1 e.2):=by
  rw[Array.toList_filterMap,List.map_filterMap];congr 1;funext k;rw[<- BW,he,AM]
 have Fs:(order.toList.filterMap λ k=>xs[k]?).Perm xs:=(h6.filterMap _).trans (by rw[List.filterMap_getElem?_range_length]);have B7:(order.filterMap (es[·]?)).size=es.size:=by
  rw[<- BG,Cb,AH,Fs.length_eq,hlen]
 have hT:Tab t' ((order.toList.filterMap λ k=>xs[k]?).map λ e=>(intKind prog w).hash e.1):=by
  rw[<- iB xs (λ e=>(intKind prog w).hash e.1) 0 order.toList Az,<- EZ];show h7
 exact#[_,t',_,?_,Cb,Fs,hT,h2,h4,h5,B7];have ya:coversAll order es.size=true:=by
  unfold coversAll;rw[List.isPerm_iff,hlen];show h6
 have fit:t'.fits (order.filterMap (es[·]?)).size=true:=fits_of (n:=xs.length) (by rw[B7,hlen]) hT (by rw[AH,Fs.length_eq]) (by rw[h2];lia);unfold relayAll;rw[hr];dsimp only;rw[ya,fit];rfl
def add_int {a:Addr}{xs:List (Int×Tok)}{n:Int}{tk:Tok}{led:Bool}{Q:Bool->Shared->Prop}(S:qI prog w s.heap a xs led) (hn:xs.length<70)
  (h:∀ h' FH r,Heap.SameBut a s.heap h'->qI prog w h' a FH led->(n∈xs.map (·.1)/\FH=xs\/n∉xs.map (·.1)/\FH.Perm (xs++[(n,tk)]))->Q r { s with heap:=h' }):
  wpAny (model prog w) A (setAddHashed a (.int n tk) ((intKind prog w).hash n)) Q E s:=by
 have S0:=S;let#[#[es,ep,t,ho,he,T,BQ,Am,AV],BK]:=S;have hlen:es.size=xs.length:=by have:=congrArg List.length he;exists this
 have hm7:7<=t.mask/\t.mask<=127:=by rcases T.mask with e | e | e <;> lia
 have fit:t.fits es.size=true:=fits_of (n:=xs.length) hlen T #[] ⋯;have hel:=Ke (prog:=prog) (w:=w) he;unfold setAddHashed setAddHashedIn;exact za7 (gV (zaD ho rfl fit ?_));dsimp only;have bs:byScan (.int n tk) es=true:=by
  have h1:decide (es.size<scanBound)=true:=zaA (by unfold scanBound;lia);have h2:es.all (·.2.scannable)=true:=by
   rw[Array.all_eq_true_iff_forall_mem];intro e hm;show (hel e (by exists hm)).2
  unfold byScan;rw[h1,h2];rfl
 rw[if_pos bs];exact gV ?_;unfold setAddByScan;exact gV (zaJ (gV (wpAny_setScan_of (k:=n) (nM.mpr rfl) ho rfl fit hel ?_)));have IT:(es.toList.findIdx? (λ e=>(intKind prog w).is n e.2)).isSome=true↔n∈xs.map (·.1):=by
  rw[he,List.findIdx?_isSome,Bl];constructor
  .rintro⟨e,hm,q⟩;let#[x,hx,rfl]:=Ar.mp hm;show Ar.mpr #[x,hx,(nM.mp q).symm]
  .intro hm;let#[x,hx,rfl]:=Ar.mp hm;show#[_,Ar.mpr #[x,hx,rfl],nM.mpr rfl]
 cases hc:es.toList.findIdx? (λ e=>(intKind prog w).is n e.2) with
 | some j=>
  dsimp only;have hm:=IT.mp (by rw[hc];rfl);exact Ad ?_;dsimp only;show Ad (h s.heap xs false #[rfl,λ _ _=>rfl] S0 (.inl #[hm,rfl]))
 | none=>
  dsimp only;have hm:n∉xs.map (·.1):=λ q=>by have:=IT.mpr q;rw[hc] at this;cases this
  let#[j,fs,F]:=LB T (by rw[AH];lia) ((intKind prog w).hash n);let#[p1,p2,p3]:=T.put F;rw[AH] at p1;have CN:(t.put j).1.plain=true:=by rw[p2];show Am
  have Cr:(t.put j).1.mask=t.mask:=by rw[p2]
  have Az:(t.put j).1.led=led:=by rw[p2];show BQ
  generalize hT:(t.put j)=P at *;let#[t1,p]:=P;dsimp only at *;let GB:=xs.take p++(n,tk)::xs.drop p
  have Fs:GB.Perm (xs++[(n,tk)]):=by
   have e:xs.take p++xs.drop p=xs:=Eg p xs;have:GB.Perm ((n,tk)::(xs.take p++xs.drop p)):=List.perm_middle;rw[e] at this;show this.trans (List.perm_append_singleton _ _).symm
  have HJ:GB.length=xs.length+1:=by rw[Fs.length_eq];simp
  have HV:(insertAt es p ((intKind prog w).hash n,Value.int n tk)).toList=GB.map λ e=>((intKind prog w).hash e.1,Value.int e.1 e.2):=by
   rw[toList_insertAt,he];simp[GB,DL,CW]
  have Il:(insertAt es p ((intKind prog w).hash n,Value.int n tk)).size=xs.length+1:=by rw[<- BG,HV,AH,HJ]
  have T1:Tab t1 (GB.map λ e=>(intKind prog w).hash e.1):=by
   have:GB.map (λ e=>(intKind prog w).hash e.1)=(xs.map λ e=>(intKind prog w).hash e.1).take p++(intKind prog w).hash n::(xs.map λ e=>(intKind prog w).hash e.1).drop p:=by simp[GB,DL,CW]
   rw[this];show p3
  have fit1:t1.fits (insertAt es p ((intKind prog w).hash n,Value.int n tk)).size=true:=fits_of (n:=xs.length+1) Il T1 (by rw[AH,HJ]) (by rw[Cr];lia);have Dv:layNew t es ((intKind prog w).hash n) (.int n tk)=(insertAt es p ((intKind prog w).hash n,Value.int n tk),t1,false,false):=by
   unfold layNew;rw[fs];dsimp only;rw[hT];dsimp only;unfold SetTable.orStandIn;rw[fit1];rfl
  have Bw:(insertAt es p ((intKind prog w).hash n,Value.int n tk)).size<=sizeLine:=by
   rw[Il];have:sizeLine=16777216:=rfl;lia
  have Io:(GB.map (·.1)).Nodup:=by
   exact (Fs.map _).nodup_iff.mpr ?_;rw[Cf,List.nodup_append];exact#[BK,#[],λ x hx y hy=>?_];simp at hy;subst hy;show λ e=>hm (e▸hx)
  have ho1:=lR (Gr:=insertAt es p ((intKind prog w).hash n,Value.int n tk)) (t':=t1) ho;have sb:=Heap.SameBut.update s.heap a (Obj.putSet (insertAt es p ((intKind prog w).hash n,Value.int n tk)) t1);have G5:t1.fill=xs.length+1:=by
   have l:=T1.len;rw[AH,HJ] at l;unfold SetTable.fill;rw[T1.rJ,l];simp
  rw[Dv];dsimp only;exact gV (m:=pure Unit.unit) (Ad ?_);rw[CN];simp![if_true];exact gV (m:=pure true) (Ad ?_);simp![if_true];exact gV (wpAny_storeSet_of ho rfl ?_ Bw);by_cases hf:t1.tooFull=true
  .rw[hf];simp![C6,DT,if_true];have GN:t.mask*3<=(xs.length+1)*5:=by
    have:=hf;unfold SetTable.tooFull at this;rw[G5,Cr] at this;exists this
   let#[M',g1,g2,g3]:=dX xs.length t.mask T.mask AV GN hn;let#[es2,t2,xs2,r1,r2,r3,r4,r5,r6,r7,r8]:=Uo (prog:=prog) (w:=w) (t:=t1) HV g1 (wanted:=grown (insertAt es p ((intKind prog w).hash n,Value.int n tk)).size) (by rw[Il];show g2) (by rw[HJ];show g3);rw[r1];dsimp only;exact gV (m:=pure Unit.unit) (Ad (gV (wpAny_storeSet_of ho1 rfl ?_ (by rw[r8];show Bw))));exact Ad ?_;dsimp only;exact Ad (h _ xs2 true (sb.trans (Heap.SameBut.update _ a _)) #[#[es2,ep+1+1,t2,lR ho1,r2,r4,by rw[r6];show Az,by rw[r7];show CN,by rw[r3.length_eq,HJ,r5];show g3],(r3.map _).nodup_iff.mpr Io] (.inr #[hm,r3.trans Fs]))
  .have HU:t1.tooFull=false:=by exists hf
   rw[HU];simp![C6,C0,Bh,if_false];have GN:(xs.length+1)*5<t.mask*3:=by
    have:=HU;unfold SetTable.tooFull at this;rw[G5,Cr] at this;exists this
   exact Ad ?_;dsimp only;show Ad (h _ GB true sb #[#[_,ep+1,t1,ho1,HV,T1,Az,CN,by rw[HJ,Cr];show GN],Io] (.inr #[hm,Fs]))
end
def Nums (Aa:Aq) (ns:List Int):Prop:=∀ (i:Nat) v,Aa[i]?=↑v->∃ n t,v=.int n t/\ns[i]?=↑n
section
variable {prog:Program}{w:World}{A:Around}{E:Af}{s:Shared}{Aa:Aq}{ns:List Int}
def M0 {led:Bool}{Sa:Addr}{wr:List Addr}(hSw:Sa∉wr) (hN:Nums Aa ns):Kd prog w A Value.int Aa ns Sa wr (λ h xs=>qI prog w h Sa xs led) (λ _=>True) where
 nd:=λ S=>S.nd
 keep:=λ k _ S=>let #[#[es,ep,t,ho,r],nd]:=S;#[#[es,ep,t,k _ _ hSw ho,r],nd]
 ke:=λ _ T=>T
 add:=λ{s xs i v Q E} _ S hl hv hQ=>by
  let#[m,t,rfl,hr]:=hN i v hv;unfold setAdd;exact za7 (gV ((intKind prog w).pyHash (A:=A) (k:=m) (nM.mpr rfl) ?_));show add_int (s:={ s with toks:=s.toks+1 }) (A:=A) S hl λ h' FH rr sb S' hx=>hQ h' _ FH rr m t rfl hr sb (CV _ _) S' hx
def V_ {h:Heap}{a:Addr}(ho:h.get? a=↑(wa w)):qI prog w h a [] (sg w):=
 #[#[[].toArray,0,_,ho,rfl,#[.inl rfl,rfl,rfl,.nil,λ j hj=>(by cases hj),λ i g j hg=>(by cases hg)],rfl,rfl,by change 0*5<7*3;lia],.nil]
def KU {l:Addr}{Q:Af}(hh:A.handled=none) (hl:s.heap.IsList l Aa) (hT:Nums Aa ns) (hn:Aa.size<70)
  (h:∀ (h':Heap) (tk:Nat) xs,qI prog w h' s.heap.objs.size xs (sg w)->Up Value.int Aa ns Aa.size xs->(∀ b o,b<s.heap.objs.size->s.heap.get? b=↑o->h'.get? b=↑o)->Q (.ref s.heap.objs.size) { s with heap:=h',toks:=tk }):
  wpAny (model prog w) A (call (.type "set") [.ref l]) Q E s:=
 ZW hh hl hn (M0 #[] hT) (λ h e=>V_ e) (λ _ _=>trivial) h
end
end ST
namespace L4
open PySem PyProof.Rows
def K2 {prog:Program}{w:World}{A:Around}{E:Af}{s:Shared}{vs:Ae}{ns:List Int}(hI:IntsAre vs ns) (h2:2<=vs.length) (G0:vs.length<64):
  Core prog w A E vs (λ out=>∃ G2,IntsAre out.toList G2/\G2.Perm ns/\G2.Pairwise (·<=·)) s:=by
 obtain⟨v1,v2,Ff,rfl⟩:∃ v1 v2 Ff,vs=v1::v2::Ff:=by
  match vs,h2 with
  | v1::v2::Ff,_=>show#[v1,v2,Ff,rfl]
 unfold Core;rw[keyKind_ints hI];exact Ad #[rfl,?_];exact za3 (wpS_sortRuns (a₀:=pairsOf (v1::v2::Ff)) (st:=SortSt.mk' oneType' ((v1::v2::Ff).toArray.zip (v1::v2::Ff).toArray) [].toArray 7 none)
   (Q:=λ _ GW=>(arrOf GW).Perm (pairsOf (v1::v2::Ff))/\failedOf GW=none/\SortedTo (arrOf GW) (pairsOf (v1::v2::Ff)).size)
   hI.intKeys #[Array.Perm.refl _,rfl,rfl,rfl] (by rw[pairsOf_size];simp) (by rw[pairsOf_size];show G0) λ GW a1 a2 a3=>#[a1,a2,a3]) ?_ λ _ _ e=>e
 rintro⟨⟨⟩,GW⟩ s' ⟨rfl,hp,hf,hs⟩;show#[rfl,hf,sorted_out hI hp hs,by rw[hp.size_eq,pairsOf_size]]
end L4
namespace L5
open PySem PySem.Spec L2 L3
open PyProof.Rows hiding St
structure Bq (mg:Au):Prop where
 set:mg "set"=none
 zip:mg "zip"=none
 enumerate:mg "enumerate"=none
section
variable {X:Cx}{K:Ac}{a b c e:Expr}{ta tb tc:zq}{pos:Pos}{fa fb fc:Ag}
def sI (f g:y6) (ta tb tc:zq):zq:=fun L S Q=>ta L S λ x S1=>tb L S1 λ y S2=>f x y S2 λ z S3=>match z with
 | .bl k=>if k=true then tc L S3 λ w S4=>g y w S4 Q else Q (.bl false) S3
 | _=>False
def sI.mo {f g:y6}(hf:yY f) (hg:yY g) (ha:ye ta) (hb:ye tb) (hc:ye tc):ye (sI f g ta tb tc):=fun L S Q Q' hq h=>
 ha L S _ _ (λ x S1 h=>hb L S1 _ _ (λ y S2 h=>hf x y S2 _ _ (λ z S3 h=>by
  cases z <;> first
   | show xW (hc L S3 _ _ λ w S4 h=>hg y w S4 _ _ hq h) (hq _ _) h
   | show h) h) h) h
theorem dw {f g:y6}{r r':R2}(hr:yQ K f r) (Iz:yQ K g r') (hf:yY f) (hg:yY g) (ha:ye ta) (hb:ye tb) (hc:ye tc) {O:St}{H:Hp}{Q:VK}(h:zF K (sI f g ta tb tc) O H Q):jV r r' (zF K ta) (zF K tb) (zF K tc) O H Q:=by
 let#[L,S,r1,r2,h]:=h;exact zF.go ha r1 r2 h λ x S1 v H1 h1 q1 e1 p1=>?_;exact zF.go hb (r1.ext e1) p1 h1 λ y S2 w H2 h2 q2 e2 p2=>?_;exact hr v w x y H2 S2 _ (ze.ext e2 x q1) q2 p2 (hf x y S2 _ _ (λ d S3 z v3 H3 q3 e3 p3=>?_) h2);cases d with
 | bl k=>
  simp![ze] at q3;exact#[k,q3,xW (λ z=>?_) (λ z=>?_) z]
  .exact zF.go hc (r1.ext ((e1.trans e2).trans e3)) p3 z λ w4 S4 v4 H4 h4 q4 e4 p4=>?_;show Iz w v4 y w4 H4 S4 Q (ze.ext (e3.trans e4) y q2) q4 p4 (hg y w4 S4 _ _ (λ d S' z=>z.ext (((e1.trans e2).trans e3).trans e4)) h4)
  .show z _ H3 (by simp![ze]) ((e1.trans e2).trans e3) p3
 | _=>show z.elim
@[simp] def fm (f g:T->T->Option T) (fa fb fc:Ag):Ag:=fun Y=>(fa Y).bind λ x=>(fb Y).bind λ y=>(f x y).bind λ b=>match b with
 | .bl k=>if k=true then (fc Y).bind λ z=>g y z else ↑(.bl false)
 | _=>none
def OX {f g:T->T->Option T}{F G:y6}(hf:Good2 zv f F) (hg:Good2 zv g G) (ha:yk fa ta) (hb:yk fb tb) (hc:yk fc tc):yX (fm f g fa fb fc) (sI F G ta tb tc):=λ S Z L Y y Q hE e hq=>by
 let#[x1,e1,e]:=An.mp e;let#[x2,e2,e]:=An.mp e;let#[b,e3,e]:=An.mp e;exact ha S Z L Y x1 _ hE e1 λ d1 S1 s1 r1=>?_;exact hb S1 Z L Y x2 _ (hE.grow s1) e2 λ d2 S2 s2 r2=>?_;exact hf S2 Z x1 x2 b d1 d2 _ (hE.grow (s1.trans s2)).zd (Vw.grow r1 s2) r2 e3 λ c S3 s3 r3=>?_;split at e
 .have:=r3.1;simp![Sn] at this;subst this;split at e
  .rename_i hk;let#[x4,e4,e5]:=An.mp e;dsimp only;rw[if_pos hk];exact hc S3 Z L Y x4 _ (hE.grow ((s1.trans s2).trans s3)) e4 λ d4 S4 s4 r4=>?_;show hg S4 Z x2 x4 y d2 d4 Q (hE.grow (((s1.trans s2).trans s3).trans s4)).zd (Vw.grow r2 (s3.trans s4)) r4 e5 λ c' S5 s5 r5=>hq c' S5 ((((s1.trans s2).trans s3).trans s4).trans s5) (Cl.cl (((s1.trans s2).trans s3).trans s4) r5)
  .rename_i hk;dsimp only;rw[if_neg hk];cases e;show hq _ S3 ((s1.trans s2).trans s3) (Cl.of (λ _=>nofun) x_)
 .cases e
def Ql {op Hw:CmpOp}{f g:y6}{r r':R2}(ho:zV X (compareOp op) r) (FY:zV X (compareOp Hw) r') (hr:yQ X.K f r) (Iz:yQ X.K g r') (hf:yY f) (hg:yY g) (ha:PD X a ta) (hb:PD X b tb) (hc:PD X c tc)
  (hm:lastMarks [op,Hw] [b,c]=false:=by with_unfolding_all rfl):PD X (.Compare a [op,Hw] [b,c] pos) (sI f g ta tb tc):=
 #[sI.mo hf hg ha.mo hb.mo hc.mo,PE.imp (TJ ho FY ha.pe hb.pe hc.pe hm) λ _ _ _ h=>dw hr Iz hf hg ha.mo hb.mo hc.mo h]
def Sy {op Hw:CmpOp}{f g:y6}{r r':R2}(ho:zV X (compareOp op) r) (FY:zV X (compareOp Hw) r') (hr:yQ X.K f r) (Iz:yQ X.K g r') (hf:yY f) (hg:yY g) (ha:PD X a ta) (hb:PD X b tb) (hc:PD X c tc)
  (hm:lastMarks [op,Hw] [b,c]=false:=by with_unfolding_all rfl):yO X (.Compare a [op,Hw] [b,c] pos) (wW (sI f g ta tb tc)):=by
 exact#[wW.mo (sI.mo hf hg ha.mo hb.mo hc.mo),PT.imp (U9 ho FY ha.pe hb.pe hc.pe hm) fun O H Q h=>?_];let#[L,S,r1,r2,h]:=h;exact dw hr Iz hf hg ha.mo hb.mo hc.mo #[L,S,r1,r2,sI.mo hf hg ha.mo hb.mo hc.mo L S _ _ (λ d S' z v H' a b c=>?_) h];cases d with
 | bl k=>simp![ze] at a;show#[k,a,z H' b c]
 | _=>show z.elim
end
end L5
namespace L2
open PySem PySem.Spec PyProof.Rows
section
variable {X:Cx}
def bw:zV X (compareOp .Is) (λ x y H Q=>∃ c d,x=.bl c/\y=.bl d/\Q (.bl (c == d)) H):=by
 intro Fd s O H x y v u Q I rx ry h;let#[c,d,rfl,rfl,q]:=h;cases rx;cases ry;show is_bool #[.bl _,H,I,rfl,q]
end
end L2
namespace L5
open PySem PySem.Spec L2 L3
open PyProof.Rows hiding St
section
variable {X:Cx}{K:Ac}{a b c e o i v:Expr}{es:List Expr}{ta tb td ty tv:zq}{pos p pos':Pos}
def vA:y6:=λ x y S Q=>match x,y with
 | .int i,.int j=>Q (.bl (decide (i<j))) S
 | .tup ds,.tup es=>∃ ns ms:List Int,ds=ns.map D.int/\es=ms.map D.int/\Q (.bl (HT.lexLt ns ms)) S
 | _,_=>False
def uB:T->T->Option T
 | .int i,.int j=>↑(.bl (decide (i<j)))
 | .tup ts,.tup us=>(vz ts).bind λ ns=>(vz us).map λ ms=>.bl (HT.lexLt ns ms)
 | _,_=>none
def vA.mo:yY vA:=λ x y S Q Q' hq h=>by
 unfold vA at h ⊢;split at h
 .show hq _ _ h
 .let#[ns,ms,h1,h2,h3]:=h;show#[ns,ms,h1,h2,hq _ _ h3]
 .show h.elim
def vA.fits:yQ K vA (λ x y H Q=>w9 (λ i j=>.bl (decide (i<j))) x y H Q\/iw K x y H Q):=λ x y d e H S Q h1 h2 h3 h=>by
 unfold vA at h;split at h
 .simp![ze] at h1 h2;show .inl #[_,_,h1,h2,h _ H (by simp![ze]) (.refl H) h3]
 .let#[ns,ms,rfl,rfl,h]:=h;simp![ze] at h1 h2;let#[a,xs,rfl,g1,g2]:=h1;let#[b,ys,rfl,g3,g4]:=h2;rw[g2.ints] at g1;rw[g4.ints] at g3;show .inr #[a,b,ns,ms,rfl,rfl,g1,g3,h _ H (by simp![ze]) (.refl H) h3]
 .show h.elim
def gu:Good2 zv uB vA:=λ S Z x y z d e Q hz hx hy ef hq=>by
 unfold uB at ef;split at ef
 .cases ef;cases hx.int;cases hy.int;show hq _ S (.refl S) (Cl.of (λ _=>nofun) x_)
 .let#[ns,e1,e2]:=An.mp ef;let#[ms,e3,rfl]:=AK.mp e2;cases pO e1;cases pO e3;let#[ds,rfl,h2]:=hx.tup;let#[es,rfl,h4]:=hy.tup;show#[ns,ms,uz.mp h2,uz.mp h4,hq _ S (.refl S) (Cl.of (λ _=>nofun) x_)]
 .cases ef
def bq {k:Nat}(hr:zN k X.A):zV X (compareOp .Lt) (λ x y H Q=>w9 (λ i j=>.bl (decide (i<j))) x y H Q\/iw X.K x y H Q):=Q8.or (Q7 (by have:=hr.units;lia))
def RF {k:Nat}(hr:zN k X.A) (ha:PD X a ta) (hb:PD X b tb):PD X (.Compare a [.Lt] [b] pos) (yf vA ta tb):=pB (bq hr) vA.fits vA.mo ha hb (u7 _)
def Sk {k:Nat}(hr:zN k X.A) (ha:PD X a ta) (hb:PD X b tb):yO X (.Compare a [.Lt] [b] pos) (wW (yf vA ta tb)):=qk (bq hr) vA.fits vA.mo ha hb (u7 _)
def wR (neg:Bool):y6:=λ x y S Q=>match x,y with
 | .bl c,.bl d=>Q (.bl (cond neg (c != d) (c == d))) S
 | x,.zo=>Q (.bl (cond neg (!pN x) (pN x))) S
 | _,_=>False
def su (neg:Bool):T->T->Option T
 | .bl c,.bl d=>↑(.bl (cond neg (c != d) (c == d)))
 | x,.zo=>↑(.bl (cond neg (!isNone x) (isNone x)))
 | _,_=>none
def wR.mo {neg:Bool}:yY (wR neg):=λ x y S Q Q' hq h=>by
 unfold wR at h ⊢;split at h
 .show hq _ _ h
 .show hq _ _ h
 .show h.elim
def wR.fits:yQ K (wR false) (λ x y H Q=>(∃ c d,x=.bl c/\y=.bl d/\Q (.bl (c == d)) H)\/(y=.zo/\Q (.bl (decide (x=.zo))) H)):=λ x y d e H S Q h1 h2 h3 h=>by
 unfold wR at h;split at h
 .simp![ze] at h1 h2;show .inl #[_,_,h1,h2,h _ H (by simp![ze,cond]) (.refl H) h3]
 .simp![ze] at h2;exact .inr #[h2,?_];rw[MB h1];show h _ H (by simp![ze,cond]) (.refl H) h3
 .show h.elim
def MC {S:SS}{Z:Addr->Prop}{x:T}{d:D}(hx:Vw S Z x d):pN d=isNone x:=by
 cases x with
 | zo=>cases hx.zo;rfl
 | bl _=>cases hx.bl;rfl
 | int _=>cases hx.int;rfl
 | str _=>cases hx.str;rfl
 | tup _=>let#[ds,rfl,_]:=hx.tup;rfl
 | lst _=>obtain⟨ds,rfl | ⟨a,rfl,h1⟩,h2⟩:=hx.lst <;> rfl
 | yD=>let#[a,Ab,#[rfl,_],h1]:=hx.yD;rfl
 | err _ _ _=>let#[x,rfl,_]:=hx.err;rfl
def Lq {neg:Bool}:Good2 zv (su neg) (wR neg):=λ S Z x y z d e Q hz hx hy ef hq=>by
 unfold su at ef;split at ef
 .cases ef;cases hx.bl;cases hy.bl;show hq _ S (.refl S) (Cl.of (λ _=>nofun) x_)
 .cases ef;cases hy.zo;have key:Q (.bl (cond neg (!pN d) (pN d))) S:=by
   rw[MC hx];show hq _ S (.refl S) (Cl.of (λ _=>nofun) x_)
  unfold wR;cases d <;> show key
 .cases ef
def iE (ha:PD X a ta) (hb:PD X b tb):PD X (.Compare a [.Is] [b] pos) (yf (wR false) ta tb):=pB (bw.or bu) wR.fits wR.mo ha hb (u7 _)
def Sq (ha:PD X a ta) (hb:PD X b tb):yO X (.Compare a [.Is] [b] pos) (wW (yf (wR false) ta tb)):=qk (bw.or bu) wR.fits wR.mo ha hb (u7 _)
def ZF (td ty tv:zq):zY:=λ E L S=>tv L S λ v S1=>td L S1 λ x S2=>ty L S2 λ y S3=>∃ p ds k j,x=.ref p/\y=.int k/\S3 p=↑(.lst ds)/\wD ds.length k=↑j/\E.nx L (ups S3 p (.lst (ds.set j v)))
theorem zh.set {H:Hp}{d:D}{x:V}(h:ze K H d x):∀ {ds:List D}{xs:List V}(j:Nat),zh K H ds xs->zh K H (ds.set j d) (xs.set j x)
 | [],xs,j,r=>by simp![zh] at r;subst r;show .nil
 | c::ds,xs,0,r=>by
  simp![zh] at r;let#[y,ys,rfl,_,r2]:=r;show .cons h r2
 | c::ds,xs,j+1,r=>by
  simp![zh] at r;let#[y,ys,rfl,r1,r2]:=r;show .cons r1 (zh.set h j r2)
def SM (ho:PD X o td) (hi:PD X i ty) (hv:PD X v tv) (hs:swapsWithSole [.Subscript o i pos'] v pos.line X.env=pure false) (hw:swappedStores [.Subscript o i pos'] v X.env=pure none)
  (h1:(assignEach [.Subscript o i pos'] X.env).map (·.2)=[assign (.Subscript o i pos') X.env])
  (ha:∀ v,assign (.Subscript o i pos') X.env v=(do
   let ov <- holding [v] (eval o X.env)
   let iv <- holding [v,ov] (eval i X.env)
   standAt pos'
   holding [v,ov,iv] (setItem ov iv v)
   release [v,ov,iv] [])):xD X (.Assign [.Subscript o i pos'] v pos) (ZF td ty tv):=by
 exact#[λ E E' L S hE z=>hv.mo L S _ _ (λ w S1 z=>ho.mo L S1 _ _ (λ x S2 z=>hi.mo L S2 _ _ (λ y S3 #[p,ds,k,j,a,b,c,d,h]=>#[p,ds,k,j,a,b,c,d,hE.nx _ _ h]) z) z) z,PS.imp (UK hv.pe (Tf ho.pe hi.pe set_list ha) hs hw h1) λ D O H hu=>?_];let#[L,S,r1,r2,z]:=hu;exact zF.go hv.mo r1 r2 z λ w S1 w1 H1 h1 q1 e1 p1=>?_;exact zF.go ho.mo (r1.ext e1) p1 h1 λ x S2 w2 H2 h2 q2 e2 p2=>?_;exact zF.go hi.mo ((r1.ext e1).ext e2) p2 h2 λ y S3 w3 H3 h3 q3 e3 p3=>?_;let#[p,ds,k,j,rfl,rfl,c1,c2,h]:=h3;simp![ze] at q2 q3;subst q2 q3;let#[xs,g1,g2]:=p3 _ _ c1;have e4:Ext H3 (upd H3 p (.lst (xs.set j w1))):=.lst g1 _;exact#[p,xs,k,j,rfl,rfl,g1,by rw[<- g2.length];show c2,?_];show h O _ ((((r1.ext e1).ext e2).ext e3).ext e4) (((e1.trans e2).trans e3).trans e4) (p3.ups e4 #[_,zX,zh.ext e4 _ (zh.set (ze.ext (e2.trans e3) w q1) j g2)])
@[simp] def bP (n:Nat) (f v:Ag):Sm:=fun Y=>(v Y).bind λ z=>(f Y).bind λ y=>match Y[n]?,y with
 | some ↑(.own (.lst ts)),.int k=>(wD ts.length k).map λ j=>.nx (Y.set n ↑(.own (.lst (ts.set j z))))
 | _,_=>none
def QR {R:Rk}(n:Nat) {f v:Ag}(hf:yk f ty) (hv:wI v tv):z_ R (bP n f v) (ZF (yj n) ty tv):=λ S0 Z0 S Z L Y o E F e P=>by
 let#[z,e1,e]:=An.mp e;let#[x,e2,e3]:=An.mp e;split at e3
 .rename_i ts k h;let#[j,hj,rfl]:=AK.mp e3;exact hv S Z L Y z _ F.er e1 λ dz S1 s1 r1=>?_;have F1:=F.grow s1;let#[p,ob,h1,h2,h3,h4]:=F1.er.ow n _ h;cases ob with
  | zC _=>show h3.elim
  | lst ds=>
   change yj n L S1 _;unfold yj;rw[h1];exact hf S1 Z L Y _ _ F1.er e2 λ d S2 s2 r2=>?_;cases Vw.int r2;have h5:zg (zJ S2 Z) ts ds:=zg.sx (wg s2) ts h3;show#[p,ds,k,j,rfl,rfl,s2 _ _ h2,by rw[h5.len];show hj,P _ Z L ((F1.grow s2).mut (us:=.lst (ts.set j z)) (es:=.lst (ds.set j dz)) n h h1 (h5.d_ j (Sn.sx (wg s2) z r1)))]
 .cases e3
def RY {x y:Str}{u:Value}(hm:X.mg x=↑u) (r:RelV (.str y) u) (hg:Gl X x) (hd:(x == ("__debug__":Str))=false):PD X (.Name x pos) (dC (.str y)):=p9 (iD hg hm r hd) λ _=>by simp![ze]
def R_ {x:Str}{n:Int}{u:Value}(hm:X.mg x=↑u) (r:RelV (.int n) u) (hg:Gl X x) (hd:(x == ("__debug__":Str))=false):PD X (.Name x pos) (dC (.int n)):=p9 (iD hg hm r hd) λ _=>by simp![ze]
end
end L5
namespace ZP
open PySem PyProof.Rows
def gi (k:Bool):String:=cond k "tuple_iterator" "list_iterator"
def SI (h:Heap) (k:Bool) (it l:Addr) (i:Nat):Prop:=∃ o,h.get? it=↑o/\o.cls=.type (gi k)/\o.data=.fields [.ref l,.int i 0].toArray
def SQ (h:Heap) (k:Bool) (l:Addr) (xs:Aq):Prop:=match k with
 | true=>h.IsTuple l xs
 | false=>h.IsList l xs
def SI.on {h h':Heap}{k:Bool}{it l:Addr}{i:Nat}(x:SI h k it l i) (f:∀ o,h.get? it=↑o->h'.get? it=↑o):SI h' k it l i:=
 let #[o,ho,r]:=x;#[o,f o ho,r]
def SQ.on {h h':Heap}{k:Bool}{l:Addr}{xs:Aq}(x:SQ h k l xs) (f:∀ o,h.get? l=↑o->h'.get? l=↑o):SQ h' k l xs:=by
 cases k with
 | true=>let#[o,ho,r]:=(show h.IsTuple l xs from x);show#[o,f o ho,r]
 | false=>let#[o,ho,r]:=(show h.IsList l xs from x);show#[o,f o ho,r]
def SQ.lt {h:Heap}{k:Bool}{l:Addr}{xs:Aq}(x:SQ h k l xs):l<h.objs.size:=by
 cases k with
 | true=>let#[o,ho,_]:=(show h.IsTuple l xs from x);show Ap ho
 | false=>let#[o,ho,_]:=(show h.IsList l xs from x);show Ap ho
theorem SQ.cls {h:Heap}{k:Bool}{l:Addr}{xs:Aq}(x:SQ h k l xs):∃ o,h.get? l=↑o/\o.cls=.type (cond k "tuple" "list"):=by
 cases k with
 | true=>let#[o,ho,c,_]:=(show h.IsTuple l xs from x);show#[o,ho,c]
 | false=>let#[o,ho,c,_]:=(show h.IsList l xs from x);show#[o,ho,c]
section
variable {prog:Program}{w:World}{A:Around}{E:Af}{s:Shared}
def made {k:Bool}{l:Addr}{xs:Aq}{Q:Af}(hl:SQ s.heap k l xs)
  (hQ:Q (.ref s.heap.objs.size) { s with heap:=s.heap.push { cls:=.type (gi k),data:=.fields [.ref l,.int 0 0].toArray } }):wpAny (model prog w) A (pyIter (.ref l)) Q E s:=by
 cases k with
 | true=>show wpAny_pyIter_tuple hl hQ
 | false=>show zaO hl hQ
def Kj {it l:Addr}{i:Nat}{xs:Aq}{x:Value}{Q:Af}(hit:s.heap.IsTupleIter it l i) (hl:s.heap.IsTuple l xs) (hx:xs[i]?=↑x)
  (hQ:∀ h',h'.IsTupleIter it l (i+1)->Heap.SameBut it s.heap h'->Q x { s with heap:=h' }):wpAny (model prog w) A (Builtin.SmallTypes.nextOf (.ref it)) Q E s:=by
 have ht:=hit.typeIs;let#[oi,e1,e2,e3]:=id hit;let#[ol,g1,_,n,g2]:=hl;exact gV (zaH (name:=Str.ofString "__next__") ht F.slot_tuple_iterator_next (zaB F.slot_tuple_iterator_next ht F.entry_tuple_iterator_next ?_ (F.args_tuple_iterator_next_1 _)));exact gV (m:=field (.ref it) 0) (za4 e1 e3 (x:=.ref l) rfl ?_);dsimp only;rw[if_neg (show ¬ ((Value.ref l == Value.none)=true) from B3)];exact gV (m:=field (.ref it) 1) (za4 e1 e3 (x:=.int i 0) rfl ?_);dsimp only;exact gV (m:=seqItems? (.ref l)) (zaC g1 g2 ?_);simp![CC,hx];have there:=za8 (Obj.mapFields λ y=>y.setIfInBounds 1 (rawInt ((i:Int)+1))) e1 (Obj.isFreed_of_fields (Obj.data_mapFields e3 _));exact gV (zaE e1 e3 #[] (Ad #[x,rfl,Ad (hQ _ #[_,there,(Obj.cls_mapFields ..).trans e2,?_] (Heap.SameBut.update ..))]));rw[Obj.data_mapFields e3];simp[rawInt]
def Ka {it l:Addr}{i:Nat}{xs:Aq}{Q:Af}(hh:A.handled=none) (hit:s.heap.IsTupleIter it l i) (hl:s.heap.IsTuple l xs) (hx:xs[i]?=none)
  (hE:∀ h' e,Heap.ExtBut it s.heap h'->(∃ o,h'.get? e=↑o/\o.cls=.type "StopIteration")->E (.ref e) { s with heap:=h' }):wpAny (model prog w) A (Builtin.SmallTypes.nextOf (.ref it)) Q E s:=by
 have ht:=hit.typeIs;let#[oi,e1,e2,e3]:=id hit;let#[ol,g1,_,n,g2]:=hl;exact gV (zaH (name:=Str.ofString "__next__") ht F.slot_tuple_iterator_next (zaB F.slot_tuple_iterator_next ht F.entry_tuple_iterator_next ?_ (F.args_tuple_iterator_next_1 _)));exact gV (m:=field (.ref it) 0) (za4 e1 e3 (x:=.ref l) rfl ?_);dsimp only;rw[if_neg (show ¬ ((Value.ref l == Value.none)=true) from B3)];exact gV (m:=field (.ref it) 1) (za4 e1 e3 (x:=.int i 0) rfl ?_);dsimp only;exact gV (m:=seqItems? (.ref l)) (zaC g1 g2 ?_);simp![CC,hx];exact gV (zaJ (gV (zaE e1 e3 #[] ?_)));exact gV (m:=newExc (.type "StopIteration") []) ?_;simp![newExc,newTuple];exact gV (za9 (gV (m:=firstArgMember _ _) (wpAny_of_eq (a:=Value.none) (by first | rfl | (simp![firstArgMember];rfl)) (za9 ?_ (by size_fits)))) (by size_fits));simp![raiseNew];exact gV (wpAny_handled ?_);rw[show A.in1.handled=none from hh];show gV (Ad (wpAny_throw (hE _ _ (((Heap.SameBut.update ..).extBut.push _).push _) #[_,AJ _ rfl,rfl])))
def draw {k:Bool}{it l:Addr}{i:Nat}{xs:Aq}{x:Value}{Q:Af}(hit:SI s.heap k it l i) (hl:SQ s.heap k l xs) (hx:xs[i]?=↑x)
  (hQ:∀ h',SI h' k it l (i+1)->Heap.SameBut it s.heap h'->Q x { s with heap:=h' }):wpAny (model prog w) A (Builtin.SmallTypes.nextOf (.ref it)) Q E s:=by
 cases k with
 | true=>show Kj hit hl hx hQ
 | false=>show wpAny_nextOf_list_item hit hl hx hQ
def kG {k:Bool}{it l:Addr}{i:Nat}{xs:Aq}{Q:Af}(hh:A.handled=none) (hit:SI s.heap k it l i) (hl:SQ s.heap k l xs) (hx:xs[i]?=none)
  (hE:∀ h' e,Heap.ExtBut it s.heap h'->(∃ o,h'.get? e=↑o/\o.cls=.type "StopIteration")->E (.ref e) { s with heap:=h' }):wpAny (model prog w) A (Builtin.SmallTypes.nextOf (.ref it)) Q E s:=by
 cases k with
 | true=>show Ka hh hit hl hx hE
 | false=>show wpAny_nextOf_list_end hh hit hl hx hE
structure j8 (z TI TO i1 i2 l1 l2:Addr):Prop where
 nd:[z,TI,TO,i1,i2].Nodup
 f1:l1∉[z,TI,TO,i1,i2]
 f2:l2∉[z,TI,TO,i1,i2]
structure At (h:Heap) (k1 k2:Bool) (z TI TO i1 i2 l1 l2:Addr) (f0:Value) (n:Nat):Prop where
 z:IsZip h z TI TO f0
 ti:IsPair h TI (.ref i1) (.ref i2)
 to:∃ a b,IsPair h TO a b
 s1:SI h k1 i1 l1 n
 s2:SI h k2 i2 l2 n
def At.keep {h h':Heap}{k1 k2:Bool}{z TI TO i1 i2 l1 l2:Addr}{f0:Value}{n:Nat}(S:At h k1 k2 z TI TO i1 i2 l1 l2 f0 n) (f:∀ b∈[z,TI,TO,i1,i2],∀ o,h.get? b=↑o->h'.get? b=↑o):At h' k1 k2 z TI TO i1 i2 l1 l2 f0 n:=
 #[f z #[] _ S.z,f TI #[] _ S.ti,let #[a,b,e]:=S.to;#[a,b,f TO #[] _ e],S.s1.on (f i1 #[]),S.s2.on (f i2 #[])]
def item {k1 k2:Bool}{z TI TO i1 i2 l1 l2:Addr}{n:Nat}{xs ys:Aq}{x y:Value}{Q:Option Value->Shared->Prop}(D:j8 z TI TO i1 i2 l1 l2) (S:At s.heap k1 k2 z TI TO i1 i2 l1 l2 .none n)
  (h1:SQ s.heap k1 l1 xs) (h2:SQ s.heap k2 l2 ys) (hx:xs[n]?=↑x) (hy:ys[n]?=↑y)
  (hQ:∀ h',At h' k1 k2 z TI TO i1 i2 l1 l2 (rawInt s.heap.objs.size) (n+1)->IsPair h' s.heap.objs.size x y->(∀ c o,c∉[z,TI,TO,i1,i2]->s.heap.get? c=↑o->h'.get? c=↑o)->Q ↑(.ref s.heap.objs.size) { s with heap:=h' }):
  wpAny (model prog w) A (pyNext (.ref z)) Q E s:=by
 let#[nd,f1,f2]:=D;simp![BF,Ao,AY,or_false,not_or,List.nodup_nil,and_true,not_false_eq_true] at nd f1 f2;let#[#[n1,n2,n3,n4],#[n5,n6,n7],#[n8,n9],n10]:=nd;let#[a1,a2,a3,a4,a5]:=f1;let#[b1,b2,b3,b4,b5]:=f2;let#[hz,DZ,#[a,b,ED],s1,s2]:=S;have hT:s.TypeIs (.ref z) "zip":=#[_,hz,rfl];unfold pyNext;exact gV (wpAny_attempt (zaH (name:=Str.ofString "__next__") hT F.slot_zip_next (zaB F.slot_zip_next hT F.entry_zip_next ?_ (F.args_zip_next_1 _))));exact gV (m:=field (.ref z) 2) (za4 hz rfl (x:=.bool false) rfl ?_);exact gV (m:=field (.ref z) 3) (za4 hz rfl (x:=.ref TI) rfl ?_);exact gV (m:=seqItems? (.ref TI)) (zaC DZ rfl ?_);exact gV (m:=Builtin.SmallTypes.ownedTupleIsFree (.ref z)) (gV (m:=field (.ref z) 0) (za4 hz rfl (x:=.none) rfl (Ad ?_)));simp![if_true];exact gV (zaJ (gV (za4 hz rfl (x:=.ref TO) rfl (gV (zaQ hz #[] λ g1 HR e1=>?_)))));replace HR:IsZip g1 z TI TO .ellipsis:=HR;exact gV ?_;simp![DJ,List.zipIdx_nil,DW,List.forIn_nil];exact gV (gV (wpAny_onRaise (gV (m:=Builtin.SmallTypes.nextOf (.ref i1)) (draw (s1.on λ o q=>e1.extBut _ _ (Ne.symm n3) q) (h1.on λ o q=>e1.extBut _ _ a1 q) hx λ g2 s12 e2=>Ad ?_))));have to2:IsPair g2 TO a b:=e2.extBut _ _ n8 (e1.extBut _ _ (Ne.symm n2) ED);exact gV (zaC to2 rfl (gV (wpAny_updateSeq_pair to2 λ g3 to3 e3=>gV (zaM (Ad ?_)))));replace to3:IsPair g3 TO x b:=to3;have up:∀ c o,c≠z->c≠i1->c≠TO->s.heap.get? c=↑o->g3.get? c=↑o:=λ c o c1 c2 c3 q=>e3.extBut _ _ c3 (e2.extBut _ _ c2 (e1.extBut _ _ c1 q));exact gV (gV (wpAny_onRaise (gV (m:=Builtin.SmallTypes.nextOf (.ref i2)) (draw (s2.on λ o q=>up _ o (Ne.symm n4) (Ne.symm n10) (Ne.symm n9) q) (h2.on λ o q=>up _ o b1 b4 b3 q) hy λ g4 s24 e4=>Ad ?_))));have to4:IsPair g4 TO x b:=e4.extBut _ _ n9 to3;exact gV (zaC to4 rfl (gV (wpAny_updateSeq_pair to4 λ g5 to5 e5=>gV (zaM (Ad (Ad ?_))))));replace to5:IsPair g5 TO x y:=to5;exact gV (zaC to5 rfl (gV (wpAny_newTuple ?_)));have sz:g5.objs.size=s.heap.objs.size:=by rw[e5.1,e4.1,e3.1,e2.1,e1.1]
 have hz5:IsZip g5 z TI TO .ellipsis:=e5.extBut _ _ n2 (e4.extBut _ _ n4 (e3.extBut _ _ n2 (e2.extBut _ _ n3 HR)));have up5:∀ c o,c∉[z,TI,TO,i1,i2]->s.heap.get? c=↑o->g5.get? c=↑o:=λ c o hc q=>by
  simp![Ao,AY,or_false,not_or] at hc;show e5.extBut _ _ hc.2.2.1 (e4.extBut _ _ hc.2.2.2.2 (up c o hc.1 hc.2.2.2.1 hc.2.2.1 q))
 have ti5:IsPair g5 TI (.ref i1) (.ref i2):=e5.extBut _ _ n5 (e4.extBut _ _ n7 (up _ _ (Ne.symm n1) n6 n5 DZ));have s15:SI g5 k1 i1 l1 (n+1):=s12.on λ o q=>e5.extBut _ _ (Ne.symm n8) (e4.extBut _ _ n10 (e3.extBut _ _ (Ne.symm n8) q));have s25:SI g5 k2 i2 l2 (n+1):=s24.on λ o q=>e5.extBut _ _ (Ne.symm n9) q;have lz:z<g5.objs.size:=Ap hz5;exact gV (m:=Builtin.SmallTypes.ownedTupleHandOut (.ref z) (.ref g5.objs.size)) ?_;have hz6:IsZip (g5.push { cls:=.type "tuple",data:=.seq [x,y].toArray }) z TI TO .ellipsis:=za1 _ hz5;exact gV (zaQ hz6 #[] λ g7 hz7 e7=>?_);replace hz7:IsZip g7 z TI TO (rawInt g5.objs.size):=hz7;exact zaQ hz7 #[] λ g8 hz8 e8=>?_;replace hz8:IsZip g8 z TI TO (rawInt g5.objs.size):=hz8;have up8:∀ c o,c≠z->(g5.push { cls:=.type "tuple",data:=.seq [x,y].toArray }).get? c=↑o->g8.get? c=↑o:=λ c o c1 q=>e8.extBut _ _ c1 (e7.extBut _ _ c1 q);have T8:IsPair g8 g5.objs.size x y:=up8 _ _ (BM lz) (AJ _ rfl);have up9:∀ c o,c≠z->g5.get? c=↑o->g8.get? c=↑o:=λ c o c1 q=>up8 c o c1 (za1 _ q);rw[sz] at hz8 T8;exact Ad #[.ref g5.objs.size,rfl,Ad ?_];change Q ↑(.ref g5.objs.size) _;rw[sz];exact hQ g8 #[hz8,up9 _ _ (Ne.symm n1) ti5,#[x,y,up9 _ _ (Ne.symm n2) to5],s15.on λ o q=>up9 _ o (Ne.symm n3) q,s25.on λ o q=>up9 _ o (Ne.symm n4) q] T8 λ c o hc q=>up9 c o (λ e=>hc (by simp[e])) (up5 c o hc q)
def stop {k1 k2:Bool}{z TI TO i1 i2 l1 l2:Addr}{n:Nat}{xs ys:Aq}{Q:Option Value->Shared->Prop}(hh:A.handled=none) (D:j8 z TI TO i1 i2 l1 l2) (S:At s.heap k1 k2 z TI TO i1 i2 l1 l2 .none n)
  (h1:SQ s.heap k1 l1 xs) (h2:SQ s.heap k2 l2 ys) (BC:xs[n]?=none\/ys[n]?=none)
  (hQ:∀ h',(∀ c o,c∉[z,TI,TO,i1,i2]->s.heap.get? c=↑o->h'.get? c=↑o)->Q none { s with heap:=h' }):
  wpAny (model prog w) A (pyNext (.ref z)) Q E s:=by
 let#[nd,f1,f2]:=D;simp![BF,Ao,AY,or_false,not_or,List.nodup_nil,and_true,not_false_eq_true] at nd f1 f2;let#[#[n1,n2,n3,n4],#[n5,n6,n7],#[n8,n9],n10]:=nd;let#[a1,a2,a3,a4,a5]:=f1;let#[b1,b2,b3,b4,b5]:=f2;let#[hz,DZ,#[a,b,ED],s1,s2]:=S;have hT:s.TypeIs (.ref z) "zip":=#[_,hz,rfl];have fin:∀ (h':Heap) (e:Addr),(∀ c o,c∉[z,TI,TO,i1,i2]->s.heap.get? c=↑o->h'.get? c=↑o)->(∃ o,h'.get? e=↑o/\o.cls=.type "StopIteration")->
   wpAny (model prog w) A (do if <- isInstance (.ref e) (.type "StopIteration") then pure none else throw (.ref e)) Q E { s with heap:=h' }:=λ h' e k1 k2=>by
  let#[o,ho,hc]:=k2;show gV (wpAny_isInstance (T:="StopIteration") (b:=true) #[o,ho,hc] isSubtype_stop (Ad (hQ _ k1)))
 unfold pyNext;exact gV (wpAny_attempt (zaH (name:=Str.ofString "__next__") hT F.slot_zip_next (zaB F.slot_zip_next hT F.entry_zip_next ?_ (F.args_zip_next_1 _))));exact gV (m:=field (.ref z) 2) (za4 hz rfl (x:=.bool false) rfl ?_);exact gV (m:=field (.ref z) 3) (za4 hz rfl (x:=.ref TI) rfl ?_);exact gV (m:=seqItems? (.ref TI)) (zaC DZ rfl ?_);exact gV (m:=Builtin.SmallTypes.ownedTupleIsFree (.ref z)) (gV (m:=field (.ref z) 0) (za4 hz rfl (x:=.none) rfl (Ad ?_)));simp![if_true];exact gV (zaJ (gV (za4 hz rfl (x:=.ref TO) rfl (gV (zaQ hz #[] λ g1 HR e1=>?_)))));replace HR:IsZip g1 z TI TO .ellipsis:=HR;exact gV ?_;simp![DJ,List.zipIdx_nil,DW,List.forIn_nil];cases hx:xs[n]? with
 | none=>
  exact gV (gV (wpAny_onRaise (gV (m:=Builtin.SmallTypes.nextOf (.ref i1)) (kG hh (s1.on λ o q=>e1.extBut _ _ (Ne.symm n3) q) (h1.on λ o q=>e1.extBut _ _ a1 q) hx λ g2 ex e2 he=>?_))));have hz2:IsZip g2 z TI TO .ellipsis:=e2 _ _ n3 HR;let#[oe,q1,q2]:=he;have ne:ex≠z:=λ q=>by subst q;rw[hz2] at q1;cases q1;simp at q2
  exact zaQ hz2 #[] λ g3 _ e3=>fin g3 ex (λ c o hc q=>?_) #[oe,e3.extBut _ _ ne q1,q2];simp![Ao,AY,or_false,not_or] at hc;show e3.extBut _ _ hc.1 (e2 _ _ hc.2.2.2.1 (e1.extBut _ _ hc.1 q))
 | some x=>
  have hy:ys[n]?=none:=BC.resolve_left (by rw[hx];simp);exact gV (gV (wpAny_onRaise (gV (m:=Builtin.SmallTypes.nextOf (.ref i1)) (draw (s1.on λ o q=>e1.extBut _ _ (Ne.symm n3) q) (h1.on λ o q=>e1.extBut _ _ a1 q) hx λ g2 s12 e2=>Ad ?_))));have to2:IsPair g2 TO a b:=e2.extBut _ _ n8 (e1.extBut _ _ (Ne.symm n2) ED);exact gV (zaC to2 rfl (gV (wpAny_updateSeq_pair to2 λ g3 to3 e3=>gV (zaM (Ad ?_)))));have up:∀ c o,c≠z->c≠i1->c≠TO->s.heap.get? c=↑o->g3.get? c=↑o:=λ c o c1 c2 c3 q=>e3.extBut _ _ c3 (e2.extBut _ _ c2 (e1.extBut _ _ c1 q));exact gV (gV (wpAny_onRaise (gV (m:=Builtin.SmallTypes.nextOf (.ref i2)) (kG hh (s2.on λ o q=>up _ o (Ne.symm n4) (Ne.symm n10) (Ne.symm n9) q) (h2.on λ o q=>up _ o b1 b4 b3 q) hy λ g4 ex e4 he=>?_))));have hz4:IsZip g4 z TI TO .ellipsis:=e4 _ _ n4 (e3.extBut _ _ n2 (e2.extBut _ _ n3 HR));let#[oe,q1,q2]:=he;have ne:ex≠z:=λ q=>by subst q;rw[hz4] at q1;cases q1;simp at q2
  exact zaQ hz4 #[] λ g5 _ e5=>fin g5 ex (λ c o hc q=>?_) #[oe,e5.extBut _ _ ne q1,q2];simp![Ao,AY,or_false,not_or] at hc;show e5.extBut _ _ hc.1 (e4 _ _ hc.2.2.2.2 (up c o hc.1 hc.2.2.2.1 hc.2.2.1 q))
end
abbrev vx (k:Bool) (l:Addr):Obj:={ cls:=.type (gi k),data:=.fields [.ref l,.int 0 0].toArray }
abbrev pS (k1 k2:Bool) (h:Heap) (l1 l2:Addr):Heap:=(h.push (vx k1 l1)).push (vx k2 l2)
abbrev kq (k1 k2:Bool) (h:Heap) (l1 l2:Addr):Heap:=(pS k1 k2 h l1 l2).push { cls:=.type "tuple",data:=.seq [.ref h.objs.size,.ref (h.push (vx k1 l1)).objs.size].toArray }
abbrev ko (k1 k2:Bool) (h:Heap) (l1 l2:Addr):Heap:=(kq k1 k2 h l1 l2).push { cls:=.type "tuple",data:=.seq [.none,.none].toArray }
abbrev pR (k1 k2:Bool) (h:Heap) (l1 l2:Addr):Heap:=(ko k1 k2 h l1 l2).push { cls:=.type "zip",data:=.fields [.none,.bool false,.bool false,.ref (pS k1 k2 h l1 l2).objs.size,.ref (kq k1 k2 h l1 l2).objs.size].toArray }
def NH (k1 k2:Bool) (l1 l2:Addr) (xs ys:Aq):Meets (Builtin.«zip.__new__» #[[.type "zip",.ref l1,.ref l2],[]]) (λ _ R s=>SQ s.heap k1 l1 xs/\SQ s.heap k2 l2 ys/\
   R (.ok (.ret (.ref (ko k1 k2 s.heap l1 l2).objs.size))) { s with heap:=pR k1 k2 s.heap l1 l2 }):=
 .of_wp λ prog w A R s h=>by
  let#[hp,g,d,tk,os]:=s;let#[q1,q2,h]:=h;have EE:=sub_zip;have m1:SQ (Shared.heap #[hp,g,d,tk,os]) k1 l1 xs:=q1;have m2:SQ (Shared.heap #[hp.push (vx k1 l1),g,d,tk,os]) k2 l2 ys:=q2.on λ o e=>za1 _ e
  wp_walk using made m1,made m2
  show#[_,rfl,h]
section
variable {prog:Program}{w:World}{A:Around}{E:Af}{s:Shared}
def new {k1 k2:Bool}{l1 l2:Addr}{xs ys:Aq}{Q:Af}(h1:SQ s.heap k1 l1 xs) (h2:SQ s.heap k2 l2 ys)
  (h:∀ h' z TI TO i1 i2,(∀ b∈[z,TI,TO,i1,i2],s.heap.objs.size<=b)->j8 z TI TO i1 i2 l1 l2->At h' k1 k2 z TI TO i1 i2 l1 l2 .none 0->(∀ c o,s.heap.get? c=↑o->h'.get? c=↑o)->Q (.ref z) { s with heap:=h' }):
  wpAny (model prog w) A (call (.type "zip") [.ref l1,.ref l2]) Q E s:=by
 exact callType_new F.called_zip () (F.typeCall_zip_2 _ _) (F.newCall_zip_2 _ _) (λ obj=>F.args_object_init_3 obj _ _) F.entry_zip_new (NH k1 k2 l1 l2 xs ys) #[h1,h2,?_];have z1:(s.heap.push (vx k1 l1)).objs.size=s.heap.objs.size+1:=Heap.size_push ..;have z2:(pS k1 k2 s.heap l1 l2).objs.size=s.heap.objs.size+2:=by rw[Heap.size_push,z1]
 have z3:(kq k1 k2 s.heap l1 l2).objs.size=s.heap.objs.size+3:=by rw[Heap.size_push,z2]
 have z4:(ko k1 k2 s.heap l1 l2).objs.size=s.heap.objs.size+4:=by rw[Heap.size_push,z3]
 have p1:∀ (h:Heap) (o:Obj),o.isFreed=false->(h.push o).get? h.objs.size=↑o:=λ h o e=>AJ _ e;have u:∀ {h:Heap}{b:Addr}{o:Obj}(o':Obj),h.get? b=↑o->(h.push o').get? b=↑o:=λ o' e=>za1 _ e;have g5:(pR k1 k2 s.heap l1 l2).get? (ko k1 k2 s.heap l1 l2).objs.size=↑_:=p1 _ _ rfl;have g4:(pR k1 k2 s.heap l1 l2).get? (kq k1 k2 s.heap l1 l2).objs.size=↑_:=u _ (p1 _ _ rfl);have g3:(pR k1 k2 s.heap l1 l2).get? (pS k1 k2 s.heap l1 l2).objs.size=↑_:=u _ (u _ (p1 _ _ rfl));have g2:(pR k1 k2 s.heap l1 l2).get? (s.heap.push (vx k1 l1)).objs.size=↑(vx k2 l2):=u _ (u _ (u _ (p1 _ _ rfl)));have g1:(pR k1 k2 s.heap l1 l2).get? s.heap.objs.size=↑(vx k1 l1):=u _ (u _ (u _ (u _ (p1 _ _ rfl))));have a1:=h1.lt;have a2:=h2.lt;rw[z2,z3,z4] at g5;rw[z1,z2] at g3;rw[z3] at g4;rw[z1] at g2;generalize hN:s.heap.objs.size=N at *;have lt:∀ {m:Nat},m<N->∀ j:Nat,¬ m=N+j:=λ hm j=>⋯;have ne:∀ {i j:Nat},i≠j->¬ (N+i=N+j):=λ A7 e=>A7 ⋯;change _/\_;rw[z4];exact#[#[_,g5,rfl],h _ (N+4) (N+2) (N+3) N (N+1) (λ b hb=>?_) #[?_,?_,?_] #[g5,g3,#[_,_,g4],#[_,g1,rfl,rfl],#[_,g2,rfl,rfl]] λ c o e=>u _ (u _ (u _ (u _ (u _ e))))]
 .simp![Ao,AY,or_false] at hb;have h0:N<=N:=Ak N;rcases hb with e | e | e | e | e <;> subst e
  .show CV N 4
  .show CV N 2
  .show CV N 3
  .show h0
  .show CV N 1
 .have e0:∀ {i:Nat},i≠0->¬ (N+i=N):=λ hi e=>hi ⋯;have e0':∀ {i:Nat},i≠0->¬ (N=N+i):=λ hi e=>hi ⋯;simp![BF,Ao,AY,or_false,not_or,List.nodup_nil,and_true,not_false_eq_true];show#[#[ne (),ne (),e0 (),ne ()],#[ne (),e0 (),ne ()],#[e0 (),ne ()],e0' ()]
 .simp![Ao,AY,or_false,not_or];show#[lt a1 4,lt a1 2,lt a1 3,Aw a1,lt a1 1]
 .simp![Ao,AY,or_false,not_or];show#[lt a2 4,lt a2 2,lt a2 3,Aw a2,lt a2 1]
end
end ZP
namespace L2
open PySem PySem.Spec PyProof.Rows ZP
section
variable {X:Cx}{Fd:Ai}{O:St}{H:Hp}{s:Shared}
def Inv.l7 {h':Heap}{t':Nat}{fp:List Addr}(I:Inv X Fd O H s) (k:∀ b o,b∉fp->s.heap.get? b=↑o->h'.get? b=↑o) (hf:∀ b∈fp,vJ X Fd H b):Inv X Fd O H { s with heap:=h',toks:=t' }:=by
 have nit:∀ b u,H b=↑u->b∉fp:=λ b u e z=>by rw[(hf b z).1] at e;cases e
 exact I.step (g':=s.gens) (d':=s.drawn) (ch:=fp) (λ b hb=>?_) (λ b o _ _ hc e _=>k b o hc e) (λ b o _ _ hc e _=>#[o.slots,k b o hc e]) (λ _ _ _ _ n=>n)
  (λ b o hc e=>#[o,k b o hc e]) (λ _ _ e=>e) (λ _ _ _ e=>e) (λ b ps e=>#[[].toArray,by rw[e];simp]) (λ m hm=>?_) (λ b u e=>?_) I.bare
 .let#[_,q1,_,q2,q3,q4]:=hf b hb;show#[q2,q1,q3,q4]
 .let#[o,es,ep,ho,r]:=hm;show#[o,es,ep,k _ o (λ z=>(hf _ z).2.1 rfl) ho,r]
 .exact (I.zl b u e).wK (λ c v hc q=>k c v ?_ q) (λ _ q=>q) λ _ _ q=>q;rcases hc with z | z
  .rw[z];show nit b u e
  .show nit c _ z
def xQ (K:Ac) (H:Hp) (k:Bool) (a:Addr) (xs:List V):Prop:=match k with
 | true=>zO K H a xs
 | false=>zH K H a xs
def xQ.of (I:Inv X Fd O H s) {k:Bool}{a:Addr}{xs:List V}(h:xQ X.K H k a xs):∃ Aa:List Value,Vals xs Aa/\SQ s.heap k a Aa.toArray:=by
 cases k with
 | true=>let#[Aa,rv,p,_]:=I.tuple h;show#[Aa,rv,p]
 | false=>let#[Aa,rv,p,_]:=I.list h;show#[Aa,rv,p.isList]
def xQ.inj (I:Inv X Fd O H s) {k:Bool}{a:Addr}{xs ys:List V}(h:xQ X.K H k a xs) (h':xQ X.K H k a ys):xs=ys:=by
 cases k with
 | true=>show I.jS h h'
 | false=>show I.hJ h h'
def YB (K:Ac) (k1 k2:Bool) (a1 a2:Addr):It:=
 #[λ i H=>∃ xs ys x y,xQ K H k1 a1 xs/\xQ K H k2 a2 ys/\xs[i]?=↑x/\ys[i]?=↑y,
   λ i H v H'=>∃ p x y,v=.ref p/\H p=none/\H'=upd H p (.tup [x,y])/\(∀ xs,xQ K H k1 a1 xs->xs[i]?=↑x)/\∀ ys,xQ K H k2 a2 ys->ys[i]?=↑y,
   λ i H=>∃ xs ys,xQ K H k1 a1 xs/\xQ K H k2 a2 ys/\(xs.length<=i\/ys.length<=i)]
def W_ {P:Program}{w:World}{K:Ac}{es:List Expr}{kk} {pos:Pos}{k1 k2:Bool}{z TI TO i1 i2 a1 a2:Addr}(D:j8 z TI TO i1 i2 a1 a2):
  Turn P w K (.Tuple es kk pos) (YB K k1 k2 a1 a2) [z,TI,TO,i1,i2] z (λ i h=>At h k1 k2 z TI TO i1 i2 a1 a2 .none i) where
 mem:=#[]
 obj:=λ i h st b hb=>by
  let#[q1,q2,#[_,_,q3],#[o1,q4,_,d1],#[o2,q5,_,d2]]:=st;simp![Ao,AY,or_false] at hb;rcases hb with e | e | e | e | e <;> subst e
  .show#[_,q1,λ v z=>by cases z]
  .show#[_,q2,λ v z=>by cases z]
  .show#[_,q3,λ v z=>by cases z]
  .show#[_,q4,λ v z=>by rw[d1] at z;cases z]
  .show#[_,q5,λ v z=>by rw[d2] at z;cases z]
 keep:=λ i h h' st k=>st.keep k
 item:=by
  intro X hP hw hK hc i Fd s O H E I hf st hg;subst hP hw hK;let#[xs,ys,x,y,g1,g2,hx,hy]:=hg;let#[it1,rv1,q1]:=g1.of I;let#[it2,rv2,q2]:=g2.of I;let#[u1,e1,r1]:=rv1.get hx;let#[u2,e2,r2]:=rv2.get hy;exact ZP.item D st q1 q2 (x:=u1) (y:=u2) (by exists e1) (by exists e2) λ h' S' T' up=>#[_,rfl,?_];exact wpAny_letOwnedTupleGo_zip S'.z λ h2 z2 sb=>?_;have nT:s.heap.objs.size∉[z,TI,TO,i1,i2]:=λ hb=>by
   let#[o,ho,_]:=(show ∃ o,s.heap.get? s.heap.objs.size=↑o/\True from by
    let#[w1,w2,#[_,_,w3],#[o1,w4,_],#[o2,w5,_]]:=st;simp![Ao,AY,or_false] at hb;rcases hb with e | e | e | e | e <;> rw[e]
    .show#[_,w1,trivial]
    .show#[_,w2,trivial]
    .show#[_,w3,trivial]
    .show#[_,w4,trivial]
    .show#[_,w5,trivial])
   show absurd (Ap ho) (Cg _)
  have nz:s.heap.objs.size≠z:=λ e=>nT (by simp[e]);have fr:H s.heap.objs.size=none:=I.zl.fresh (Ak _);have I1:Inv X Fd O (upd H s.heap.objs.size (.tup [x,y])) { s with heap:=s.heap.push { cls:=.type "tuple",data:=.seq [u1,u2].toArray },toks:=s.toks }:=
   I.laid (o:=.tup [x,y]) (λ b u q=>za1 _ q) (Ak _) #[#[by change 2<=sizeLine;decide,.new _],[u1,u2],.cons r1 (.cons r2 .nil),IsTup.new _ _]
  have HU:∀ b∈[z,TI,TO,i1,i2],upd H s.heap.objs.size (.tup [x,y]) b=none:=λ b hb=>by
   rw[zE (λ e=>nT (by rw[<- e];show hb))];show (hf b hb).1
  have kk:∀ b o,b∉[z,TI,TO,i1,i2]->(s.heap.push { cls:=.type "tuple",data:=.seq [u1,u2].toArray }).get? b=↑o->h2.get? b=↑o:=λ b o hb q=>by
   have E9:b≠z:=λ e=>hb (by simp[e]);by_cases DH:b=s.heap.objs.size
   .subst DH;rw[AJ _ rfl] at q;cases q;show sb.extBut _ _ nz T'
   .have q':s.heap.get? b=↑o:=by rw[Heap.get?_push_ne _ _ _ DH] at q;show q
    show sb.extBut _ _ E9 (up b o hb q')
  have I2:=Inv.l7 (h':=h2) (t':=s.toks) (fp:=[z,TI,TO,i1,i2]) I1 kk λ b hb=>#[HU b hb,(hf b hb).2];exact#[.ref s.heap.objs.size,_,I2,rfl,#[_,x,y,rfl,fr,rfl,λ zs hz=>by rw[hz.inj I g1];show hx,λ zs hz=>by rw[hz.inj I g2];show hy],#[z2,?_,?_,?_,?_],HU]
  .have nd:=D.nd;simp![BF,Ao,AY,or_false,not_or] at nd;show sb.extBut _ _ (Ne.symm nd.1.1) S'.ti
  .let#[a,b,e]:=S'.to;have nd:=D.nd;simp![BF,Ao,AY,or_false,not_or] at nd;show#[a,b,sb.extBut _ _ (Ne.symm nd.1.2.1) e]
  .have nd:=D.nd;simp![BF,Ao,AY,or_false,not_or] at nd;show S'.s1.on λ o q=>sb.extBut _ _ (Ne.symm nd.1.2.2.1) q
  .have nd:=D.nd;simp![BF,Ao,AY,or_false,not_or] at nd;show S'.s2.on λ o q=>sb.extBut _ _ (Ne.symm nd.1.2.2.2) q
 done:=by
  intro X hP hw hK hc i Fd s O H E I hf st hg;subst hP hw hK;let#[xs,ys,g1,g2,hx]:=hg;let#[it1,rv1,q1]:=g1.of I;let#[it2,rv2,q2]:=g2.of I;have l1:=rv1.length;have l2:=rv2.length;exact ZP.stop (I.ok.hd hc) D st q1 q2 ?_ λ h' up=>#[rfl,I.l7 (t':=s.toks) up hf];rcases hx with hx | hx
  .show .inl (by simp;lia)
  .show .inr (by simp;lia)
 self:=λ _ _ _ _ _ st h=>wpAny_pyIter_zip st.z h
def MR (K:Ac) (ta:TA):TI:=fun O H R=>ta O H λ vs H1=>∃ a1 a2 k1 k2,vs=[.ref a1,.ref a2]/\(∃ xs,xQ K H1 k1 a1 xs)/\(∃ ys,xQ K H1 k2 a2 ys)/\R (YB K k1 k2 a1 a2) H1
theorem UY {a b:Expr}{ta:TA}{p pos pos':Pos}{es:List Expr}{kk} (hg:Gl X "zip") (hm:X.mg "zip"=none) (ha:PA X [a,b] ta) (hs:starEach [a,b] X.env=[(false,eval a X.env),(false,eval b X.env)]:=by rfl) (HW:starEach [b] X.env=[(false,eval b X.env)]:=by rfl):
  PI X (.Tuple es kk pos') (.Call (.Name "zip" p) [a,b] [] pos) (MR X.K ta):=by
 intro Fd s O H R I h;exact Call_ (rq I hg hm boot_zip (PyProof.Rows.callWith_type1 (zt (ha pos Fd s O H _ I h) λ us s1 #[vs,H1,I1,r1,q1]=>?_) (by rw[hs,HW]) (by rw[HW];rfl)));let#[a1,a2,k1,k2,rfl,#[xs,g1],#[ys,g2],q]:=q1;cases r1 with
 | cons r rr=>
  cases rr with
  | cons r' rr=>
   cases rr;cases r;cases r';let#[it1,_,q1]:=g1.of I1;let#[it2,_,q2]:=g2.of I1;exact ZP.new q1 q2 λ h' z TI TO i1 i2 nw D S up=>wpAny_pyIter_zip S.z ?_;show#[z,[z,TI,TO,i1,i2],_,_,H1,rfl,I1.kept (t':=s1.toks) up,W_ D,S,λ b hb=>I1.nR (nw b hb) (I1.zl.fresh (nw b hb)),q]
end
end L2
namespace L5
open PySem PySem.Spec L2 L3
open PyProof.Rows hiding St
section
variable {K:Ac}{a:Expr}{p:Pos}
def ar (t:zZ):xC:=fun L S R=>t L S λ ds S1=>∃ d e xs ys,ds=[d,e]/\zK d S1=↑xs/\zK e S1=↑ys/\R #[List.zipWith (λ x y=>D.tup [x,y]) xs ys,λ S=>zK d S=↑xs/\zK e S=↑ys] S1
def nK:D->Bool
 | .tup _=>true
 | _=>false
def zK.k {H:Hp}{S:SS}{d:D}{v:V}{ds:List D}(r:ze K H d v) (p:zB K H S) (e:zK d S=↑ds):∃ a xs,v=.ref a/\xQ K H (nK d) a xs/\zh K H ds xs:=by
 by_cases q:∃ ts,d=.tup ts
 .let#[ts,rfl]:=q;cases e;simp![ze] at r;let#[a,xs,h1,h2,h3]:=r;show#[a,xs,h1,h2,h3]
 .let#[a,xs,h1,h2,h3]:=rf r p e λ ts z=>q #[ts,z];exact#[a,xs,h1,?_,h3];have:nK d=false:=by cases d <;> first | rfl | show absurd #[_,rfl] q
  rw[this];show h2
end
section
variable {X:Cx}{a b:Expr}{tA:zZ}{pos p pos':Pos}{es:List Expr}{kk:Nat}
def SX (hm:X.mg "zip"=none) (ha:yH X [a,b] tA) (hg:Gl X "zip") (hs:starEach [a,b] X.env=[(false,eval a X.env),(false,eval b X.env)]) (HW:starEach [b] X.env=[(false,eval b X.env)]):
  wZ X (.Tuple es kk pos') (.Call (.Name "zip" p) [a,b] [] pos) (ar tA):=by
 exact#[fun L S Q Q' hq z=>ha.mo L S _ _ (λ ds S1 #[d,e,xs,ys,h1,h2,h3,h4]=>#[d,e,xs,ys,h1,h2,h3,hq _ _ h4]) z,PI.imp (UY hg hm ha.pa hs HW) fun O H R hu=>?_];let#[L,S,r1,r2,z]:=hu;exact xH.go ha.mo r1 r2 z λ ds S1 vs H1 h1 q1 e1 p1=>?_;let#[d,e,xs,ys,rfl,s1,s2,h]:=h1;let#[v,u,rfl,d1,d2]:=q1.two;let#[a1,us,rfl,g1,g2]:=zK.k d1 p1 s1;let#[a2,ws,rfl,g3,g4]:=zK.k d2 p1 s2;exact#[a1,a2,nK d,nK e,rfl,#[us,g1],#[ws,g3],h _ H1 e1 p1 λ i H2 S2 x1 x2 hk=>?_];let#[b1,us2,q1,m1,m2]:=zK.k (ze.ext x1 d d1) x2 hk.1;cases q1;let#[b2,ws2,q2,m3,m4]:=zK.k (ze.ext x1 e d2) x2 hk.2;cases q2;have l1:=m2.length;have l2:=m4.length;exact#[λ dd hd=>?_,λ hl=>#[us2,ws2,m1,m3,?_]]
 .rw[List.getElem?_zipWith] at hd;split at hd
  .rename_i dx dy hx hy;cases hd;let#[x,hx',rx]:=m2.get hx;let#[y,hy',ry]:=m4.get hy;exact#[#[us2,ws2,x,y,m1,m3,hx',hy'],λ v H' q=>?_];let#[pp,x',y',rfl,hp,rfl,f1,f2]:=q;have ex:x'=x:=by have:=f1 _ m1;rw[hx'] at this;show (A_ this).symm
   have ey:y'=y:=by have:=f2 _ m3;rw[hy'] at this;show (A_ this).symm
   subst ex ey;exact#[.new hp _,x2.new hp,?_];simp![ze];show#[pp,_,rfl,zO.of zX,zh.ext (.new hp _) _ (.cons rx (.cons ry .nil))]
  .cases hd
 .have Hx:(List.zipWith (λ x y=>D.tup [x,y]) xs ys).length<=i:=hl;rw[List.length_zipWith] at Hx;lia
@[simp] def qV:List T->Option (List T)
 | [x,y]=>(xI x).bind λ xs=>(xI y).map λ ys=>List.zipWith (λ a b=>T.tup [a,b]) xs ys
 | _=>none
theorem dM {S:SS}:∀ {ts us:List T}{ds es:List D},zg S ts ds->zg S us es->zg S (List.zipWith (λ a b=>T.tup [a,b]) ts us) (List.zipWith (λ x y=>D.tup [x,y]) ds es)
 | [],us,ds,es,h,h'=>by simp![zg] at h;subst h;exists zg.nil
 | t::ts,[],ds,es,h,h'=>by simp![zg] at h';subst h';exists zg.nil
 | t::ts,u::us,ds,es,h,h'=>by
  simp![zg] at h h';let#[c,cs,rfl,h1,h2]:=h;let#[c',cs',rfl,h3,h4]:=h';show zg.cons (qh (zg.cons h1 (zg.cons h3 zg.nil))) (dM h2 h4)
def zK.sx {S S':SS}{d:D}{ds:List D}(h:zK d S=↑ds) (s:Sx S S'):zK d S'=↑ds:=by
 unfold zK at h ⊢;split at h
 .show h
 .show h
 .split at h
  .rename_i q;cases h;rw[s _ _ q]
  .cases h
 .cases h
def Pb {g:Ev->Option (List T)}(h:rV g tA):rR false (xa qV g) (ar tA):=λ S Z L Y ts Q hE e hq=>by
 let#[ys,e1,e2]:=An.mp e;exact h S Z L Y ys _ hE e1 λ ds S1 s1 r1=>?_;unfold qV at e2;split at e2
 .let#[xs,e3,e4]:=An.mp e2;let#[zs,e5,rfl]:=AK.mp e4;let#[d,d',rfl,h1,h2]:=eY r1;let#[es,g1,g2]:=h1.seq e3;let#[Gr,g3,g4]:=h2.seq e5;show#[d,d',es,Gr,rfl,g1,g3,hq _ S1 s1 (dM g2 g4) λ S'' s=>#[zK.sx g1 s,zK.sx g3 s]]
 .cases e2
end
end L5
namespace HT
open PySem PyProof.Rows
section
variable {prog:Program}{w:World}{A:Around}{E:Af}{s:Shared}
def Kw {t sl:Addr}{items:Aq}{vl vu:Value}{lo hi:Option Int}{Q:Af}(ht:IsTup s.heap t items) (hs:s.heap.IsSliceOf sl vl vu .none) (pl:IsPart vl lo) (pu:IsPart vu hi)
  (hw:zA items.size 0 lo=0/\zA items.size items.size hi=items.size) (h:Q (.ref t) s):wpAny (model prog w) A (getItem (.ref t) (.ref sl)) Q E s:=by
 have hT:=ht.typeIs;let#[os,e1,e2,e3]:=id hs;have hS:s.TypeIs (.ref sl) "slice":=#[os,e1,e2];unfold getItem
 try with_reducible exact za7 ?_
 first | exact gV (Ad ?_) | skip
 exact gV (wpAny_sequenceKey hT () (gV (zaH (name:=Str.ofString "__getitem__") hT PyProof.Rows.slot_tuple_getitem (zaB PyProof.Rows.slot_tuple_getitem hT entry_tuple_getitem ?_ (args_tuple_getitem _ _)))));exact gV (m:=Builtin.Tuple.tupleItemsOf (.ref t)) (tupleItemsOf_ ht (gV (zaI hS ?_)));rw[if_pos ()];exact gV (dU hs pl pu ?_);have yes:(((zA items.size 0 lo:Nat):Int) == 0&&(1:Int) == 1&&(zA items.size items.size hi-zA items.size 0 lo) == items.size)=true:=by rw[hw.1,hw.2];simp
 change wpAny _ _ (if (((zA items.size 0 lo:Nat):Int) == 0&&(1:Int) == 1&&(zA items.size items.size hi-zA items.size 0 lo) == items.size)=true then _ else _) _ _ s;rw[if_pos yes];exact gV (m:=Builtin.Tuple.tupleIsExact (.ref t)) (gV (zaI hT (Ad ?_)));rw[if_pos ()]
 first
  | show gV (zaJ (Ad #[_,rfl,Ad h]))
  | show gV (zaJ (gV (Ad (Ad #[_,rfl,Ad h]))))
end
end HT
namespace L2
open PySem PySem.Spec PyProof.Rows
section
variable {X:Cx}
def c8 (K:Ac):V->Option Int->Option Int->Hp->VK->Prop:=λ x lo hi H Q=>∃ a xs,x=.ref a/\zO K H a xs/\(HT.zA xs.length 0 lo=0/\HT.zA xs.length xs.length hi=xs.length)/\Q (.ref a) H
theorem VS:rN X (c8 X.K):=by
 intro Fd s O H x v vl vu lo hi sl Q I rx hs pl pu h;let#[a,xs,rfl,hx,hw,q]:=h;cases rx;let#[Aa,r,ht,hz]:=I.tuple hx;have hlen:Aa.toArray.size=xs.length:=by rw[AB];show r.length.symm
 show#["tuple",_,PyProof.Rows.slot_tuple_getitem.lookup,ht.typeIs,HT.Kw ht hs pl pu (by rw[hlen];show hw) #[.ref a,H,I,rfl,q]]
end
end L2
namespace L5
open PySem PySem.Spec L2 L3
open PyProof.Rows hiding St
def uh {α:Type}(xs:List α) (lo hi:Option Int):List α:=(xs.drop (HT.zA xs.length 0 lo)).take (HT.zA xs.length xs.length hi-HT.zA xs.length 0 lo)
section
variable {X:Cx}{K:Ac}{e:Expr}{lo hi:Option Expr}{te:zq}{tl th:Option zq}{pos p2:Pos}
def uM (t:Option zq):zW->SS->(Option Int->SS->Prop)->Prop:=fun L S Q=>match t with
 | none=>Q none S
 | some t=>t L S λ d S1=>match d with
  | .int i=>Q ↑i S1
  | _=>False
def Y9 (t:Option zq):Prop:=∀ u,t=↑u->ye u
def uM.mo (h:Y9 tl):∀ L S (Q Q':Option Int->SS->Prop),(∀ d S',Q d S'->Q' d S')->uM tl L S Q->uM tl L S Q':=fun L S Q Q' hq z=>by
 cases tl with
 | none=>show hq _ _ z
 | some t=>show h t rfl L S _ _ (λ d S1 z=>by cases d <;> first | show hq _ _ z | show z) z
def WR (K:Ac) (t:Option zq):TO:=fun O H Q=>∃ L S,yh K H L O/\zB K H S/\uM t L S λ o S1=>∀ H1,Ext H H1->zB K H1 S1->Q o H1
structure jr (X:Cx) (e:Option Expr) (t:Option zq):Prop where
 mo:Y9 t
 po:PO X e (WR X.K t)
def SW:jr X none none:=#[nofun,λ Fd s O H Q I h=>by
 let#[L,S,r1,r2,z]:=h;show UP Fd s O H Q I (z H (.refl H) r2)]
def SV (h:PD X e te):jr X ↑e ↑te:=#[λ u q=>by cases q;show h.mo,λ Fd s O H Q I hu=>by
 exact UO h.pe Fd s O H Q I ?_;let#[L,S,r1,r2,z]:=hu;exact zF.go h.mo r1 r2 z λ d S1 v H1 h1 q1 e1 p1=>?_;cases d with
 | int i=>simp![ze] at q1;show#[i,q1,h1 H1 e1 p1]
 | zo=>show h1.elim
 | bl _=>show h1.elim
 | str _=>show h1.elim
 | err _ _ _=>show h1.elim
 | tup _=>show h1.elim
 | xi _=>show h1.elim
 | ref _=>show h1.elim]
def uI (d:D) (lo hi:Option Int) (S:SS) (Q:DK):Prop:=match d with
 | .tup ds=>Q (.tup (uh ds lo hi)) S
 | d=>∃ ds,zK d S=↑ds/\∀ p,S p=none->Q (.ref p) (ups S p (.lst (uh ds lo hi)))
def uI.mo {d:D}{lo hi:Option Int}{S:SS}{Q Q':DK}(hq:∀ d S',Q d S'->Q' d S') (h:uI d lo hi S Q):uI d lo hi S Q':=by
 unfold uI at h ⊢;split at h
 .show hq _ _ h
 .let#[ds,h1,h2]:=h;show#[ds,h1,λ p hp=>hq _ _ (h2 p hp)]
def zh.cut {H:Hp}{ds:List D}{xs:List V}(h:zh K H ds xs) (lo hi:Option Int):zh K H (uh ds lo hi) (tE xs lo hi):=by
 have hd:∀ {ds:List D}{xs:List V}(n:Nat),zh K H ds xs->zh K H (ds.drop n) (xs.drop n):=by
  intro ds
  induction ds with
  | nil=>intro xs n h;simp![zh] at h;subst h;exists zh.nil
  | cons d ds ih=>
   intro xs n h;simp![zh] at h;let#[y,ys,rfl,h1,h2]:=h;cases n with
   | zero=>show .cons h1 h2
   | succ n=>show ih n h2
 have ht:∀ {ds:List D}{xs:List V}(n:Nat),zh K H ds xs->zh K H (ds.take n) (xs.take n):=by
  intro ds
  induction ds with
  | nil=>intro xs n h;simp![zh] at h;subst h;exists zh.nil
  | cons d ds ih=>
   intro xs n h;simp![zh] at h;let#[y,ys,rfl,h1,h2]:=h;cases n with
   | zero=>show .nil
   | succ n=>show .cons h1 (ih n h2)
 unfold uh tE;rw[h.length];show ht _ (hd _ h)
def Kx {xs:List V}{lo hi:Option Int}(h:HT.zA xs.length 0 lo=0/\HT.zA xs.length xs.length hi=xs.length):tE xs lo hi=xs:=by
 unfold tE;rw[h.1,h.2];simp
abbrev Uw (K:Ac):V->Option Int->Option Int->Hp->VK->Prop:=λ x lo hi H Q=>cA K x lo hi H Q\/(c9 K x lo hi H Q\/c8 K x lo hi H Q)
theorem uI.fits {d:D}{v:V}{lo hi:Option Int}{H:Hp}{S:SS}{Q:VK}(h1:ze K H d v) (h2:zB K H S) (h:uI d lo hi S (x8 K H Q)):Uw K v lo hi H Q:=by
 unfold uI at h;split at h
 .simp![ze] at h1;let#[a,xs,rfl,g1,g2]:=h1;by_cases hw:HT.zA xs.length 0 lo=0/\HT.zA xs.length xs.length hi=xs.length
  .exact .inr (.inr #[a,xs,rfl,g1,hw,h _ H ?_ (.refl H) h2]);simp![ze];exact#[a,xs,rfl,g1,?_];have:=zh.cut g2 lo hi;rw[Kx hw] at this;show this
  .exact .inr (.inl #[a,xs,rfl,g1,hw,λ p hp=>h _ _ ?_ (.new hp _) (h2.new hp)]);simp![ze];show#[p,_,rfl,zO.of zX,zh.ext (.new hp _) _ (zh.cut g2 lo hi)]
 .rename_i hn;let#[ds,e,h]:=h;let#[a,xs,rfl,g1,g2]:=rf h1 h2 e (λ ts z=>hn ts z);show .inl #[a,xs,rfl,g1,λ p hp=>h p (h2.none hp) _ _ (by simp![ze]) (.new hp _) (h2.ups (.new hp _) #[_,zX,zh.ext (.new hp _) _ (zh.cut g2 lo hi)])]
def ZA (te:zq) (tl th:Option zq):zq:=fun L S Q=>te L S λ x S1=>uM tl L S1 λ l S2=>uM th L S2 λ u S3=>uI x l u S3 Q
def Rx (he:PD X e te) (hl:jr X lo tl) (hh:jr X hi th):PD X (.Subscript e (.Slice lo hi none p2) pos) (ZA te tl th):=by
 exact#[fun L S Q Q' hq z=>he.mo L S _ _ (λ x S1 z=>uM.mo hl.mo L S1 _ _ (λ l S2 z=>uM.mo hh.mo L S2 _ _ (λ u S3 z=>uI.mo hq z) z) z) z,
  PE.imp (Tv (VV.or (VT.or VS)) he.pe hl.po hh.po) fun O H Q hu=>?_]
 let#[L,S,r1,r2,z]:=hu;exact zF.go he.mo r1 r2 z λ x S1 v H1 h1 q1 e1 p1=>?_;exact#[L,S1,r1.ext e1,p1,uM.mo hl.mo L S1 _ _ (λ l S2 h2 H2 e2 p2=>?_) h1];exact#[L,S2,(r1.ext e1).ext e2,p2,uM.mo hh.mo L S2 _ _ (λ u S3 h3 H3 e3 p3=>?_) h2];show uI.fits (ze.ext (e2.trans e3) x q1) p3 (uI.mo (λ d S' z=>z.ext ((e1.trans e2).trans e3)) h3)
@[simp] def mr:Option (Ev->Option T)->Ev->Option (Option Int)
 | none,_=>↑none
 | some f,Y=>(f Y).bind λ x=>match x with
  | .int i=>↑↑i
  | _=>none
def jx (f:Option (Ev->Option T)) (t:Option zq):Prop:=∀ S Z L Y y Q,ER S Z L Y->mr f Y=↑y->(∀ S',Sx S S'->Q y S')->uM t L S Q
def Pu:jx none none:=λ S Z L Y y Q hE e hq=>by cases e;show hq S (.refl S)
def Pt {f:Ag}(h:yk f te):jx ↑f ↑te:=λ S Z L Y y Q hE e hq=>by
 let#[x,e1,e2]:=An.mp e;exact h S Z L Y x _ hE e1 λ d S1 s1 r1=>?_;split at e2
 .cases e2;cases Vw.int r1;show hq S1 s1
 .cases e2
@[simp] def kQ (lo hi:Option Int):T->Option T
 | .tup ts=>↑(.tup (uh ts lo hi))
 | .lst ts=>↑(.lst (uh ts lo hi))
 | _=>none
@[simp] def lI (f:Ag) (lo hi:Option (Ev->Option T)):Ag:=fun Y=>(f Y).bind λ x=>(mr lo Y).bind λ l=>(mr hi Y).bind λ u=>kQ l u x
def zg.cut {S:SS}{ts:List T}{ds:List D}(h:zg S ts ds) (lo hi:Option Int):zg S (uh ts lo hi) (uh ds lo hi):=by
 unfold uh;rw[h.len];show zg.take' _ (zg.drop' _ h)
def PR {f:Ag}{l u:Option (Ev->Option T)}(h:yk f te) (hl:jx l tl) (hu:jx u th):yX (lI f l u) (ZA te tl th):=λ S Z L Y y Q hE e hq=>by
 let#[x,e1,e]:=An.mp e;let#[l',e2,e]:=An.mp e;let#[u',e3,e]:=An.mp e;exact h S Z L Y x _ hE e1 λ d S1 s1 r1=>?_;exact hl S1 Z L Y l' _ (hE.grow s1) e2 λ S2 s2=>?_;exact hu S2 Z L Y u' _ (hE.grow (s1.trans s2)) e3 λ S3 s3=>?_;have r3:Vw S3 Z x d:=Vw.grow r1 (s2.trans s3);have hz:=(hE.grow ((s1.trans s2).trans s3)).zd;unfold kQ at e;split at e
 .cases e;let#[ds,rfl,h2]:=r3.tup;show hq _ S3 ((s1.trans s2).trans s3) (Cl.of (λ _=>nofun) (qh (zg.cut h2 _ _)))
 .cases e;let#[ds,h1,h2]:=r3.seq rfl;have key:∃ ds,zK d S3=↑ds/\∀ p,S3 p=none->Q (.ref p) (ups S3 p (.lst (uh ds l' u'))):=#[ds,h1,λ p hp=>hq _ _ (((s1.trans s2).trans s3).trans (.new hp _)) (Cl.cl ((s1.trans s2).trans s3) (tZ hz hp (zg.cut h2 _ _)))];obtain⟨_,q | ⟨a,q,_⟩,_⟩:=r3.lst
  .subst q;show key
  .subst q;show key
 .cases e
end
end L5
namespace TM
open PySem PyProof.Rows
def noFill:fillsNumberSlot (.type "tuple") "mul"=pure false:=
 PySem.fillsNumberSlot_seq (id:="tuple.__mul__") (r:=↑(.builtin "tuple.__rmul__")) F.slot_tuple_mul.lookup (AI) F.slot_tuple_rmul.lookup (AI)
def rep:seqRepeat? (.type "tuple")=pure ↑(.builtin "tuple.__mul__"):=by
 have a:=PySem.seqSlot_of (T:="tuple") (name:="__mul__") (id:="tuple.__mul__") F.slot_tuple_mul.lookup (AI);have b:=PySem.seqSlot_of (T:="tuple") (name:="__rmul__") (id:="tuple.__rmul__") F.slot_tuple_rmul.lookup (AI);unfold seqRepeat?;rw[a,b];rfl
def declines (i:Int) (t:Tok) (l:Addr) (items:Aq) (n:Nat) (dd:Option Addr) (sl:Array (Option Value)):
  Meets (Builtin.«int.__rmul__» #[[.int i t,.ref l],[]]) (λ _ R s=>s.heap.get? l=↑{ cls:=.type "tuple",dict:=dd,data:=.seq items n,slots:=sl }/\R (.ok (.ret Value.notImplemented)) s):=
 .of_wp λ prog w A R s h=>by
  let#[hp,g,d,tk,os]:=s;let#[hl,h]:=h
  wp_walk
  show#[_,rfl,h]
theorem gI {α:Type}(xs:List α):∀ (m:Nat) (acc:Array α),(List.replicate m xs.toArray).foldl (·++·) acc=acc++(List.replicate m xs).flatten.toArray
 | 0,acc=>#[]
 | m+1,acc=>by
  rw[Cc,DM,gI xs m,Cc,Cy,Eu];simp
def N6 (k:Int) (t:Tok) (l:Addr) (items:Aq) (n:Nat) (dd:Option Addr) (sl:Array (Option Value)) (h1:¬ (decide (k < -(2 ^ 63))||decide (k≥2 ^ 63))=true) (h2:¬ (items.isEmpty||k == 1)=true) (h3:¬ (decide (k<=0)||items.isEmpty)=true)
  (h4:¬ (items.size*k>(2 ^ 63-1)/8)) (h5:¬ Builtin.Tuple.tupleTooMany (items.size*k)=true) (h6:((List.replicate k.toNat items).foldl (·++·) [].toArray).size<=sizeLine):
  Meets (Builtin.«tuple.__mul__» #[[.ref l,.int k t],[]]) (λ _ R s=>s.heap.get? l=↑{ cls:=.type "tuple",dict:=dd,data:=.seq items n,slots:=sl }/\
   R (.ok (.ret (.ref s.heap.objs.size))) { s with heap:=s.heap.push { cls:=.type "tuple",data:=.seq ((List.replicate k.toNat items).foldl (·++·) [].toArray) } }):=
 .of_wp λ prog w A R s h=>by
  let#[hp,g,d,tk,os]:=s;let#[hl,h]:=h;have e0:IsTup (Shared.heap #[hp,g,d,tk,os]) l items:=#[_,hl,rfl,n,rfl]
  wp_walk
  rw[if_neg h1];exact gV (m:=Builtin.Tuple.tupleItemsOf (.ref l)) (tupleItemsOf_ e0 ?_);dsimp only;rw[if_neg h2,if_neg h3,if_neg h4,if_neg h5];show gV (m:=Builtin.Tuple.tupleExact _) (za9 (Ad #[_,rfl,h]) h6)
def N7 (t:Tok) (l:Addr) (items:Aq) (n:Nat) (dd:Option Addr) (sl:Array (Option Value)):
  Meets (Builtin.«tuple.__mul__» #[[.ref l,.int 1 t],[]]) (λ _ R s=>s.heap.get? l=↑{ cls:=.type "tuple",dict:=dd,data:=.seq items n,slots:=sl }/\R (.ok (.ret (.ref l))) s):=
 .of_wp λ prog w A R s h=>by
  let#[hp,g,d,tk,os]:=s;let#[hl,h]:=h;have c:(items.isEmpty||(1:Int) == 1)=true:=#[]
  wp_walk
  show#[_,rfl,h]
section
variable {prog:Program}{w:World}{A:Around}{E:Af}{s:Shared}
def times {l:Addr}{Aa:Ae}{k:Int}{t:Tok}{Q:Af}(ht:IsTup s.heap l Aa.toArray) (Ay:Aa≠[]) (h0:1<=k) (hz:Aa.length*k.toNat<=sizeLine)
  (one:k=1->Q (.ref l) s) (more:k≠1->Q (.ref s.heap.objs.size) { s with heap:=s.heap.push { cls:=.type "tuple",data:=.seq (List.replicate k.toNat Aa).flatten.toArray } }):
  wpAny (model prog w) A (binaryOp .Mult (.ref l) (.int k t)) Q E s:=by
 have hT:=ht.typeIs;let#[#[cls,dd,data,sl],ho,hc,n,hd]:=id ht;simp only at hc hd;subst hc hd;exact wpAny_binaryOp_repeat_ref (T:="tuple") (U:="int") () hT (λ s'=>typeIs_int s' k t) noFill F.fills_int_mul F.slot_int_rmul rep F.slot_int_index.lookup
  (call_meets F.slot_int_rmul (typeIs_int s k t) F.entry_int_rmul (F.args_int_rmul_2 _ _) (declines k t l Aa.toArray n dd sl) #[ho,rfl,hT,?_])
 have hlen:0<Aa.length:=List.length_pos_iff.mpr Ay;have D6:Aa.toArray.isEmpty=false:=by cases Aa with
  | nil=>show absurd rfl Ay
  | cons a r=>rfl
 by_cases h1:k=1
 .subst h1;show call_meets F.slot_tuple_mul hT F.entry_tuple_mul (F.args_tuple_mul_2 _ _) (N7 t l Aa.toArray n dd sl) #[ho,one rfl]
 .have hks:k.toNat<=sizeLine:=Bk (Nat.le_mul_of_pos_left _ hlen) hz;have hl:sizeLine=16777216:=rfl;have hk2:k<=16777216:=⋯;have IX:((Aa.toArray.size:Nat):Int)*k=((Aa.length*k.toNat:Nat):Int):=by
   rw[AB,Int.natCast_mul,CH ⋯]
  have hf:(List.replicate k.toNat Aa.toArray).foldl (·++·) [].toArray=(List.replicate k.toNat Aa).flatten.toArray:=by rw[gI];simp
  have DA:(List.replicate k.toNat Aa).flatten.length=k.toNat*Aa.length:=#[];exact call_meets F.slot_tuple_mul hT F.entry_tuple_mul (F.args_tuple_mul_2 _ _) (N6 k t l Aa.toArray n dd sl ?_ ?_ ?_ ?_ ?_ ?_) #[ho,?_]
  .simp![Eb,decide_eq_true_eq,not_or];show#[⋯,⋯]
  .rw[D6];exists h1
  .rw[D6];simp;lia
  .rw[IX];lia
  .rw[IX];intro q;unfold Builtin.Tuple.tupleTooMany at q;have:=of_decide_eq_true q;lia
  .rw[hf,AB,DA,DQ];show hz
  .rw[hf];show more h1
end
end TM
namespace L2
open PySem PySem.Spec PyProof.Rows
def ir (K:Ac):R2:=λ x y H Q=>∃ a k xs,x=.ref a/\y=.int k/\zO K H a xs/\xs≠[]/\1<=k/\xs.length*k.toNat<=sizeLine/\(k=1->Q (.ref a) H)/\(k≠1->∀ p,H p=none->Q (.ref p) (upd H p (.tup (List.replicate k.toNat xs).flatten)))
theorem Q2 {X:Cx}:zV X (binaryOp .Mult) (ir X.K):=by
 intro Fd s O H x y v u Q I rx ry h;let#[a,k,xs,rfl,rfl,hx,Ay,h1,hz,q1,q2]:=h;cases rx;let#[t,rfl]:=ry;let#[Aa,r,ht,_]:=I.tuple hx;have hl:=r.length;exact TM.times ht (λ z=>Ay (r.nB.mp z)) h1 (by rw[<- hl];show hz) (λ e=>#[.ref a,H,I,rfl,q1 e]) λ e=>?_;have hlen:(List.replicate k.toNat xs).flatten.length<=sizeLine:=by
  have:(List.replicate k.toNat xs).flatten.length=k.toNat*xs.length:=#[];rw[this,DQ];show hz
 show#[.ref _,_,I.laid (t':=s.toks) (o:=.tup (List.replicate k.toNat xs).flatten) (λ b ob q=>za1 _ q) (Ak _) #[#[hlen,.new _],_,r.rep k.toNat,IsTup.new _ _],rfl,q2 e _ (I.zl.fresh (Ak _))]
end L2
namespace L5
open PySem PySem.Spec L2 L3
open PyProof.Rows hiding St
section
variable {K:Ac}{a:Expr}
def t9:y6:=λ x y S Q=>match x,y with
 | .int i,.int j=>vM i j/\Q (.int (i*j)) S
 | .tup ds,.int k=>(ds≠[]/\1<=k/\ds.length*k.toNat<=sizeLine)/\Q (.tup (List.replicate k.toNat ds).flatten) S
 | _,_=>False
def iV:T->T->Option T
 | .int i,.int j=>if vM i j then ↑(.int (i*j)) else none
 | .tup ts,.int k=>if ts≠[]/\1<=k/\ts.length*k.toNat<=sizeLine then ↑(.tup (List.replicate k.toNat ts).flatten) else none
 | _,_=>none
def t9.mo:yY t9:=λ x y S Q Q' hq h=>by
 unfold t9 at h ⊢;split at h
 .show#[h.1,hq _ _ h.2]
 .show#[h.1,hq _ _ h.2]
 .show h.elim
theorem zh.rep {H:Hp}{ds:List D}{xs:List V}(h:zh K H ds xs):∀ n:Nat,zh K H (List.replicate n ds).flatten (List.replicate n xs).flatten
 | 0=>.nil
 | n+1=>by
  rw[Cc,Cc,Cy,Cy];show h.append (zh.rep h n)
def t9.fits:yQ K t9 (λ x y H Q=>rI vM (λ i j=>.int (i*j)) x y H Q\/ir K x y H Q):=λ x y d e H S Q h1 h2 h3 h=>by
 unfold t9 at h;split at h
 .simp![ze] at h1 h2;show .inl #[_,_,h1,h2,h.1,h.2 _ H (by simp![ze]) (.refl H) h3]
 .rename_i ds k;let#[#[c1,c2,c3],h]:=h;have h1':=h1;simp![ze] at h1 h2;let#[a,xs,rfl,g1,g2]:=h1;have hl:=g2.length;exact .inr #[a,k,xs,rfl,h2,g1,λ z=>c1 (by subst z;cases ds with | nil=>rfl | cons _ _=>simp at hl),c2,by rw[<- hl];show c3,λ e=>?_,λ e p hp=>?_]
  .subst e;exact h _ H ?_ (.refl H) h3;have:(List.replicate (1:Int).toNat ds).flatten=ds:=#[];rw[this];show h1'
  .exact h _ _ ?_ (.new hp _) (h3.new hp);simp![ze];show#[p,_,rfl,zO.of zX,zh.ext (.new hp _) _ (zh.rep g2 _)]
 .show h.elim
theorem zg.rep {S:SS}{ts:List T}{ds:List D}(h:zg S ts ds):∀ n:Nat,zg S (List.replicate n ts).flatten (List.replicate n ds).flatten
 | 0=>.nil
 | n+1=>by
  rw[Cc,Cc,Cy,Cy];show h.append (zg.rep h n)
def aW:Good2 zv iV t9:=λ S Z x y z d e Q hz hx hy ef hq=>by
 unfold iV at ef;split at ef
 .split at ef
  .rename_i hc;cases ef;cases hx.int;cases hy.int;show#[hc,hq _ S (.refl S) (Cl.of (λ _=>nofun) xU)]
  .cases ef
 .split at ef
  .rename_i hc;cases ef;let#[ds,rfl,h2]:=hx.tup;cases hy.int;have hl:=h2.len;show#[#[λ q=>hc.1 (by subst q;exists hl.symm),hc.2.1,by rw[hl];show hc.2.2],hq _ S (.refl S) (Cl.of (λ _=>nofun) (qh (zg.rep h2 _)))]
  .cases ef
 .cases ef
end
end L5
namespace L4
open PySem PyProof.Rows
section
variable {prog:Program}{w:World}{A:Around}{E:Af}{s:Shared}
def K5 {l:Addr}{vs:Ae}{Q:List Value->Shared->Prop}(hl:IsTup s.heap l vs.toArray) (hz:vs.length<=sizeLine)
  (h:Q vs { s with heap:=(s.heap.push (seqObj "list" [].toArray 0)).update s.heap.objs.size (Obj.mapSeq (·++vs.toArray)) }):wpAny (model prog w) A (collect (.ref l)) Q E s:=by
 let#[o,ho,hc,n,hd]:=id hl;have new:(s.heap.push (seqObj "list" [].toArray 0)).get? s.heap.objs.size=↑(seqObj "list" [].toArray 0):=AJ _ rfl;have FY:(s.heap.push (seqObj "list" [].toArray 0)).get? l=↑o:=za1 _ ho;unfold collect;exact gV (wpAny_runValue (codeAny_builtin entry_proto_collect' (gV (m:=newList []) (wpAny_newList (Ad #[Code.quiet_builtin _ (AI),codeAny_builtin entry_list_iadd' ?_])))));change wpAny _ _ (Builtin.List.listExtendWith (.ref s.heap.objs.size) (.ref l) (.ref s.heap.objs.size)) _ _ { s with heap:=s.heap.push (seqObj "list" [].toArray 0) };unfold Builtin.List.listExtendWith;exact gV (zaI (T:="tuple") #[o,FY,hc] ?_);rw[if_pos (by rw[show (Value.type "tuple" == Value.type "tuple")=true from rfl];simp)];exact gV (listItems_at FY hd (gV (listItems_at (xs:=[].toArray) (n:=0) new rfl ?_)));rw[if_neg #[]];exact gV (listUpdate_at (xs:=[].toArray) (n:=0) new rfl (Ad ?_) (A2 _) (by change ([].toArray++vs.toArray).size<=sizeLine+1;simp![Array.size_append,AB,Cz];lia));exact gV (m:=load s.heap.objs.size) (wpAny_load (get?_update_seq new _) ?_);change wpAny _ _ (pure (([].toArray:Aq)++vs.toArray).toList) Q E _;have e:(([].toArray:Aq)++vs.toArray).toList=vs:=#[];rw[e];show Ad h
end
section
open L2 PySem.Spec
variable {X:Cx}
def cP {s:Shared}{vs:Ae}:∀ b o,¬ False->s.heap.get? b=↑o->((s.heap.push (seqObj "list" [].toArray 0)).update s.heap.objs.size (Obj.mapSeq (·++vs.toArray))).get? b=↑o:=λ b o _ q=>by
 rw[zaP _ _ _ _ (Aw (Ap q))];show za1 _ q
theorem KO:y7 X (.builtin "sorted") (λ xs H Q=>∃ p ys,∃ rows:List (List Int),xs=[.ref p]/\(zH X.K H p ys\/zO X.K H p ys)/\rP X.K H ys rows/\rows.length<64/\m7 (ys.zip rows) H Q):=by
 intro Fd s O H xs us Q I r h;let#[p,ys,rows,rfl,hq,hr,G0,q]:=h;let#[u,rfl,ru]:=vals1 r;cases ru;have hl:(ys.zip rows).length<64:=by rw[List.length_zip];lia
 have sz:∀ vs:List Value,s.heap.objs.size<=((s.heap.push (seqObj "list" [].toArray 0)).update s.heap.objs.size (Obj.mapSeq (·++vs.toArray))).objs.size:=λ vs=>by rw[Heap.size_update,size_push'];show DI _
 rcases hq with hq | hq
 .let#[Aa,rv,pl,hz]:=I.list hq;show q_ I (λ Q' h=>collect_list pl.isList (h _ s.toks cP (sz Aa)) (by rw[<- rv.length];show hz)) (VR.of rv hr) hl q
 .let#[Aa,rv,pl,hz]:=I.tuple hq;show q_ I (λ Q' h=>K5 pl (by rw[<- rv.length];show hz) (h _ s.toks cP (sz Aa))) (VR.of rv hr) hl q
end
end L4
namespace L5
open PySem PySem.Spec L2 L3
open PyProof.Rows hiding St
section
variable {X:Cx}{K:Ac}{e:Expr}{es:List Expr}{tA:zZ}{pos p:Pos}
def rC:xh:=λ ds S Q=>∃ d,∃ rows:List (List Int),ds=[d]/\zK d S=↑(rows.map w6)/\rows.length<64/\(∀ r∈rows,r≠[])/\∀ l,S l=none->Q (.ref l) (ups S l (.lst ((L4.xm rows).map w6)))
def vQ:Al
 | [y]=>(xI y).bind λ ts=>(vp ts).bind λ rs=>if rs.length<64/\∀ r∈rs,r≠[] then ↑(.lst ((L4.xm rs).map zu)) else none
 | _=>none
def Lh:vf zv vQ rC:=λ S Z ys z ds Q hz hv e hq=>by
 unfold vQ at e;split at e
 .let#[d,rfl,h1]:=vk hv;let#[ts,e0,e]:=An.mp e;let#[rs,e1,e2]:=An.mp e;split at e2
  .rename_i hc;cases e2;cases ij e1;let#[es,h2,h3]:=h1.seq e0;cases pb.mp h3;show#[d,rs,rfl,h2,hc.1,hc.2,λ l hl=>hq _ _ (.new hl _) (tZ hz hl (pb.mpr rfl))]
  .cases e2
 .cases e
def rC.mo:vd rC:=λ ds S Q Q' hq #[d,rows,h0,h1,h2,h3,h4]=>#[d,rows,h0,h1,h2,h3,λ l hl=>hq _ _ (h4 l hl)]
def y7.or {f:Value}{r r':List V->Hp->VK->Prop}(h:y7 X f r) (h':y7 X f r'):y7 X f (λ xs H Q=>r xs H Q\/r' xs H Q):=λ Fd s O H xs us Q I rv q=>
 q.elim (λ q=>h Fd s O H xs us Q I rv q) λ q=>h' Fd s O H xs us Q I rv q
def rC.fits:uo K rC (λ xs H Q=>∃ p ys,∃ rows:List (List Int),xs=[.ref p]/\(zH K H p ys\/zO K H p ys)/\L4.rP K H ys rows/\rows.length<64/\L4.m7 (ys.zip rows) H Q):=λ xs ds H S Q h0 h2 h=>by
 let#[d,rows,rfl,e,G0,Ay,h]:=h;let#[x,hx,h1]:=h0.one;subst hx;let#[a,ys,rfl,g1,g2]:=zK.sq h1 h2 e;have hl:=g2.length;rw[AH] at hl;exact#[_,ys,rows,rfl,g1,lK g2 Ay,G0,λ l ps hf hp hs=>?_];have heq:=L4.jZ (rows:=rows) (by have:=hp.map (·.2);rwa [List.map_snd_zip ⋯] at this) hs;have hx:Ext H (upd H l (.lst (ps.map (·.1)))):=.new hf _;exact h l (h2.none hf) _ _ (by simp![ze]) hx (h2.ups hx #[_,zX,?_]);rw[<- heq];show zh.ext hx _ (zh.lS λ q hq=>zh.lj g2 q (hp.mem_iff.mp hq))
def Rw (hm:X.mg "sorted"=none) (ha:yH X (e::es) tA) (hg:Gl X "sorted") (he:AA X e es) (Am:AF X pos es):PD X (.Call (.Name "sorted" p) (e::es) [] pos) (xc rC tA):=
 u6 (u5 L4.KO hg hm boot_sorted ha.pa () () he Am) rC.mo rC.fits ha.mo
end
end L5
namespace L2
open PySem PySem.Spec PyProof.Rows
section
variable {X:Cx}
def uk (r:Addr) (j:Int):Heap->Prop:=λ h=>∃ t u v,IsRange h r 0 j 1 t u v
def KY:y7 X (.type "range") (λ xs H Q=>∃ j,xs=[.int j]/\∀ r,H r=none->Q (.ref r) (upd H r (.ext (uk r j)))):=by
 intro Fd s O H xs us Q I r h;let#[j,rfl,q]:=h;let#[u,rfl,ru]:=vals1 r;let#[t,rfl]:=ru;exact call_range_1 #[.ref s.heap.objs.size,_,I.laid (o:=.ext (uk s.heap.objs.size j)) (λ b o e=>za1 _ e) (Ak _) ?_,rfl,q _ (I.zl.fresh (Ak _))];have here:uk s.heap.objs.size j (s.heap.push { cls:=.type "range",data:=.fields [.int 0 s.toks,.int j t,.int 1 (s.toks+1)].toArray }):=#[_,_,_,IsRange.new ..];exact#[here,#[_,AJ _ rfl],λ h1 h2 S k=>?_];let#[a,b,c,e]:=S;show#[a,b,c,k _ e]
theorem Jb (hc:X.calm=true):y7 X (.type "list") (λ xs H Q=>∃ r j,xs=[.ref r]/\H r=↑(.ext (uk r j))/\0<=j/\j<=16777216/\∀ l,H l=none->Q (.ref l) (upd H l (.lst ((List.range j.toNat).map λ(k:Nat)=>V.int (k:Int))))):=by
 intro Fd s O H xs us Q I r h;let#[a,j,rfl,hr,h0,h1,q]:=h;let#[u,rfl,ru]:=vals1 r;cases ru;obtain⟨⟨t,u,v,hR⟩,-,-⟩:=(show yI X.prog X.w H s.heap a (.ext (uk a j)) from I.zl a _ hr)
 have hsz:Builtin.Range.rangeSize 0 j 1=((j.toNat:Nat):Int):=by rw[rangeSize_one];split <;> lia
 exact call_list_range (n:=j.toNat) (I.ok.hd hc) hR (small_one () () ⋯ ⋯) hsz ⋯ λ h' tk acc c k e hi=>?_;exact#[.ref s.heap.objs.size,_,I.laid (o:=.lst ((List.range j.toNat).map λ(k:Nat)=>V.int (k:Int))) k (Ak _) #[?_,acc.toList,c,?_,by exists e],rfl,q _ (I.zl.fresh (Ak _))]
 .have:sizeLine=16777216:=rfl;simp;lia
 .let#[hn,hi]:=hi;exact ST.Paired.mk (by simp[hn]) λ i a b ha hb=>?_;rw[AM] at ha;let#[k',hk,rfl]:=AK.mp ha;let#[hk1,hk2]:=AQ.mp hk;simp at hk2;subst hk2;let#[w,hw]:=hi i b (by exists hb);subst hw;show#[w,#[]]
end
end L2
namespace L5
open PySem PySem.Spec L2 L3
open PyProof.Rows hiding St
section
variable {X:Cx}{K:Ac}{e:Expr}{tA:zZ}{pos p GI p2:Pos}
def sE:xh:=λ ds S Q=>∃ j:Int,ds=[.int j]/\0<=j/\j<=16777216/\∀ l,S l=none->Q (.ref l) (ups S l (.lst (vt 0 j.toNat)))
def nG:Al
 | [.int j]=>if 0<=j/\j<=16777216 then ↑(.lst (rangeT 0 j.toNat)) else none
 | _=>none
def Lm:vf zv nG sE:=λ S Z ys z ds Q hz hv e hq=>by
 unfold nG at e;split at e
 .let#[d,rfl,h1]:=vk hv;split at e
  .rename_i hc;cases e;cases h1.int;show#[_,rfl,hc.1,hc.2,λ l hl=>hq _ _ (.new hl _) (tZ hz hl (dN _ _))]
  .cases e
 .cases e
def sE.mo:vd sE:=λ ds S Q Q' hq #[j,h0,h1,h2,h3]=>#[j,h0,h1,h2,λ l hl=>hq _ _ (h3 l hl)]
theorem Ul {H:Hp}(n:Nat):zh K H (vt 0 n) ((List.range n).map λ(k:Nat)=>V.int (k:Int)):=by
 unfold vt
 induction List.range n with
 | nil=>show .nil
 | cons k l ih=>show .cons (by simp![ze];rw[Int.zero_add]) ih
def sE.fits:uo K sE (λ xs H Q=>∃ j,xs=[.int j]/\∀ r,H r=none->∃ r' j',[V.ref r]=[.ref r']/\(upd H r (.ext (uk r j))) r'=↑(.ext (uk r' j'))/\0<=j'/\j'<=16777216/\
  ∀ l,(upd H r (.ext (uk r j))) l=none->Q (.ref l) (upd (upd H r (.ext (uk r j))) l (.lst ((List.range j'.toNat).map λ(k:Nat)=>V.int (k:Int))))):=λ xs ds H S Q h0 h2 h=>by
 let#[j,rfl,c1,c2,h]:=h;let#[x,hx,h1]:=h0.one;subst hx;simp![ze] at h1;subst h1;exact#[j,rfl,λ r hr=>#[r,j,rfl,zX,c1,c2,λ l hl=>?_]];have x1:Ext H (upd H r (.ext (uk r j))):=.new hr _;have CQ:l≠r:=λ z=>by subst z;rw[zX] at hl;cases hl
 have hlH:H l=none:=by rw[zE CQ] at hl;show hl
 have x2:Ext (upd H r (.ext (uk r j))) (upd (upd H r (.ext (uk r j))) l (.lst ((List.range j.toNat).map λ(k:Nat)=>V.int (k:Int)))):=.new hl _;show h l (h2.none hlH) _ _ (by simp![ze]) (x1.trans x2) ((h2.new hr).ups x2 #[_,zX,Ul _])
def RH (hm:X.mg "list"=none) (hm2:X.mg "range"=none) (ha:yH X [e] tA) (hc:X.calm=true) (hg:Gl X "list") (Hh:Gl X "range")
  (he2:AA X e [])
  (he:starEach [.Call (.Name "range" p2) [e] [] GI] X.env=(false,eval (.Call (.Name "range" p2) [e] [] GI) X.env)::starEach [] X.env) (Am:AF X pos []) (hpl2:AF X GI []):
  PD X (.Call (.Name "list" p) [.Call (.Name "range" p2) [e] [] GI] [] pos) (xc sE tA):=by
 have h:=nq (p:=p) (Jb hc) hg hm PyProof.Rows.boot_list (u_ (nq KY Hh hm2 boot_range ha.pa () () he2 hpl2) rh he) () () he Am;show#[xc.mo sE.mo ha.mo,PE.imp h λ _ _ _ hu=>d5 sE.mo sE.fits ha.mo hu]
end
end L5
namespace ST
open PySem PySem.SetTable PySem.Spec PyProof.Rows L2
def MN {us IH:Ae}(p:IH.Perm us):∀ {ms:List Int},IntsAre us ms->∃ G3,IntsAre IH G3/\G3.Perm ms:=by
 induction p with
 | nil=>intro ms h;show#[ms,h,.refl _]
 | cons x _ ih=>
  intro ms h;cases h with
  | cons n t h=>
   let#[G3,h1,h2]:=ih h;show#[n::G3,.cons n t h1,h2.cons n]
 | swap x y l=>
  intro ms h;cases h with
  | cons n t h=>
   cases h with
   | cons m u h=>show#[m::n::_,.cons m u (.cons n t h),.swap _ _ _]
 | trans _ _ ih1 ih2=>
  intro ms h;let#[m1,h1,h2]:=ih2 h;let#[m2,h3,h4]:=ih1 h1;show#[m2,h3,h4.trans h2]
theorem qI.at {prog:Program}{w:World}{h:Heap}{a:Addr}{xs:List (Int×Tok)}(S:qI prog w h a xs (sg w)):yB w a (xs.map λ e=>Value.int e.1 e.2) h:=by
 let#[#[es,ep,t,ho,he,T,h1,h2,h3],_]:=S;have hm:7<=t.mask/\t.mask<=127:=by rcases T.mask with e | e | e <;> lia
 have hlen:es.size=xs.length:=by have:=congrArg List.length he;exists this
 show#[es,ep,t,#[ho,fits_of (n:=xs.length) hlen T #[] ⋯,T.wb,h1,h2],by rw[he,AU];rfl]
theorem aM:∀ xs:List (Int×Tok),IntsAre (xs.map λ e=>Value.int e.1 e.2) (xs.map (·.1))
 | []=>.nil
 | e::xs=>.cons e.1 e.2 (aM xs)
theorem e_:∀ {us:Ae}{ns:List Int},IntsAre us ns->Vals (ns.map V.int) us
 | _,_,.nil=>.nil
 | _,_,.cons n t h=>.cons #[t,rfl] (e_ h)
section
variable {X:Cx}
def KS (hc:X.calm=true):y7 X (.type "set") (λ xs H Q=>∃ p,∃ ns:List Int,xs=[.ref p]/\zH X.K H p (ns.map V.int)/\ns.length<64/\
  ∀ (l:Addr) (us:Ae) (ms:List Int),H l=none->IntsAre us ms->ms.Nodup->(∀ n,n∈ms↔n∈ns)->Q (.ref l) (upd H l (.ext (yB X.w l us)))):=by
 intro Fd s O H xs us Q I r h;let#[p,ns,rfl,hq,G0,q]:=h;let#[u,rfl,ru]:=vals1 r;cases ru;let#[Aa,rv,pl,hz]:=I.list hq;have hl:=rv.length;rw[AH] at hl;have iA:IntsAre Aa ns:=intsAre_of rv;have nums:Nums Aa.toArray ns:=λ i v hv=>by
  have Hm:Aa[i]?=↑v:=by exists hv
  have hi:i<ns.length:=by rw[hl];show (AQ.mp Hm).1
  let#[u,e1,t,e2]:=rv.get (i:=i) (x:=V.int ns[i]) (by simp[hi]);rw[Hm] at e1;cases e1;show#[ns[i],t,e2,by simp[hi]]
 have hh:X.A.handled=none:=I.ok.hd hc;exact KU (A:=X.A) hh pl.isList nums (by rw[AB];lia) λ h' tk xs S U k=>?_;have kk:∀ b o,s.heap.get? b=↑o->h'.get? b=↑o:=λ b o e=>k b o (Ap e) e;have hSO:=S.at;exact#[.ref s.heap.objs.size,_,I.laid (t':=tk) (o:=.ext (yB X.w s.heap.objs.size (xs.map λ e=>Value.int e.1 e.2))) kk (Ak _) ?_,rfl,q _ _ (xs.map (·.1)) (I.zl.fresh (Ak _)) (aM xs) S.nd λ n=>#[λ hn=>?_,λ hn=>?_]]
 .let#[es,ep,t,St,e]:=id hSO;show#[hSO,#[_,St.get],λ h1 h2 S1 k=>S1.wK k]
 .let#[e,he,rfl]:=Ar.mp hn;let#[j,_,_,hj]:=U.own e he;show B6 hj
 .let#[j,hj]:=Ed.mp hn;show U.all j n (by have:=(AQ.mp hj).1;rw[AB];lia) hj
def KP (hc:X.calm=true):y7 X (.builtin "sorted") (λ xs H Q=>∃ l us,∃ ms:List Int,xs=[.ref l]/\H l=↑(.ext (yB X.w l us))/\IntsAre us ms/\ms.length<64/\
  ∀ (p:Addr) (ns:List Int),H p=none->ns.Perm ms->ns.Pairwise (·<=·)->Q (.ref p) (upd H p (.lst (ns.map V.int)))):=by
 intro Fd s O H xs us0 Q I r h;let#[l,us,ms,rfl,hl,hm,G0,q]:=h;let#[u,rfl,ru]:=vals1 r;cases ru;obtain⟨⟨es,ep,t,S,eu⟩,-,-⟩:=(show yI X.prog X.w H s.heap l (.ext (yB X.w l us)) from I.zl l _ hl)
 have hlen:es.size=us.length:=by rw[<- eu];simp
 have ES:=hm.length;have hh:X.A.handled=none:=I.ok.hd hc;have hp:((comes X.w l es ep).toList.map (·.2)).Perm us:=by rw[<- eu];show (mj X.w l es ep).map _
 let#[G3,i1,i2]:=MN hp hm;have CT:=hp.length_eq;have hl24:sizeLine=16777216:=rfl;exact L4.dH (N:=λ _=>False) (Out:=λ out=>∃ G2,IntsAre out.toList G2/\G2.Perm G3/\G2.Pairwise (·<=·)) (λ Q' h=>ZO (by show hh) S (by rw[hlen,ES];lia) Q' h) (by rw[CT,ES];lia) (λ h2 s6 k=>L4.K2 i1 h2 (by rw[CT,ES];show G0)) (λ h1=>#[G3,by simpa using i1,.refl _,?_]) λ out h' tk p ho hs HI k Fb=>?_
 .have:G3.length<2:=by rw[<- i1.length];show h1
  match G3,this with
  | [],_=>show .nil
  | [_],_=>show List.pairwise_singleton _ _
 .let#[ns,g1,g2,g3]:=ho;let#[e,he]:=Fb;exact#[.ref p,_,I.laid (t':=tk) (o:=.lst (ns.map V.int)) (λ b o e=>k b o id e) HI ?_,rfl,q p ns (I.zl.fresh HI) (g2.trans i2) g3];show#[by rw[AH,g2.length_eq,i2.length_eq];lia,out.toList,e,e_ g1,by exists he]
end
end ST
namespace L5
open PySem PySem.Spec L2 L3
open PyProof.Rows hiding St
def insI (n:Int):List Int->List Int
 | []=>[n]
 | m::l=>if n<m then n::m::l else if n=m then m::l else m::insI n l
def xZ:List Int->List Int
 | []=>[]
 | n::ns=>insI n (xZ ns)
theorem iX {n k:Int}:∀ {l:List Int},k∈insI n l↔k=n\/k∈l
 | []=>by simp[insI]
 | m::l=>by
  unfold insI;split
  .simp
  .split
   .rename_i h;subst h;simp
   .rw[Ao,iX,Ao];constructor
    .rintro (h | h | h)
     .show .inr (.inl h)
     .show .inl h
     .show .inr (.inr h)
    .rintro (h | h | h)
     .show .inr (.inl h)
     .show .inl h
     .show .inr (.inr h)
theorem lY {k:Int}:∀ {l:List Int},k∈xZ l↔k∈l
 | []=>.rfl
 | n::l=>by unfold xZ;rw[iX,lY,Ao]
theorem aP {n:Int}:∀ {l:List Int},l.Pairwise (· < ·)->(insI n l).Pairwise (· < ·)
 | [],_=>List.pairwise_singleton _ _
 | m::l,h=>by
  have h':=Br.mp h;unfold insI;split
  .rename_i c;exact Br.mpr #[λ x hx=>?_,h];rcases Ao.mp hx with e | e
   .rw[e];show c
   .show Int.lt_trans c (h'.1 x e)
  .split
   .show h
   .rename_i c1 c2;exact Br.mpr #[λ x hx=>?_,aP h'.2];rcases iX.mp hx with e | e
    .rw[e];lia
    .show h'.1 x e
theorem dq:∀ l:List Int,(xZ l).Pairwise (· < ·)
 | []=>.nil
 | n::l=>aP (dq l)
theorem WM {l m:List Int}(h1:l.Nodup) (h2:l.Pairwise (·<=·)) (h3:m.Pairwise (· < ·)) (h:∀ k,k∈l↔k∈m):l=m:=by
 have nm:m.Nodup:=h3.imp λ h e=>⋯;exact L4.iC (r:=λ a b:Int=>a<=b) (λ a b p q=>⋯) ((Ef h1 nm).mpr h) h2 (h3.imp λ h=>⋯)
section
variable {X:Cx}{K:Ac}{e:Expr}{tA:zZ}{pos GI p p2:Pos}
def nV:xh:=λ ds S Q=>uH ds S Q\/∃ d,∃ ns:List Int,ds=[d]/\(∀ ts,d≠.tup ts)/\zK d S=↑(ns.map D.int)/\ns.length<64/\∀ l,S l=none->Q (.ref l) (ups S l (.lst ((xZ ns).map D.int)))
def tX:Al
 | [.lst ts]=>match vz ts with
  | some ns=>if ns.length<64 then ↑(.lst ((xZ ns).map T.int)) else none
  | none=>lG [.lst ts]
 | _=>none
def Lf:vf zv tX nV:=λ S Z ys z ds Q hz hv e hq=>by
 unfold tX at e;split at e
 .split at e
  .rename_i ns Bz;split at e
   .rename_i hc;cases e;cases pO Bz;let#[d,rfl,h1]:=vk hv;let#[es,h2,h3]:=h1.seq rfl;cases uz.mp h3;exact .inr #[d,ns,rfl,?_,h2,hc,λ l hl=>hq _ _ (.new hl _) (tZ hz hl (uz.mpr rfl))];obtain⟨_,q | ⟨a,q,_⟩,_⟩:=h1.lst <;> subst q <;> show λ _=>nofun
   .cases e
  .show .inl (Lg S Z _ z ds Q hz hv e hq)
 .cases e
theorem nV.mo:vd nV:=λ ds S Q Q' hq h=>by
 rcases h with h | ⟨d,ns,h1,h2,h3,h4,h5⟩
 .show .inl (uH.mo ds S Q Q' hq h)
 .show .inr #[d,ns,h1,h2,h3,h4,λ l hl=>hq _ _ (h5 l hl)]
def LG {w:World}{xs:List V}{H:Hp}{S:SS}{Q:VK}{d:D}{ns:List Int}(h0:zh K H [d] xs) (h2:zB K H S) (hn:∀ ts,d≠.tup ts) (e:zK d S=↑(ns.map D.int)) (G0:ns.length<64) (h:∀ l,S l=none->x8 K H Q (.ref l) (ups S l (.lst ((xZ ns).map D.int)))):
  ∃ p,∃ G2:List Int,xs=[.ref p]/\zH K H p (G2.map V.int)/\G2.length<64/\
   ∀ (l:Addr) (us:Ae) (ms:List Int),H l=none->IntsAre us ms->ms.Nodup->(∀ n,n∈ms↔n∈G2)->
    ∃ l' IH,∃ G3:List Int,[V.ref l]=[.ref l']/\(upd H l (.ext (ST.yB w l us))) l'=↑(.ext (ST.yB w l' IH))/\IntsAre IH G3/\G3.length<64/\
     ∀ (p:Addr) (ns:List Int),(upd H l (.ext (ST.yB w l us))) p=none->ns.Perm G3->ns.Pairwise (·<=·)->Q (.ref p) (upd (upd H l (.ext (ST.yB w l us))) p (.lst (ns.map V.int))):=by
 let#[x,hx,h1]:=h0.one;subst hx;let#[a,ys,rfl,g1,g2]:=rf h1 h2 e hn;rw[g2.ints] at g1;exact#[a,ns,rfl,g1,G0,λ l us ms hf hi nd Bf=>#[l,us,ms,rfl,zX,hi,?_,λ p ns2 hp pm srt=>?_]]
 .have:=ST.iP ms ns nd λ x hx=>(Bf x).mp hx;lia
 .have x1:Ext H (upd H l (.ext (ST.yB w l us))):=.new hf _;have Am:p≠l:=λ z=>by subst z;rw[zX] at hp;cases hp
  have hpH:H p=none:=by rw[zE Am] at hp;show hp
  have x2:Ext (upd H l (.ext (ST.yB w l us))) (upd (upd H l (.ext (ST.yB w l us))) p (.lst (ns2.map V.int))):=.new hp _;have heq:ns2=xZ ns:=WM (pm.nodup_iff.mpr nd) srt (dq ns) λ k=>by rw[pm.mem_iff,Bf,lY]
  exact h p (h2.none hpH) _ _ (by simp![ze]) (x1.trans x2) ((h2.new hf).ups x2 #[_,zX,?_]);rw[<- heq];show zh.iK ns2
def Rv {k:Nat}(hr:zN k X.A) (hm:X.mg "sorted"=none) (hm2:X.mg "set"=none) (ha:yH X [e] tA) (hc:X.calm=true) (hg:Gl X "sorted") (Hh:Gl X "set")
  (he2:AA X e [])
  (he:starEach [.Call (.Name "set" p2) [e] [] GI] X.env=(false,eval (.Call (.Name "set" p2) [e] [] GI) X.env)::starEach [] X.env) (Am:AF X pos []) (hpl2:AF X GI []):
  PD X (.Call (.Name "sorted" p) [.Call (.Name "set" p2) [e] [] GI] [] pos) (xc nV tA):=by
 have h:=u5 (p:=p) (y7.or (ST.KQ hc) (ST.KP hc)) hg hm boot_sorted (u_ (nq (y7.or (ST.KR hc hr.units) (ST.KS hc)) Hh hm2 PyProof.Rows.boot_set ha.pa () () he2 hpl2) rh he) () () he Am;exact#[xc.mo nV.mo ha.mo,PE.imp h fun O H Q hu=>?_];let#[L,S,r1,r2,z]:=hu;exact xH.go ha.mo r1 r2 z λ ds S1 xs H1 h1 q1 e1 p1=>?_;rcases h1 with h1 | ⟨d,ns,rfl,c1,c2,c3,h1⟩
 .let#[p,ys,rows,a1,a2,a3,a4,a5]:=uH.fits (w:=X.w) xs ds H1 S1 Q q1 p1 (uH.mo ds S1 _ _ (λ d S' z=>z.ext e1) h1);show .inl #[p,ys,rows,a1,a2,a3,a4,λ l us ps b1 b2 b3 b4 b5=>.inl (a5 l us ps b1 b2 b3 b4 b5)]
 .let#[p,G2,a1,a2,a3,a4]:=LG (w:=X.w) q1 p1 c1 c2 c3 (λ l hl=>(h1 l hl).ext e1);show .inr #[p,G2,a1,a2,a3,λ l us ms b1 b2 b3 b4=>.inr (a4 l us ms b1 b2 b3 b4)]
end
end L5
namespace L5
open PySem PySem.Spec L2 L3
open PyProof.Rows hiding St
section
variable {X:Cx}{e st:Expr}
def iL:Sm:=λ _=>none
def ZC:zY:=λ _ _ _=>False
def SJ {st:Stmt}:xD X st ZC:=#[λ _ _ _ _ _ h=>h.elim,λ _ _ _ _ _ _ #[_,_,_,_,h]=>h.elim]
def QQ {R:Rk}:z_ R iL ZC:=λ S0 Z0 S Z L Y o E F e P=>by cases e
end
end L5
namespace L5
open PySem L2 L3
def gw:Good2 zv uC k9:=ku (λ _ _ _=>x_) λ _ _ _=>nofun
def gy:Good2 zv aV gN:=ku (λ _ _ _=>x_) λ _ _ _=>nofun
def gz:Good2 zv ky gO:=ku (λ _ _ _=>x_) λ _ _ _=>nofun
end L5
namespace L5
open PySem PySem.Spec L2 L3
open PyProof.Rows hiding St
section
variable {X:Cx}{e:Expr}{te:zq}{pos p q:Pos}
def RP (T:Bt X.mg) (he:PD X e te) (hg:Gl X "isinstance") (Hh:Gl X "str") (h1:AA X e [.Name "str" q]) (h2:AF X pos [.Name "str" q]) (h3:AA X (.Name "str" q) []):
  PD X (.Call (.Name "isinstance" p) [e,.Name "str" q] [] pos) (pZ "str" te):=lT #[] T.isinstance T.str PyProof.Rows.boot_str Hh () () he hg h1 h2 h3
end
end L5
namespace L3
open PySem PyProof.Rows L2
section
variable {X:Cx}{pos:Pos}
def wE (E:tR) (W:Nat->zW->SS->Prop) (m:Nat):tR:={ E with nx:=fun L' S'=>∃ m',m'<m/\W m' L' S',ct:=fun L' S'=>∃ m',m'<m/\W m' L' S',bk:=E.nx }
def me (c:yp) (tb:zY):zY:=λ E L S=>∃ W:Nat->zW->SS->Prop,(∃ m,W m L S)/\∀ m L S,W m L S->
 c L S λ b S1=>if b=true then tb (wE E W m) L S1 else E.nx L S1
def me.mo {c:yp}{tb:zY}(hc:wx c) (hb:um tb):um (me c tb):=λ E E' L S hE #[W,w0,ws]=>
 #[W,w0,λ m L S hw=>hc L S _ _ (λ b S1 z=>xW (λ z=>hb (wE E W m) (wE E' W m) L S1 #[λ _ _ q=>q,hE.rt,hE.nx,λ _ _ q=>q] z) (λ z=>hE.nx _ _ z) z) (ws m L S hw)]
def S9 {c:Expr}{body:List Stmt}{tc:yp}{tb:zY}(hp:PassesOwn (model X.prog X.w) X.A X.env X.xe) (hc:yO X c tc) (hb:wH X body tb):xD X (.While c body [] pos) (me tc tb):=by
 exact#[me.mo hc.mo hb.mo,PS.imp (UC hp hc.pt hb.ps) λ D O H hu=>?_];let#[L,S,r1,r2,W,#[m0,w0],ws]:=hu;exact#[λ m O' H'=>Ext H H'/\∃ L S,yh X.K H' L O'/\zB X.K H' S/\W m L S,#[m0,.refl _,L,S,r1,r2,w0],?_];rintro m O2 H2 ⟨x2,L2,S2,q1,q2,w2⟩;exact xG.go hc.mo q1 q2 (ws m L2 S2 w2) λ k S3 H3 h3 e3 p3=>xW (λ z=>?_) (λ z=>?_) h3
 .exact#[fun O' H'=>Ext H H'/\∃ L S m',m'<m/\yh X.K H' L O'/\zB X.K H' S/\W m' L S,fun O' H' #[a,L',S',m',b,c,d,e]=>#[m',b,a,L',S',c,d,e],L2,S3,q1.ext e3,p3,?_];show hb.mo (wE (vD X.K H D) W m) _ L2 S3 #[fun L5 S5 #[m',b,w5] O5 H5 b1 b2 b3=>#[(x2.trans e3).trans b2,L5,S5,m',b,b1,b3,w5],λ _ _ q=>x8.ext (x2.trans e3) q,λ _ _ q=>xl.ext (x2.trans e3) q,fun L5 S5 #[m',b,w5] O5 H5 b1 b2 b3=>#[(x2.trans e3).trans b2,L5,S5,m',b,b1,b3,w5]] z
 .show z O2 H3 (q1.ext e3) (x2.trans e3) p3
end
end L3
namespace L5
open PySem PyProof.Rows L2 L3
def xV (is:List Nat) (c:Ev->Option Bool) (b:Sm):Nat->Ev->Option Out
 | 0,_=>none
 | n+1,Y=>(c (yz is Y)).bind λ k=>if k=true then (b (yz is Y)).bind λ o=>match o with
   | .nx Y2=>xV is c b n Y2
   | .ct Y2=>xV is c b n Y2
   | .bk Y2=>↑(.nx (yz is Y2))
   | .rt t=>↑(.rt t)
  else ↑(.nx (yz is Y))
def oJ (n:Nat) (is:List Nat) (c:Ev->Option Bool) (b:Sm):Sm:=xV is c b n
def QJ {R:Rk} [Lo R] {n:Nat}{is:List Nat}{c:Ev->Option Bool}{tc:yp}{b:Sm}{tb:zY}(hc:wu c tc) (hb:z_ R b tb):z_ R (oJ n is c b) (me tc tb):=λ S0 Z0 S Z L Y o E F e P=>by
 let#[SB,b1,FB,b2]:=F.rebase;have lo:∀ S' d y,R SB S' Z0 y d->R S0 S' Z0 y d:=λ S' d y r=>Lo.lo b1 (λ _ z=>z) r;exact#[λ m L' S'=>∃ Z' Y',FR SB Z0 S' Z' L' Y'/\xV is c b m Y'=↑o,#[n,Z,Y,FB,e],λ m L' S' #[Z',Y',F',e']=>?_];cases m with
 | zero=>cases e'
 | succ m=>
  unfold xV at e';let#[k,c1,e']:=An.mp e';have G:=F'.yz is;exact hc S' Z' L' _ k _ G.er c1 λ S3 s3=>?_;cases k with
  | true=>
   rw[if_pos rfl] at e' ⊢;let#[o1,g2,e']:=An.mp e';exact hb SB Z0 S3 Z' L' _ o1 _ (G.grow s3) g2 ?_;cases o1 with
   | nx Y2=>show λ S3 Z3 L3 F3=>#[m,CI m,Z3,Y2,F3,e']
   | ct Y2=>show λ S3 Z3 L3 F3=>#[m,CI m,Z3,Y2,F3,e']
   | bk Y2=>cases e';show λ S3 Z3 L3 F3=>P S3 Z3 L3 ((F3.yz is).back b1 F.z0)
   | rt y=>cases e';show λ d S3 s3 r3=>P d S3 (b1.trans s3) (lo _ _ _ r3)
  | false=>
   rw[if_neg ()] at e' ⊢;cases e';show P S3 Z' L' ((G.grow s3).back b1 F.z0)
end L5
namespace ZP
open PySem PyProof.Rows
def NI (k:Bool) (l:Addr) (xs:Aq):Meets (Builtin.«enumerate.__new__» #[[.type "enumerate",.ref l],[]]) (λ _ R s=>SQ s.heap k l xs/\
   R (.ok (.ret (.ref (s.heap.push (vx k l)).objs.size))) { s with heap:=(s.heap.push (vx k l)).push { cls:=.type "enumerate",data:=.fields [.none,.bool false,.ref s.heap.objs.size,rawInt 0,.none,.none].toArray } }):=
 .of_wp λ prog w A R s h=>by
  let#[hp,g,d,tk,os]:=s;let#[q,h]:=h;have EE:=sub_enumerate;have hL:SQ (Shared.heap #[hp,g,d,tk,os]) k l xs:=q;let#[#[c,zC,dt,sl],hl,hc]:=q.cls;replace hc:c=.type (cond k "tuple" "list"):=hc;subst hc
  wp_walk using AutoSeq1.wpAny_loadPart' hl
  exact wpAny_stack_any λ st=>Ad ?_;split
  .rename_i c _ _ _ _ _;cases (c == Value.type "enumerate")
   .wp_walk using AutoSeq1.wpAny_loadPart' hl,made hL
    show#[_,rfl,h]
   .wp_walk using AutoSeq1.wpAny_loadPart' hl,made hL
    show#[_,rfl,h]
  .wp_walk using AutoSeq1.wpAny_loadPart' hl,made hL
   show#[_,rfl,h]
section
variable {prog:Program}{w:World}{A:Around}{E:Af}{s:Shared}
def L_ {k:Bool}{l:Addr}{xs:Aq}{Q:Af}(hL:SQ s.heap k l xs)
  (h:∀ h',IsEnum h' (s.heap.objs.size+1) s.heap.objs.size 0 .none->SI h' k s.heap.objs.size l 0->(∀ b o,s.heap.get? b=↑o->h'.get? b=↑o)->Q (.ref (s.heap.objs.size+1)) { s with heap:=h' }):
  wpAny (model prog w) A (call (.type "enumerate") [.ref l]) Q E s:=by
 exact callType_new F.called_enumerate () (F.typeCall_enumerate_1 _) (F.newCall_enumerate_1 _) (λ obj=>F.args_object_init_2 obj _) F.entry_enumerate_new (NI k l xs) #[hL,?_];have hz:(s.heap.push (vx k l)).objs.size=s.heap.objs.size+1:=Heap.size_push ..;change _/\_;rw[hz];have he:IsEnum ((s.heap.push (vx k l)).push { cls:=.type "enumerate",data:=.fields [.none,.bool false,.ref s.heap.objs.size,rawInt 0,.none,.none].toArray }) (s.heap.objs.size+1) s.heap.objs.size 0 .none:=by
  have:=AJ (s.heap.push (vx k l)) (o:={ cls:=.type "enumerate",data:=.fields [.none,.bool false,.ref s.heap.objs.size,rawInt 0,.none,.none].toArray }) rfl;rw[hz] at this;show this
 show#[#[_,he,rfl],h _ he #[_,za1 _ (AJ _ rfl),rfl,rfl] λ b o x=>za1 _ (za1 _ x)]
def Ki (hh:A.handled=none) (k:Bool) (it l:Addr) (Ay:l≠it) (xs:Aq):Draws prog w A it [it,l] xs.size (λ i v=>xs[i]?=↑v) (λ i h=>SI h k it l i/\SQ h k l xs) where
 live:=λ _ _ st=>let #[o,ho,_]:=st.1;#[o,ho]
 frame:=λ _ _ _ st hk=>#[st.1.on λ o e=>hk it #[] o e,st.2.on λ o e=>hk l #[] o e]
 item:=λ i s Q E hi st hQ=>draw st.1 st.2 (x:=xs[i]) (by simp[hi]) λ h' EY HX=>hQ _ h' s.toks (by simp[hi]) #[EY,st.2.on λ o e=>(HX.2 l Ay).trans e] HX
 done:=λ s Q E st hE=>kG hh st.1 st.2 #[] hE
end
end ZP
namespace L2
open PySem PySem.Spec PyProof.Rows ZP
section
variable {X:Cx}{Fd:Ai}{O:St}{H:Hp}{s:Shared}
def YE (K:Ac) (k:Bool) (a:Addr):It:=
 #[λ i H=>∃ xs x,xQ K H k a xs/\xs[i]?=↑x,
   λ i H v H'=>∃ p x,v=.ref p/\H p=none/\H'=upd H p (.tup [.int i,x])/\∀ xs,xQ K H k a xs->xs[i]?=↑x,
   λ i H=>∃ xs,xQ K H k a xs/\xs.length<=i]
def Ve {P:Program}{w:World}{K:Ac}{es:List Expr}{kk} {pos:Pos}{k:Bool}{e it a:Addr}(E6:e≠it) (hea:e≠a) (hai:a≠it):
  Turn P w K (.Tuple es kk pos) (YE K k a) [e,it] e (λ i h=>(∃ old,IsEnum h e it i old)/\SI h k it a i) where
 mem:=#[]
 obj:=λ i h st b hb=>by
  let#[#[old,q1],o1,q2,_,d1]:=st;simp![Ao,AY,or_false] at hb;rcases hb with e | e <;> subst e
  .show#[_,q1,λ v z=>by cases z]
  .show#[_,q2,λ v z=>by rw[d1] at z;cases z]
 keep:=λ i h h' st k=>#[let #[old,q]:=st.1;#[old,k e #[] _ q],st.2.on λ o q=>k it #[] o q]
 item:=by
  intro X hP hw hK hc i Fd s O H E I hf st hg;subst hP hw hK;let#[xs,x,g1,hx]:=hg;let#[Aa,rv,q1]:=g1.of I;let#[u1,e1,r1]:=rv.get hx;let#[#[old,he],si]:=st;have Az:i<Aa.toArray.size:=by have:=(AQ.mp e1).1;exists this
  have D:=Ki (prog:=X.prog) (w:=X.w) (A:=X.A.in1) (show X.A.in1.handled=none from I.ok.hd hc) k it a hai Aa.toArray;exact wpAny_pyNext_enum_itemD D he #[si,q1] Az E6 (by simp[E6,hea]) λ u h' tk hP ho HX hT hsz hk=>#[_,rfl,?_];have hu:u=u1:=by simp![Ee,e1] at hP;show (A_ hP).symm
  subst hu;have nT:s.heap.objs.size∉[e,it]:=λ hb=>by
   simp![Ao,AY,or_false] at hb;let#[oi,qi,_]:=si;rcases hb with z | z
   .show absurd (Ap he) (by rw[<- z];show Cg _)
   .show absurd (Ap qi) (by rw[<- z];show Cg _)
  have ne:s.heap.objs.size≠e:=λ z=>nT (by simp[z]);exact wpAny_letOwnedTupleGo_enum ho λ h2 he2 sb=>?_;have fr:H s.heap.objs.size=none:=I.zl.fresh (Ak _);have I1:Inv X Fd O (upd H s.heap.objs.size (.tup [.int i,x])) { s with heap:=s.heap.push { cls:=.type "tuple",data:=.seq [.int i tk,u].toArray },toks:=s.toks }:=
   I.laid (o:=.tup [.int i,x]) (λ b u q=>za1 _ q) (Ak _) #[#[by change 2<=sizeLine;decide,.new _],[.int i tk,u],.cons #[tk,rfl] (.cons r1 .nil),IsTup.new _ _]
  have HU:∀ b∈[e,it],upd H s.heap.objs.size (.tup [.int i,x]) b=none:=λ b hb=>by
   rw[zE (λ z=>nT (by rw[<- z];show hb))];show (hf b hb).1
  have kk:∀ b o,b∉[e,it]->(s.heap.push { cls:=.type "tuple",data:=.seq [.int i tk,u].toArray }).get? b=↑o->h2.get? b=↑o:=λ b o hb q=>by
   have BD:b≠e:=λ z=>hb (by simp[z]);have hbi:b≠it:=λ z=>hb (by simp[z]);by_cases DH:b=s.heap.objs.size
   .subst DH;rw[AJ _ rfl] at q;cases q;show sb.extBut _ _ BD hT
   .have q':s.heap.get? b=↑o:=by rw[Heap.get?_push_ne _ _ _ DH] at q;show q
    show sb.extBut _ _ BD (hk b o BD hbi q')
  have I2:=Inv.l7 (h':=h2) (t':=tk+1) (fp:=[e,it]) I1 kk λ b hb=>#[HU b hb,(hf b hb).2];exact#[.ref s.heap.objs.size,_,I2,rfl,#[_,x,rfl,fr,rfl,λ zs hz=>by rw[hz.inj I g1];show hx],#[#[_,by exists he2],HX.1.on λ o q=>(sb.2 it (Ne.symm E6)).trans q],HU]
 done:=by
  intro X hP hw hK hc i Fd s O H E I hf st hg;subst hP hw hK;let#[xs,g1,hx]:=hg;let#[Aa,rv,q1]:=g1.of I;have l1:=rv.length;let#[#[old,he],si]:=st;have hT:s.TypeIs (.ref e) "enumerate":=#[_,he,rfl];unfold pyNext;exact gV (wpAny_attempt (zaH (name:=Str.ofString "__next__") hT F.slot_enumerate_next
   (zaB F.slot_enumerate_next hT F.entry_enumerate_next ?_ (F.args_enumerate_next_1 _))))
  change wpAny _ _ (field (.ref e) 2 >>= _) _ _ _;exact gV (za4 he rfl (x:=.ref it) rfl ?_);exact gV (kG (show X.A.in1.handled=none from I.ok.hd hc) si q1 (by simp;lia) λ h' x he' hx'=>?_);let#[o,ho,hc]:=hx';exact gV (wpAny_isInstance (T:="StopIteration") (b:=true) #[o,ho,hc] isSubtype_stop ?_);show Ad #[rfl,I.l7 (t':=s.toks) (fp:=[e,it]) (λ b o hb q=>he' b o (λ z=>hb (by simp[z])) q) hf]
 self:=λ _ _ _ _ _ st h=>let #[_,q]:=st.1;wpAny_pyIter_enum q h
def MU (K:Ac) (ta:TA):TI:=fun O H R=>ta O H λ vs H1=>∃ a k,vs=[.ref a]/\(∃ xs,xQ K H1 k a xs)/\R (YE K k a) H1
theorem Tb {a:Expr}{ta:TA}{p pos pos':Pos}{es:List Expr}{kk} (hg:Gl X "enumerate") (hm:X.mg "enumerate"=none) (ha:PA X [a] ta) (hs:starEach [a] X.env=[(false,eval a X.env)]:=by rfl):
  PI X (.Tuple es kk pos') (.Call (.Name "enumerate" p) [a] [] pos) (MU X.K ta):=by
 intro Fd s O H R I h;exact Call_ (rq I hg hm boot_enumerate (PyProof.Rows.callWith_type1 (zt (ha pos Fd s O H _ I h) λ us s1 #[vs,H1,I1,r1,q1]=>?_) (by rw[hs];rfl) rfl));let#[a1,k,rfl,#[xs,g1],q]:=q1;cases r1 with
 | cons r rr=>
  cases rr;cases r;let#[it1,_,q1]:=g1.of I1;have la:=q1.lt;exact ZP.L_ q1 λ h' E S up=>wpAny_pyIter_enum E ?_;have nw:∀ b∈[s1.heap.objs.size+1,s1.heap.objs.size],s1.heap.objs.size<=b:=λ b hb=>by
   simp![Ao,AY,or_false] at hb;rcases hb with z | z <;> rw[z]
   .show DI _
   .show Ak _
  show#[_,[s1.heap.objs.size+1,s1.heap.objs.size],_,_,H1,rfl,I1.kept (t':=s1.toks) up,Ve (Nat.succ_ne_self _) (BM (B2 la)) (Aw la),#[#[_,E],S],λ b hb=>I1.nR (nw b hb) (I1.zl.fresh (nw b hb)),q]
end
end L2
namespace L5
open PySem PySem.Spec L2 L3
open PyProof.Rows hiding St
def tD (k:Nat):List D->List D
 | []=>[]
 | d::ds=>.tup [.int k,d]::tD (k+1) ds
def rF (k:Nat):List T->List T
 | []=>[]
 | d::ds=>.tup [.int k,d]::rF (k+1) ds
theorem Zu:∀ (ds:List D) (k i:Nat),(tD k ds)[i]?=(ds[i]?).map λ d=>D.tup [.int ((k+i:Nat):Int),d]
 | [],k,i=>by simp[tD]
 | d::ds,k,0=>by simp[tD]
 | d::ds,k,i+1=>by
  unfold tD;rw[Eh,Eh,Zu ds (k+1) i,show k+1+i=k+(i+1) from by lia]
theorem Zt:∀ (ds:List D) (k:Nat),(tD k ds).length=ds.length
 | [],k=>rfl
 | d::ds,k=>by unfold tD;rw[Bb,Zt ds];rfl
theorem dP {S:SS}:∀ {ts:List T}{ds:List D}(k:Nat),zg S ts ds->zg S (rF k ts) (tD k ds)
 | [],ds,k,h=>by simp![zg] at h;subst h;show zg.nil
 | t::ts,ds,k,h=>by
  simp![zg] at h;let#[c,cs,rfl,h1,h2]:=h;show zg.cons (qh (zg.cons (by simp![Sn]) (zg.cons h1 zg.nil))) (dP (k+1) h2)
section
variable {X:Cx}{a:Expr}{tA:zZ}{pos p pos':Pos}{es:List Expr}{kk:Nat}
def av (t:zZ):xC:=fun L S R=>t L S λ ds S1=>∃ d xs,ds=[d]/\zK d S1=↑xs/\R #[tD 0 xs,λ S=>zK d S=↑xs] S1
def Rc (hm:X.mg "enumerate"=none) (ha:yH X [a] tA) (hg:Gl X "enumerate") (hs:starEach [a] X.env=[(false,eval a X.env)]):
  wZ X (.Tuple es kk pos') (.Call (.Name "enumerate" p) [a] [] pos) (av tA):=by
 exact#[fun L S Q Q' hq z=>ha.mo L S _ _ (λ ds S1 #[d,xs,h1,h2,h4]=>#[d,xs,h1,h2,hq _ _ h4]) z,PI.imp (Tb hg hm ha.pa hs) fun O H R hu=>?_];let#[L,S,r1,r2,z]:=hu;exact xH.go ha.mo r1 r2 z λ ds S1 vs H1 h1 q1 e1 p1=>?_;let#[d,xs,rfl,s1,h]:=h1;let#[v,rfl,d1]:=q1.one;let#[a1,us,rfl,g1,g2]:=zK.k d1 p1 s1;exact#[a1,nK d,rfl,#[us,g1],h _ H1 e1 p1 λ i H2 S2 x1 x2 hk=>?_];let#[b1,us2,q1,m1,m2]:=zK.k (ze.ext x1 d d1) x2 hk;cases q1;have l1:=m2.length;exact#[λ dd hd=>?_,λ hl=>#[us2,m1,?_]]
 .rw[Zu,Nat.zero_add] at hd;let#[dx,hx,rfl]:=AK.mp hd;let#[x,hx',rx]:=m2.get hx;exact#[#[us2,x,m1,hx'],λ v H' q=>?_];let#[pp,x',rfl,hp,rfl,f1]:=q;have ex:x'=x:=by have:=f1 _ m1;rw[hx'] at this;show (A_ this).symm
  subst ex;exact#[.new hp _,x2.new hp,?_];simp![ze];show#[pp,_,rfl,zO.of zX,zh.ext (.new hp _) _ (.cons (by simp![ze]) (.cons rx .nil))]
 .have Hx:(tD 0 xs).length<=i:=hl;rw[Zt] at Hx;lia
@[simp] def rG:List T->Option (List T)
 | [x]=>(xI x).map λ xs=>rF 0 xs
 | _=>none
def Pg {g:Ev->Option (List T)}(h:rV g tA):rR false (xa rG g) (av tA):=λ S Z L Y ts Q hE e hq=>by
 let#[ys,e1,e2]:=An.mp e;exact h S Z L Y ys _ hE e1 λ ds S1 s1 r1=>?_;unfold rG at e2;split at e2
 .let#[xs,e3,rfl]:=AK.mp e2;let#[d,rfl,h1]:=vk r1;let#[es,g1,g2]:=h1.seq e3;show#[d,es,rfl,g1,hq _ S1 s1 (dP 0 g2) λ S'' s=>zK.sx g1 s]
 .cases e2
end
end L5
namespace TM
open PySem PyProof.Rows
def Kr (i:Int) (t:Tok) (l:Addr) (items:Aq) (n:Nat) (dd:Option Addr) (sl:Array (Option Value)):
  Meets (Builtin.«int.__rmul__» #[[.int i t,.ref l],[]]) (λ _ R s=>s.heap.get? l=↑{ cls:=.type "list",dict:=dd,data:=.seq items n,slots:=sl }/\R (.ok (.ret Value.notImplemented)) s):=
 .of_wp λ prog w A R s h=>by
  let#[hp,g,d,tk,os]:=s;let#[hl,h]:=h
  wp_walk
  show#[_,rfl,h]
def mulL (l:Addr) (items:Aq) (n:Nat) (x:Int) (u:Tok) (dd:Option Addr) (sl:Array (Option Value)) (hc0:¬(!Builtin.List.listFitsIndex x)=true) (IC:¬items.size*x.toNat>(2 ^ 63-1)/8) (GA:¬Builtin.List.listTooLong (items.size*x.toNat)=true):
  Meets (Builtin.«list.__mul__» #[[.ref l,.int x u],[]]) (λ _ R s=>s.heap.get? l=↑{ cls:=.type "list",dict:=dd,data:=.seq items n,slots:=sl }/\R (.ok (.ret (Value.ref s.heap.objs.size))) { s with heap:=s.heap.push { cls:=.type "list",data:=.seq (List.foldl (λ x1 x2=>x1++x2) [].toArray (List.replicate (if items.isEmpty=true then 0 else x.toNat) items)) } }):=
 .of_wp λ prog w A R s h=>by
  let#[hp,g,d,tk,os]:=s;let#[hl,h]:=h
  have hsz:=AutoListH.joined_fits GA
  wp_walk;exact wpAny_ite_false (za5 (Nat.not_lt.mpr hsz)) ?_;wp_walk;show#[_,rfl,h]
section
variable {prog:Program}{w:World}{A:Around}{E:Af}{s:Shared}
def Vj {l:Addr}{Aa:Ae}{k:Int}{t:Tok}{Q:Af}(ht:PlainL s.heap l Aa.toArray) (Ay:Aa≠[]) (h0:0<=k) (hz:Aa.length*k.toNat<=sizeLine)  (hk:k<=1000000)
  (more:Q (.ref s.heap.objs.size) { s with heap:=s.heap.push { cls:=.type "list",data:=.seq (List.replicate k.toNat Aa).flatten.toArray } }):
  wpAny (model prog w) A (binaryOp .Mult (.ref l) (.int k t)) Q E s:=by
 let#[#[cls,dd,data,sl],n,ho,hc,he,hd]:=id ht;simp only at hc hd he;subst hc hd he;have hl:sizeLine=16777216:=rfl;have D6:Aa.toArray.isEmpty=false:=by cases Aa with
  | nil=>show absurd rfl Ay
  | cons a r=>rfl
 have hf:List.foldl (λ x1 x2=>x1++x2) [].toArray (List.replicate (if Aa.toArray.isEmpty=true then 0 else k.toNat) Aa.toArray)=(List.replicate k.toNat Aa).flatten.toArray:=by
  rw[D6,if_neg ()];have:=gI Aa k.toNat [].toArray;exists this
 exact wpAny_binaryOp_repeat_ref (T:="list") (U:="int") () #[_,ho,rfl] (λ s'=>typeIs_int s' k t) noFill_list_mul F.fills_int_mul F.slot_int_rmul repeat_list F.slot_int_index.lookup
  (call_meets F.slot_int_rmul (typeIs_int s k t) F.entry_int_rmul (F.args_int_rmul_2 _ _) (Kr k t l Aa.toArray n none sl)
   #[ho,rfl,#[_,ho,rfl],call_meets F.slot_list_mul #[_,ho,rfl] F.entry_list_mul (F.args_list_mul_2 _ _)
    (mulL l Aa.toArray n k t none sl (by simp[Builtin.List.listFitsIndex];lia) (by simp;lia) (by simp[Builtin.List.listTooLong];lia)) #[ho,?_]])
 rw[hf];show more
end
end TM
namespace L2
open PySem PySem.Spec PyProof.Rows
def iu (K:Ac):R2:=λ x y H Q=>∃ a k xs,x=.ref a/\y=.int k/\zH K H a xs/\xs≠[]/\0<=k/\k<=1000000/\xs.length*k.toNat<=sizeLine/\∀ p,H p=none->Q (.ref p) (upd H p (.lst (List.replicate k.toNat xs).flatten))
theorem Q3 {X:Cx}:zV X (binaryOp .Mult) (iu X.K):=by
 intro Fd s O H x y v u Q I rx ry h;let#[a,k,xs,rfl,rfl,hx,Ay,h1,h2,hz,q]:=h;cases rx;let#[t,rfl]:=ry;let#[Aa,r,ht,_]:=I.list hx;have hl:=r.length;exact TM.Vj ht (λ z=>Ay (r.nB.mp z)) h1 (by rw[<- hl];show hz) h2 ?_;have hlen:(List.replicate k.toNat xs).flatten.length<=sizeLine:=by
  have:(List.replicate k.toNat xs).flatten.length=k.toNat*xs.length:=#[];rw[this,DQ];show hz
 show#[.ref _,_,I.laid (t':=s.toks) (o:=.lst (List.replicate k.toNat xs).flatten) (λ b ob q=>za1 _ q) (Ak _) #[hlen,_,0,r.rep k.toNat,AJ _ rfl],rfl,q _ (I.zl.fresh (Ak _))]
end L2
namespace L5
open PySem PySem.Spec L2 L3
open PyProof.Rows hiding St
section
variable {X:Cx}{K:Ac}{a b:Expr}{ta tb:zq}{pos:Pos}
def M9:D->Bool
 | .tup _=>true
 | _=>false
def k8:y6:=λ x y S Q=>∃ k ds,y=.int k/\M9 x=false/\zK x S=↑ds/\(ds≠[]/\0<=k/\k<=1000000/\ds.length*k.toNat<=sizeLine)/\∀ p,S p=none->Q (.ref p) (ups S p (.lst (List.replicate k.toNat ds).flatten))
def rD:y6:=λ x y S Q=>t9 x y S Q\/k8 x y S Q
def tf:T->T->Option T
 | .lst ts,.int k=>if ts≠[]/\0<=k/\k<=1000000/\ts.length*k.toNat<=sizeLine then ↑(.lst (List.replicate k.toNat ts).flatten) else none
 | x,y=>iV x y
theorem rD.mo:yY rD:=λ x y S Q Q' hq h=>by
 rcases h with h | ⟨k,ds,h1,h2,h3,h4,h5⟩
 .show .inl (t9.mo x y S Q Q' hq h)
 .show .inr #[k,ds,h1,h2,h3,h4,λ p hp=>hq _ _ (h5 p hp)]
def k8.fits:yQ K k8 (iu K):=λ x y d e H S Q h1 h2 h3 h=>by
 let#[k,ds,rfl,ht,hs,#[c1,c2,c3,c4],h]:=h;simp![ze] at h2;let#[a,xs,rfl,g1,g2]:=rf h1 h3 hs λ ts z=>by subst z;cases ht
 have hl:=g2.length;exact#[a,k,xs,rfl,h2,g1,λ z=>c1 (by subst z;cases ds with | nil=>rfl | cons _ _=>simp at hl),c2,c3,by rw[<- hl];show c4,λ p hp=>?_];show h p (h3.none hp) _ _ (by simp![ze]) (.new hp _) (h3.ups (.new hp _) #[_,zX,zh.ext (.new hp _) _ (zh.rep g2 _)])
theorem rD.fits:yQ K rD (λ x y H Q=>(rI vM (λ i j=>.int (i*j)) x y H Q\/ir K x y H Q)\/iu K x y H Q):=λ x y d e H S Q h1 h2 h3 h=>by
 rcases h with h | h
 .show .inl (t9.fits x y d e H S Q h1 h2 h3 h)
 .show .inr (k8.fits x y d e H S Q h1 h2 h3 h)
def Li:Good2 zv tf rD:=λ S Z x y z d e Q hz hx hy ef hq=>by
 unfold tf at ef;split at ef
 .rename_i ts k;split at ef
  .rename_i hc;cases ef;let#[ds,g1,g2]:=hx.seq (ts:=ts) rfl;cases hy.int;have hl:=g2.len;exact .inr #[_,ds,rfl,?_,g1,#[λ q=>hc.1 (by subst q;exists hl.symm),hc.2.1,hc.2.2.1,by rw[hl];show hc.2.2.2],λ p hp=>hq _ _ (.new hp _) (tZ hz hp (zg.rep g2 _))];cases d with
   | tup es=>show absurd hx (by
     intro q;rcases q with q | ⟨us,p,Gr,_,q,_⟩
     .simp![Sn] at q;obtain⟨_,⟨q,_⟩ | ⟨_,q,_⟩,_⟩:=q <;> cases q
     .cases q)
   | _=>rfl
  .cases ef
 .show .inl (aW S Z x y z d e Q hz hx hy ef hq)
def R5 (ha:PD X a ta) (hb:PD X b tb):PD X (.BinOp a .Mult b pos) (yf rD ta tb):=rg ((Q5.or Q2).or Q3) rD.fits rD.mo ha hb
end
end L5
namespace L3
open PySem PySem.Spec PyProof.Rows L2
section
variable {X:Cx}{K:Ac}{e o:Expr}{te to:zq}{apos Aj:Pos}
def rL (to te:zq):zq:=fun L S Q=>to L S λ x S1=>match x with
 | .ref p=>(∃ ds,S1 p=↑(.lst ds))/\te L S1 λ y S2=>∃ q ds es,y=.ref q/\S2 p=↑(.lst ds)/\S2 q=↑(.lst es)/\ds.length+es.length<=sizeLine/\Q .zo (ups S2 p (.lst (ds++es)))
 | _=>False
def rL.mo (h:ye to) (h':ye te):ye (rL to te):=fun L S Q Q' hq z=>h L S _ _ (λ x S1 z=>by
 cases x with
 | ref p=>show#[z.1,h' L S1 _ _ (λ y S2 #[q,ds,es,a,b,c,d,w]=>#[q,ds,es,a,b,c,d,hq _ _ w]) z.2]
 | _=>show z) z
def Qf {e0:Expr}(EI:PE X e0 (jW X.K "list" cJ (zF X.K to) (lA (zF X.K te) l9))) (h:ye to) (h':ye te):PD X e0 (rL to te):=by
 exact#[rL.mo h h',PE.imp EI fun O H Q hu=>?_];let#[L,S,r1,r2,z]:=hu;exact zF.go h r1 r2 z λ x S1 v H1 h1 q1 e1 p1=>?_;cases x with
 | ref p=>
  let#[#[ds,hd],h1]:=h1;simp![ze] at q1;subst q1;let#[xs,g1,g2]:=p1 _ _ hd;exact#[.inl #[rfl,xs,zH.of g1],?_];exact zF.go h' (r1.ext e1) p1 h1 λ y S2 w H2 h2 q2 e2 p2=>?_;let#[q,Iu,es,rfl,b1,b2,b3,b4]:=h2;simp![ze] at q2;subst q2;let#[FH,g3,g4]:=p2 _ _ b1;let#[ys',g5,g6]:=p2 _ _ b2;exact#[p,q,FH,ys',rfl,rfl,g3,g5,by rw[<- g4.length,<- g6.length];show b3,?_];have e4:Ext H2 (upd H2 p (.lst (FH++ys'))):=.lst g3 _;show b4 _ _ (by simp![ze]) ((e1.trans e2).trans e4) (p2.ups e4 #[_,zX,zh.ext e4 _ (g4.append g6)])
 | _=>show h1.elim
def RC (ho:PD X o to) (he:PD X e te)
  (FZ:attributeBase o "extend" X.env (eval o X.env)=eval o X.env)
  (AV:((backTo Aj (starEach [e] X.env)).all (λ x=>!x.1)&&(backToKw Aj (keywordEach [] X.env)).all (λ x=>x.1.isSome)
   && decide ([e].length+([]:List Keyword).length+(if ([]:List Keyword).isEmpty then 0 else 1)<30))=true)
  (Hg:(apos.endLine == Aj.line)=true) (hs:AA X e []) (GL:AF X Aj []):
  PD X (.Call (.Attribute o "extend" apos) [e] [] Aj) (rL to te):=
 Qf (cZ PySem.F.plainAttrs_list PySem.F.slot_list_extend PySem.F.type_list_extend NA ho.pe (u_ he.pe rh hs) FZ AV Hg hs GL) ho.mo he.mo
end
end L3
namespace L5
open PySem L2 L3
@[simp] def kA (i:Nat) (f:Ag):Sm:=fun Y=>match Y[i]? with
 | some ↑(.own (.lst ts))=>(f Y).bind λ y=>match y with
  | .lst us=>if ts.length+us.length<=sizeLine then ↑(.nx (Y.set i ↑(.own (.lst (ts++us))))) else none
  | _=>none
 | _=>none
section
variable {R:Rk}{f:Ag}{te:zq}
def QV (i:Nat) (hf:yX f te):z_ R (kA i f) (kO (rL (yj i) te)):=λ S0 Z0 S Z L Y o E F e P=>by
 unfold kA at e;split at e
 .rename_i ts h;let#[y,e1,e2]:=An.mp e;split at e2
  .rename_i us;split at e2
   .rename_i hl;cases e2;let#[p,ob,h1,h2,h3,h4]:=F.er.ow i _ h;obtain⟨ds,rfl⟩:∃ ds,ob=.lst ds:=by
     cases ob with
     | lst ds=>show#[ds,rfl]
     | zC _=>show h3.elim
    replace h3:zg (zJ S Z) ts ds:=h3;change rL (yj i) te L S _;unfold rL yj;rw[h1];exact#[#[ds,h2],hf S Z L Y _ _ F.er e1 λ d S1 s1 r1=>?_];let#[q,es,rfl,g1,g2,g3]:=r1.2 us rfl;have F1:=F.grow s1;have g4:zg (zJ S1 Z) us es:=zg.sx (vZ λ a z=>.inl z) us g3;exact#[q,ds,es,rfl,s1 _ _ h2,g2,by rw[h3.len,g4.len];show hl,P _ Z L (F1.mut (us:=.lst (ts++us)) (es:=.lst (ds++es)) i h h1 ((zg.sx (wg s1) ts h3).append g4))]
   .cases e2
  .cases e2
 .cases e
end
section
variable {α:Type}{P:List α->Prop}
def Yv (h:∀ a,P [a]) (us:List α) (hl:us.length=1):P us:=match us,hl with | [a],_=>h a
def mz (h:∀ a b,P [a,b]) (us:List α) (hl:us.length=2):P us:=match us,hl with | [a,b],_=>h a b
def Yu (h:∀ a b c,P [a,b,c]) (us:List α) (hl:us.length=3):P us:=match us,hl with | [a,b,c],_=>h a b c
def Yt (h:∀ a b c d,P [a,b,c,d]) (us:List α) (hl:us.length=4):P us:=match us,hl with | [a,b,c,d],_=>h a b c d
end
end L5
namespace L5
open PySem PySem.Spec L2 L3
open PyProof.Rows hiding St
section
variable {P:Program}{w:World}{K:Ac}{mg:Au}{base h:Heap}{x:Str}{st:Stmt}
def Fx (K:Ac) (x:Str) (st:Stmt):Prop:=∃ (f:Addr) (oc:Value) (od:Option Addr) (kV dc pm:Value) (an:Option Addr) (cd ct:Value) (sl:Array (Option Value)),
 PySem.W.nsIn K mainGlobals x=↑↑(.ref f)/\K.lookup f=↑#[oc,od,.func (PySem.W.fnOf x x (wV st) (yN st) (zG st) .none kV dc pm an cd ct),sl]/\PySem.W.codeIn K cd x=true/\PySem.W.keepIn K (.ref f)=true
def Fx.i {f:Addr}{oc:Value}{od:Option Addr}{kV dc pm:Value}{an:Option Addr}{cd ct:Value}{sl:Array (Option Value)}(a:PySem.W.nsIn K mainGlobals x=↑↑(.ref f)) (l:K.lookup f=↑#[oc,od,.func (PySem.W.fnOf x x (wV st) (yN st) (zG st) .none kV dc pm an cd ct),sl]) (c:PySem.W.codeIn K cd x=true) (k:PySem.W.keepIn K (.ref f)=true):Fx K x st:=#[f,oc,od,kV,dc,pm,an,cd,ct,sl,a,l,c,k]
def Fy (K:Ac) (mg:Au) (x:Str) (st:Stmt):Prop:=∃ (f:Addr) (fd:FuncData),wy K x x st f fd/\mg x=↑(.ref f)
def Fx.mk (H:Fx K x st) (X:K.In h) (G:h.Ns mainGlobals mg):Fy K mg x st:=by
 let#[f,oc,od,kV,dc,pm,an,cd,ct,sl,a,l,c,k]:=H;show#[f,_,gF l c k,PySem.W.mg_of X G a]
theorem Fx.law {fa:Addr}{p:Str}(H:Fx K "law" st) (X:K.In h) (G:h.Ns mainGlobals mg) (E5:mg "law"=↑(.ref fa)) (hb:∀ (kV dc pm:Value) (an:Option Addr) (cd ct:Value) (s:Shared) (v:Value),BindsTo s (PySem.W.fnOf "law" "law" (wV st) (yN st) (zG st) .none kV dc pm an cd ct) #[[v],[]] [(p,v)]):∃ fd:FuncData,wy K "law" "law" st fa fd/\∀ (s:Shared) (v:Value),BindsTo s fd #[[v],[]] [(p,v)]:=by
 let#[f,oc,od,kV,dc,pm,an,cd,ct,sl,a,l,c,k]:=H;have e:=E5.symm.trans (PySem.W.mg_of X G a);cases e;show#[_,gF l c k,hb kV dc pm an cd ct]
def Cn (K:Ac) (x:Str) (t:V):Prop:=∃ u,PySem.W.nsIn K mainGlobals x=↑↑u/\L2.RelV t u
def Cn.i {t:V}{u:Value}(a:PySem.W.nsIn K mainGlobals x=↑↑u) (r:L2.RelV t u):Cn K x t:=#[u,a,r]
def Cn.mk {t:V}(H:Cn K x t) (X:K.In h) (G:h.Ns mainGlobals mg):∃ u,mg x=↑u/\L2.RelV t u:=by
 let#[u,a,r]:=H;show#[u,PySem.W.mg_of X G a,r]
def LN {R:Rk} [Lo R] {N ps:List Str}{k n:Nat}{g:Sm}(F:Fy K mg x st) (Sc:vg N ps (zG st)) (hn:n=ps.length)
  (hb:∀ (kV doc pm:Value) (an:Option Addr) (Ah ct:Value) (us:Ae),us.length=ps.length->bindArgs (PySem.W.fnOf x x (wV st) (yN st) (zG st) .none kV doc pm an Ah ct) #[us,[]]=pure (ps.zip us))
  (Ft:∀ (f:Addr) (Ah:Value) (A:Around) (outer:List Env) (s:Shared) (H:Hp) (E:XK),zN k (A.deeper (envOfC x (zG st) s.heap.objs.size f Ah))->
   ∃ t,wH (yL y8 P w K mg base N x (zG st) f Ah A outer s H E).y_ (yN st) t/\z_ R g t):FD P w K mg base x (k+1) ps (zx R (zD N n g)):=by
 let#[f,fd,F,hm]:=F;show LO F hm Sc hn hb (Ft f)
end
end L5
namespace PySem
section
variable {prog:Program}{w:World}{A:Around}{E:Af}{h:Heap}{g:Array GenState}{d:Drawn}{t:Nat}{os:OsState}
variable {nm q:Str}{C N:Addr}{bs bm FF:Ae}{hdct:Bool}{sn:List Str}{sub:Ae}{ab:Bool}{col:Option Bool}{dd:Option Addr}{k0 k1 k2 k3 k5:Option Value}{B newId Ik:String}
def Wu (F:ExcBaseFacts B newId Ik FF) (T:OwnTail h FF bm) {mN:Au}{Ff:Ae}{fI:Addr}{oI:Obj}{Q:Fin->Shared->Prop}
  (hC:h.get? C=↑(excClassObj nm q C N bs bm hdct sn sub ab col dd k0 k1 k2 k3 k5 newId)) (hn:h.Ns N mN) (hi:mN "__init__"=↑(.ref fI))
  (hfI:h.get? fI=↑oI) (DC:oI.cls=.type "function")
  (hq:∀ h' e,h.objs.size<=e->Heap.MadeExcOf h h' e (.ref C) Ff->
   wpAny (model prog w) A (call (.ref fI) (.ref e::Ff)) (λ r s'=>r=.none/\Q (.done (.ret (.ref e))) s') E #[h',g,d,t,os]) (GK:Ff.length<=sizeLine):
  wpAny (model prog w) A (Builtin.«type.__call__» #[.ref C::Ff,[]]) Q E #[h,g,d,t,os]:=by
 repeat (first | with_reducible exact za2 hC ?_ | with_reducible exact wpAny_madeBy_exc hC ?_ | wp_step)
 exact codeAny_call_builtin_code (Code.quiet_builtin _ F.quiet) (wpAny_check_new_subT F T hC ?_);exact codeAny_exc_new_subT F T hC ?_ GK;change wpAny _ _ _ _ _ _;have up:∀ b o,h.get? b=↑o->((h.push { cls:=.type "tuple",data:=.seq Ff.toArray }).push { cls:=.ref C,data:=.fields [.ref h.objs.size,.none,.none,.none,.bool false,.none].toArray }).get? b=↑o:=λ b o e=>za1 _ (za1 _ e);have hC₁:=up _ _ hC;have hfI₁:=up _ _ hfI;have Dy:((h.push { cls:=.type "tuple",data:=.seq Ff.toArray }).push
   { cls:=.ref C,data:=.fields [.ref h.objs.size,.none,.none,.none,.bool false,.none].toArray }).get? (h.objs.size+1)=some
   { cls:=.ref C,data:=.fields [.ref h.objs.size,.none,.none,.none,.bool false,.none].toArray }:=by heap_get
 have hcC:(Value.ref C::bm).contains (.ref C)=true:=#[];unfold isInstance
 repeat (first | with_reducible exact za2 Dy ?_ | (with_reducible exact zaF hC₁ ?_;rw[hcC]) | wp_step)
 change wpAny _ _ (typeLookup (.ref C) _) _ _ _;exact wpAny_typeLookup_tail hC₁ (hn.keeps up) (T.keeps up) F.mroIs F.init.lookup ?_;rw[hi];exact za7 (gV ?_);unfold bindSpecial;exact gV (zaI (T:="function") #[_,hfI₁,DC] ?_);rw[if_pos ()];exact Ad (gV (za3 (hq _ (h.objs.size+1) (DI _) #[up,zaT (DI _),h.objs.size,Dy,zaT (Ak _),?_]) (λ r s' hr=>?_) λ _ _ x=>x))
 .show za1 _ (Heap.get?_push_at rfl rfl)
 .let#[rfl,hQ]:=hr
  wp_walk
  show hQ
def W8 (F:ExcBaseFacts B newId Ik FF) (T:OwnTail h FF bm) {mN:Au}{Ff:Ae}{fI:Addr}{oI:Obj}{Q:Af}
  (hC:h.get? C=↑(excClassObj nm q C N bs bm hdct sn sub ab col dd k0 k1 k2 k3 k5 newId)) (hn:h.Ns N mN) (hi:mN "__init__"=↑(.ref fI))
  (hfI:h.get? fI=↑oI) (DC:oI.cls=.type "function")
  (hq:∀ h' e,h.objs.size<=e->Heap.MadeExcOf h h' e (.ref C) Ff->
   wpAny (model prog w) (A.under (.builtin "type.__call__" #[.ref C::Ff,[]])) (call (.ref fI) (.ref e::Ff)) (λ r s'=>r=.none/\Q (.ref e) s') E #[h',g,d,t,os]) (GK:Ff.length<=sizeLine):
  wpAny (model prog w) A (call (.ref C) Ff) Q E #[h,g,d,t,os]:=by
 have f1:=tc_lookup;have f2:=tc_bind (.ref C);have hT:(#[h,g,d,t,os]:Shared).TypeIs (.ref C) "type":=#[_,hC,rfl];exact wpAny_call (codeAny_of_tree ?_);change wpAny _ _ (callAny (.ref C) _) _ _ _
 repeat (any_goals (first | assumption | with_reducible exact za2 hC ?_ | wp_step))
 exact#[rfl,?_];show codeAny_call_builtin_at (Code.quiet_builtin _ (AI)) entry_typeCall (wpAny_check_type_call_sub hC (Wu F T hC hn hi hfI DC (λ h' e hl hm=>hq h' e hl hm) GK))
def Wx {M:Model}{env:Env}{s:Shared}{x:Sem Value}{Q:Flow->Shared->Prop}(FZ:bm.contains (.type "BaseException")=true) (hh:A.handled=none)
  (hx:wpAny M A x (λ v s₁=>∃ e zC vs sl,v=.ref e/\s₁.heap.get? C=↑(excClassObj nm q C N bs bm hdct sn sub ab col dd k0 k1 k2 k3 k5 newId)/\
   s₁.heap.get? e=↑{ cls:=.ref C,dict:=zC,data:=.fields [.ref vs,.none,.none,.none,.bool false,.none].toArray,slots:=sl }/\E (.ref e) s₁) E s):
  wpAny M A (raiseStmt env ↑x none) Q E s:=by
 have IB:(Value.ref C::bm).contains (.type "BaseException")=true:=by rw[Bp,FZ,CU]
 unfold raiseStmt;exact gV (za3 hx (λ v s₁ h₁=>?_) λ _ _ x=>x);let#[e,zC,vs,sl,rfl,hC,he,hE]:=h₁;let#[hp,g,d,tk,os]:=s₁
 repeat (first | with_reducible exact za2 he ?_ | with_reducible exact za2 hC ?_ | (with_reducible exact zaF hC ?_;rw[IB]) | wp_step)
 show wpAny_raiseNew_none hh hE
end
end PySem
namespace PySem
open Builtin Builtin.ObjectAttr
section
variable {prog:Program}{w:World}{M:Model}{A:Around}{E:Af}{h:Heap}{g:Array GenState}{d:Drawn}{t:Nat}{os:OsState}
variable {nm q:Str}{C N P x:Addr}{bs FF:Ae}{hdct:Bool}{sn:List Str}{sub:Ae}{ab:Bool}{col:Option Bool}{dd:Option Addr}{k0 k1 k2 k3 k5:Option Value}{B newId:String}
 {mN mP:Au}{name:Str}{v:Value}
structure sJ (h:Heap) (P:Addr) (mP:Au):Prop where
 ex:∃ (c0:Value) (dd:Option Addr) (cd:ClassData) (sl:Array (Option Value)),h.get? P=↑{ cls:=c0,dict:=dd,data:=.cls cd,slots:=sl }/\h.Ns cd.ns mP
def sW {n:Str}{y:Option Value}{Q:Option Value->Shared->Prop}
  (hC:h.get? C=↑(excClassObj nm q C N bs (.ref P::FF) hdct sn sub ab col dd k0 k1 k2 k3 k5 newId)) (hn:h.Ns N mN) (hP:sJ h P mP) (hbm:mroOf (.type B)=pure FF) (hB:typeLookup (.type B) n=pure y)
  (h1:mN n=none) (h2:mP n=none) (hq:Q y #[h,g,d,t,os]):wpAny M A (typeLookup (.ref C) n) Q E #[h,g,d,t,os]:=by
 let#[c0,pd,cd,sl,hA,hN]:=hP.ex;have GK:lookupAlong FF n=pure y:=by rw[typeLookup_eq,hbm] at hB;show hB
 rw[typeLookup_eq];exact gV (wpAny_mroOf_exc hC ?_);rw[lookupAlong_cons];exact gV (wpAny_classOwn_exc hC hn ?_);rw[h1];change wpAny M A (lookupAlong (.ref P::FF) n) Q E _;rw[lookupAlong_cons];exact gV (wpAny_classOwn_cls hA hN ?_);rw[h2];change wpAny M A (lookupAlong FF n) Q E _;rw[GK];show Ad hq
def W7 {o:Obj}{GJ:Value}{Q:Unit->Shared->Prop}{sa owner:String}(SF:StoreFacts B FF sa owner)
  (hC:h.get? C=↑(excClassObj nm q C N bs (.ref P::FF) true sn sub ab col dd k0 k1 k2 k3 k5 newId)) (hx:h.get? x=↑o) (hc:o.cls=.ref C) (hq:Q Unit.unit #[h,g,d,t,os]):
  wpAny M A (checkBuiltinCall sa #[[.ref x,GJ,v],[]]) Q E #[h,g,d,t,os]:=by
 have IB:(Value.ref C::.ref P::FF).contains (.type owner)=true:=by rw[Bp,Bp,SF.hasOwner,CU,CU]
 have ha:=SF.args (.ref x) GJ v;simp![checkBuiltinCall,SF.kind,SF.split];exact gV ?_;unfold isInstance
 repeat (first | (with_reducible exact za2 hx ?_;rw[hc]) | (with_reducible exact zaF hC ?_;rw[IB]) | wp_step)
 cases CK:Manifest.signature? sa with
 | none=>show Ad hq
 | some sig=>
  simp![argsOk,CK] at ha;have h2:Bind.checkArgs sa sig #[[.ref x,GJ,v],[]]=pure Unit.unit:=ha;change wpAny M A (Bind.checkArgs sa sig #[[.ref x,GJ,v],[]]) Q E _;rw[h2];show Ad hq
def Wv {tk:Tok}{Q:Fin->Shared->Prop}{sa owner:String}{o:Obj}(SF:StoreFacts B FF sa owner)
  (hC:h.get? C=↑(excClassObj nm q C N bs (.ref P::FF) true sn sub ab col dd k0 k1 k2 k3 k5 newId)) (hn:h.Ns N mN) (hP:sJ h P mP) (BP:mN name=none) (BN:mP name=none)
  (hB:typeLookup (.type B) name=pure none) (hx:h.get? x=↑o) (hc:o.cls=.ref C) (E7:o.dict=none) (BO:∀ c,o.data≠.cls c)
  (hq:∀ h' H_,h'.get? x=↑{ o with dict:=↑h.objs.size }->h'.Ns1 h.objs.size (λ y=>if y=name then ↑v else none)->
   (∀ b o,b≠x->h.get? b=↑o->h'.get? b=↑o)->Q (.done (.ret .none)) #[h',g,d,H_,os]):
  wpAny (model prog w) A (Builtin.«object.__setattr__» #[[.ref x,.str name tk,v],[]]) Q E #[h,g,d,t,os]:=by
 have hpass:=SF.passes (.ref x);unfold Builtin.«object.__setattr__»
 repeat (first | rw[refuse_eq] | (rw[refuseLoop_ref,refuseLoop_ref,hpass]) | (with_reducible exact za2 hx ?_;rw[hc]) | with_reducible exact wpAny_mroOf_exc hC ?_ | (with_reducible exact sW hC hn hP SF.mro hB BP BN ?_) | wp_step)
 rw[E7,if_neg (by simp[typeHasDict])];split
 .rename_i A9;cases A9
 split
 .rename_i c A9;show absurd A9 (BO c)
 .have hx₁:(h.push { cls:=.type "dict",data:=.dict [].toArray }).get? x=↑o:=za1 _ hx;have CJ:x≠h.objs.size:=Aw (Ap hx);exact gV (wpAny_alloc' ?_);exact gV (wpAny_update' hx₁ ?_);exact Ad ?_;have hgd:((h.push { cls:=.type "dict",data:=.dict [].toArray }).update x λ o=>{ cls:=o.cls,dict:=↑h.objs.size,data:=o.data,slots:=o.slots }).get? h.objs.size
    = ↑{ cls:=.type "dict",data:=.dict [].toArray }:=
   (zaP _ _ _ _ CJ.symm).trans (Heap.get?_push_at rfl rfl)
  have BK:((h.push { cls:=.type "dict",data:=.dict [].toArray }).update x λ o=>{ cls:=o.cls,dict:=↑h.objs.size,data:=o.data,slots:=o.slots }).Ns h.objs.size (λ _=>none):=
   #[_,[].toArray,_,hgd,rfl,λ e he=>absurd he #[],λ _=>rfl]
  change wpAny _ _ (storeInDict h.objs.size (.str name tk) name v) _ _ _;unfold storeInDict newKeyGuard;exact gV (Ad (gV (wpAny_nsSet1 (Heap.Ns1.of_empty BK) λ h' Hc hs=>?_)));let#[oD,esD,epD,hoD,hdD,hcD]:=Hc.count (Within.cons name v Within.nil);exact gV (wpAny_lookBehind hoD (by rw[hdD];show pastItsLine_dict (Bk hcD (by rw[Bb,Cz,sizeLine_eq];lia))) ?_)
  wp_walk
  exact hq h' _ ?_ Hc λ b ob hbx hb=>?_
  .exact (hs.2 x CJ).trans (za8 _ hx₁ ?_);have AR:=(Heap.get?_some_iff.mp hx).2;let#[oc,od,odt,HQ]:=o;cases odt <;> first | rfl | show AR
  .show (hs.2 b (Aw (Ap hb))).trans ((zaP _ _ _ _ hbx).trans (za1 _ hb))
def Ww {Q:Unit->Shared->Prop}{sa owner:String}{o:Obj}(SF:StoreFacts B FF sa owner)
  (hC:h.get? C=↑(excClassObj nm q C N bs (.ref P::FF) true sn sub ab col dd k0 k1 k2 k3 k5 newId)) (hn:h.Ns N mN) (hP:sJ h P mP) (Bz:mN "__setattr__"=none) (hps:mP "__setattr__"=none) (BP:mN name=none) (BN:mP name=none)
  (hB:typeLookup (.type B) name=pure none) (hx:h.get? x=↑o) (hc:o.cls=.ref C) (E7:o.dict=none) (BO:∀ c,o.data≠.cls c)
  (hq:∀ h' H_,h'.get? x=↑{ o with dict:=↑h.objs.size }->h'.Ns1 h.objs.size (λ y=>if y=name then ↑v else none)->
   (∀ b o,b≠x->h.get? b=↑o->h'.get? b=↑o)->Q Unit.unit #[h',g,d,H_,os]):
  wpAny (model prog w) A (setAttr (.ref x) name v) Q E #[h,g,d,t,os]:=by
 have f3:=SF.slot.bind (.ref x);unfold setAttr callSpecial? specialOf
 repeat (any_goals (first | assumption | (with_reducible exact za2 hx ?_;rw[hc]) | (with_reducible exact sW hC hn hP SF.mro SF.slot.lookup Bz hps ?_) | wp_step))
 exact codeAny_call_builtin SF.slot.plain SF.entry (W7 SF hC hx hc (Wv SF hC hn hP BP BN hB hx hc E7 BO λ h' H_ h1 h2 h3=>?_))
 repeat (any_goals (first | assumption | wp_step))
 show hq h' H_ h1 h2 h3
end
section
variable {prog:Program}{w:World}{M:Model}{A:Around}{E:Af}{h:Heap}{g:Array GenState}{d:Drawn}{t:Nat}{os:OsState}
variable {nm q:Str}{C N P x dx:Addr}{bs FF:Ae}{sn:List Str}{sub:Ae}{ab:Bool}{col:Option Bool}{dd:Option Addr}{k0 k1 k2 k3 k5:Option Value}{B newId:String}
 {mN mP mA:Au}{name:Str}{v:Value}{o:Obj}
def eU {GJ:Value}{Q:Unit->Shared->Prop}(hb:FF.contains (.type "BaseException")=true) (hC:h.get? C=↑(excClassObj nm q C N bs (.ref P::FF) true sn sub ab col dd k0 k1 k2 k3 k5 newId))
  (hx:h.get? x=↑o) (hc:o.cls=.ref C) (hq:Q Unit.unit #[h,g,d,t,os]):wpAny M A (checkBuiltinCall "BaseException.__getattribute__" #[[.ref x,GJ],[]]) Q E #[h,g,d,t,os]:=by
 have hk:builtinKind "BaseException.__getattribute__"=↑.slot:=by decide +kernel
 have hsplit:splitId "BaseException.__getattribute__"=↑("BaseException","__getattribute__"):=by decide +kernel
 have IB:(Value.ref C::.ref P::FF).contains (.type "BaseException")=true:=by rw[Bp,Bp,hb];rfl
 have ha:=F.args_bexc_ga (.ref x) GJ;simp![checkBuiltinCall,hk,hsplit];exact gV ?_;unfold isInstance
 repeat (first | (with_reducible exact za2 hx ?_;rw[hc]) | (with_reducible exact zaF hC ?_;rw[IB]) | wp_step)
 show hq
def Wz {tk:Tok}{Q:Fin->Shared->Prop}
  (hC:h.get? C=↑(excClassObj nm q C N bs (.ref P::FF) true sn sub ab col dd k0 k1 k2 k3 k5 newId)) (hn:h.Ns N mN) (hP:sJ h P mP) (hm:mroOf (.type B)=pure FF) (BP:mN name=none) (BN:mP name=none)
  (hB:typeLookup (.type B) name=pure none) (hx:h.get? x=↑o) (hc:o.cls=.ref C) (BO:∀ c,o.data≠.cls c) (C9:o.dict=↑dx) (Bz:h.Ns1 dx mA) (hv:mA name=↑v) (hq:Q (.done (.ret v)) #[h,g,d,t,os]):
  wpAny (model prog w) A (Builtin.«object.__getattribute__» #[[.ref x,.str name tk],[]]) Q E #[h,g,d,t,os]:=by
 unfold Builtin.«object.__getattribute__»
 repeat (first | (with_reducible exact za2 hx ?_;rw[hc]) | (with_reducible exact sW hC hn hP hm hB BP BN ?_) | wp_step)
 split
 .rename_i c A9;show absurd A9 (BO c)
 unfold instanceDict
 repeat (first | (with_reducible exact za2 hx ?_;rw[hc]) | with_reducible exact za2 hC ?_ | wp_step)
 rw[C9]
 repeat (first | (with_reducible exact wpAny_nsGet Bz.ns ?_;rw[hv]) | wp_step)
 show hq
def W3 {expr:Bool}{Q:Af}(FB:ExcAttrBase B FF)
  (hC:h.get? C=↑(excClassObj nm q C N bs (.ref P::FF) true sn sub ab col dd k0 k1 k2 k3 k5 newId)) (hn:h.Ns N mN) (hP:sJ h P mP) (Ir:mN "__getattribute__"=none) (hq2:mP "__getattribute__"=none) (hq3:mN "__getattr__"=none) (hq4:mP "__getattr__"=none) (BP:mN name=none) (BN:mP name=none)
  (hB:typeLookup (.type B) name=pure none) (hx:h.get? x=↑o) (hc:o.cls=.ref C) (BO:∀ c,o.data≠.cls c) (C9:o.dict=↑dx) (Bz:h.Ns1 dx mA) (hv:mA name=↑v) (hh:handedOut v=pure v) (hq:Q v #[h,g,d,t+1,os]):
  wpAny (model prog w) A (getAttr (.ref x) name expr) Q E #[h,g,d,t,os]:=by
 have f3:=FB.ga.bind (.ref x);have hx0:(expr&&onTheHeap (Value.builtin "BaseException.__getattribute__"))=false:=by cases expr <;> rfl
 have hx2:(Value.builtin "BaseException.__getattribute__" == Value.builtin "object.__getattribute__")=false:=by decide +kernel
 have hx1:(onTheHeap (Value.ref C)&&Value.builtin "BaseException.__getattribute__" == Value.builtin "object.__getattribute__")=false:=by rw[hx2];rfl
 unfold getAttr getAttrBy
 repeat (any_goals (first | assumption | (with_reducible exact za2 hx ?_;rw[hc]) | with_reducible exact sW hC hn hP FB.mro FB.ga.lookup Ir hq2 ?_ | with_reducible exact sW hC hn hP FB.mro FB.noGetattr hq3 hq4 ?_ | wp_step))
 exact codeAny_call_builtin FB.ga.plain F.entry_bexc_ga (eU FB.hasBase hC hx hc (Wz hC hn hP FB.mro BP BN hB hx hc BO C9 Bz hv ?_))
 repeat (any_goals (first | assumption | (rw[hh];show Ad hq) | wp_step))
end
section
variable {prog:Program}{w:World}{A:Around}{E:Af}{h:Heap}{g:Array GenState}{d:Drawn}{t:Nat}{os:OsState}
variable {nm q:Str}{C N P x:Addr}{bs FF:Ae}{sn:List Str}{sub:Ae}{ab:Bool}{col:Option Bool}{dd:Option Addr}{k0 k1 k2 k3 k5:Option Value}{B newId:String}
 {mN mP:Au}{o:Obj}
def W4 {R:Result->Shared->Prop}(hb:FF.contains (.type "object")=true) (hC:h.get? C=↑(excClassObj nm q C N bs (.ref P::FF) true sn sub ab col dd k0 k1 k2 k3 k5 newId))
  (hx:h.get? x=↑o) (hc:o.cls=.ref C) (hq:R (.ok (.ret (.ref C))) #[h,g,d,t,os]):
  codeAny (model prog w) A (.call (.builtin "getset_descriptor.__get__") #[[.builtin "object.__class__",.ref x,.ref C],[]]) R #[h,g,d,t,os]:=by
 have hT5:(#[h,g,d,t,os]:Shared).TypeIs (.builtin "object.__class__") "getset_descriptor":=F.typeOf_object_class;have IB:(Value.ref C::.ref P::FF).contains (.type (".".intercalate ("object.__class__".cutAt '.').dropLast))=true:=by rw[F.owner_object_class,Bp,Bp,hb];rfl
 exact codeAny_call_builtin F.slot_gs_get.plain F.entry_gs_get (F.slot_gs_get.check _ _ _ _ _ _ _ _ hT5 (F.args_gs_get _ _ _) ?_)
 repeat (any_goals (first | assumption | (with_reducible exact za2 hx ?_;rw[hc]) | (with_reducible exact zaF hC ?_;rw[IB]) | wp_step))
 exact#[Code.quiet_builtin _ (AI),codeAny_builtin F.entry_object_class ?_]
 repeat (any_goals (first | assumption | (with_reducible exact za2 hx ?_;rw[hc]) | wp_step))
def W5 {tk:Tok}{Q:Fin->Shared->Prop}(hb:FF.contains (.type "object")=true) (hC:h.get? C=↑(excClassObj nm q C N bs (.ref P::FF) true sn sub ab col dd k0 k1 k2 k3 k5 newId)) (hn:h.Ns N mN) (hP:sJ h P mP) (hm:mroOf (.type B)=pure FF)
  (hB:typeLookup (.type B) "__class__"=pure ↑(.builtin "object.__class__")) (BP:mN "__class__"=none) (BN:mP "__class__"=none)
  (hx:h.get? x=↑o) (hc:o.cls=.ref C) (hq:Q (.done (.ret (.ref C))) #[h,g,d,t,os]):
  wpAny (model prog w) A (Builtin.«object.__getattribute__» #[[.ref x,.str "__class__" tk],[]]) Q E #[h,g,d,t,os]:=by
 have hT5:(#[h,g,d,t,os]:Shared).TypeIs (.builtin "object.__class__") "getset_descriptor":=F.typeOf_object_class;have f5:=F.typeOf_object_class;have f6:=F.slot_gs_get.lookup;have f7:=F.slot_gs_set.lookup
 repeat (any_goals (first | assumption | (with_reducible exact za2 hx ?_;rw[hc]) | (with_reducible exact sW hC hn hP hm hB BP BN ?_) | wp_step))
 exact W4 hb hC hx hc ?_
 repeat (any_goals (first | assumption | wp_step))
def W6 {tk:Tok}{Q:Af}(FB:ExcAttrBase B FF) (hb:FF.contains (.type "object")=true) (hC:h.get? C=↑(excClassObj nm q C N bs (.ref P::FF) true sn sub ab col dd k0 k1 k2 k3 k5 newId)) (hn:h.Ns N mN) (hP:sJ h P mP)
  (hB:typeLookup (.type B) "__class__"=pure ↑(.builtin "object.__class__")) (Ir:mN "__getattribute__"=none) (hq2:mP "__getattribute__"=none) (hq3:mN "__getattr__"=none) (hq4:mP "__getattr__"=none) (BP:mN "__class__"=none) (BN:mP "__class__"=none)
  (hx:h.get? x=↑o) (hc:o.cls=.ref C) (hq:Q (.ref C) #[h,g,d,t,os]):wpAny (model prog w) A (getAttrBy (.ref x) (.str "__class__" tk) false) Q E #[h,g,d,t,os]:=by
 have f3:=FB.ga.bind (.ref x);have hx2:(Value.builtin "BaseException.__getattribute__" == Value.builtin "object.__getattribute__")=false:=by decide +kernel
 have hx1:(onTheHeap (Value.ref C)&&Value.builtin "BaseException.__getattribute__" == Value.builtin "object.__getattribute__")=false:=by rw[hx2];rfl
 repeat (any_goals (first | assumption | (with_reducible exact za2 hx ?_;rw[hc]) | with_reducible exact sW hC hn hP FB.mro FB.ga.lookup Ir hq2 ?_ | with_reducible exact sW hC hn hP FB.mro FB.noGetattr hq3 hq4 ?_ | wp_step))
 exact codeAny_call_builtin FB.ga.plain F.entry_bexc_ga (eU FB.hasBase hC hx hc (W5 hb hC hn hP FB.mro hB BP BN hx hc ?_))
 repeat (any_goals (first | assumption | wp_step))
def eT {Q:Option Value->Shared->Prop}(FB:ExcAttrBase B FF) (hb:FF.contains (.type "object")=true) (hC:h.get? C=↑(excClassObj nm q C N bs (.ref P::FF) true sn sub ab col dd k0 k1 k2 k3 k5 newId)) (hn:h.Ns N mN) (hP:sJ h P mP)
  (hB:typeLookup (.type B) "__class__"=pure ↑(.builtin "object.__class__")) (Ir:mN "__getattribute__"=none) (hq2:mP "__getattribute__"=none) (hq3:mN "__getattr__"=none) (hq4:mP "__getattr__"=none) (BP:mN "__class__"=none) (BN:mP "__class__"=none)
  (hx:h.get? x=↑o) (hc:o.cls=.ref C) (hq:Q ↑(.ref C) #[h,g,d,t+1,os]):wpAny (model prog w) A (getAttr? (.ref x) "__class__") Q E #[h,g,d,t,os]:=by
 unfold getAttr? getAttrBy?
 repeat (any_goals (first | assumption | with_reducible apply W6 FB hb hC hn hP hB Ir hq2 hq3 hq4 BP BN hx hc | wp_step))
end
section
variable {prog:Program}{w:World}{A:Around}{E:Af}{h:Heap}{g:Array GenState}{d:Drawn}{t:Nat}{os:OsState}
variable {nm q:Str}{C N P x D:Addr}{bs FF:Ae}{sn:List Str}{sub:Ae}{ab:Bool}{col:Option Bool}{dd:Option Addr}{k0 k1 k2 k3 k5:Option Value}{B newId:String}
 {mN mP:Au}{o:Obj}
structure fP (h:Heap) (C P:Addr) (B:String) (FF:Ae):Prop where
 FB:ExcAttrBase B FF
 hb:FF.contains (.type "object")=true
 hB:typeLookup (.type B) "__class__"=pure ↑(.builtin "object.__class__")
 ex:∃ (nm q:Str) (N:Addr) (bs:Ae) (sn:List Str) (sub:Ae) (ab:Bool) (col:Option Bool) (dd:Option Addr) (k0 k1 k2 k3 k5:Option Value) (newId:String) (mN mP:Au),
  h.get? C=↑(excClassObj nm q C N bs (.ref P::FF) true sn sub ab col dd k0 k1 k2 k3 k5 newId)/\h.Ns N mN/\sJ h P mP/\
  ∀ n∈(["__getattribute__","__getattr__","__class__"]:List Str),mN n=none/\mP n=none
def W2 {tk:Tok}{dep:Int}{Q:Fin->Shared->Prop}{oD:Obj}{cD:ClassData}(X:fP h C P B FF) (hx:h.get? x=↑o) (hc:o.cls=.ref C) (hD:h.get? D=↑oD) (hDc:oD.cls=.type "type") (hDd:oD.data=.cls cD)
  (hq:∀ t',Q (.done (.ret (.bool ((Value.ref C::.ref P::FF).contains (.ref D))))) #[h,g,d,t',os]):
  wpAny (model prog w) A (Builtin.«isinstance.nested» #[[.ref x,.ref D,.int dep tk],[]]) Q E #[h,g,d,t,os]:=by
 let#[FB,hb,hB,nm,q,N,bs,sn,sub,ab,col,dd,k0,k1,k2,k3,k5,newId,mN,mP,hC,hn,hP,hm]:=X;have m1:=hm "__getattribute__" (.head _);have m2:=hm "__getattr__" (.tail _ (.head _));have m3:=hm "__class__" (.tail _ (.tail _ (.head _)));by_cases he:C=D
 .subst he;have Bo:(Value.ref C::.ref P::FF).contains (.ref C)=true:=#[];rw[Bo] at hq;have D7:(Value.ref C == Value.ref C)=true:=#[]
  repeat (any_goals (first | assumption | (with_reducible exact za2 hx ?_;rw[hc]) | wp_step))
  show hq _
 .have D7:(Value.ref C == Value.ref D)=false:=by exists he
  cases Bo:(Value.ref C::.ref P::FF).contains (.ref D) with
  | true=>
   rw[Bo] at hq
   repeat (any_goals (first | assumption | (with_reducible exact za2 hx ?_;rw[hc]) | (with_reducible exact za2 hD ?_;rw[hDc]) | (with_reducible exact za2 hD ?_;rw[hDd]) | (with_reducible exact zaF hC ?_;rw[Bo]) | wp_step))
   show hq _
  | false=>
   rw[Bo] at hq
   repeat (any_goals (first | assumption | (with_reducible exact za2 hx ?_;rw[hc]) | (with_reducible exact za2 hD ?_;rw[hDc]) | (with_reducible exact za2 hD ?_;rw[hDd]) | (with_reducible exact zaF hC ?_;rw[Bo]) | with_reducible apply eT FB hb hC hn hP hB m1.1 m1.2 m2.1 m2.2 m3.1 m3.2 hx hc | with_reducible exact za2 hC ?_ | wp_step))
   show hq _
def W0 {tk:Tok}{dep:Int}{Q:Fin->Shared->Prop}{T:String}(X:fP h C P B FF) (hx:h.get? x=↑o) (hc:o.cls=.ref C) (hty:typeOf (.type T)=pure (.type "type"))
  (hq:∀ t',Q (.done (.ret (.bool (FF.contains (.type T))))) #[h,g,d,t',os]):
  wpAny (model prog w) A (Builtin.«isinstance.nested» #[[.ref x,.type T,.int dep tk],[]]) Q E #[h,g,d,t,os]:=by
 let#[FB,hb,hB,nm,q,N,bs,sn,sub,ab,col,dd,k0,k1,k2,k3,k5,newId,mN,mP,hC,hn,hP,hm]:=X;have m1:=hm "__getattribute__" (.head _);have m2:=hm "__getattr__" (.tail _ (.head _));have m3:=hm "__class__" (.tail _ (.tail _ (.head _)));have D7:(Value.ref C == Value.type T)=false:=rfl;have Bo:(Value.ref C::.ref P::FF).contains (.type T)=FF.contains (.type T):=by rw[Bp,Bp];rfl
 cases hct:FF.contains (.type T) with
 | true=>
  rw[hct] at hq Bo
  repeat (any_goals (first | assumption | (with_reducible exact za2 hx ?_;rw[hc]) | (with_reducible exact zaF hC ?_;rw[Bo]) | wp_step))
  show hq _
 | false=>
  rw[hct] at hq Bo
  repeat (any_goals (first | assumption | (with_reducible exact za2 hx ?_;rw[hc]) | (with_reducible exact zaF hC ?_;rw[Bo]) | with_reducible apply eT FB hb hC hn hP hB m1.1 m1.2 m2.1 m2.2 m3.1 m3.2 hx hc | with_reducible exact za2 hC ?_ | wp_step))
  show hq _
def eS {c:Value}{b:Bool}{s:Shared}{Q:Af}(hn:∀ (prog:Program) (w:World) (A:Around) (Q:Fin->Shared->Prop) (E:Af),(∀ t',Q (.done (.ret (.bool b))) { s with toks:=t' })->wpAny (model prog w) A (Builtin.«isinstance.nested» #[[.ref x,c,rawInt 0],[]]) Q E s)
  (hq:∀ t',Q (.bool b) { s with toks:=t' }):wpAny (model prog w) A (call (.builtin "isinstance") [.ref x,c]) Q E s:=
 call_isinstance (S:=λ _ R s'=>s'=s/\∀ t',R (.ok (.ret (.bool b))) { s with toks:=t' }) (λ prog w A R s' hs=>by
  let#[rfl,hs]:=hs;exact isinstance_outer (hn prog w _ _ _ λ t'=>?_) (λ e=>by cases e);show hs t') #[rfl,λ t'=>hq t']
end
namespace Heap
def om (h base:Heap) (e:Addr) (cls a0 fl:Value) (zC:Option Addr) (T:Addr):Prop:=
 ∃ oe vs oT ts,h.get? e=↑oe/\((oe.cls=cls/\oe.dict=zC)/\vs[0]?=↑a0)/\oe.data=.fields vs/\vs[1]?=↑(.ref T)/\base.get? T=none/\T≠e/\h.get? T=↑oT/\oT.data=.fields ts/\ts[3]?=↑fl
structure j4 (base:Heap) (l:List Env) (e:Addr) (cls a0:Value) (zC:Option Addr) (h h':Heap):Prop where
 stays:base.StaysIn h'
 frames:h'.FunFrames base l
 tr:∃ T,h.objs.size<=T/\h'.om base e cls a0 .none zC T
 slots:h.UpToSlots h'
 qj:∀ b o vs,h.get? b=↑o->o.data=.fields vs->∃ o' Ho,h'.get? b=↑o'/\o'.data=.fields Ho
end Heap
def Obj.Z4 (f:Array Value->Array Value) (o:Obj):(Obj.mapFields f o).dict=o.dict:=by
 let#[c,dc,dt,sl]:=o;cases dt <;> rfl
section
variable {M:Model}{A:Around}{E:Af}{s:Shared}
def eQ {base:Heap}{env:Env}{outer:List Env}{L e:Addr}{oe:Obj}{vs:Aq}{head a0:Value}{Hd:Bool}{Q:Unit->Shared->Prop}
  (AR:A.frames=↑(env::outer)) (hl:s.heap.FunFrames base (env::outer)) (hf:env.frame=↑L)
  (he:s.heap.get? e=↑oe) (B9:base.StaysIn s.heap) (Ct:base.get? e=none) (hd:oe.data=.fields vs) (hsz:1<vs.size) (h0:vs[0]?=↑a0)
  (h:∀ h',Heap.j4 base (env::outer) e oe.cls a0 oe.dict s.heap h'->Q Unit.unit { s with heap:=h' }):
  wpAny M A (do let a <- frameOf env;let pl <- entryPlaceOf L Hd;let b <- EntryCells.newEntry head a .none (rawInt L) .none pl;setField (.ref e) 1 b) (λ _ s'=>wpAny M A (setFlight (.ref e) none) Q E s') E s:=by
 have CS:e∉(env::outer).filterMap (·.frame):=λ hm=>by
  let#[_,o,ho,AE]:=hl.mem hm;rw[he] at ho;cases ho;show AE vs hd
 exact gV (wpAny_frameOf_fun AR hl hf λ h₁ HS=>gV (wpAny_entryPlaceOf λ pl Am=>?_));unfold EntryCells.newEntry newFields;exact gV (za9 ?_ (Am.sizeOk5 _ _ _ _ _));have he₁:h₁.get? e=↑oe:=(HS.2.1 e CS).trans he;have kb₁:base.StaysIn h₁:=λ b o AW=>(HS.2.1 b λ hm=>by rw[(hl.mem hm).1] at AW;cases AW).trans (B9 b o AW);generalize Dn:({ cls:=.type "traceback",dict:=none,data:=.fields ([head,.ref L,.none,rawInt L,.none]++(if pl.isEmpty then List.replicate 6 Value.none else pl)).toArray }:Obj)=tb;have tbd:tb.data=.fields ([head,.ref L,.none,rawInt L,.none]++(if pl.isEmpty then List.replicate 6 Value.none else pl)).toArray:=by rw[<- Dn]
 have tbf:tb.isFreed=false:=by rw[<- Dn];rfl
 have he₂:(h₁.push tb).get? e=↑oe:=za1 _ he₁;exact zaE he₂ hd hsz ?_;have HL:h₁.objs.size≠e:=BM (Ap he₁);have IU:=Obj.data_mapFields hd (·.setIfInBounds 1 (Value.ref h₁.objs.size));have he₃:=za8 (Obj.mapFields (·.setIfInBounds 1 (Value.ref h₁.objs.size))) he₂ (Obj.isFreed_of_fields IU);have hT₃:=(za6 (h₁.push tb) (Obj.mapFields (·.setIfInBounds 1 (Value.ref h₁.objs.size))) (Ne.symm HL)).trans (AJ h₁ tbf);unfold setFlight;exact gV (za4 he₃ IU (x:=.ref h₁.objs.size) (by simp[hsz]) ?_);rw[if_pos (show (Value.ref h₁.objs.size != Value.none)=true from by simp)];exact zaE hT₃ tbd (by simp![AB,Cj,Bb,Cz] <;> lia) (h _ ?_);have keep:∀ b o,b≠e->h₁.get? b=↑o->(((h₁.push tb).update e (Obj.mapFields (·.setIfInBounds 1 (Value.ref h₁.objs.size)))).update h₁.objs.size (Obj.mapFields (·.setIfInBounds 3 ((none:Option Addr).elim Value.none λ f=>rawInt f)))).get? b=↑o:=λ b o BD hb=>by
  rw[za6 _ _ (BM (Ap hb)),za6 _ _ (Ne.symm BD)];show za1 _ hb
 have Fm:∀ b o,s.heap.get? b=↑o->(∀ vs,o.data≠.fields vs)->b≠e:=λ b o hb AE q=>by
  rw[q,he] at hb;cases hb;show AE vs hd
 exact#[λ b o AW=>keep b o (λ q=>by rw[q,Ct] at AW;cases AW) (kb₁ b o AW),hl.of_keeps λ b o hb AE=>?_,?_,λ b o hb AE=>?_,λ b o us hb Bn=>?_]
 .let#[sl,hs]:=HS.2.2 b o hb;show#[_,keep b _ (Fm b o hb AE) hs,rfl]
 .exact#[h₁.objs.size,by rw[HS.1];show Ak _,_,_,_,_,?_,#[#[Obj.cls_mapFields _ _,Obj.Z4 _ _],by rw[zc8 ()];show h0],IU,by simp[hsz],kb₁.fresh,HL,za8 _ hT₃ (Obj.isFreed_of_fields (Obj.data_mapFields tbd _)),Obj.data_mapFields tbd _,by first | (simp;done) | (rcases Am with rfl | ⟨_,_,_,_,_,_,_,rfl⟩ <;> simp)];rw[za6 _ _ HL];show he₃
 .let#[sl,hs]:=HS.2.2 b o hb;show#[sl,keep b _ (Fm b o hb AE) hs]
 .by_cases q:b=e
  .subst q;show#[_,_,(by rw[za6 _ _ HL];show he₃),IU]
  .have hb₁:h₁.get? b=↑o:=(HS.2.1 b λ hm=>by
    let#[_,o',FY,AE]:=hl.mem hm;rw[hb] at FY;cases FY;show AE us Bn).trans hb
   show#[o,us,keep b o q hb₁,Bn]
def Ws {base:Heap}{env:Env}{outer:List Env}{L e:Addr}{oe:Obj}{vs:Aq}{a0:Value}{Q:Unit->Shared->Prop}
  (AR:A.frames=↑(env::outer)) (hl:s.heap.FunFrames base (env::outer)) (hf:env.frame=↑L)
  (he:s.heap.get? e=↑oe) (B9:base.StaysIn s.heap) (Ct:base.get? e=none) (hd:oe.data=.fields vs) (h1:vs[1]?=↑.none) (h0:vs[0]?=↑a0)
  (h:∀ h',Heap.j4 base (env::outer) e oe.cls a0 oe.dict s.heap h'->Q Unit.unit { s with heap:=h' }):wpAny M A (leaving env (.ref e)) Q E s:=by
 unfold leaving noteFrame;simp![hf];exact gV (gV (za4 he hd h1 ?_));rw[if_neg ()];show eQ AR hl hf he B9 Ct hd (Array.getElem?_eq_some_iff.mp h1).1 h0 h
def Wo {base:Heap}{env:Env}{outer:List Env}{L e:Addr}{cls a0:Value}{zC:Option Addr}{T:Addr}{Q:Unit->Shared->Prop}
  (AR:A.frames=↑(env::outer)) (hl:s.heap.FunFrames base (env::outer)) (hf:env.frame=↑L) (ht:s.heap.om base e cls a0 .none zC T) (B9:base.StaysIn s.heap) (Ct:base.get? e=none)
  (h:∀ h',Heap.j4 base (env::outer) e cls a0 zC s.heap h'->Q Unit.unit { s with heap:=h' }):wpAny M A (leaving env (.ref e)) Q E s:=by
 let#[oe,vs,oT,ts,he,#[#[rfl,rfl],h0],hd,h1,hnT,HL,hT,He,h3]:=ht;unfold leaving noteFrame;simp![hf];exact gV (gV (za4 he hd h1 ?_));rw[if_pos (show (Value.ref T != Value.none)=true from by simp)];exact gV (za4 hT He h3 ?_);rw[if_neg (show ¬ ((Value.none == rawInt L)=true) from by simp[rawInt])];exact gV (zaE hT He (Array.getElem?_eq_some_iff.mp h3).1 ?_);have other:∀ b,b≠T->(s.heap.update T (Obj.mapFields (·.setIfInBounds 3 Value.none))).get? b=s.heap.get? b:=λ b hb=>za6 _ _ (Ne.symm hb);have Fm:∀ b o,s.heap.get? b=↑o->(∀ vs,o.data≠.fields vs)->b≠T:=λ b o hb AE q=>by
  rw[q,hT] at hb;cases hb;show AE ts He
 exact eQ AR (hl.of_keeps λ b o hb AE=>#[o,(other b (Fm b o hb AE)).trans hb,rfl]) hf ((other e (Ne.symm HL)).trans he)
  (λ b o AW=>(other b λ q=>by rw[q,hnT] at AW;cases AW).trans (B9 b o AW)) Ct hd (Array.getElem?_eq_some_iff.mp h1).1 h0
  λ h' x=>h h' #[x.stays,x.frames,(by
   let#[T',n,r]:=x.tr;show#[T',by rw[Heap.size_after_update] at n;show n,r]),λ b o hb AE=>x.slots b o ((other b (Fm b o hb AE)).trans hb) AE,λ b o us hb Bn=>(by
   by_cases q:b=T
   .subst q;show x.qj _ _ _ (za8 _ hT (Obj.isFreed_of_fields (Obj.data_mapFields He _))) (Obj.data_mapFields He _)
   .show x.qj b o us ((other b q).trans hb) Bn)]
end
structure Heap.Y7 (base:Heap) (l:List Env) (e:Addr) (cls a0 fl:Value) (zC:Option Addr) (h h':Heap):Prop where
 stays:base.StaysIn h'
 frames:h'.FunFrames base l
 tr:∃ T,h.objs.size<=T/\h'.om base e cls a0 fl zC T
 slots:h.UpToSlots h'
 qj:∀ b o vs,h.get? b=↑o->o.data=.fields vs->∃ o' Ho,h'.get? b=↑o'/\o'.data=.fields Ho
section
variable {M:Model}{A:Around}{E:Af}{s:Shared}
def Wt {base:Heap}{env:Env}{outer:List Env}{L e:Addr}{oe:Obj}{vs:Aq}{head a0:Value}{Hd:Bool}{Q:Unit->Shared->Prop}
  (AR:A.frames=↑(env::outer)) (hl:s.heap.FunFrames base (env::outer)) (hf:env.frame=↑L)
  (he:s.heap.get? e=↑oe) (B9:base.StaysIn s.heap) (Ct:base.get? e=none) (hd:oe.data=.fields vs) (hsz:1<vs.size) (h0:vs[0]?=↑a0)
  (h:∀ h',Heap.Y7 base (env::outer) e oe.cls a0 (rawInt L) oe.dict s.heap h'->Q Unit.unit { s with heap:=h' }):
  wpAny M A (do let a <- frameOf env;let pl <- entryPlaceOf L Hd;let b <- EntryCells.newEntry head a .none (rawInt L) .none pl;setField (.ref e) 1 b) Q E s:=by
 have CS:e∉(env::outer).filterMap (·.frame):=λ hm=>by
  let#[_,o,ho,AE]:=hl.mem hm;rw[he] at ho;cases ho;show AE vs hd
 exact gV (wpAny_frameOf_fun AR hl hf λ h₁ HS=>gV (wpAny_entryPlaceOf λ pl Am=>?_));unfold EntryCells.newEntry newFields;exact gV (za9 ?_ (Am.sizeOk5 _ _ _ _ _));have he₁:h₁.get? e=↑oe:=(HS.2.1 e CS).trans he;have kb₁:base.StaysIn h₁:=λ b o AW=>(HS.2.1 b λ hm=>by rw[(hl.mem hm).1] at AW;cases AW).trans (B9 b o AW);generalize Dn:({ cls:=.type "traceback",dict:=none,data:=.fields ([head,.ref L,.none,rawInt L,.none]++(if pl.isEmpty then List.replicate 6 Value.none else pl)).toArray }:Obj)=tb;have tbd:tb.data=.fields ([head,.ref L,.none,rawInt L,.none]++(if pl.isEmpty then List.replicate 6 Value.none else pl)).toArray:=by rw[<- Dn]
 have tbf:tb.isFreed=false:=by rw[<- Dn];rfl
 have he₂:(h₁.push tb).get? e=↑oe:=za1 _ he₁;exact zaE he₂ hd hsz (h _ ?_);have HL:h₁.objs.size≠e:=BM (Ap he₁);have IU:=Obj.data_mapFields hd (·.setIfInBounds 1 (Value.ref h₁.objs.size));have he₃:=za8 (Obj.mapFields (·.setIfInBounds 1 (Value.ref h₁.objs.size))) he₂ (Obj.isFreed_of_fields IU);have hT₃:=(za6 (h₁.push tb) (Obj.mapFields (·.setIfInBounds 1 (Value.ref h₁.objs.size))) (Ne.symm HL)).trans (AJ h₁ tbf);have keep:∀ b o,b≠e->h₁.get? b=↑o->((h₁.push tb).update e (Obj.mapFields (·.setIfInBounds 1 (Value.ref h₁.objs.size)))).get? b=↑o:=λ b o BD hb=>by
  rw[za6 _ _ (Ne.symm BD)];show za1 _ hb
 have Fm:∀ b o,s.heap.get? b=↑o->(∀ vs,o.data≠.fields vs)->b≠e:=λ b o hb AE q=>by
  rw[q,he] at hb;cases hb;show AE vs hd
 exact#[λ b o AW=>keep b o (λ q=>by rw[q,Ct] at AW;cases AW) (kb₁ b o AW),hl.of_keeps λ b o hb AE=>?_,?_,λ b o hb AE=>?_,λ b o us hb Bn=>?_]
 .let#[sl,hs]:=HS.2.2 b o hb;show#[_,keep b _ (Fm b o hb AE) hs,rfl]
 .show#[h₁.objs.size,by rw[HS.1];show Ak _,_,_,_,_,he₃,#[#[Obj.cls_mapFields _ _,Obj.Z4 _ _],by rw[zc8 ()];show h0],IU,by simp[hsz],kb₁.fresh,HL,hT₃,tbd,#[]]
 .let#[sl,hs]:=HS.2.2 b o hb;show#[sl,keep b _ (Fm b o hb AE) hs]
 .by_cases q:b=e
  .subst q;show#[_,_,he₃,IU]
  .have hb₁:h₁.get? b=↑o:=(HS.2.1 b λ hm=>by
    let#[_,o',FY,AE]:=hl.mem hm;rw[hb] at FY;cases FY;show AE us Bn).trans hb
   show#[o,us,keep b o q hb₁,Bn]
def Wn {base:Heap}{env:Env}{outer:List Env}{L e:Addr}{cls a0:Value}{zC:Option Addr}{T:Addr}{Q:Unit->Shared->Prop}
  (AR:A.frames=↑(env::outer)) (hl:s.heap.FunFrames base (env::outer)) (hf:env.frame=↑L) (ht:s.heap.om base e cls a0 .none zC T) (B9:base.StaysIn s.heap) (Ct:base.get? e=none)
  (h:∀ h',Heap.Y7 base (env::outer) e cls a0 (rawInt L) zC s.heap h'->Q Unit.unit { s with heap:=h' }):wpAny M A (noteFrame (.ref e) env) Q E s:=by
 let#[oe,vs,oT,ts,he,#[#[rfl,rfl],h0],hd,h1,hnT,HL,hT,He,h3]:=ht;unfold noteFrame;simp![hf];exact gV (za4 he hd h1 ?_);rw[if_pos (show (Value.ref T != Value.none)=true from by simp)];exact gV (za4 hT He h3 ?_);rw[if_neg (show ¬ ((Value.none == rawInt L)=true) from by simp[rawInt])];exact gV (zaE hT He (Array.getElem?_eq_some_iff.mp h3).1 ?_);have other:∀ b,b≠T->(s.heap.update T (Obj.mapFields (·.setIfInBounds 3 Value.none))).get? b=s.heap.get? b:=λ b hb=>za6 _ _ (Ne.symm hb);have Fm:∀ b o,s.heap.get? b=↑o->(∀ vs,o.data≠.fields vs)->b≠T:=λ b o hb AE q=>by
  rw[q,hT] at hb;cases hb;show AE ts He
 exact Wt AR (hl.of_keeps λ b o hb AE=>#[o,(other b (Fm b o hb AE)).trans hb,rfl]) hf ((other e (Ne.symm HL)).trans he)
  (λ b o AW=>(other b λ q=>by rw[q,hnT] at AW;cases AW).trans (B9 b o AW)) Ct hd (Array.getElem?_eq_some_iff.mp h1).1 h0
  λ h' x=>h h' #[x.stays,x.frames,(by
   let#[T',n,r]:=x.tr;show#[T',by rw[Heap.size_after_update] at n;show n,r]),λ b o hb AE=>x.slots b o ((other b (Fm b o hb AE)).trans hb) AE,λ b o us hb Bn=>(by
   by_cases q:b=T
   .subst q;show x.qj _ _ _ (za8 _ hT (Obj.isFreed_of_fields (Obj.data_mapFields He _))) (Obj.data_mapFields He _)
   .show x.qj b o us ((other b q).trans hb) Bn)]
def eP {base:Heap}{l:List Env}{e:Addr}{cls a0 fl:Value}{zC:Option Addr}{T:Addr}{Q:Unit->Shared->Prop}
  (B9:base.StaysIn s.heap) (hl:s.heap.FunFrames base l) (ht:s.heap.om base e cls a0 fl zC T)
  (h:∀ h',base.StaysIn h'->h'.FunFrames base l->h'.om base e cls a0 .none zC T->s.heap.UpToSlots h'->(∀ b o vs,s.heap.get? b=↑o->o.data=.fields vs->∃ o' Ho,h'.get? b=↑o'/\o'.data=.fields Ho)->Q Unit.unit { s with heap:=h' }):wpAny M A (setFlight (.ref e) none) Q E s:=by
 let#[oe,vs,oT,ts,he,Bg,hd,h1,hnT,HL,hT,He,h3]:=ht;have hsz3:3<ts.size:=(Array.getElem?_eq_some_iff.mp h3).1;have other:∀ b,b≠T->(s.heap.update T (Obj.mapFields (·.setIfInBounds 3 ((none:Option Addr).elim Value.none λ f=>rawInt f)))).get? b=s.heap.get? b:=
  λ b hb=>za6 _ _ (Ne.symm hb)
 have Fm:∀ b o,s.heap.get? b=↑o->(∀ vs,o.data≠.fields vs)->b≠T:=λ b o hb AE q=>by
  rw[q,hT] at hb;cases hb;show AE ts He
 unfold setFlight;exact gV (za4 he hd h1 ?_);rw[if_pos (show (Value.ref T != Value.none)=true from by simp)];exact zaE hT He hsz3 (h _ (λ b o AW=>(other b λ q=>by rw[q,hnT] at AW;cases AW).trans (B9 b o AW))
  (hl.of_keeps λ b o hb AE=>#[o,(other b (Fm b o hb AE)).trans hb,rfl]) ?_ (λ b o hb AE=>#[o.slots,(other b (Fm b o hb AE)).trans hb]) λ b o us hb Bn=>?_)
 .show#[oe,vs,_,_,(other e (Ne.symm HL)).trans he,Bg,hd,h1,hnT,HL,za8 _ hT (Obj.isFreed_of_fields (Obj.data_mapFields He _)),Obj.data_mapFields He _,by simp[hsz3]]
 .by_cases q:b=T
  .subst q;show#[_,_,za8 _ hT (Obj.isFreed_of_fields (Obj.data_mapFields He _)),Obj.data_mapFields He _]
  .show#[o,us,(other b q).trans hb,Bn]
end
end PySem
namespace PySem
open Calls Spec
section
variable {prog:Program}{w:World}{M:Model}{A:Around}{E:Af}{env:Env}
variable {nm q:Str}{C N:Addr}{bs bm:Ae}{hdct:Bool}{sn:List Str}{sub:Ae}{ab:Bool}{col:Option Bool}{dd:Option Addr}{k0 k1 k2 k3 k5:Option Value}{newId:String}
variable {nm' q':Str}{P N':Addr}{bs' IG:Ae}{IV:Bool}{sn':List Str}{Hu:Ae}{ab':Bool}{Hz:Option Bool}{HZ:Option Addr}{l0 l1 l2 l3 l5:Option Value}{Ij:String}
def Wq {h:Heap}{g:Array GenState}{d:Drawn}{t:Nat}{os:OsState}{e:Addr}{oe:Obj}{Q:Bool->Shared->Prop}
  (hC:h.get? C=↑(excClassObj nm q C N bs bm hdct sn sub ab col dd k0 k1 k2 k3 k5 newId)) (hP:h.get? P=↑(excClassObj nm' q' P N' bs' IG IV sn' Hu ab' Hz HZ l0 l1 l2 l3 l5 Ij))
  (he:h.get? e=↑oe) (Bg:oe.cls=.ref C) (FZ:IG.contains (.type "BaseException")=true) (hm:bm.contains (.ref P)=true)
  (hq:Q true #[h,g,d,t,os]):wpAny M A (excMatches (.ref e) (.ref P)) Q E #[h,g,d,t,os]:=by
 have IB:(Value.ref P::IG).contains (.type "BaseException")=true:=by rw[Bp,FZ,CU]
 have hcP:(Value.ref C::bm).contains (.ref P)=true:=by rw[Bp,hm,CU]
 have f:=tc_notTuple;unfold excMatches
 repeat (first | (with_reducible exact za2 he ?_;rw[Bg]) | with_reducible exact za2 hP ?_ | (with_reducible exact zaF hP ?_;rw[IB]) | (with_reducible exact zaF hC ?_;rw[hcP]) | wp_step)
 show hq
def Wr {s:Shared}{e:Addr}{t:Expr}{n:Str}{b₀:Stmt}{II:List Stmt}{pos:Pos}{Ff:List ExceptHandler}{Q:Flow->Shared->Prop}
  (FZ:IG.contains (.type "BaseException")=true) (hm:bm.contains (.ref P)=true)
  (h:wpAny (model prog w) (A.mark ↑(.ref e)) (eval t env) (λ c s₁=>c=.ref P/\s₁.heap.get? C=↑(excClassObj nm q C N bs bm hdct sn sub ab col dd k0 k1 k2 k3 k5 newId)/\s₁.heap.get? P=↑(excClassObj nm' q' P N' bs' IG IV sn' Hu ab' Hz HZ l0 l1 l2 l3 l5 Ij)/\(∃ oe,s₁.heap.get? e=↑oe/\oe.cls=.ref C)/\
   wpAny (model prog w) (A.mark ↑(.ref e)) (setFlight (.ref e) none) (λ _ s₂=>
     wpAny (model prog w) (A.mark ↑(.ref e)) (storeName env n (.ref e)) (λ _ s₃=>
      wpAny (model prog w) (A.mark ↑(.ref e)) (execs (b₀::II) env)
       (λ f s₄=>wpAny (model prog w) A (do bindName env n .none;unbindBehindTheSuite env n pos) (λ _ s₅=>Q f s₅) E s₄)
       (AsSuiteRaised (model prog w) (A.mark ↑(.ref e)) env n pos (notedBy (model prog w) (A.mark ↑(.ref e)) env (cameBackBy (model prog w) A env E))) s₃) (notedBy (model prog w) (A.mark ↑(.ref e)) env (cameBackBy (model prog w) A env E)) s₂) (notedBy (model prog w) (A.mark ↑(.ref e)) env (cameBackBy (model prog w) A env E)) s₁) (notedBy (model prog w) (A.mark ↑(.ref e)) env (cameBackBy (model prog w) A env E)) s):
  wpAny (model prog w) A (handleBy (.ref e) env (.ExceptHandler ↑t ↑n (b₀::II) pos::Ff)) Q E s:=by
 exact wpAny_handleBy_cons (codeAny_handlers_test (za3 h (λ c s₁ h₁=>?_) λ _ _ y=>y)) (by intro q;cases q);let#[rfl,hC,hP,#[oe,he,Bg],hk]:=h₁;let#[hh,g,d,tk,os]:=s₁;show Wq hC hP he Bg FZ hm (codeAny_handlers_suite_as hk)
end
end PySem
namespace L3
open PySem PySem.Spec L2
open PyProof.Rows hiding St
def xO (T:Addr):HO:=.ext λ h=>∃ oT ts,h.get? T=↑oT/\oT.data=.fields ts
def YG (h:Heap) (e:Addr):Prop:=∃ oe vs a0,h.get? e=↑oe/\oe.data=.fields vs/\vs[1]?=↑.none/\vs[0]?=↑a0
def qM (h:Heap) (H:Hp) (e:Addr):Prop:=∃ oe vs a0 T oT ts,h.get? e=↑oe/\oe.data=.fields vs/\vs[0]?=↑a0/\vs[1]?=↑(.ref T)/\T≠e/\H T=↑(xO T)/\h.get? T=↑oT/\oT.data=.fields ts/\ts[3]?=↑.none
def mE (H:Hp) (e:Addr):Prop:=∃ C dx,H e=↑(wz e C dx)
section
variable {P:Program}{w:World}{H:Hp}{h h':Heap}
def gJ {fs as:List Addr}(zl:yc P w H h) (hf:∀ b∈fs,H b=none/\∀ o,h.get? b=↑o->∀ vs,o.data≠.fields vs) (st:(PySem.W.hideAll h as).StaysIn h') (us:h.UpToSlots h')
  (has:∀ a∈as,a∈fs\/∃ φ:Heap->Prop,H a=↑(.ext φ)/\φ h'/\∃ o,h'.get? a=↑o):Un fs [] H H h h'/\yc P w H h':=by
 have GW:∀ b o,b∉as->h.get? b=↑o->h'.get? b=↑o:=λ b o hb e=>st b o (PySem.W.hideAll_get _ e hb);exact#[#[λ b o e n hb _=>GW b o (λ hm=>?_) e,λ b o e n hb _=>us b o e ((hf b hb).2 o e),λ _ _ _ n _=>n,λ b o e _=>?_,λ _ _ q=>q,λ _ _ _ q=>q,λ _ ps q=>#[[].toArray,by rw[q];simp]],λ a o e=>?_]
 .rcases has b hm with z | ⟨φ,z,_⟩
  .show hb z
  .rw[n] at z;cases z
 .by_cases hm:b∈as
  .rcases has b hm with z | ⟨φ,_,_,z⟩
   .let#[sl,q]:=us b o e ((hf b z).2 o e);show#[_,q]
   .show z
  .show#[o,GW b o hm e]
 .by_cases hm:a∈as
  .rcases has a hm with z | ⟨φ,z,z1,z2⟩
   .rw[(hf a z).1] at e;cases e
   .rw[e] at z;cases z;show#[z1,z2,(zl a _ e).2.2]
  .exact (zl a o e).wK (λ b u hb q=>?_) (λ _ q=>q) λ _ _ q=>q;rcases hb with rfl | hb
   .show GW _ u hm q
   .exact GW _ u (λ hm'=>?_) q;rcases has b hm' with z | ⟨φ,z,_⟩
    .rw[(hf b z).1] at hb;cases hb
    .rw[hb] at z;cases z
def Zg {fs:List Addr}{T:Addr}{oT:Obj}{ts:Aq}(u:Un fs [] H H h h') (zl:yc P w H h') (hk:yc P w H h) (hp:h.objs.size<=T) (e:h'.get? T=↑oT) (hd:oT.data=.fields ts):
  H T=none/\Un fs [] H (upd H T (xO T)) h h'/\yc P w (upd H T (xO T)) h':=by
 have hn:=hk.fresh hp;exact#[hn,#[u.keep,u.slot,λ b o q n x=>by rw[zE (Aw (Ba (Ap q) hp))];show n,u.there,λ b xs q=>by rw[zE (xj q hn)];show q,λ b o xs q=>by rw[zE (xj q hn)];show q,λ b ps q=>#[[].toArray,by rw[zE (xj q hn),q];simp]],λ b o q=>?_];by_cases hb:b=T
 .subst hb;rw[zX] at q;cases q;show#[#[oT,ts,e,hd],#[oT,e],λ h1 h2 #[o,ts,a,b] k=>#[o,ts,k _ a,b]]
 .rw[zE hb] at q;show (zl b o q).wK (λ _ _ _ z=>z) (λ c z=>by rw[zE (xj z hn)];show z) λ c xs z=>by rw[zE (xj z hn)];show z
end
section
variable {X:Cx}{Fd:Ai}{O:St}{H:Hp}{s:Shared}{e:Addr}
def gG (I:Inv X Fd O H s):∀ b∈yC X.stack,H b=none/\∀ o,s.heap.get? b=↑o->∀ vs,o.data≠.fields vs:=λ b hb=>
 #[I.jY b hb,λ o ho=>by
  let#[_,o',FY,hd]:=I.stack.mem hb;rw[ho] at FY;cases FY;show hd]
def Zn {H:Hp}{h:Heap}{P:Program}{w:World}{C dx:Addr}{oe:Obj}(zl:yc P w H h) (he:H e=↑(wz e C dx)) (q:h.get? e=↑oe):oe.cls=.ref C/\oe.dict=↑dx:=by
 let#[#[o',_,a,b,c,_],_]:=zl e _ he;rw[q] at a;cases a;show#[b,c]
def NY {M:Model}{E:Af}(I:Inv X Fd O H s) (AG:X.stack=X.env::X.outer) (AR:X.env.frame=↑X.env.locals) (he:mE H e) (hf:YG s.heap e\/qM s.heap H e) {Q:Unit->Shared->Prop}
  (hq:∀ h' T,H T=none->Un (yC X.stack) [] H (upd H T (xO T)) s.heap h'->yc X.prog X.w (upd H T (xO T)) h'->qM h' (upd H T (xO T)) e->Q Unit.unit { s with heap:=h' }):wpAny M X.A (leaving X.env (.ref e)) Q E s:=by
 let#[C,dx,hE]:=he;have hF:=I.ok.frames;rw[AG] at hF;have hS:=I.stack;rw[AG] at hS;have fin:∀ (as:List Addr) (oe:Obj) (a0:Value),s.heap.get? e=↑oe->(∀ a∈as,a=e\/a∈yC X.stack\/H a=↑(xO a))->
   ∀ h':Heap,Heap.j4 (PySem.W.hideAll s.heap as) (X.env::X.outer) e oe.cls a0 oe.dict s.heap h'->Q Unit.unit { s with heap:=h' }:=λ as oe a0 g0 has h' x=>by
  let#[T,hp,oe',Ho,oT,ts,a1,#[#[a2,a3],a4],a5,a6,a7,a8,a9,a10,a11]:=x.tr;let#[z1,z2]:=Zn I.zl hE g0;let#[u,zl]:=gJ (as:=as) I.zl (gG I) x.stays x.slots λ a ha=>by
   rcases has a ha with z | z | z
   .rw[z];show .inr #[_,hE,#[oe',Ho,a1,a2.trans z1,a3.trans z2,a5],oe',a1]
   .show .inl z
   .let#[#[oT,ts,q1,q2],_]:=I.zl a _ z;let#[o',ts',q3,q4]:=x.qj _ _ _ q1 q2;show .inr #[_,z,#[o',ts',q3,q4],o',q3]
  let#[n,u',Bx]:=Zg u zl I.zl hp a9 a10;show hq h' T n u' Bx #[oe',Ho,a0,T,oT,ts,a1,a5,a4,a6,a8,zX,a9,a10,a11]
 have A6:∀ (r:List Addr),∀ env∈X.env::X.outer,∀ a,env.frame=↑a->a∈r++yC X.stack:=λ r env hm a ha=>A5 _ (C2.mpr #[env,by rw[AG];show hm,ha]);rcases hf with ⟨oe,vs,a0,g0,g1,g2,g3⟩ | ⟨oe,vs,a0,T,oT,ts,g0,g1,g3,g2,g4,g5,g6,g7,g8⟩
 .exact Ws (base:=PySem.W.hideAll s.heap ([e]++yC X.stack)) hF (PySem.W.funFrames_hide hS (A6 _)) AR g0 (λ b o q=>PySem.W.of_hideAll _ q) (PySem.W.hideAll_none _ #[]) g1 g2 g3 (fin _ oe a0 g0 λ a ha=>?_);rcases A4.mp ha with q | q
  .show .inl (AX.mp q)
  .show .inr (.inl q)
 .exact Wo (base:=PySem.W.hideAll s.heap ([e,T]++yC X.stack)) hF (PySem.W.funFrames_hide hS (A6 _)) AR #[oe,vs,oT,ts,g0,#[#[rfl,rfl],g3],g1,g2,PySem.W.hideAll_none _ #[],g4,g6,g7,g8] (λ b o q=>PySem.W.of_hideAll _ q) (PySem.W.hideAll_none _ #[]) (fin _ oe a0 g0 λ a ha=>?_);rcases A4.mp ha with q | q
  .rcases Ao.mp q with q | q
   .show .inl q
   .show .inr (.inr (by rw[AX.mp q];show g5))
  .show .inr (.inl q)
end
section
variable {X:Cx}{Fd:Ai}{O:St}{H:Hp}{s:Shared}{e:Addr}{M:Model}{A:Around}{E:Af}
def Nu (I:Inv X Fd O H s) (AG:X.stack=X.env::X.outer) (AR:X.env.frame=↑X.env.locals) (he:mE H e) (hf:qM s.heap H e) {Q:Unit->Shared->Prop}
  (hq:∀ h' T,H T=none->Un (yC X.stack) [] H (upd H T (xO T)) s.heap h'->yc X.prog X.w (upd H T (xO T)) h'->qM h' (upd H T (xO T)) e->Q Unit.unit { s with heap:=h' }):
  wpAny M X.A (noteFrame (.ref e) X.env) (λ _ s₂=>wpAny M X.A (setFlight (.ref e) none) Q E s₂) E s:=by
 let#[C,dx,hE]:=he;have hF:=I.ok.frames;rw[AG] at hF;have hS:=I.stack;rw[AG] at hS;let#[oe,vs,a0,T,oT,ts,g0,g1,g3,g2,g4,g5,g6,g7,g8]:=hf;have A6:∀ env∈X.env::X.outer,∀ a,env.frame=↑a->a∈[e,T]++yC X.stack:=λ env hm a ha=>A5 _ (C2.mpr #[env,by rw[AG];show hm,ha]);exact Wn (base:=PySem.W.hideAll s.heap ([e,T]++yC X.stack)) hF (PySem.W.funFrames_hide hS A6) AR #[oe,vs,oT,ts,g0,#[#[rfl,rfl],g3],g1,g2,PySem.W.hideAll_none _ #[],g4,g6,g7,g8] (λ b o q=>PySem.W.of_hideAll _ q) (PySem.W.hideAll_none _ #[]) λ h1 x=>?_;let#[T',hp,tr]:=x.tr;exact eP (s:={ s with heap:=h1 }) x.stays x.frames tr λ h2 y1 y2 y3 y4 y5=>?_;let#[oe',Ho,oT',ts',a1,#[#[a2,a3],a4],a5,a6,a7,a8,a9,a10,a11]:=y3;let#[z1,z2]:=Zn I.zl hE g0;let#[u,zl]:=gJ (as:=[e,T]++yC X.stack) I.zl (gG I) y1 (x.slots.trans y4) λ a ha=>by
  rcases A4.mp ha with q | q
  .rcases Ao.mp q with q | q
   .rw[q];show .inr #[_,hE,#[oe',Ho,a1,a2.trans z1,a3.trans z2,a5],oe',a1]
   .rw[AX.mp q];let#[o1,t1,b1,b2]:=x.qj _ _ _ g6 g7;let#[o2,t2,b3,b4]:=y5 _ _ _ b1 b2;show .inr #[_,g5,#[o2,t2,b3,b4],o2,b3]
  .show .inl q
 let#[n,u',Bx]:=Zg u zl I.zl hp a9 a10;show hq h2 T' n u' Bx #[oe',Ho,a0,T',oT',ts',a1,a5,a4,a6,a8,zX,a9,a10,a11]
def Mn (I:Inv X Fd O H s) (he:mE H e) (hf:qM s.heap H e) {Q:Unit->Shared->Prop}
  (hq:∀ h',Un (yC X.stack) [] H H s.heap h'->yc X.prog X.w H h'->Q Unit.unit { s with heap:=h' }):wpAny M A (setFlight (.ref e) none) Q E s:=by
 let#[C,dx,hE]:=he;let#[oe,vs,a0,T,oT,ts,g0,g1,g3,g2,g4,g5,g6,g7,g8]:=hf;have A6:∀ env∈X.stack,∀ a,env.frame=↑a->a∈[T]++yC X.stack:=λ env hm a ha=>A5 _ (C2.mpr #[env,hm,ha]);exact eP (base:=PySem.W.hideAll s.heap ([T]++yC X.stack)) (λ b o q=>PySem.W.of_hideAll _ q) (PySem.W.funFrames_hide I.stack A6) #[oe,vs,oT,ts,g0,#[#[rfl,rfl],g3],g1,g2,PySem.W.hideAll_none _ #[],g4,g6,g7,g8] λ h2 y1 y2 y3 y4 y5=>?_;let#[u,zl]:=gJ (as:=[T]++yC X.stack) I.zl (gG I) y1 y4 λ a ha=>by
  rcases A4.mp ha with q | q
  .rw[AX.mp q];let#[o2,t2,b3,b4]:=y5 _ _ _ g6 g7;show .inr #[_,g5,#[o2,t2,b3,b4],o2,b3]
  .show .inl q
 show hq h2 u zl
def Lx {i:Nat}{x:Str}{pos:Pos}{Q:Unit->Shared->Prop}(I:Inv X Fd O H s) (hN:X.N.Nodup) (hi:X.N[i]?=↑x) (hk:X.env.kindOf x=↑.local)
  (h:∀ s',Inv X Fd (O.set i none) H s'->Q Unit.unit s'):wpAny M A (do bindName X.env x .none;unbindBehindTheSuite X.env x pos) Q E s:=by
 let#[m,hn,hl]:=id I.loc;have Bg:(X.env.scope.kind == .class||(X.env.scope.kind == .module&&X.env.locals != X.env.globals))=false:=by rw[I.ok.kind];rfl
 have uO:=I.uO;let#[oL,_,_,hoL,_]:=id hn;exact wpAny_nameGoes_keeps hk hn Bg λ h' v Hc hs=>?_;exact h _ #[I.ok,I.os,I.bare,#[λ b o e n hb hx=>?_,λ b o e n hb hx=>?_,I.base.free,λ b o e hx=>?_,I.base.wJ,I.base.v8,I.base.vO],#[_,Hc,λ j y v' e1 e2 e3=>?_],λ y c e=>?_,I.free,I.wF,λ p hp=>?_,λ b ob e=>?_,by exists I.len]
 .show (hs.2 b (Aw (Ba (Ap e) I.ok.above))).trans (I.base.keep b o e n hb hx)
 .let#[sl,e1]:=I.base.slot b o e n hb hx;show#[sl,(hs.2 b (Aw (Ba (Ap e) I.ok.above))).trans e1]
 .let#[o',e1]:=I.base.there b o e hx;show#[o',(hs.2 b (Aw (Ba (Ap e) I.ok.above))).trans e1]
 .by_cases hj:j=i
  .subst hj;rw[CZ] at e2;simp at e2
  .rw[Es (Ne.symm hj)] at e2;let#[u',r',q]:=hl j y v' e1 e2 e3;exact#[u',r',?_];rcases q with ⟨k,e⟩ | ⟨k,c,e,z⟩
   .exact .inl #[k,?_];have:y≠x:=λ e=>hj (iQ hN e1 (e▸hi));simp[this,e]
   .show .inr #[k,c,e,z.sameBut hs (uO y c e)]
 .let#[w',z]:=I.cell y c e;show#[w',z.sameBut hs (uO y c e)]
 .let#[e,n,ne,nf,d]:=I.pin p hp;show#[(hs.2 p.1 ne).trans e,n,ne,nf,d]
 .exact (I.zl b ob e).wK (λ c w' hc q=>(hs.2 c ?_).trans q) (λ _ q=>q) λ _ _ q=>q;rintro rfl;rcases hc with rfl | hc
  .rw[I.free] at e;cases e
  .rw[I.free] at hc;cases hc
end
abbrev sD:List Str:=["place","pair","way","times","told","name","row"]
def k6 {f:Str}(h:f∈sD):f∈rj:=by
 simp![Ao,AY,or_false] at h ⊢;rcases h with h | h | h | h | h | h | h <;> simp[h]
def eZ {f:Str}(h:f∈sD):typeLookup (.type "ValueError") f=pure none:=by
 simp![Ao,AY,or_false] at h;rcases h with rfl | rfl | rfl | rfl | rfl | rfl | rfl <;> (rw[typeLookup_type,builtinLookup_eq_fast];kernel_rfl)
def WK:typeLookup (.type "ValueError") "__class__"=pure ↑(.builtin "object.__class__"):=by rw[typeLookup_type,builtinLookup_eq_fast];kernel_rfl
section
variable {K:Ac}{h:Heap}{c:Str}{C P N NP:Addr}{bm:Ae}
def rQ.at (o:rQ K c C bm N) (X:K.In h):(∃ (q:Str) (bs:Ae) (sn:List Str) (sub:Ae) (ab:Bool) (col:Option Bool) (dd:Option Addr) (k0 k1 k2 k3 k5:Option Value),h.get? C=↑(excClassObj c q C N bs bm true sn sub ab col dd k0 k1 k2 k3 k5 "ValueError.__new__"))/\h.Ns N (h.nsMap N)/\∀ n∈rj,h.nsMap N n=none:=by
 let#[#[q,bs,sn,sub,ab,col,dd,k0,k1,k2,k3,k5,e],ok,hn]:=o;show#[#[q,bs,sn,sub,ab,col,dd,k0,k1,k2,k3,k5,X _ _ e],.of_isNs (PySem.W.isNs_of_in X ok),λ n m=>PySem.W.nsMap_none_of_in X ok (hn n m)]
def qc.eR (e:qc K c C P N NP) (X:K.In h):fP h C P "ValueError" vF:=by
 let#[#[q,bs,sn,sub,ab,col,dd,k0,k1,k2,k3,k5,hC],hN,hn]:=e.own.at X;let#[#[q',bs',sn',Hu,ab',Hz,HZ,l0,l1,l2,l3,l5,hP],IZ,Hc]:=e.par.at X;exact#[PySem.F.attrBase_ValueError,(),WK,c,q,N,bs,sn,sub,ab,col,dd,k0,k1,k2,k3,k5,_,_,_,hC,hN,#[#[_,_,_,_,hP,IZ]],λ n m=>?_];have m':n∈rj:=by
  simp![Ao,AY,or_false] at m ⊢;rcases m with m | m | m <;> simp[m]
 show#[hn n m',Hc n m']
end
def lb (e C vs:Addr):HO:=.ext λ h=>h.get? e=↑{ cls:=.ref C,data:=.fields [.ref vs,.none,.none,.none,.bool false,.none].toArray }
def et (e C dx vs:Addr):HO:=.ext λ h=>h.get? e=↑{ cls:=.ref C,dict:=↑dx,data:=.fields [.ref vs,.none,.none,.none,.bool false,.none].toArray }
section
variable {P:Program}{w:World}{fs:List Addr}{H:Hp}{h h':Heap}{e dx:Addr}{φ ψ:Heap->Prop}{fv:List (Str×V)}
def WW (zl:yc P w H h) (he:H e=↑(.ext φ)) (hd:h.objs.size<=dx) (k:∀ b o,b≠e->h.get? b=↑o->h'.get? b=↑o) (hψ:ψ h') (Cs:∃ o,h'.get? e=↑o)
  (st:∀ h1 h2:Heap,ψ h1->(∀ o,h1.get? e=↑o->h2.get? e=↑o)->ψ h2) (hx:∃ mA,h'.Ns1 dx mA/\∀ f,vH (fv.lookup f) (mA f)):
  Un fs [] H (upd (upd H dx (.xd fv)) e (.ext ψ)) h h'/\yc P w (upd (upd H dx (.xd fv)) e (.ext ψ)) h':=by
 have hn:H dx=none:=zl.fresh hd;have up:∀ b,b≠e->b≠dx->upd (upd H dx (.xd fv)) e (.ext ψ) b=H b:=λ b a c=>by rw[zE a,zE c]
 have ue:∀ b,H b=none->b≠e:=λ b a z=>by rw[z,he] at a;cases a
 have ux:∀ b o,h.get? b=↑o->b≠dx:=λ b o q=>Aw (Ba (Ap q) hd);have us:∀ b u,H b=↑u->(∀ φ,u≠.ext φ)->upd (upd H dx (.xd fv)) e (.ext ψ) b=↑u:=λ b u q n=>by
  rw[up b (vX q he (n _)) (xj q hn)];show q
 exact#[#[λ b o q n _ _=>k b o (ue b n) q,λ b o q n _ _=>#[o.slots,k b o (ue b n) q],λ b o q n _=>by rw[up b (ue b n) (ux b o q)];show n,λ b o q _=>?_,λ b xs q=>us b _ q (λ _ z=>by cases z),λ b o u q=>us b _ q (λ _ z=>by cases z),λ b ps q=>#[[].toArray,by rw[us b _ q (λ _ z=>by cases z)];simp]],λ a o q=>?_]
 .by_cases z:b=e
  .rw[z];show Cs
  .show#[o,k b o z q]
 .by_cases z:a=e
  .subst z;rw[zX] at q;cases q;show#[hψ,Cs,st]
  .rw[zE z] at q;by_cases z':a=dx
   .subst z';rw[zX] at q;cases q;show hx
   .rw[zE z'] at q;exact (zl a o q).wK (λ b u hb c=>k b u ?_ c) (λ b c=>us b _ c (λ _ z=>by cases z)) λ b xs c=>us b _ c (λ _ z=>by cases z);rcases hb with rfl | hb
    .show z
    .show vX hb he (by intro z;cases z)
def WU (zl:yc P w H h) (he:H e=↑(.ext φ)) (hψ:ψ h) (st:∀ h1 h2:Heap,ψ h1->(∀ o,h1.get? e=↑o->h2.get? e=↑o)->ψ h2):
  Un fs [] H (upd H e (.ext ψ)) h h/\yc P w (upd H e (.ext ψ)) h:=by
 have ue:∀ b,H b=none->b≠e:=λ b a z=>by rw[z,he] at a;cases a
 have us:∀ b u,H b=↑u->(∀ φ,u≠.ext φ)->upd H e (.ext ψ) b=↑u:=λ b u q n=>by
  rw[zE (vX q he (n _))];show q
 exact#[#[λ b o q n _ _=>q,λ b o q n _ _=>#[o.slots,q],λ b o q n _=>by rw[zE (ue b n)];show n,λ b o q _=>#[o,q],λ b xs q=>us b _ q (λ _ z=>by cases z),λ b o u q=>us b _ q (λ _ z=>by cases z),λ b ps q=>#[[].toArray,by rw[us b _ q (λ _ z=>by cases z)];simp]],λ a o q=>?_];by_cases z:a=e
 .subst z;rw[zX] at q;cases q;show#[hψ,(zl a _ he).2.1,st]
 .rw[zE z] at q;show (zl a o q).wK (λ b u hb c=>c) (λ b c=>us b _ c (λ _ z=>by cases z)) λ b xs c=>us b _ c (λ _ z=>by cases z)
end
def Vp (K:Ac) (f:Str):TS:=λ D O H=>∃ e C vs v c,O[0]?=↑↑(.ref e)/\O[1]?=↑↑v/\H e=↑(lb e C vs)/\uT K c C/\
 ∀ dx,H dx=none->dx≠e->D.nx O (upd (upd H dx (.xd [(f,v)])) e (et e C dx vs))
def UE {X:Cx}{o value:Expr}{f:Str}{pos pos':Pos}(hf:f∈sD) (ho:PE X o (oU 0)) (hv:PE X value (oU 1)) (hs:swapsWith value ↑(.Attribute o f pos') pos.line X.env=pure false):
  PS X (.Assign [.Attribute o f pos'] value pos) (Vp X.K f):=by
 intro Fd s O H D I h;let#[e,C,vs,v,c,h0,h1,h2,#[P,N,NP,hE],hq]:=h;exact plainObj_wpAny_Assign_Attribute (zt (hv Fd s O H (λ x H'=>x=v/\H'=H) I #[v,h1,rfl,rfl]) λ u s1 #[y,H1,I1,ry,ey,eH]=>?_) hs;subst ey eH;exact zt (ho Fd s1 O H1 (λ x H'=>x=.ref e/\H'=H1) I1 #[_,h0,rfl,rfl]) λ ov s2 #[x,H2,I2,rx,ex,eH2]=>?_;subst ex eH2;obtain rfl:ov=Value.ref e:=rx;let#[hh,g,d,t,os]:=s2;let#[#[q,bs,sn,sub,ab,col,dd,k0,k1,k2,k3,k5,hC],hN,hn]:=hE.own.at I2.yx;let#[#[q',bs',sn',Hu,ab',Hz,HZ,l0,l1,l2,l3,l5,hP],IZ,Hc]:=hE.par.at I2.yx;have hsa:("__setattr__":Str)∈rj:=#[];have h3:hh.get? e=↑{ cls:=.ref C,data:=.fields [.ref vs,.none,.none,.none,.bool false,.none].toArray }:=(I2.zl e _ h2).1;exact Ww PySem.F.store_ValueError hC hN #[#[_,_,_,_,hP,IZ]] (hn _ hsa) (Hc _ hsa) (hn _ (k6 hf)) (Hc _ (k6 hf)) (eZ hf) h3 rfl rfl (λ _=>nofun) λ h' H_ z1 z2 z3=>?_;have dn:=I2.zl.fresh (Ak hh.objs.size);let#[u',Bx]:=WW (fs:=X.fs) (fv:=[(f,y)]) (ψ:=λ h=>h.get? e=↑{ cls:=.ref C,dict:=↑hh.objs.size,data:=.fields [.ref vs,.none,.none,.none,.bool false,.none].toArray }) I2.zl h2 (Ak _) z3 z1 #[_,z1] (λ h1 h2 a b=>b _ a) #[_,z2,λ f'=>by
  by_cases E4:f'=f
  .subst E4;simp![Bs,beq_self_eq_true,if_true];show ry
  .have:(f' == f)=false:=by exists E4
   simp![Bs,this,List.lookup_nil,if_neg E4]
   trivial]
 show#[O,_,I2.un (t':=H_) u' Bx,hq _ dn (xj h2 dn).symm]
def VG (K:Ac) (f:Str):Sp:=λ vs H Q _=>∃ e C va v c,vs=[.ref e,v]/\H e=↑(lb e C va)/\uT K c C/\∀ dx,H dx=none->dx≠e->Q .zo (upd (upd H dx (.xd [(f,v)])) e (et e C dx va))
structure rX (K:Ac) (mg:Au) (c f:Str) (st:Stmt):Prop where
 fl:f∈sD
 ex:∃ (C P N NP fI:Addr) (fd:FuncData),qc K c C P N NP/\mg c=↑(.ref C)/\PySem.W.keepIn K (.ref C)=true/\PySem.W.nsIn K N "__init__"=↑↑(.ref fI)/\PySem.W.isFn K (.ref fI)=true/\wy K "__init__" (c++".__init__") st fI fd
structure uR (f:Str) (st:Stmt):Prop where
 sc:vg ["self",f] ["self",f] (zG st)
 bd:∃ p1 p2 p3 p4,yN st=[.Assign [.Attribute (.Name "self" p1) f p2] (.Name f p3) p4]/\∀ env:Env,swapsWith (.Name f p3) ↑(.Attribute (.Name "self" p1) f p2) p4.line env=pure false
 bn:∀ (x q:Str) (kV doc pm:Value) (an:Option Addr) (Ah ct:Value) (us:Ae),us.length=2->bindArgs (PySem.W.fnOf x q (wV st) (yN st) (zG st) .none kV doc pm an Ah ct) #[us,[]]=pure ((["self",f]:List Str).zip us)
theorem Zh {f:Str}(h:f∈sD):(f == ("__debug__":Str))=false/\(f == ("__classdict__":Str))=false:=by
 simp![Ao,AY,or_false] at h;rcases h with rfl | rfl | rfl | rfl | rfl | rfl | rfl <;> show#[(),()]
def MO {P:Program}{w:World}{K:Ac}{mg:Au}{base:Heap}{c f:Str}{st:Stmt}{fI:Addr}{fd:FuncData}(hf:f∈sD) (F:wy K "__init__" (c++".__init__") st fI fd) (S:uR f st):
  yP P w K mg base y8 1 fI fd ["self",f] (VG K f):=by
 let#[p1,p2,p3,p4,hb,hs]:=S.bd;exact F.ok (k:=0) S.sc (λ vs H Q E #[e,C,va,v,c,h,_]=>by rw[h];rfl) λ Ah A outer s H vs Q E hr h=>?_;rw[hb];let#[e,C,va,v,c',h1,h2,h3,h4]:=h;subst h1;have vis:∀ x∈(["self",f]:List Str),m6 (zG st) x:=λ x m=>(S.sc.par x m).elim .inl (λ z=>.inr (.inl z));show#[_,iy (UE hf (pv 0 rfl (vis _ #[])) (pv 1 rfl (vis _ #[]) (Zh hf).1 (Zh hf).2) (hs _)),e,C,va,v,c',rfl,rfl,h2,h3,h4]
def Nt {K:Ac}{h:Heap}{N:Addr}{mg:Au}{n:Str}{v:Value}(X:K.In h) (G:h.Ns N mg) (e:PySem.W.nsIn K N n=↑↑v):mg n=↑v:=by
 let#[o,es,ep,ho,hd,_,hf]:=G;unfold PySem.W.nsIn at e;split at e
 .rename_i c d Gr n' sl q;have:=X _ _ q;rw[ho] at this;cases this;cases hd;split at e
  .rename_i en he;cases e;rw[<- hf];unfold nsFind findBy;rw[<- Array.find?_toList,he];rfl
  .split at e <;> cases e
 .cases e
def XP (X:Cx) (Fd:Ai) (fl:Bool) (O:St) (Q:Addr->Hp->Prop) (v:Value) (s':Shared):Prop:=
 ∃ e FV O' H',v=.ref e/\(fl=true->FV=Fd/\O'=O)/\Inv X FV O' H' s'/\mE H' e/\((fl=false/\YG s'.heap e)\/qM s'.heap H' e)/\Q e H'
def fY (K:Ac) (c f:Str) (x:V) (e:Addr) (H':Hp):Prop:=∃ C dx,uT K c C/\H' e=↑(wz e C dx)/\H' dx=↑(.xd [(f,x)])
def wp_raise {X:Cx}{c f:Str}{st:Stmt}{e:Expr}{te:TE}{p pos rpos:Pos}{Fd:Ai}{O:St}{H:Hp}{s:Shared}{Q:Addr->Hp->Prop}{R:Flow->Shared->Prop}
  (G:rX X.K X.mg c f st) (S:uR f st) (hr:zN 2 X.A) (hc:X.calm=true) (hn:∀ v s,¬ X.xe v s) (hg:Gl X c) (A8:(c == ("__debug__":Str))=false) (he:PE X e te)
  (hs:AA X e []) (Am:AF X pos [])
  {W:Af}(hW:∀ v s',XP X Fd false O Q v s'->W v s') (I:Inv X Fd O H s) (h:te O H λ x H1=>∀ a H',m9 H1 H'->fY X.K c f x a H'->Q a H'):
  wpAny (model X.prog X.w) X.A (exec (.Raise ↑(.Call (.Name c p) [e] [] pos) none rpos) X.env) R W s:=by
 let#[C,P,N,NP,fI,fd,hE,hm,hk,hi,Ca,F]:=G.ex;let#[#[q,bs,sn,sub,ab,col,dd,k0,k1,k2,k3,k5,lk],_,_]:=id hE.own;rw[arm_exec_Raise];exact gV (wpAny_standAt (Wx (C:=C) (nm:=c) (q:=q) (N:=N) (bs:=bs) (bm:=.ref P::vF) (hdct:=true) (sn:=sn) (sub:=sub) (ab:=ab) (col:=col) (dd:=dd) (k0:=k0) (k1:=k1) (k2:=k2) (k3:=k3) (k5:=k5) (newId:="ValueError.__new__")
  (by rw[Bp,show vF.contains (.type "BaseException")=true from by decide,CU]) (I.ok.hd hc) (gV (za3 ?_ (λ v s₃ h₃=>gV (wpAny_standAt (Ad h₃))) λ _ _ x=>x))))
 exact zaN (nH I hg hm ?_ A8);have ha:PA X [e] (lA te l9):=u_ he rh hs;exact PySem.W.callWith_K (h₀:=X.base) I.ok.mod.pH hk (za3 (ha pos Fd s O H (λ vs H1=>match vs with
  | [x]=>∀ a H',m9 H1 H'->fY X.K c f x a H'->Q a H'
  | _=>False) I h) (λ us s1 #[vs,H1,I1,r,q]=>#[I1.yx,?_]) λ _ _ z=>(hn _ _ z).elim) hs Am
 obtain⟨x,rfl,q⟩:∃ x,vs=[x]/\∀ a H',m9 H1 H'->fY X.K c f x a H'->Q a H':=by
  match vs,q with
  | [x],q=>show#[x,rfl,q]
 obtain⟨u,rfl,r1⟩:∃ u,us=[u]/\RelV x u:=by
  cases r with
  | cons r1 r2=>
   cases r2;show#[_,rfl,r1]
 let#[hh,g,d,t,os]:=s1;have hC:=I1.yx _ _ lk;let#[_,hN,hnn]:=hE.own.at I1.yx;let#[#[q',bs',sn',Hu,ab',Hz,HZ,l0,l1,l2,l3,l5,hP],IZ,Hc]:=hE.par.at I1.yx;have hfI:∃ oI,hh.get? fI=↑oI/\oI.cls=.type "function":=by
  let#[oc,od,_,_,_,_,_,_,HQ,_,lf,_]:=F.ex;have z:=beq_iff_eq.mp Ca;simp![PySem.W.typeIn,lf,Option.map_some] at z;show#[_,I1.yx _ _ lf,A_ z]
 let#[oI,hfI,DC]:=hfI;have T:OwnTail hh vF (.ref P::vF):=.own hP IZ (PySem.W.ns_none_of I1.yx IZ hE.US) .base;exact W8 PySem.F.excBase_ValueError T hC hN (Nt I1.yx hN hi) hfI DC (λ h' e hle M=>?_) (by change 1<=sizeLine;decide);let#[va,m1,m2,m3]:=M.there;have I2:Inv X Fd O (upd H1 e (lb e C va)) #[h',g,d,t,os]:=I1.laid (t':=t) M.keeps hle #[m1,#[_,m1],λ h1 h2 a b=>b _ a];have en:H1 e=none:=I1.zl.fresh hle;have r2:Vals [V.ref e,x] [Value.ref e,u]:=.cons rfl (.cons r1 .nil);have F2:=MO (P:=X.prog) (w:=X.w) (mg:=X.mg) (base:=X.base) G.fl F S;exact wpAny_call (codeAny_mono (F2.run _ X.stack _ _ #[[.ref e,u],[]] [.ref e,u] [.ref e,x] (λ v H2=>v=.zo/\∃ dx,upd H1 e (lb e C va) dx=none/\dx≠e/\H2=upd (upd (upd H1 e (lb e C va)) dx (.xd [(f,x)])) e (et e C dx va)) E0 ((hr.make C [u] []).mono ()) (I2.gR.make C [u] [])
  (F.binds (ps:=["self",f]) (S.bn _ _) _ _ I2.yx rfl) r2 #[e,C,va,x,c,rfl,zX,#[P,N,NP,hE],λ dx n ne=>#[rfl,dx,n,ne,rfl]]) λ r s' hq'=>?_)
 cases r with
 | error e=>show hq'.elim
 | ok fl=>
  cases fl with
  | ret u'=>
   let#[v,H',I3,rv,ev,dx,n,ne,eH]:=I2.after hq';subst ev eH;have g3:=(I3.zl e _ zX).1;let#[u3,ok3]:=WU (fs:=X.fs) (ψ:=λ h=>∃ oe vs,h.get? e=↑oe/\oe.cls=.ref C/\oe.dict=↑dx/\oe.data=.fields vs) I3.zl zX #[_,_,g3,rfl,rfl,rfl] (λ h1 h2 #[oe,vs,a,b] k=>#[oe,vs,k _ a,b]);have I4:=I3.un (t':=s'.toks) u3 ok3;exact#[rv,e,↑dx,va,_,rfl,I3.yx _ _ lk,g3,hW _ _ #[e,Fd,O,_,rfl,nofun,I4,#[C,dx,zX],.inl #[rfl,_,_,_,g3,rfl,rfl,rfl],q e _ (λ b o z=>?_) #[C,dx,#[P,N,NP,hE],zX,by rw[zE ne,zE ne,zX]]]];have b1:b≠e:=λ y=>by rw[y,en] at z;cases z
   have b2:b≠dx:=λ y=>by rw[<- y,zE b1,z] at n;cases n
   rw[zE b1,zE b1,zE b2,zE b1];show z
  | _=>show False.elim hq'
def Un.out {fs:List Addr}{L:Addr}{H H1 H2:Hp}{h h1 h2:Heap}(a:Un fs [] H H1 h h1) (b:Un (L::fs) [] H1 H2 h1 h2) (hL:h.get? L=none):Un fs [] H H2 h h2 where
 keep:=λ c o q n hc hx=>b.keep c o (a.keep c o q n hc hx) (a.free c o q n hx) (λ z=>(Ao.mp z).elim (λ y=>by rw[y,hL] at q;cases q) hc) hx
 slot:=λ c o q n hc hx=>by
  let#[sl,e]:=a.slot c o q n hc hx;let#[sl',e']:=b.slot c _ e (a.free c o q n hx) (AD _ hc) hx;show#[sl',e']
 free:=λ c o q n hx=>by
  let#[o',e]:=a.there c o q hx;show b.free c o' e (a.free c o q n hx) hx
 there:=λ c o q hx=>by
  let#[o',e]:=a.there c o q hx;show b.there c o' e hx
 wJ:=λ c xs q=>b.wJ c xs (a.wJ c xs q)
 v8:=λ c o xs q=>b.v8 c o xs (a.v8 c o xs q)
 vO:=λ c ps q=>by
  let#[m1,e1]:=a.vO c ps q;let#[m2,e2]:=b.vO c _ e1;show#[m1++m2,by rw[e2,Eu]]
def oH (P:Program) (w:World):vL:=λ outer H s E v s'=>∃ e H',v=.ref e/\s'.os=s.os/\AllBare s'.gens/\Un (yC outer) [] H H' s.heap s'.heap/\yc P w H' s'.heap/\mE H' e/\qM s'.heap H' e/\E v none H'
def yP.never {P:Program}{w:World}{K:Ac}{mg:Au}{base:Heap}{k:Nat}{f:Addr}{fd:FuncData}{ps:List Str}{sp:Sp}(F:yP P w K mg base (oH P w) k f fd ps sp):
  yP P w K mg base y8 k f fd ps (λ vs H Q _=>sp vs H Q λ _ _ _=>False):=
 #[λ vs H Q E h=>F.len _ _ _ _ h,λ A outer s H args us vs Q E hr he hb hv hs=>codeAny_mono (F.run A outer s H args us vs Q _ hr he hb hv hs) λ r s' hq=>by
  cases r with
  | error e=>
   let#[_,_,_,_,_,_,_,_,_,z]:=hq;show z.elim
  | ok fl=>cases fl <;> show hq]
section
variable {X:Cx}{k:Nat}{f:Addr}{fd:FuncData}{ps:List Str}{sp:Sp}{x:Str}{p pos:Pos}{e:Expr}{es:List Expr}{t:TA}{Fd:Ai}{O:St}{H:Hp}{s:Shared}{Q:VK}{Qx:Addr->Hp->Prop}{fl:Bool}
def WB (F:yP X.prog X.w X.K X.mg X.base (oH X.prog X.w) k f fd ps sp) (hr:zN k X.A) (hg:Gl X x) (hm:X.mg x=↑(.ref f)) (hk:PySem.W.keepIn X.K (.ref f)=true) (hb:Binds X.K fd ps []) (hn:∀ v s,¬ X.xe v s)
  (ha:PA X (e::es) t) (A8:(x == ("__debug__":Str))=false) (he:AA X e es) (Am:AF X pos es)
  {W:Af}(hW:∀ v s',XP X Fd fl O Qx v s'->W v s') (I:Inv X Fd O H s) (h:t O H λ vs H1=>sp vs H1 Q λ v _ H'=>∃ a,v=.ref a/\Qx a H'):
  wpAny (model X.prog X.w) X.A (eval (.Call (.Name x p) (e::es) [] pos) X.env) (EP X Fd O Q) W s:=by
 exact zaN (nH I hg hm ?_ A8);exact PySem.W.callWith_K (h₀:=X.base) I.ok.mod.pH hk (za3 (ha pos Fd s O H _ I h) (λ us s1 #[vs,H1,I1,r,q]=>#[I1.yx,?_]) λ _ _ z=>(hn _ _ z).elim) he Am;have hl:us.length=ps.length:=by rw[<- r.length];show F.len _ _ _ _ q
 have Bn:=hb s1 us I1.yx (by rw[CF];show hl);rw[CF] at Bn;exact wpAny_call (codeAny_mono (F.run X.A X.stack s1 H1 #[us,[]] us vs Q _ hr I1.gR Bn r q) λ r s' hq=>?_);cases r with
 | error v=>
  let#[a,H',rfl,os,bare,un,zl,ie,f1,a',ea,z]:=hq;cases ea;show hW _ _ #[a,Fd,O,H',rfl,λ _=>#[rfl,rfl],I1.ZX (ch:=[]) os un zl bare (λ b z=>absurd z #[]),ie,.inr f1,z]
 | ok fl=>
  cases fl with
  | ret u=>show I1.after hq
  | _=>show False.elim hq
end
abbrev nE (X:Cx) (e:Addr):Cx:={ X with A:=X.A.mark ↑(.ref e),calm:=false }
section
variable {X:Cx}{Fd:Ai}{O O':St}{H H':Hp}{s s':Shared}{e:Addr}
def aF (I:Inv X Fd O H s) (e:Addr):Inv (nE X e) Fd O H s:=
 #[#[I.ok.mod,I.ok.kind,I.ok.glob,I.ok.blt,I.ok.above,I.ok.inj,I.ok.has,I.ok.qA,nofun,I.ok.frames,I.ok.qY,I.ok.nW,I.ok.bs,I.ok.tF,I.ok.ql,I.ok.qv,I.ok.wN,I.ok.sC],I.os,I.bare,I.base,I.loc,I.cell,I.free,I.wF,I.pin,I.zl,I.len]
def MG (I:Inv X Fd O H s) (J:Inv (nE X e) Fd O' H' s'):Inv X Fd O' H' s':=#[I.ok,J.os,J.bare,J.base,J.loc,J.cell,J.free,J.wF,J.pin,J.zl,J.len]
def WA {i j:Nat}{n c:Str}{body:List Stmt}{p1 p2 p3 p4 B8 pos:Pos}{D:Ends}{Qx:Addr->Hp->Prop}(hn:∀ v s,¬ X.xe v s) (AG:X.stack=X.env::X.outer) (AR:X.env.frame=↑X.env.locals)
  (hg:Gl X "PurseError") (hN:X.N.Nodup) (hi:X.N[i]?=↑n) (A6:X.env.kindOf n=↑.local) (hj:X.N[j]?=↑c) (Dm:Loc X.env.scope c) (DB:X.fn c=true\/X.env.scope.names.lookup c=↑.local) (A7:i≠j)
  (BK:(n == ("__debug__":Str))=false) (BO:(n == ("__classdict__":Str))=false) (Bv:swapsWith (.Name n p3) ↑(.Name c p2) p4.line X.env=pure false)
  (I:Inv X Fd O H s) (hb:wpAny (model X.prog X.w) X.A (execs body X.env) (SP X Fd D) (XP X Fd true O Qx) s)
  (hx:∀ a H',Qx a H'->(∃ cn C dx,uT X.K cn C/\H' a=↑(wz a C dx))/\∀ T,H' T=none->D.nx (((O.set i ↑(.ref a)).set j ↑(.ref a)).set i none) (upd H' T (xO T))):
  wpAny (model X.prog X.w) X.A (exec (.Try body [.ExceptHandler ↑(.Name "PurseError" p1) ↑n [.Assign [.Name c p2] (.Name n p3) p4] B8] [] [] pos) X.env) (SP X Fd D) X.xe s:=by
 exact wpAny_Try_except (za3 hb (λ f s₁ q=>?_) λ v s₁ #[a,FV,O',H1,ev,es,I1,ie,fly,q]=>?_)
 .cases f with
  | next=>show zaK q
  | _=>show q
 subst ev;let#[rfl,rfl]:=es rfl;let#[#[cn,C,dx,#[P,N,NP,hE],hEo],q]:=hx a H1 q;have f1:=fly.resolve_left (λ z=>by cases z.1);exact Nu I1 AG AR ie f1 λ h' T hT un zl f2=>?_;have I2:Inv X FV O' (upd H1 T (xO T)) { s₁ with heap:=h' }:=I1.call (g':=s₁.gens) (d':=s₁.drawn) (t':=s₁.toks) (ch:=[]) un zl I1.bare (λ b z=>absurd z #[]);have hEo2:upd H1 T (xO T) a=↑(wz a C dx):=by rw[zE (xj hEo hT)];show hEo
 let#[#[qn,bs,sn,sub,ab,col,dd,k0,k1,k2,k3,k5,lk],_,_]:=id hE.own;let#[#[q',bs',sn',Hu,ab',Hz,HZ,l0,l1,l2,l3,l5,lp],_,_]:=id hE.par;have mP:X.mg "PurseError"=↑(.ref P):=PySem.W.mg_of I.ok.mod.pH I.ok.mod.glob hE.cQ;have aoe:∃ oe,h'.get? a=↑oe/\oe.cls=.ref C:=by
  let#[#[oe,vs,z1,z2,_],_]:=I2.zl a _ hEo2;show#[oe,z1,z2]
 exact Wr (bm:=.ref P::vF) (IG:=vF) () (by rw[Bp];simp) (nH (X:=nE X a) (aF I2 a) hg mP #[rfl,I2.yx _ _ lk,I2.yx _ _ lp,aoe,?_]);exact Mn I2 #[C,dx,hEo2] f2 λ h2 un2 hok2=>?_;have I3:Inv X FV O' (upd H1 T (xO T)) { s₁ with heap:=h2 }:=Inv.call (s:={ s₁ with heap:=h' }) (g':=s₁.gens) (d':=s₁.drawn) (t':=s₁.toks) (ch:=[]) I2 un2 hok2 I1.bare (λ b z=>absurd z #[]);exact lC I3 hN hi (.inl A6) (v:=.ref a) rfl (λ s4 I4=>?_) (.inr A6);have st:=iy (cR (X:=nE X a) (i:=j) (pos:=p4) (pos':=p2) hN hj Dm (pv (X:=nE X a) i (pos:=p3) hi (.inl A6) BK BO) Bv DB);have hl:i < O'.length:=by rw[I1.len];show (AQ.mp hi).1
 exact za3 (st FV s4 _ _ { nx:=fun O2 H2=>O2=(O'.set i ↑(.ref a)).set j ↑(.ref a)/\H2=upd H1 T (xO T),rt:=λ _ _=>False } (aF I4 a) #[.ref a,by rw[Et hl],rfl,rfl]) (λ fl s5 q5=>?_) λ _ _ z=>(hn _ _ z).elim;cases fl with
 | next=>
  let#[O5,H5,I5,rfl,rfl]:=q5;show Lx (MG I I5) hN hi A6 λ s6 I6=>#[_,_,I6,q T hT]
 | ret _=>let#[_,_,_,_,_,z]:=q5;show z.elim
 | _=>let#[_,_,_,z]:=q5;show z.elim
end
def vy:D->Bool
 | .err _ _ _=>true
 | _=>false
def uK (K:Ac) (H:Hp) (R:VK) (Q:Addr->Hp->Prop):DK:=λ d S'=>(vy d=false->x8 K H R d S')/\(vy d=true->∀ a H',ze K H' d (.ref a)->Ext H H'->zB K H' S'->Q a H')
theorem uK.ext {K:Ac}{H H':Hp}{R:VK}{Q:Addr->Hp->Prop}(e:Ext H H') {d:D}{S:SS}(h:uK K H R Q d S):uK K H' R Q d S:=#[λ z=>x8.ext e (h.1 z),λ z a H2 r x q=>h.2 z a H2 r (e.trans x) q]
def sH (K:Ac) (H:Hp) (D:Ends) (Q:Addr->Hp->Prop):tR:=#[xl K H D.nx,uK K H D.rt Q,xl K H D.bk,xl K H D.ct]
theorem sH.ext {K:Ac}{H H':Hp}{D:Ends}{Q:Addr->Hp->Prop}(e:Ext H H'):(sH K H D Q).Le (sH K H' D Q):=#[λ _ _ h=>xl.ext e h,λ _ _ h=>uK.ext e h,λ _ _ h=>xl.ext e h,λ _ _ h=>xl.ext e h]
def qX (K:Ac) (t:zY) (Q:Addr->Hp->Prop):TS:=λ D O H=>∃ L S,yh K H L O/\zB K H S/\t (sH K H D Q) L S
structure og (X:Cx) (Fd:Ai) (O:St) (fl:Bool) (Q:Addr->Hp->Prop) (W:Af):Prop where
 xp:∀ v s',XP X Fd fl O Q v s'->W v s'
 own:fl=false->PassesOwn (model X.prog X.w) X.A X.env W
def og.any {X:Cx}{Fd FV:Ai}{O O':St}{Q:Addr->Hp->Prop}{W:Af}(h:og X Fd O false Q W):og X FV O' false Q W:=
 #[λ v s' #[e,p,q,H',h1,_,h3]=>h.xp v s' #[e,p,q,H',h1,nofun,h3],h.own]
structure sM (X:Cx) (fl:Bool) (st:Stmt) (t:zY):Prop where
 mo:um t
 px:∀ Fd s O H D Q W,og X Fd O fl Q W->Inv X Fd O H s->qX X.K t Q D O H->wpAny (model X.prog X.w) X.A (exec st X.env) (SP X Fd D) W s
structure vI (X:Cx) (fl:Bool) (GZ:List Stmt) (t:zY):Prop where
 mo:um t
 px:∀ Fd s O H D Q W,og X Fd O fl Q W->Inv X Fd O H s->qX X.K t Q D O H->wpAny (model X.prog X.w) X.A (execs GZ X.env) (SP X Fd D) W s
section
variable {X:Cx}{fl:Bool}{st:Stmt}{Ff:List Stmt}{t u:zY}{pos:Pos}{e:Expr}{te:zq}
def TX:vI X fl [] g_:=#[λ _ _ _ _ hE h=>hE.nx _ _ h,λ Fd s O H D Q W hW I #[L,S,r1,r2,z]=>zaK #[O,H,I,z O H r1 (.refl H) r2]]
def TV (h:sM X fl st t):vI X fl [st] t:=#[h.mo,λ Fd s O H D Q W hW I hu=>by
 exact wpAny_execs_cons (zt (h.px Fd s O H D Q W hW I hu) λ f s1 q=>?_);cases f with
 | next=>show zaK q
 | ret v=>show q
 | brk=>show q
 | cont=>show q]
def Sb (h:sM X false st t) (h':vI X false Ff u):vI X false (st::Ff) (qx t u):=#[qx.mo h.mo h'.mo,λ Fd s O H D Q W hW I #[L,S,r1,r2,z]=>by
 exact wpAny_execs_cons (zt (h.px Fd s O H { D with nx:=qX X.K u Q D } Q W hW I #[L,S,r1,r2,h.mo { sH X.K H D Q with nx:=u (sH X.K H D Q) } _ L S #[fun L' S' q O' H' q1 q2 q3=>#[L',S',q1,q3,h'.mo _ _ L' S' (sH.ext q2) q],λ _ _ q=>q,λ _ _ q=>q,λ _ _ q=>q] z]) λ f s1 q=>?_);cases f with
 | next=>
  let#[O',H',I',q]:=q;show h'.px Fd s1 O' H' D Q W hW.any I' q
 | ret v=>show q
 | brk=>show q
 | cont=>show q]
def TY {c:Expr}{p q:List Stmt}{tc:yp}(hc:yO X c tc) (h:vI X fl p t) (h':vI X fl q u) (hn:∀ v s,¬ X.xe v s):sM X fl (.If c p q pos) (kN tc t u):=by
 exact#[λ E E' L S hE z=>hc.mo L S _ _ (λ k S1 z=>xW (h.mo _ _ L S1 hE) (h'.mo _ _ L S1 hE) z) z,λ Fd s O H D Q W hW I #[L,S,r1,r2,z]=>?_];exact wpAny_If (za3 (hc.pt Fd s O H (λ k H1=>if k=true then qX X.K t Q D O H1 else qX X.K u Q D O H1) I (xG.go hc.mo r1 r2 z λ k S1 H1 h1 e1 p1=>xW (λ z=>?_) (λ z=>?_) h1)) (λ k s1 #[H1,I1,q1]=>?_) λ _ _ z=>(hn _ _ z).elim)
 .show#[L,S1,r1.ext e1,p1,h.mo _ _ L S1 (sH.ext e1) z]
 .show#[L,S1,r1.ext e1,p1,h'.mo _ _ L S1 (sH.ext e1) z]
 .cases k with
  | true=>show h.px Fd s1 O H1 D Q W hW I1 q1
  | false=>show h'.px Fd s1 O H1 D Q W hW I1 q1
def gX (te:zq):zY:=λ E L S=>te L S λ d S1=>vy d=false/\E.rt d S1
def TR (he:PD X e te) (hn:∀ v s,¬ X.xe v s):sM X fl (.Return ↑e pos) (gX te):=by
 exact#[λ E E' L S hE z=>he.mo L S _ _ (λ _ _ q=>#[q.1,hE.rt _ _ q.2]) z,λ Fd s O H D Q W hW I #[L,S,r1,r2,z]=>?_];show wpAny_Return_some (za3 (he.pe Fd s O H D.rt I (zF.go he.mo r1 r2 z λ x S1 v H1 h1 q1 e1 p1=>h1.2.1 h1.1 v H1 q1 e1 p1)) (λ v s1 #[x,H1,I1,r1,q1]=>#[x,O,H1,I1,r1,q1]) λ _ _ z=>(hn _ _ z).elim)
def Ext.same {H H':Hp}(e:m9 H H'):Ext H H':=#[λ b xs q=>e _ _ q,λ b o u q=>e _ _ q,λ b u q=>e _ _ q,λ b u q=>e _ _ q]
def gZ (c f:Str) (te:zq):zY:=λ E L S=>te L S λ d S1=>E.rt (.err c f d) S1
def TU {c f:Str}{si:Stmt}{p Aj:Pos}{k:Nat}(G:rX X.K X.mg c f si) (Sh:uR f si) (hr:zN k X.A) (he:PD X e te) (hk:2<=k) (hg:Gl X c) (hc:X.calm=true) (A8:(c == ("__debug__":Str))=false)
  (hs:AA X e []) (Am:AF X Aj []) (hn:∀ v s,¬ X.xe v s):
  sM X false (.Raise ↑(.Call (.Name c p) [e] [] Aj) none pos) (gZ c f te):=by
 exact#[λ E E' L S hE z=>he.mo L S _ _ (λ _ _ q=>hE.rt _ _ q) z,λ Fd s O H D Q W hW I #[L,S,r1,r2,z]=>?_];exact wp_raise G Sh (hr.mono hk) hc hn hg A8 he.pe hs Am hW.xp I (zF.go he.mo r1 r2 z λ x S1 v H1 h1 q1 e1 p1 a H' sm #[C,dx,hE,h2,h3]=>?_);exact h1.2 rfl a H' ?_ (e1.trans (.same sm)) (p1.same sm);simp![ze];show#[a,C,dx,v,rfl,#[hE,h2,h3],ze.ext (.same sm) x q1]
end
def dk (K:Ac) (sp:xR):Sp:=λ vs H Q E=>∃ ds S,zh K H ds vs/\zB K H S/\sp ds S (uK K H Q λ a H'=>E (.ref a) none H')
structure vh (P:Program) (w:World) (K:Ac) (mg:Au) (base:Heap) (x:Str) (k:Nat) (ps:List Str) (sp:xR):Prop where
 ex:∃ (f:Addr) (fd:FuncData),yP P w K mg base (oH P w) k f fd ps (dk K sp)/\mg x=↑(.ref f)/\PySem.W.keepIn K (.ref f)=true/\Binds K fd ps []
 mo:ox sp
def lX (sp:xR):xR:=λ ds S Q=>sp ds S λ d S'=>vy d=false/\Q d S'
def lX.mo {sp:xR}(h:ox sp):ox (lX sp):=λ ds S Q Q' hq z=>h ds S _ _ (λ d S' q=>#[q.1,hq _ _ q.2]) z
theorem vh.fd {P:Program}{w:World}{K:Ac}{mg:Au}{base:Heap}{x:Str}{k:Nat}{ps:List Str}{sp:xR}(F:vh P w K mg base x k ps sp):FD P w K mg base x k ps (lX sp):=by
 let#[#[f,fd,h1,h2],hm]:=F;exact#[#[f,fd,(yP.never h1).imp λ vs H Q E #[ds,S,r1,r2,z]=>#[ds,S,r1,r2,hm ds S _ _ (λ d S' q=>#[λ _=>q.2,λ z=>?_]) z],h2],lX.mo hm];rw[q.1] at z;cases z
section
variable {X:Cx}{fl:Bool}{pos Aj p:Pos}{e:Expr}{es:List Expr}{tA:zZ}{x:Str}{k:Nat}{ps:List Str}{sp:xR}
def WC {Fd:Ai}{s:Shared}{O:St}{H:Hp}{Q:Addr->Hp->Prop}{W:Af}{R:DK}{RV:VK}{L:zW}{S:SS}(F:vh X.prog X.w X.K X.mg X.base x k ps sp) (hr:zN k X.A) (ha:yH X (e::es) tA) (hg:Gl X x) (A8:(x == ("__debug__":Str))=false)
  (he:AA X e es) (Am:AF X Aj es) (hn:∀ v s,¬ X.xe v s) (hW:og X Fd O fl Q W) (I:Inv X Fd O H s) (r1:yh X.K H L O) (r2:zB X.K H S)
  (z:tA L S λ ds S1=>sp ds S1 R) (hR:∀ d S',R d S'->uK X.K H RV Q d S'):
  wpAny (model X.prog X.w) X.A (eval (.Call (.Name x p) (e::es) [] Aj) X.env) (EP X Fd O RV) W s:=by
 let#[#[f,fd,h1,h2,h3,h4],hm]:=F;exact WB (Qx:=Q) h1 hr hg h2 h3 h4 hn ha.pa A8 he Am hW.xp I (xH.go ha.mo r1 r2 z λ ds S1 xs H1 z1 q1 e1 p1=>#[ds,S1,q1,p1,hm ds S1 _ _ (λ d S' q=>?_) z1]);have q':=uK.ext e1 (hR d S' q);show#[q'.1,λ y a H' c1 c2 c3=>#[a,rfl,q'.2 y a H' c1 c2 c3]]
def Z8 (sp:xR) (tA:zZ):zY:=λ E L S=>tA L S λ ds S1=>sp ds S1 λ d S2=>(vy d=true->E.rt d S2)/\(vy d=false->E.nx L S2)
variable (F:vh X.prog X.w X.K X.mg X.base x k ps sp)
include F
theorem T_ {k':Nat}(hr:zN k' X.A) (ha:yH X (e::es) tA) (hk:k<=k') (hg:Gl X x) (A8:(x == ("__debug__":Str))=false)
  (he:AA X e es) (Am:AF X Aj es) (hn:∀ v s,¬ X.xe v s) (hs:swapsWith (.Call (.Name x p) (e::es) [] Aj) none pos.line X.env=pure false):
  sM X fl (.Expr (.Call (.Name x p) (e::es) [] Aj) pos) (Z8 sp tA):=by
 exact#[λ E E' L S hE z=>ha.mo L S _ _ (λ ds S1 z=>F.mo ds S1 _ _ (λ d S2 q=>#[λ y=>hE.rt _ _ (q.1 y),λ y=>hE.nx _ _ (q.2 y)]) z) z,λ Fd s O H D Q W hW I #[L,S,r1,r2,z]=>?_];exact wpAny_Expr_any (zt (WC (RV:=λ _ H'=>D.nx O H') F (hr.mono hk) ha hg A8 he Am hn hW I r1 r2 z λ d S' q=>#[λ y v H' a1 a2 a3=>q.2 y O H' (r1.ext a2) a2 a3,λ y=>(q.1 y).2 y]) λ v s1 #[x,H1,I1,_,q1]=>#[O,H1,I1,q1]) I.quiet hs
end
section
variable {P:Program}{w:World}{K:Ac}{mg:Au}{base:Heap}
def fnX {x qual:Str}{st:Stmt}{f:Addr}{fd:FuncData}{N ps:List Str}{k:Nat}{sp:xR}(F:wy K x qual st f fd) (Sc:vg N ps (zG st)) (len:∀ ds S Q,sp ds S Q->ds.length=ps.length)
  (Ft:∀ (Ah:Value) (A:Around) (outer:List Env) (s:Shared) (H:Hp) (E:XK),zN k (A.deeper (envOfC qual (zG st) s.heap.objs.size f Ah))->
   ∃ t,vI (yL y8 P w K mg base N qual (zG st) f Ah A outer s H E).y_ false (yN st) t/\∀ ds S Q,sp ds S Q->t { nx:=λ _ S'=>Q .zo S',rt:=Q } (uw N ds) S):
  yP P w K mg base (oH P w) (k+1) f fd ps (dk K sp):=by
 let#[oc,od,kV,doc,pm,an,Ah,ct,HQ,rfl,lk,A9]:=F.ex;exact Ze lk A9 Sc (λ vs H Q E #[ds,S,r1,_,z]=>by rw[<- r1.length];show len _ _ _ z) λ A outer s H vs Q E hr BZ=>#[λ D O H'=>D={ nx:=λ _ H'=>Q .zo H',rt:=Q }/\O=start N vs/\H'=H,λ Fd s1 O H' D I #[e1,e2,e3]=>?_,rfl,rfl,rfl];subst e1 e2 e3;let#[t,hp,ht]:=Ft Ah A outer s H' E hr;let#[ds,S,r1,r2,z]:=BZ;have cv:∀ {Fd:Ai}{O':St}{H'':Hp}{s':Shared},Inv (yL y8 P w K mg base N qual (zG st) f Ah A outer s H' E).y_ Fd O' H'' s'->Inv (yL (oH P w) P w K mg base N qual (zG st) f Ah A outer s H' E) Fd O' H'' s':=λ J=>
  #[I.ok,J.os,J.bare,J.base,J.loc,J.cell,J.free,J.wF,J.pin,J.zl,J.len]
 have ok0:(yL y8 P w K mg base N qual (zG st) f Ah A outer s H' E).y_.Ok:=#[I.ok.mod,I.ok.kind,I.ok.glob,I.ok.blt,I.ok.above,I.ok.inj,I.ok.has,I.ok.qA,I.ok.hd,I.ok.frames,I.ok.qY,I.ok.nW,I.ok.bs,I.ok.tF,I.ok.ql,I.ok.qv,I.ok.wN,I.ok.sC];have I0:Inv (yL y8 P w K mg base N qual (zG st) f Ah A outer s H' E).y_ Fd (start N vs) H' s1:=#[ok0,I.os,I.bare,I.base,I.loc,I.cell,I.free,I.wF,I.pin,I.zl,I.len];exact za3 (hp.px Fd s1 (start N vs) H' { nx:=λ _ H'=>Q .zo H',rt:=Q } (λ e H2=>∀ T,H2 T=none->E (.ref e) none (upd H2 T (xO T))) (yL (oH P w) P w K mg base N qual (zG st) f Ah A outer s H' E).xe #[λ v s' #[e,FV,O',H2,ev,_,J,ie,hf,q]=>?_,λ _=>PassesOwn.leaving] I0
  #[uw N ds,S,yh.init r1,r2,hp.mo { nx:=λ _ S'=>uK K H' Q (λ a H2=>E (.ref a) none H2) .zo S',rt:=uK K H' Q λ a H2=>E (.ref a) none H2 } _ _ S #[fun L S' q O2 H2 a1 a2 a3=>q.1 rfl .zo H2 (by simp![ze]) a2 a3,λ d S' q=>#[q.1,λ y a H2 a1 a2 a3 T hT=>?_],λ _ _ q=>q.elim,λ _ _ q=>q.elim] (ht ds S _ z)]) (λ fl s' q=>?_) λ _ _ z=>z
 .subst ev;have J':=cv J;exact NY J' rfl rfl ie (hf.imp And.right id) λ h' T hT un zl f1=>?_;let#[C,dx,hE]:=ie;show#[e,_,rfl,J'.os,J'.bare,Un.out J'.base un (zaT (Ak _)),zl,#[C,dx,by rw[zE (xj hE hT)];show hE],f1,q T hT]
 .have xT:Ext H2 (upd H2 T (xO T)):=.new hT _;show q.2 y a _ (ze.ext xT d a1) (a2.trans xT) (a3.keep xT λ b u o _ c=>by rw[zE (xj c hT)];show c)
 .cases fl with
  | ret u=>let#[v,O',H',J,r,q]:=q;show#[v,O',H',cv J,r,q]
  | _=>let#[O',H',J,q]:=q;show#[O',H',cv J,q]
end
def yh.hole {K:Ac}{H:Hp}{L:zW}{O:St}(i:Nat) (r:yh K H L O):yh K H (L.set i none) (O.set i none):=by
 exact#[by rw[C1,C1];show r.1,λ j c hc=>?_];rw[CZ] at hc ⊢;by_cases hj:i=j
 .subst hj;rw[if_pos rfl] at hc;split at hc <;> cases hc
 .rw[if_neg hj] at hc ⊢;show r.2 j c hc
def gW (i j:Nat) (t:zY):zY:=λ E L S=>t #[E.nx,λ d S'=>vy d=true/\E.nx (((L.set i ↑d).set j ↑d).set i none) S',λ _ _=>False,λ _ _=>False] L S
def SD {X:Cx}{t:zY}(i j:Nat) {n c:Str}{body:List Stmt}{p1 p2 p3 p4 B8 pos:Pos}(hN:X.N.Nodup) (hb:vI X true body t) (A7:i≠j) (hi:X.N[i]?=↑n) (hj:X.N[j]?=↑c)
  (hg:Gl X "PurseError") (A6:X.env.kindOf n=↑.local) (Dm:Loc X.env.scope c) (DB:X.fn c=true\/X.env.scope.names.lookup c=↑.local)
  (BK:(n == ("__debug__":Str))=false) (BO:(n == ("__classdict__":Str))=false) (Bv:swapsWith (.Name n p3) ↑(.Name c p2) p4.line X.env=pure false)
  (AG:X.stack=X.env::X.outer) (AR:X.env.frame=↑X.env.locals) (hn:∀ v s,¬ X.xe v s):
  xD X (.Try body [.ExceptHandler ↑(.Name "PurseError" p1) ↑n [.Assign [.Name c p2] (.Name n p3) p4] B8] [] [] pos) (gW i j t):=by
 exact#[λ E E' L S hE z=>hb.mo #[E.nx,λ d S'=>vy d=true/\E.nx (((L.set i ↑d).set j ↑d).set i none) S',λ _ _=>False,λ _ _=>False] #[E'.nx,λ d S'=>vy d=true/\E'.nx (((L.set i ↑d).set j ↑d).set i none) S',λ _ _=>False,λ _ _=>False] L S #[hE.nx,λ d S' q=>#[q.1,hE.nx _ _ q.2],λ _ _ q=>q,λ _ _ q=>q] z,λ Fd s O H D I #[L,S,r1,r2,z]=>?_];exact WA (Qx:=λ a H'=>∃ d S',vy d=true/\ze X.K H' d (.ref a)/\Ext H H'/\zB X.K H' S'/\(vD X.K H D).nx (((L.set i ↑d).set j ↑d).set i none) S') hn AG AR hg hN hi A6 hj Dm DB A7 BK BO Bv I
  (hb.px Fd s O H D _ _ #[λ _ _ q=>q,nofun] I #[L,S,r1,r2,hb.mo #[(vD X.K H D).nx,λ d S'=>vy d=true/\(vD X.K H D).nx (((L.set i ↑d).set j ↑d).set i none) S',λ _ _=>False,λ _ _=>False] _ L S #[λ _ _ q=>q,λ d S' q=>#[λ y=>?_,λ y a H' a1 a2 a3=>#[d,S',y,a1,a2,a3,q.2]],λ _ _ q=>q.elim,λ _ _ q=>q.elim] z]) λ a H' #[d,S',hd,a1,a2,a3,q]=>#[?_,λ T hT=>?_]
 .rw[q.1] at y;cases y
 .cases d with
  | err cn f x=>
   simp![ze] at a1;let#[e,C,dx,w,e1,#[h1,h2,h3],_]:=a1;cases e1;show#[cn,C,dx,h1,h2]
  | _=>cases hd
 .have xT:Ext H' (upd H' T (xO T)):=.new hT _;have rd:=ze.ext xT d a1;show q _ _ ((((r1.ext (a2.trans xT)).set i rd).set j rd).hole i) (a2.trans xT) (a3.keep xT λ b u o _ c=>by rw[zE (xj c hT)];show c)
end L3
namespace L5
open PySem PySem.Spec L2 L3
open PyProof.Rows hiding St
def zT:T->Bool
 | .err _ _ _=>true
 | _=>false
@[simp] theorem zag (c f:Str) (t:T):zT (.err c f t)=true:=rfl
@[simp] theorem zad:zT .zo=false:=rfl
@[simp] theorem zai (b:Bool):zT (.bl b)=false:=rfl
@[simp] theorem zaf (b:Int):zT (.int b)=false:=rfl
@[simp] theorem zac (b:Str):zT (.str b)=false:=rfl
@[simp] theorem zab (b:List T):zT (.tup b)=false:=rfl
@[simp] theorem zae (b:List T):zT (.lst b)=false:=rfl
@[simp] theorem zah:zT .yD=false:=rfl
def oX {S:SS}{y:T}{d:D}(h:Sn S y d):vy d=zT y:=by
 cases y with
 | tup _=>simp![Sn] at h;let#[_,h,_]:=h;subst h;rfl
 | lst _=>
  simp![Sn] at h;obtain⟨_,h | ⟨_,h,_⟩,_⟩:=h
  .rw[h.1];rfl
  .subst h;rfl
 | yD=>simp![Sn] at h;let#[_,_,#[h,_],_]:=h;subst h;rfl
 | err _ _ _=>simp![Sn] at h;let#[_,h,_]:=h;subst h;rfl
 | _=>simp![Sn] at h;subst h;rfl
def LW {y:T}(h:zT y=true):∀ ts,y≠.lst ts:=λ ts e=>by subst e;cases h
@[simp] def oY (c f:Str) (g:Ag):Sm:=fun Y=>(g Y).map λ y=>.rt (.err c f y)
@[simp] def lM (g:Ag):Sm:=fun Y=>(g Y).bind λ y=>if zT y=true then none else ↑(.rt y)
@[simp] def qe (F:Al) (g:Ev->Option (List T)):Sm:=fun Y=>(g Y).bind λ ys=>(F ys).map λ y=>if zT y=true then .rt y else .nx Y
@[simp] def dB (i j:Nat) (g:Sm):Sm:=fun Y=>(g Y).bind λ o=>match o with
 | .nx Y'=>↑(.nx Y')
 | .rt y=>if zT y=true then ↑(.nx (((Y.set i none).set j ↑(.im y)).set i none)) else none
 | _=>none
@[simp] def nA (F:Al):Al:=λ ys=>(F ys).bind λ y=>if zT y=true then none else ↑y
section
variable {R:Rk}{g h:Sm}{t u:zY}{f:Ag}{te:zq}{S0 S:SS}{Z0 Z:Addr->Prop}{L:zW}{Y:Ev}
def QN [Cl R] {c x:Str}(hf:wI f te):z_ R (oY c x f) (gZ c x te):=λ S0 Z0 S Z L Y o E F e P=>by
 let#[y,e1,rfl]:=AK.mp e;exact hf S Z L Y y _ F.er e1 λ d S1 s1 r1=>P _ S1 (F.sx.trans s1) (Cl.of (λ _=>nofun) ?_);simp![Sn];show#[d,rfl,Sn.sx (vZ F.zz) y r1]
def QO [Sr R] (hf:yV R f te):z_ R (lM f) (gX te):=λ S0 Z0 S Z L Y o E F e P=>by
 let#[y,e1,e2]:=An.mp e;split at e2
 .cases e2
 .rename_i hy;cases e2;show hf S Z L Y y _ F.er e1 λ d S1 s1 r1=>#[by rw[oX (Sr.sn r1)];simpa using hy,P d S1 (F.sx.trans s1) (Lo.lo F.sx F.zz r1)]
def b8 (i:Nat):z_ zv (uY i) (gX (yj i)):=λ S0 Z0 S Z L Y o E F e P=>by
 have q:=iI i S0 Z0 S Z L Y o E F e P;unfold uY at e;split at e
 .rename_i ts h;let#[p,ob,h1,_]:=F.er.ow i _ h;have q':yj i L S E.rt:=q;change yj i L S λ d S1=>vy d=false/\E.rt d S1;unfold yj at q' ⊢;rw[h1] at q' ⊢;show#[rfl,q']
 .cases e
def Y4 (S0:SS) (Z0:Addr->Prop) (S:SS) (Z:Addr->Prop) (o:Out) (E:tR):Prop:=match o with
 | .nx Y'=>∀ S' Z' L',FR S0 Z0 S' Z' L' Y'->E.nx L' S'
 | .rt y=>zT y=true->∀ d S',Sx S S'->Sn (zJ S' Z) y d->E.rt d S'
 | _=>True
def rS (g:Sm) (t:zY):Prop:=∀ S0 Z0 S Z L Y o E,FR S0 Z0 S Z L Y->g Y=↑o->Y4 S0 Z0 S Z o E->t E L S
theorem rS.s [Cl R] (h:rS g t):z_ R g t:=λ S0 Z0 S Z L Y o E F e P=>by
 exact h S0 Z0 S Z L Y o E F e ?_;cases o with
 | nx Y'=>show P
 | rt y=>show λ hy d S' s r=>P d S' (F.sx.trans s) (Cl.of (LW hy) (Sn.sx (vZ F.zz) y r))
 | _=>trivial
def b9 [Sr R] {F:Al}{ga:Ev->Option (List T)}{ua:zZ}(h:qL ga ua):rS (qe F ga) (Z8 (zx R F) ua):=λ S0 Z0 S Z L Y o E Fr e P=>by
 let#[ys,e1,e2]:=An.mp e;let#[y,e3,rfl]:=AK.mp e2;exact h S Z L Y ys _ Fr.er e1 λ ds S1 s1 r1=>#[Z,ys,y,(Fr.er.grow s1).zd,r1,e3,λ d S2 s2 r2=>#[λ he=>?_,λ he=>?_]]
 .rw[oX (Sr.sn r2)] at he;rw[if_pos he] at P;show P he d S2 (s1.trans s2) (Sr.sn r2)
 .rw[oX (Sr.sn r2)] at he;rw[if_neg (by rw[he];decide)] at P;show P S2 Z L (Fr.grow (s1.trans s2))
def Pm {c:Ev->Option Bool}{tc:yp}(hc:wu c tc) (hg:rS g t) (hh:rS h u):rS (yn c g h) (kN tc t u):=λ S0 Z0 S Z L Y o E F e P=>by
 let#[b,e1,e2]:=An.mp e;exact hc S Z L Y b _ F.er e1 λ S1 s1=>?_;have P':Y4 S0 Z0 S1 Z o E:=by
  cases o with
  | nx Y'=>show P
  | rt y=>show λ hy d S' s r=>P hy d S' (s1.trans s) r
  | _=>trivial
 split at e2
 .rename_i hb;rw[if_pos hb];show hg S0 Z0 S1 Z L Y o E (F.grow s1) e2 P'
 .rename_i hb;rw[if_neg hb];show hh S0 Z0 S1 Z L Y o E (F.grow s1) e2 P'
def FR.hole (h:FR S0 Z0 S Z L Y) (i:Nat) (v:Option D):FR S0 Z0 S Z (L.set i v) (Y.set i none):=by
 exact#[#[h.er.zd,λ j t e=>?_,λ j ts e=>?_],by simp[h.len],h.sx,h.z0,h.zz,h.zn,λ j ts p e e'=>?_,λ j k ts us p n e1 e2 e3 e4=>?_]
 .rcases yq e with ⟨rfl,hl,e⟩ | ⟨n,e⟩
  .cases e
  .rw[xq n];show h.er.im j t e
 .rcases yq e with ⟨rfl,hl,e⟩ | ⟨n,e⟩
  .cases e
  .rw[xq n];show h.er.ow j ts e
 .rcases yq e with ⟨rfl,hl,e⟩ | ⟨n,e⟩
  .cases e
  .rw[xq n] at e';show h.fr j ts p e e'
 .rcases yq e1 with ⟨rfl,hl,e⟩ | ⟨n1,e1⟩
  .cases e
  rcases yq e2 with ⟨rfl,hl,e⟩ | ⟨n2,e2⟩
  .cases e
  rw[xq n1] at e3;rw[xq n2] at e4;show h.dj j k ts us p n e1 e2 e3 e4
def QK (i j:Nat) (hg:rS g t):z_ R (dB i j g) (gW i j t):=λ S0 Z0 S Z L Y o E F e P=>by
 let#[o1,e1,e2]:=An.mp e;exact hg S0 Z0 S Z L Y o1 _ F e1 ?_;cases o1 with
 | nx Y'=>cases e2;show P
 | rt y=>
  dsimp only at e2 ⊢;split at e2
  .rename_i hy;cases e2;show λ _ d S' s r=>#[by rw[oX r];show hy,P S' Z _ ((((F.grow s).hole i ↑d).pj j r).hole i none)]
  .cases e2
 | _=>trivial
end
section
variable {P:Program}{w:World}{K:Ac}{mg:Au}{base:Heap}{x:Str}{st:Stmt}
def LM {R:Rk} [Lo R] {N ps:List Str}{k n:Nat}{g:Sm}(F:Fy K mg x st) (Sc:vg N ps (zG st)) (hn:n=ps.length)
  (hb:∀ (kV doc pm:Value) (an:Option Addr) (Ah ct:Value) (us:Ae),us.length=ps.length->bindArgs (PySem.W.fnOf x x (wV st) (yN st) (zG st) .none kV doc pm an Ah ct) #[us,[]]=pure (ps.zip us))
  (Ft:∀ (f:Addr) (Ah:Value) (A:Around) (outer:List Env) (s:Shared) (H:Hp) (E:XK),zN k (A.deeper (envOfC x (zG st) s.heap.objs.size f Ah))->
   ∃ t,vI (yL y8 P w K mg base N x (zG st) f Ah A outer s H E).y_ false (yN st) t/\z_ R g t):vh P w K mg base x (k+1) ps (zx R (zD N n g)):=by
 let#[f,fd,F,hm]:=F;exact#[#[f,fd,fnX F Sc (λ ds S Q h=>by rw[h.len,hn]) λ Ah A outer s H E hr=>?_,hm,F.kp,F.binds hb],zx.mo];let#[t,h1,h2]:=Ft f Ah A outer s H E hr;show#[t,h1,λ ds S Q h=>Ye h2 h]
def vh.no {R:Rk} [Sr R] {k:Nat}{ps:List Str}{F:Al}(G:vh P w K mg base x k ps (zx R F)):FD P w K mg base x k ps (zx R (nA F)):=by
 let#[#[f,fd,h1,h2],hm]:=G.fd;exact#[#[f,fd,h1.imp λ vs H Q E #[ds,S,r1,r2,Z,ys,y,a1,a2,a3,a4]=>#[ds,S,r1,r2,?_],h2],zx.mo];let#[z,b1,b2]:=An.mp a3;split at b2
 .cases b2
 .rename_i hy;cases b2;show#[Z,ys,y,a1,a2,b1,λ d S' s r=>#[by rw[oX (Sr.sn r)];simpa using hy,a4 d S' s r]]
end
end L5
namespace L3
open PySem PySem.Spec L2
open PyProof.Rows hiding St
def SP.WE {X:Cx}{Fd:Ai}{W:Af}{D:Ends}{f:Flow}{s':Shared}(h:SP X Fd D f s'):SP (X.xF W) Fd D f s':=by
 cases f with
 | ret u=>let#[v,O',H',I,r,q]:=h;show#[v,O',H',I.xF _,r,q]
 | _=>let#[O',H',I,q]:=h;show#[O',H',I.xF _,q]
def TZ {X:Cx}{tg iter:Expr}{body:List Stmt}{ti:xC}{g:yU}{tb:zY}{pos:Pos}(hc:X.calm=true) (hi:∀ W,wZ (X.xF W) tg iter ti) (hg:∀ W,w_ (X.xF W) tg g) (hb:vI X false body tb)
  (hs:∀ x,foldedSetIterable iter X.env x=pure x):sM X false (.For tg iter body [] pos) (qy ti g tb):=by
 exact#[qy.mo (hi X.xe).mo (hg X.xe).mo hb.mo,λ Fd s O H D Q W hW I #[L,S,r1,r2,z]=>?_];have bs:xu (X.xF W) body (qX X.K tb Q):=λ Fd s O H D I hu=>za3 (hb.px Fd s O H D Q W hW.any I.sY hu) (λ _ _ q=>SP.WE q) λ _ _ z=>z;exact za3 (cT (X:=X.xF W) (hW.own rfl) hc (hi W).pi (hg W).pg bs hs Fd s O H D (I.xF W) ?_) (λ _ _ q=>SP.sY q) λ _ _ z=>z;exact#[L,S,r1,r2,(hi W).mo L S _ _ (λ I S1 hW J H1 e1 p1 rep=>?_) z];let#[W,w0,wk,ws,wd]:=hW;exact#[λ i m O H2=>m=I.items.length-i/\i<=I.items.length/\Ext H1 H2/\∃ L S,yh X.K H2 L O/\zB X.K H2 S/\W i L S,#[_,rfl,A2 _,.refl _,L,S1,r1.ext e1,p1,w0],?_];rintro i m O2 H2 ⟨rfl,Hy,x2,L2,S2,q1,q2,w2⟩;let#[g1,g2]:=rep i H2 S2 x2 q2 (wk i L2 S2 w2);by_cases hl:i<I.items.length
 .have hd:I.items[i]?=↑I.items[i]:=by simp[hl]
  let#[go,yl]:=g1 _ hd;exact .inr #[go,fun O' H'=>Ext H1 H'/\∃ L S,yh X.K H' L O'/\zB X.K H' S/\W (i+1) L S,fun O' H' q=>#[_,⋯,rfl,hl,q],λ x H3 hy=>?_];let#[x3,p3,d3]:=yl x H3 hy;exact#[_,L2,S2,d3,q1.ext x3,p3,(hg X.xe).mo _ L2 S2 _ _ (fun L4 S4 z4 O4 H4 a1 a2 a3=>?_) (ws i _ L2 S2 hd w2)];exact#[L4,S4,a1,a3,hb.mo _ _ L4 S4 #[fun L5 S5 w5 O5 H5 b1 b2 b3=>#[((x2.trans x3).trans a2).trans b2,L5,S5,b1,b3,w5],λ _ _ q=>uK.ext (((e1.trans x2).trans x3).trans a2) q,λ _ _ q=>xl.ext (((e1.trans x2).trans x3).trans a2) q,fun L5 S5 w5 O5 H5 b1 b2 b3=>#[((x2.trans x3).trans a2).trans b2,L5,S5,b1,b3,w5]] z4]
 .have e:i=I.items.length:=⋯;subst e;show .inl #[g2 (Ak _),wd L2 S2 w2 O2 H2 q1 (e1.trans x2) q2]
structure fU (K:Ac) (cn:Str) (D:Addr):Prop where
 top:PySem.W.nsIn K mainGlobals cn=↑↑(.ref D)
 own:∃ bm N,rQ K cn D bm N
def N4 (o:Obj):Option Str:=match o.data with
 | .cls cd=>↑cd.name
 | _=>none
def rQ.nm {K:Ac}{c:Str}{C N:Addr}{bm:Ae}(h:rQ K c C bm N):(K.lookup C).bind N4=↑c:=by
 let#[#[q,bs,sn,sub,ab,col,dd,k0,k1,k2,k3,k5,e],_]:=h;rw[e];rfl
def ME {K:Ac}{c cn:Str}{C P N NP D:Addr}(E:qc K c C P N NP) (G:fU K cn D):(Value.ref C::.ref P::vF).contains (.ref D)=(decide (cn=c)||decide (cn="PurseError")):=by
 let#[bm,N',g]:=G.own;by_cases h1:cn=c
 .subst h1;have:=G.top.symm.trans E.top;cases this;simp
 .by_cases h2:cn="PurseError"
  .subst h2;have:=G.top.symm.trans E.cQ;cases this;simp
  .have d1:D≠C:=λ z=>by
    subst z;have:=g.nm.symm.trans E.own.nm;cases this;show h1 rfl
   have d2:D≠P:=λ z=>by
    subst z;have:=g.nm.symm.trans E.par.nm;cases this;show h2 rfl
   have b1:(Value.ref D == Value.ref C)=false:=by exists d1
   have b2:(Value.ref D == Value.ref P)=false:=by exists d2
   rw[Bp,Bp,b1,b2,za5 h1,za5 h2];rfl
inductive j7 (K:Ac) (c:Str):V->Bool->Prop where
 | own {cn:Str}{D:Addr}(g:fU K cn D):j7 K c (.ref D) (decide (cn=c)||decide (cn="PurseError"))
 | val:j7 K c (.ty "ValueError") true
def Jf {X:Cx}:y7 X (.builtin "isinstance") (λ xs H Q=>∃ e C dx c k b,xs=[.ref e,k]/\H e=↑(wz e C dx)/\uT X.K c C/\j7 X.K c k b/\Q (.bl b) H):=by
 intro Fd s O H xs us Q I r h;let#[e,C,dx,c,k,b,rfl,h1,#[P,N,NP,h2],h3,q]:=h;cases r with
 | cons ra rb=>
 cases rb with
 | cons rb rc=>
 cases rc;rename_i u1 u2;obtain rfl:u1=Value.ref e:=ra;let#[hh,g,d,t,os]:=s;let#[#[oe,vs,he,hc,C9,C_],_]:=I.zl e _ h1;cases h3 with
 | @own cn D G=>
  obtain rfl:u2=Value.ref D:=rb;let#[bm,N',o]:=id G.own;let#[#[q1,bs,sn,sub,ab,col,dd,k0,k1,k2,k3,k5,hD],_]:=o.at I.yx;exact eS (b:=(Value.ref C::.ref P::vF).contains (.ref D)) (λ prog w A Q' E hq=>W2 (h2.eR I.yx) he hc hD rfl rfl hq) λ t'=>#[.bl _,H,I.tok t',rfl,?_];rw[ME h2 G];show q
 | val=>
  obtain rfl:u2=Value.type "ValueError":=rb;show eS (b:=true) (λ prog w A Q' E hq=>W0 (T:="ValueError") (h2.eR I.yx) he hc (by kernel_rfl) hq) λ t'=>#[.bl _,H,I.tok t',rfl,q]
def kM (k:Str->Bool) (te:zq):zq:=fun L S Q=>te L S λ x S1=>match x with
 | .err c _ _=>Q (.bl (k c)) S1
 | _=>False
def ZG (f:Str) (te:zq):zq:=fun L S Q=>te L S λ x S1=>match x with
 | .err _ f' d=>f'=f/\Q d S1
 | _=>False
section
variable {X:Cx}{e:Expr}{te:zq}{p q pos:Pos}
def bg {cn:Str}{V0:V}{k:Str->Bool}(hk:∀ c,j7 X.K c V0 (k c)) (hp:PE X (.Name cn q) (tC V0)) (T:Bt X.mg) (he:PD X e te) (hg:Gl X "isinstance") (h1:AA X e [.Name cn q]) (h2:AF X pos [.Name cn q]) (h3:AA X (.Name cn q) []):
  PD X (.Call (.Name "isinstance" p) [e,.Name cn q] [] pos) (kM k te):=by
 exact#[fun L S Q Q' hq z=>he.mo L S _ _ (λ y S1 z=>?_) z,PE.imp (u5 Jf hg T.isinstance boot_isinstance (u_ he.pe (u_ hp rh h3) h1) () () h1 h2) fun O H Q hu=>?_]
 .split at z
  .show hq _ _ z
  .show z.elim
 .let#[L,S,r1,r2,z]:=hu;exact zF.go he.mo r1 r2 z λ x S1 v H1 h1 q1 e1 p1=>?_;cases x with
  | err c f d=>
   simp![ze] at q1;let#[a,C,dx,w,rfl,#[hE,h2,h3],_]:=q1;show#[a,C,dx,c,V0,k c,rfl,h2,hE,hk c,h1 _ H1 (by simp![ze]) e1 p1]
  | _=>show h1.elim
theorem Qc {f:Str}(he:PD X e te) (hf:f∈sD) (hb:attributeBase e f X.env (eval e X.env)=eval e X.env):PD X (.Attribute e f pos) (ZG f te):=by
 exact#[fun L S Q Q' hq z=>he.mo L S _ _ (λ y S1 z=>?_) z,λ Fd s O H Q I hu=>?_]
 .split at z
  .show#[z.1,hq _ _ z.2]
  .show z.elim
 let#[L,S,r1,r2,z]:=hu;exact Jw hb (zt (he.pe Fd s O H (λ x H1=>∃ a C dx c w,x=.ref a/\uT X.K c C/\H1 a=↑(wz a C dx)/\H1 dx=↑(.xd [(f,w)])/\Q w H1) I (zF.go he.mo r1 r2 z λ x S1 v H1 h1 q1 e1 p1=>?_)) λ u s1 #[x,H1,I1,rx,a,C,dx,c,w,ex,#[P,N,NP,hE],h1,h2,q]=>?_)
 .cases x with
  | err c f' d=>
   simp![ze] at q1;let#[a,C,dx,w,rfl,#[hE,h2,h3],h4]:=q1;let#[rfl,h1]:=h1;show#[a,C,dx,c,w,rfl,hE,h2,h3,h1 w H1 h4 e1 p1]
  | _=>show h1.elim
 .subst ex;obtain rfl:u=Value.ref a:=rx;let#[hh,g,d,t,os]:=s1;let#[#[oe,vs,he,hc,C9,C_],_]:=I1.zl a _ h1;let#[mA,Bz,hr]:=I1.zl dx _ h2;have hv:=hr f;simp![Bs,beq_self_eq_true,if_true] at hv;obtain⟨u',IK,ru⟩:∃ u',mA f=↑u'/\RelV w u':=by
   cases z:mA f with
   | none=>rw[z] at hv;show hv.elim
   | some u'=>rw[z] at hv;show#[u',rfl,hv]
  let#[#[q1,bs,sn,sub,ab,col,dd,k0,k1,k2,k3,k5,hC],hN,hn]:=hE.own.at I1.yx;let#[#[q',bs',sn',Hu,ab',Hz,HZ,l0,l1,l2,l3,l5,hP],IZ,Hc]:=hE.par.at I1.yx;have m1:("__getattribute__":Str)∈rj:=#[];have m2:("__getattr__":Str)∈rj:=#[];show W3 PySem.F.attrBase_ValueError hC hN #[#[_,_,_,_,hP,IZ]] (hn _ m1) (Hc _ m1) (hn _ m2) (Hc _ m2) (hn _ (k6 hf)) (Hc _ (k6 hf)) (eZ hf) he hc (λ c z=>by rw[C_] at z;cases z) C9 Bz IK (PySem.W.handedOut_of (La ru)) #[w,H1,I1.tok _,ru,q]
end
end L3
namespace L5
open PySem PySem.Spec L2 L3
open PyProof.Rows hiding St
@[simp] def uD (k:Str->Bool) (g:Ag):Ag:=fun Y=>(g Y).bind λ x=>match x with
 | .err c _ _=>↑(.bl (k c))
 | _=>none
@[simp] def gL (f:Str) (g:Ag):Ag:=fun Y=>(g Y).bind λ x=>match x with
 | .err _ f' t=>if f'=f then ↑t else none
 | _=>none
def OB {k:Str->Bool}{g:Ag}{te:zq}(hf:yk g te):yX (uD k g) (kM k te):=λ S Z L Y y Q hE e hq=>by
 let#[x,e1,e2]:=An.mp e;exact hf S Z L Y x _ hE e1 λ d S1 s1 r1=>?_;split at e2
 .cases e2;let#[d',rfl,_]:=Vw.err r1;show hq _ S1 s1 (Cl.of (λ _=>nofun) x_)
 .cases e2
def bB {f:Str}{g:Ag}{te:zq}(hf:yk g te):wI (gL f g) (ZG f te):=λ S Z L Y y Q hE e hq=>by
 let#[x,e1,e2]:=An.mp e;exact hf S Z L Y x _ hE e1 λ d S1 s1 r1=>?_;split at e2
 .split at e2
  .rename_i h;cases e2;let#[d',rfl,h2]:=Vw.err r1;show#[h,hq _ S1 s1 h2]
  .cases e2
 .cases e2
end L5
namespace L3
open PySem PySem.Spec L2
open PyProof.Rows hiding St
def Ec (K:Ac) (c:Str):Prop:=∃ C P N NP,qc K c C P N NP
def Ec.i {K:Ac}{c:Str}{C P:Addr}{o1 o2:Value}{d1 d2:Option Addr}{c1 c2:ClassData}{s1 s2:Array (Option Value)}(_:PySem.W.nsIn K mainGlobals c=↑↑(.ref C)) (_:PySem.W.nsIn K mainGlobals "PurseError"=↑↑(.ref P)) (_:K.lookup C=↑#[o1,d1,.cls c1,s1]) (_:K.lookup P=↑#[o2,d2,.cls c2,s2])
  (h:kB K c=↑(C,P,c1.ns,c2.ns)):Ec K c:=#[C,P,_,_,Zm h]
def Ei (K:Ac) (c f:Str) (st:Stmt):Prop:=∃ (C P N NP fI:Addr) (fd:FuncData),qc K c C P N NP/\PySem.W.keepIn K (.ref C)=true/\PySem.W.nsIn K N "__init__"=↑↑(.ref fI)/\PySem.W.isFn K (.ref fI)=true/\wy K "__init__" (c++".__init__") st fI fd
def Ei.i {K:Ac}{c f:Str}{st:Stmt}{C P fI:Addr}{o1 o2:Value}{d1 d2:Option Addr}{c1 c2:ClassData}{s1 s2:Array (Option Value)}(_:PySem.W.nsIn K mainGlobals c=↑↑(.ref C)) (_:PySem.W.nsIn K mainGlobals "PurseError"=↑↑(.ref P)) (_:K.lookup C=↑#[o1,d1,.cls c1,s1]) (_:K.lookup P=↑#[o2,d2,.cls c2,s2])
  (h:kB K c=↑(C,P,c1.ns,c2.ns)) (k:PySem.W.keepIn K (.ref C)=true) (n:PySem.W.nsIn K c1.ns "__init__"=↑↑(.ref fI)) (g:PySem.W.isFn K (.ref fI)=true)
  {oc:Value}{od an:Option Addr}{HQ:Array (Option Value)}{kV doc pm Ah ct:Value}(l:K.lookup fI=↑#[oc,od,.func (PySem.W.fnOf "__init__" (c++".__init__") (wV st) (yN st) (zG st) .none kV doc pm an Ah ct),HQ])
  (cd:PySem.W.codeIn K Ah (c++".__init__")=true) (k2:PySem.W.keepIn K (.ref fI)=true):Ei K c f st:=#[C,P,_,_,fI,_,Zm h,k,n,g,gF l cd k2]
def Og (K:Ac) (mg:Au) (cn:Str):Prop:=∃ D,fU K cn D/\mg cn=↑(.ref D)
section
variable {K:Ac}{mg:Au}{h:Heap}{c f:Str}{st:Stmt}
def Ei.mk (H:Ei K c f st) (X:K.In h) (G:h.Ns mainGlobals mg) (hf:f∈sD:=by simp):rX K mg c f st:=by
 let#[C,P,N,NP,fI,fd,e,k,n,g,F]:=H;show#[hf,C,P,N,NP,fI,fd,e,PySem.W.mg_of X G e.top,k,n,g,F]
def Ec.mk (H:Ec K c) (X:K.In h) (G:h.Ns mainGlobals mg):Og K mg c:=by
 let#[C,P,N,NP,e]:=H;show#[C,#[e.top,_,_,e.own],PySem.W.mg_of X G e.top]
end
def t8 (cn:Str) (c:Str):Bool:=decide (cn=c)||decide (cn="PurseError")
section
variable {X:Cx}{e:Expr}{te:zq}{p q pos:Pos}
def RT {cn:Str}(O:Og X.K X.mg cn) (T:Bt X.mg) (he:PD X e te) (hd:(cn == ("__debug__":Str))=false) (Hh:Gl X cn) (hg:Gl X "isinstance") (h1:AA X e [.Name cn q]) (h2:AF X pos [.Name cn q]) (h3:AA X (.Name cn q) []):
  PD X (.Call (.Name "isinstance" p) [e,.Name cn q] [] pos) (kM (t8 cn) te):=by
 let#[D,o,hm]:=O;show bg (V0:=.ref D) (λ c=>.own o) (iD Hh hm rfl hd) T he hg h1 h2 h3
def Jq:bootBuiltins "ValueError"=↑(.type "ValueError"):=by decide +kernel
def iE (hm:X.mg "ValueError"=none) (T:Bt X.mg) (he:PD X e te) (Hh:Gl X "ValueError") (hg:Gl X "isinstance") (h1:AA X e [.Name "ValueError" q]) (h2:AF X pos [.Name "ValueError" q]) (h3:AA X (.Name "ValueError" q) []):
  PD X (.Call (.Name "isinstance" p) [e,.Name "ValueError" q] [] pos) (kM (λ _=>true) te):=
 bg (V0:=.ty "ValueError") (λ c=>.val) (c_ Hh hm Jq rfl () ()) T he hg h1 h2 h3
end
end L3
namespace L5
open PySem PySem.Spec L2 L3
open PyProof.Rows hiding St
def fh:Stmt->List Stmt
 | .ClassDef _ _ _ b _ _ _ _ _ _ _=>b
 | _=>[]
end L5
namespace L2
open PySem PySem.Spec PyProof.Rows
def j6 (lo c:Int) (n:Nat):It:=#[λ i _=>i<n,λ i H x H'=>H'=H/\x=.int (lo+i*c),λ i _=>n<=i]
def Vb {P:Program}{w:World}{K:Ac}{tg:Expr}(it:Addr) (lo c:Int) (n:Nat):Turn P w K tg (j6 lo c n) [it] it (λ i h=>IsRangeIter h it (lo+(i:Nat)*c) ((n:Int)-(i:Nat)) c) where
 mem:=#[]
 obj:=λ i h st b hb=>by
  have e:b=it:=by exists hb
  subst e;show#[_,st,λ v z=>by
   have z':Data.fields _=Data.cell v:=z;cases z']
 keep:=λ i h h' st k=>k it #[] _ st
 item:=by
  intro X hP hw hK hc i Fd s O H E I hf st hg;subst hP hw hK;let#[f0,f1,f2,f3,f4,f5]:=hf it #[];have W:=Walks.range (prog:=X.prog) (w:=X.w) (I.ok.hd hc) it lo c n;exact W.item i s _ _ hg st λ v h' tk hv GW kk=>?_;let#[t,rfl]:=hv;have I1:Inv X Fd O H { s with heap:=h',toks:=tk }:=I.turned (λ b o hb e=>kk b o (by exists hb) e) f0 f1 f3 f4 f5;show#[_,rfl,kx (s:={ s with heap:=h',toks:=tk }) (n:="range_iterator") GW rfl rfl () #[.int (lo+i*c),H,I1,#[t,rfl],#[rfl,rfl],GW,λ b hb=>(hf b hb).1]]
 done:=by
  intro X hP hw hK hc i Fd s O H E I hf st hg;subst hP hw hK;let#[f0,f1,f2,f3,f4,f5]:=hf it #[];show wpAny_pyNext_range_end (I.ok.hd hc) st (by have:n<=i:=hg;lia) λ h' eb=>#[rfl,I.turned (t':=s.toks) (λ b o hb e=>eb b o hb e) f0 f1 f3 f4 f5]
 self:=λ _ _ _ _ _ st h=>wpAny_pyIter_rangeiter st h
def uA (i j c:Int):Nat:=if i<j then ((j-i-1)/c+1).toNat else 0
theorem bK {i j c:Int}(hc:0<c):((uA i j c:Nat):Int)=Builtin.Range.rangeSize i j c:=by
 unfold uA Builtin.Range.rangeSize;rw[if_pos hc];split
 .rename_i h;have:0<=(j-i-1)/c:=Int.ediv_nonneg ⋯ ⋯;lia
 .rfl
theorem VO {a b c:Int}(ha:-(2 ^ 31)<=a) (ha':a<2 ^ 31) (hb:-(2 ^ 31)<=b) (HY:b<2 ^ 31) (hc:0<c) (hc':c<1000000):Builtin.Range.small a b c=true:=by
 have e:=bK (i:=a) (j:=b) hc;have h1:(b-a-1)/c<=(b-a-1)\/¬ a<b:=by
  by_cases h:a<b
  .show .inl (Int.ediv_le_self _ ⋯)
  .show .inr h
 have h2:0<=Builtin.Range.rangeSize a b c/\Builtin.Range.rangeSize a b c<=2 ^ 33:=by
  exact#[⋯,?_];unfold Builtin.Range.rangeSize;rw[if_pos hc];split <;> lia
 have h3:Builtin.Range.rangeSize a b c*c<=2 ^ 33*1000000:=by
  exact Int.le_trans (Ea h2.2 ⋯) ?_;show Int.mul_le_mul_of_nonneg_left ⋯ ()
 have h4:0<=Builtin.Range.rangeSize a b c*c:=Int.mul_nonneg h2.1 ⋯;unfold Builtin.Range.small;simp![Builtin.Range.rangeFitsLong,Bc,Eb,decide_eq_true_eq,beq_iff_eq,hc,if_true];lia
section
variable {X:Cx}{tg:Expr}
def Uq {Fd:Ai}{O:St}{H:Hp}{s:Shared}{R:It->Hp->Prop}{E:Af}{lo hi c:Int}{t u v:Tok}{tk:Nat}(I:Inv X Fd O H s) (h1:-(2 ^ 31)<=lo) (h2:lo<2 ^ 31) (h3:-(2 ^ 31)<=hi) (h4:hi<2 ^ 31) (h5:0<c) (h6:c<1000000)
  (q:R (j6 lo c (uA lo hi c)) H):wpAny (model X.prog X.w) X.A (pyIter (.ref s.heap.objs.size)) (fT X Fd O tg R) E { s with heap:=s.heap.push { cls:=.type "range",data:=.fields [.int lo t,.int hi u,.int c v].toArray },toks:=tk }:=by
 exact wpAny_pyIter_range (IsRange.new ..) (VO h1 h2 h3 h4 h5 h6) ?_;have I1:Inv X Fd O H { s with heap:=s.heap.push { cls:=.type "range",data:=.fields [.int lo t,.int hi u,.int c v].toArray },toks:=tk }:=I.kept λ b o e=>za1 _ e;exact#[(s.heap.push { cls:=.type "range",data:=.fields [.int lo t,.int hi u,.int c v].toArray }).objs.size,[(s.heap.push { cls:=.type "range",data:=.fields [.int lo t,.int hi u,.int c v].toArray }).objs.size],_,_,H,rfl,
  I1.kept (t':=tk) λ b o e=>za1 _ e,Vb _ lo c (uA lo hi c),?_,λ b hb=>?_,q]
 .have e1:lo+((0:Nat):Int)*c=lo:=#[];have e2:((uA lo hi c:Nat):Int)-((0:Nat):Int)=Builtin.Range.rangeSize lo hi c:=by rw[bK h5];simp
  change IsRangeIter _ _ (lo+((0:Nat):Int)*c) (((uA lo hi c:Nat):Int)-((0:Nat):Int)) c;rw[e1,e2];show AJ _ rfl
 .have e:b=(s.heap.push { cls:=.type "range",data:=.fields [.int lo t,.int hi u,.int c v].toArray }).objs.size:=by exists hb
  subst e;show I1.nR (Ak _) (I1.zl.fresh (Ak _))
def MT (ta:TA):TI:=fun O H R=>ta O H λ vs H1=>∃ i j c:Int,vs=[.int i,.int j,.int c]/\(-(2 ^ 31)<=i/\i<2 ^ 31/\-(2 ^ 31)<=j/\j<2 ^ 31/\0<c/\c<1000000)/\R (j6 i c (uA i j c)) H1
theorem U_ {a b c:Expr}{ta:TA}{p pos:Pos}(hg:Gl X "range") (hm:X.mg "range"=none) (ha:PA X [a,b,c] ta) (hs:starEach [a,b,c] X.env=[(false,eval a X.env),(false,eval b X.env),(false,eval c X.env)]:=by rfl) (HW:starEach [b,c] X.env=[(false,eval b X.env),(false,eval c X.env)]:=by rfl):
  PI X tg (.Call (.Name "range" p) [a,b,c] [] pos) (MT ta):=by
 intro Fd s O H R I h;exact Call_ (rq I hg hm boot_range (PyProof.Rows.callWith_type1 (zt (ha pos Fd s O H _ I h) λ us s1 #[vs,H1,I1,r1,q1]=>?_) (by rw[hs,HW]) (by rw[HW];rfl)));let#[i,j,c,e,#[q1,q2,q3,q4,q5,q6],q]:=q1;subst e;cases r1 with
 | cons r rr=>
  cases rr with
  | cons r' rr=>
   cases rr with
   | cons r2 rr=>
    cases rr;let#[t,rfl]:=r;let#[t',rfl]:=r';let#[t2,rfl]:=r2;show call_range_3 ⋯ (Uq I1 q1 q2 q3 q4 q5 q6 q) (.inl (PyProof.noPylong_small ⋯))
end
end L2
namespace L3
open PySem PySem.Spec L2
open PyProof.Rows hiding St
section
variable {X:Cx}{K:Ac}{tg e a b c:Expr}{es:List Expr}{tA:zZ}{pos p:Pos}
def t_ (lo c:Int) (n:Nat):List D:=(List.range n).map λ(k:Nat)=>D.int (lo+(k:Int)*c)
def Uv {lo c:Int}{n i:Nat}{d:D}(h:(t_ lo c n)[i]?=↑d):i<n/\d=.int (lo+(i:Int)*c):=by
 unfold t_ at h;rw[AM] at h;cases q:(List.range n)[i]? with
 | none=>rw[q] at h;cases h
 | some k=>
  rw[q] at h;let#[h1,h2]:=AQ.mp q;rw[C4] at h1;rw[DV] at h2;subst h2;cases h;show#[h1,rfl]
def mD.Us {H1:Hp}{lo c:Int}{n:Nat}:mD K H1 (j6 lo c n) #[t_ lo c n,λ _=>True]:=λ i H S _ x2 _=>by
 exact#[λ d hd=>?_,λ hl=>by rw[show (oG.mk (t_ lo c n) λ _=>True).items=t_ lo c n from rfl] at hl;unfold t_ at hl;rw[AH,C4] at hl;show hl];let#[h1,rfl]:=Uv hd;exact#[h1,λ x H' q=>?_];let#[rfl,rfl]:=q;show#[.refl _,x2,by simp![ze]]
def au (t:zZ):xC:=fun L S R=>t L S λ ds S1=>match ds with
 | [.int i,.int j,.int c]=>(-(2 ^ 31)<=i/\i<2 ^ 31/\-(2 ^ 31)<=j/\j<2 ^ 31/\0<c/\c<1000000)/\R #[t_ i c (uA i j c),λ _=>True] S1
 | _=>False
def zh.three {H:Hp}{d d' d2:D}{xs:List V}(h:zh K H [d,d',d2] xs):∃ x y z,xs=[x,y,z]/\ze K H d x/\ze K H d' y/\ze K H d2 z:=by
 simp![zh] at h;let#[x,r,rfl,h1,y,r',rfl,h2,z,r2,rfl,h3,rfl]:=h;show#[x,y,z,rfl,h1,h2,h3]
def S_ (hm:X.mg "range"=none) (ha:yH X [a,b,c] tA) (hg:Gl X "range") (hs:starEach [a,b,c] X.env=[(false,eval a X.env),(false,eval b X.env),(false,eval c X.env)]) (HW:starEach [b,c] X.env=[(false,eval b X.env),(false,eval c X.env)]):wZ X tg (.Call (.Name "range" p) [a,b,c] [] pos) (au tA):=by
 exact#[fun L S Q Q' hq z=>ha.mo L S _ _ (λ ds S1 z=>?_) z,PI.imp (U_ hg hm ha.pa hs HW) fun O H R hu=>?_]
 .split at z
  .show#[z.1,hq _ _ z.2]
  .show z.elim
 .let#[L,S,r1,r2,z]:=hu;exact xH.go ha.mo r1 r2 z λ ds S1 xs H1 h1 q1 e1 p1=>?_;split at h1
  .let#[x,y,w,rfl,q,q',q2]:=q1.three;simp![ze] at q q' q2;subst q q' q2;show#[_,_,_,rfl,h1.1,h1.2 _ H1 e1 p1 .Us]
  .show h1.elim
def tB:xh:=λ ds S Q=>match ds with
 | [.int i]=>Q (.int (if i<0 then -i else i)) S
 | _=>False
def tB.mo:vd tB:=λ ds S Q Q' hq h=>by
 unfold tB at h ⊢;split at h
 .show hq _ _ h
 .show h.elim
def tB.fits:uo K tB (λ xs H Q=>∃ i,xs=[.int i]/\Q (.int (if i<0 then -i else i)) H):=λ xs ds H S Q h0 h2 h=>by
 unfold tB at h;split at h
 .let#[x,rfl,h1]:=h0.one;simp![ze] at h1;subst h1;show#[_,rfl,h _ H (by simp![ze]) (.refl H) h2]
 .show h.elim
def Qu (hm:X.mg "abs"=none) (ha:yH X (e::es) tA) (hg:Gl X "abs") (he:AA X e es) (Am:AF X pos es):PD X (.Call (.Name "abs" p) (e::es) [] pos) (xc tB tA):=
 u6 (u5 Jj hg hm boot_abs ha.pa () () he Am) tB.mo tB.fits ha.mo
def uU (_ j:Int):Prop:=0<j/\j<2 ^ 200
def tU (i j:Int):Prop:=i.natAbs<2 ^ 200/\j.natAbs<2 ^ 200
instance (i j:Int):Decidable (uU i j):=by unfold uU;infer_instance
instance (i j:Int):Decidable (tU i j):=by unfold tU;infer_instance
def bV {n:Nat}(h:n<2 ^ 200):n.log2<200:=by
 rcases El n with h0 | hp
 .rw[h0];decide
 .show (Nat.log2_lt (BM hp)).mpr h
def Yi {i:Int}(h:i.natAbs<2 ^ 200):Builtin.Int.intBits i<=2 ^ 20:=by
 have:=bV h;unfold Builtin.Int.intBits;split <;> lia
def QB:zV X (binaryOp .FloorDiv) (rI uU λ i j=>.int (i/j)):=pD λ i j _ _ _ _ _ hc q=>by
 have h1:(0:Int)<j:=hc.1;have h2:j.natAbs<2 ^ 200:=by have:=hc.2;lia
 have h3:=bV h2;show floordiv_int ⋯ (by rw[Int.fdiv_eq_ediv_of_nonneg i ⋯];show q) (.inl (PyProof.noPylong_of_log2 ⋯))
def Q4:zV X (binaryOp .Mult) (rI tU λ i j=>.int (i*j)):=pD λ _ _ _ _ _ _ _ hc q=>mul_int q (PySem.IntMulOk.of_bits (Yi hc.1) (Yi hc.2))
variable {ta tb:zq}
def Qd (ha:PD X a ta) (hb:PD X b tb):PD X (.BinOp a .FloorDiv b pos) (yf (fI uU λ i j=>.int (i/j)) ta tb):=rg QB (fI.fits λ _ _ _=>by simp![ze]) fI.mo ha hb
def R6 (ha:PD X a ta) (hb:PD X b tb):PD X (.BinOp a .Mult b pos) (yf (fI tU λ i j=>.int (i*j)) ta tb):=rg Q4 (fI.fits λ _ _ _=>by simp![ze]) fI.mo ha hb
end
end L3
namespace L5
open PySem PySem.Spec L2 L3
open PyProof.Rows hiding St
structure X5 (mg:Au):Prop extends Bq mg where
 abs:mg "abs"=none
@[simp] def fO:Al
 | [.int i]=>↑(.int (if i<0 then -i else i))
 | _=>none
def Lv:vf zv fO tB:=λ S Z ys z ds Q hz hv e hq=>by
 unfold fO at e;split at e
 .cases e;let#[d,rfl,h1]:=vk hv;cases h1.int;show hq _ S (.refl S) (Cl.of (λ _=>nofun) xU)
 .cases e
@[simp] def xM:T->T->Option T:=qu uU λ i j=>.int (i/j)
@[simp] def wB:T->T->Option T:=qu tU λ i j=>.int (i*j)
def OI {fa fb:Ag}{ta tb:zq}(ha:yk fa ta) (hb:yk fb tb):yX (zb xM fa fb) (yf (fI uU λ i j=>.int (i/j)) ta tb):=sf (nP (λ _ _ _=>xU) λ _ _ _=>nofun) ha hb
def Oe {fa fb:Ag}{ta tb:zq}(ha:yk fa ta) (hb:yk fb tb):yX (zb wB fa fb) (yf (fI tU λ i j=>.int (i*j)) ta tb):=sf (nP (λ _ _ _=>xU) λ _ _ _=>nofun) ha hb
def rB (j:Int):Bool:=decide (-1000000<=j)&&decide (j<1000000)
def lO (lo c:Int) (n:Nat):List T:=(List.range n).map λ(k:Nat)=>T.int (lo+(k:Int)*c)
def VN {S:SS}(lo c:Int) (n:Nat):zg S (lO lo c n) (t_ lo c n):=by
 unfold lO t_
 induction List.range n with
 | nil=>show .nil
 | cons k l ih=>show .cons xU ih
def o_:List T->Option (List T)
 | [.int i,.int j,.int c]=>if (rB i=true/\rB j=true)/\rB c=true/\0<c then ↑(lO i c (uA i j c)) else none
 | _=>none
def WJ {S:SS}{Z:Addr->Prop}{a b c:T}{ds:List D}(h:oh S Z [a,b,c] ds):∃ d d' d2,ds=[d,d',d2]/\Vw S Z a d/\Vw S Z b d'/\Vw S Z c d2:=by
 let#[d,cs,rfl,h1,d',cs2,rfl,h2,d2,cs3,rfl,h3,h4]:=h;cases h4;show#[d,d',d2,rfl,h1,h2,h3]
def Pe {b:Bool}{g:Ev->Option (List T)}{tA:zZ}(h:rV g tA):rR b (xa o_ g) (au tA):=λ S Z L Y ts Q hE e hq=>by
 let#[ys,e1,e2]:=An.mp e;exact h S Z L Y ys _ hE e1 λ ds S1 s1 r1=>?_;unfold o_ at e2;split at e2
 .split at e2
  .rename_i hc;cases e2;let#[d,d',d2,rfl,h1,h2,h3]:=WJ r1;cases h1.int;cases h2.int;cases h3.int;simp![rB,Bc,decide_eq_true_eq] at hc;show#[#[⋯,⋯,⋯,⋯,⋯,⋯],hq _ S1 s1 (VN _ _ _) λ _ _=>trivial]
  .cases e2
 .cases e2
end L5
namespace MX
open PySem PySem.Spec PyProof.Rows HT
open PySem.SeqAt
open PySem.AutoSeq1 (wpAny_loadPart')
open PySem.MeetsSeq PySem.MeetsSeq2 PySem.MeetsSeq3
abbrev j0 (A:Around) (s:Shared) (a b:Value) (r:Bool):Prop:=∀ (prog:Program) (w:World) (E Q:Af),Q (.bool r) s->wpAny (model prog w) A (richCompare .Lt a b) Q E s
def Vf (l b:Addr) (a1 a2 b1 b2:Value) (n n2:Nat) (dd HM:Option Addr) (sl HC:Array (Option Value)) (e1 e2 r1 r2:Bool):
  Meets (Builtin.«tuple.__lt__» #[[.ref l,.ref b],[]])
   (λ A R s=>s.heap.get? l=↑{ cls:=.type "tuple",dict:=dd,data:=.seq [a1,a2].toArray n,slots:=sl }/\s.heap.get? b=↑{ cls:=.type "tuple",dict:=HM,data:=.seq [b1,b2].toArray n2,slots:=HC }/\
    EqAt A.in1 s a1 b1 e1/\(e1=false->j0 A.in1 s a1 b1 r1)/\EqAt A.in1 s a2 b2 e2/\(e2=false->j0 A.in1 s a2 b2 r2)/\
    R (.ok (.ret (.bool (if e1=true then (if e2=true then false else r2) else r1)))) s):=
 .of_wp λ prog w A R s h=>by
  let#[hp,g,d,tk,os]:=s;let#[hl,hb,q1,l1,q2,l2,h]:=h
  have f2:=AutoSeq1.sub_tuple_tuple
  wp_walk using wpAny_loadPart' hl,wpAny_loadPart' hb,zaR _ (λ Ff b s'=>b.1=none/\s'=#[hp,g,d,tk,os]/\(Ff=[(a1,b1),(a2,b2)]\/(Ff=[(a2,b2)]/\e1=true)\/(Ff=[]/\e1=true/\e2=true))) _
  case turn=>
   rintro⟨y,x⟩ Ff b s' ⟨HY,rfl,hz⟩;rcases hz with hz | ⟨hz,k1⟩ | ⟨hz,_⟩
   .cases hz;exact gV (q1 prog w _ _ ?_);cases e1 with
    | true=>
     wp_walk
     show#[rfl,rfl,.inr (.inl #[rfl,rfl])]
    | false=>
     have Dq:=l1 rfl prog w
     wp_walk using Dq
     show#[_,rfl,by exists h]
   .cases hz;exact gV (q2 prog w _ _ ?_);cases e2 with
    | true=>
     wp_walk
     show#[rfl,rfl,.inr (.inr #[rfl,k1,rfl])]
    | false=>
     have Dq:=l2 rfl prog w
     wp_walk using Dq
     show#[_,rfl,by simpa [k1] using h]
   .cases hz
  case fin=>
   rintro⟨b1,b2⟩ s' ⟨HY,rfl,hz⟩;simp only at HY;subst HY;rcases hz with hz | ⟨hz,k1⟩ | ⟨_,k1,k2⟩
   .cases hz
   .cases hz
   .rw[k1,k2] at h
    wp_walk
    show#[_,rfl,by simpa [Builtin.Tuple.tupleCompareSizes] using h]
  case h=>show#[rfl,rfl,.inl rfl]
section
variable {prog:Program}{w:World}{A:Around}{E:Af}{s:Shared}
def TupAt (h:Heap) (v:Value) (k:Int×List Int):Prop:=∃ (b c:Addr) (t:Tok) (Aa:Aq),v=.ref b/\IsTup h b [.int k.1 t,.ref c].toArray/\IsTup h c Aa/\IntsAre Aa.toList k.2
def pF (k m:Int×List Int):Bool:=if k.1=m.1 then lexLt k.2 m.2 else decide (k.1<m.1)
theorem bX:∀ r:List Int,lexLt r r=false
 | []=>rfl
 | x::xs=>by rw[tq,if_pos rfl];show bX xs
def aN {us:Ae}{ns:List Int}(h:IntsAre us ns):∀ (j:Nat) (hj:j<us.length),∃ t,us[j]=.int (ns.getD j 0) t:=by
 induction h with
 | nil=>intro j hj;simp at hj
 | cons a t _ ih=>
  intro j hj;cases j with
  | zero=>show#[t,rfl]
  | succ j=>exists ih j (by exists hj)
theorem aL:∀ {us:Ae}{r m:List Int},IntsAre us r->IntsAre us m->r=m
 | _,_,_,.nil,h=>by cases h;rfl
 | _,_,_,.cons a t h,g=>by cases g with | cons _ _ g=>rw[aL h g]
theorem all_eq:∀ (r m:List Int),((List.range (min r.length m.length)).all (λ j=>r.getD j 0 == m.getD j 0)&&r.length == m.length)=decide (r=m)
 | [],[]=>#[]
 | [],_::_=>#[]
 | _::_,[]=>#[]
 | x::r,y::m=>by
  have:=all_eq r m;simp![Bb,Nat.succ_min_succ,Em,List.all_cons,DS,List.getD_cons_zero,Function.comp_def,List.getD_cons_succ];by_cases h:x=y
  .subst h;have e:(x::r=x::m)↔r=m:=#[];simp![beq_self_eq_true,Bool.true_and,decide_eq_decide.mpr e,<- this];congr 1;simp
  .simp[h]
theorem LX {b c:Addr}{Aa FQ:Aq}{r m:List Int}(h1:IsTup s.heap b Aa) (h2:IsTup s.heap c FQ) (i1:IntsAre Aa.toList r) (i2:IntsAre FQ.toList m) (hu:A.units<cLine) (hs:b=c->r=m):EqAt A s (.ref b) (.ref c) (decide (r=m)):=by
 by_cases z:b=c
 .subst z;rw[zaA (hs rfl)];show .same _
 .have z1:Aa.size=r.length:=by rw[<- i1.length];simp
  have z2:FQ.size=m.length:=by rw[<- i2.length];simp
  have q:=RcAt.tuples (A:=A) (s:=s) (e:=λ j=>r.getD j 0 == m.getD j 0) h1 h2 hu λ j j1 j2=>by
   let#[t,e1]:=aN i1 j (by exists j1);let#[u,e2]:=aN i2 j (by exists j2);simp![Cw] at e1 e2;rw[e1,e2];show .int_int _ _ _ _
  rw[z1,z2,all_eq] at q;show .of_refs z q
def NM {a b:Value}{k m:Int×List Int}(h1:TupAt s.heap a k) (h2:TupAt s.heap b m) (hu:A.units+4<cLine):j0 A s a b (pF k m):=by
 intro prog w E Q h;let#[l,c,t,Aa,rfl,p1,p2,p3]:=h1;let#[l',c',t',AN,rfl,p1',p2',p3']:=h2;have hs:c=c'->k.2=m.2:=λ z=>by
  subst z;let#[o,g1,g2,n,g3]:=p2;let#[o',g1',g2',n',g3']:=p2';rw[g1] at g1';cases g1';rw[g3] at g3';cases g3';show aL p3 p3'
 have u1:A.in1.units<cLine:=by change A.units+1<cLine;lia
 have E2:EqAt A.in1 s (.ref c) (.ref c') (decide (k.2=m.2)):=LX p2 p2' p3 p3' u1 hs;have L2:j0 A.in1 s (.ref c) (.ref c') (lexLt k.2 m.2):=λ prog w E Q h=>bN p2 p2' p3 p3' u1 h;let#[#[cls,dd,data,sl],ho,hc,n,hd]:=id p1;let#[#[IE,HM,data2,HC],Hn,GA,n2,hd2]:=id p1';simp only at hc hd GA hd2;subst hc hd GA hd2;have hv:(if (k.1 == m.1)=true then (if decide (k.2=m.2)=true then false else lexLt k.2 m.2) else decide (k.1<m.1))=pF k m:=by
  unfold pF;by_cases z:k.1=m.1
  .by_cases z2:k.2=m.2
   .simp[z,z2,bX]
   .simp[z,z2]
  .simp[z]
 show richCompare_meets_room (op:=.Lt) #[_,ho,rfl] #[_,Hn,rfl] PySem.F.slot_tuple_lt PySem.F.entry_tuple_lt (PySem.F.args_tuple_lt_2 _ _) (Vf l l' _ _ _ _ n n2 dd HM sl HC (k.1 == m.1) (decide (k.2=m.2)) (decide (k.1<m.1)) (lexLt k.2 m.2))
  #[ho,Hn,EqAt.int_int _ _ _ _,λ _ prog w E Q h=>c7 _ s _ _ _ _ prog w E Q h,E2,λ _=>L2,show Value.bool _≠Value.notImplemented/\Q (.bool _) s from #[(λ x=>nomatch x),by rw[hv];show h]] ⋯
end
section
variable {prog:Program}{w:World}{A:Around}{R:Result->Shared->Prop}{I:Addr}{fp wr:List Addr}{n:Nat}{P:Nat->Value->Prop}{St:Nat->Heap->Prop}
def Old (P:Nat->Value->Prop) (bt:Nat->Nat->Bool) (j:Nat) (old:Aq):Prop:=(j=0/\old=[].toArray)\/∃ i v,j=i+1/\old=[v,v].toArray/\P (argBest bt i) v
def NG (W:Walks prog w A.in1 I fp wr n P St) (bt:Nat->Nat->Bool) {h0:Heap}(E8:∀ (i j:Nat) (vi vj:Value) (s:Shared) (Q E:Af),(∀ b o,h0.get? b=↑o->s.heap.get? b=↑o)->P i vi->P j vj->Q (.bool (bt i j)) s->wpAny (model prog w) A.in1 (richCompare .Lt vi vj) Q E s) (S:Addr) (hSf:S∉fp) (dv:Value) (hdm:∀ b o,h0.get? b=↑o->b∉wr/\b≠S):
  ∀ (k j:Nat) (s:Shared) (old:Aq) (c:Nat),j+k=n->(∀ b o,h0.get? b=↑o->s.heap.get? b=↑o)->St j s.heap->Old P bt j old->
  s.heap.get? S=↑{ cls:=.type "list",dict:=none,data:=.seq old c,slots:=[].toArray }->
  (∀ v h' tk,(n=0/\v=dv)\/(0<n/\P (argBest bt (n-1)) v)->(∀ b o,b∉wr->b≠S->s.heap.get? b=↑o->h'.get? b=↑o)->R (.ok (.ret v)) { s with heap:=h',toks:=tk })->
  codeAny (model prog w) A (.builtin "min.loop" #[[.ref I,.none,.ref S],[("default",dv)]]) R s:=by
 have hSw:S∉wr:=λ h=>hSf (W.sub _ h);have Hf:(toString "min"++toString ".loop":String)="min.loop":=()
 intro k
 induction k with
 | zero=>
  intro j s old c hk hz0 AG ho hS hR;have A6:j=n:=⋯;exact codeAny_builtin F.entry_min_loop ?_;rw[Around.under_plainId F.plain_min_loop _];change wpAny _ A.in1 (seqItems? (.ref S) >>= _) _ _ s;exact gV (zaC hS rfl ?_);change wpAny _ A.in1 (tryCatch (pyNext (.ref I)) _ >>= _) _ _ s;exact gV (wpAny_tryCatch (W.done s _ _ (A6▸AG) λ h' tk GX=>?_));rcases ho with ⟨h0,rfl⟩ | ⟨i,v,hi,rfl,hv⟩
  .change wpAny _ A.in1 (rule _ >>= _) _ _ _;exact gV (zaJ (Ad ?_));show hR dv h' tk (.inl #[⋯,rfl]) λ b o hb _ e=>GX b o hb e
  .have IY:=GX S _ hSw hS;change wpAny _ A.in1 (updateSeq S (λ _=>[].toArray) >>= _) _ _ _;exact gV (wpAny_updateSeq IY rfl (gV (zaM (Ad ?_))));show hR v _ tk (.inr #[⋯,by rw[show n-1=i by lia];show hv]) λ b o hb hbS e=>(za6 _ _ (Ne.symm hbS)).trans (GX b o hb e)
 | succ k ih=>
  intro j s old c hk hz0 AG ho hS hR;exact codeAny_builtin F.entry_min_loop ?_;rw[Around.under_plainId F.plain_min_loop _];change wpAny _ A.in1 (seqItems? (.ref S) >>= _) _ _ s;exact gV (zaC hS rfl ?_);change wpAny _ A.in1 (tryCatch (pyNext (.ref I)) _ >>= _) _ _ s;exact gV (wpAny_tryCatch (W.item j s _ _ ⋯ AG λ v h' tk hP Dp GX=>?_));have IY:=GX S _ hSw hS;have HR:∀ b o,h0.get? b=↑o->h'.get? b=↑o:=λ b o e=>GX b o (hdm b o e).1 (hz0 b o e);have hz:old.size<=sizeLine:=by
   rcases ho with ⟨_,rfl⟩ | ⟨_,_,_,rfl,_⟩
   .decide
   .change 2<=sizeLine;decide
  have put:∀ (tk:Nat),Old P bt (j+1) [v,v].toArray->wpAny (model prog w) A.in1 (updateSeq S (λ _=>[v,v].toArray)) (λ _ s'=>codeAny (model prog w) A (.builtin "min.loop" #[[.ref I,.none,.ref S],[("default",dv)]]) R s') (λ _ _=>False) { s with heap:=h',toks:=tk }:=λ tk hb=>by
   exact wpAny_updateSeq (hz:=hz) IY rfl ?_;exact ih (j+1) _ [v,v].toArray _ ⋯ (λ b o e=>(za6 _ _ (Ne.symm (hdm b o e).2)).trans (HR b o e)) (W.frame _ _ _ Dp λ b hbf o e=>?_) hb (za8 _ IY rfl) λ v' h'' tk'' hP' hk''=>?_
   .show (za6 _ _ (λ h:S=b=>hSf (by rw[h];show hbf))).trans e
   .show hR v' h'' tk'' hP' λ b o DG hbS e=>hk'' b o DG hbS ((za6 _ _ (Ne.symm hbS)).trans (GX b o DG e))
  rcases ho with ⟨h0,rfl⟩ | ⟨i,vb,hi,rfl,hvb⟩
  .change wpAny _ A.in1 (updateSeq S (λ _=>[v,v].toArray) >>= _) _ _ _;exact gV (za3 (put tk (.inr #[j,v,rfl,rfl,by subst h0;show hP])) (λ _ s' h=>?_) λ _ _ z=>z.elim);rw[Hf];show Ad #[plainId_quiet F.plain_min_loop _,h]
  .change wpAny _ A.in1 (tryCatch (holding [v,v] (richCompare .Lt v vb >>= _)) _ >>= _) _ _ _;exact gV (wpAny_tryCatch (za7 (gV (E8 j (argBest bt i) v vb _ _ _ HR hP hvb ?_))));exact gV (za7 (zaG ?_));exact gV (zaM (Ad ?_));subst hi;cases hb:bt (i+1) (argBest bt i) with
   | true=>
    simp![if_true];exact gV (za3 (put tk (.inr #[i+1,v,rfl,rfl,by simp![argBest,hb,if_true];show hP])) (λ _ s' h=>gV (zaM ?_)) λ _ _ z=>z.elim);rw[Hf];show Ad #[plainId_quiet F.plain_min_loop _,h]
   | false=>
    simp![Bh,if_false];exact gV (zaM ?_);rw[Hf];exact Ad #[plainId_quiet F.plain_min_loop _,ih (i+1+1) _ [vb,vb].toArray c ⋯ HR Dp (.inr #[i+1,vb,rfl,rfl,by simp![argBest,hb,Bh,if_false];show hvb]) IY λ v' h'' tk'' hP' hk''=>?_];show hR v' h'' tk'' hP' λ b o DG hbS e=>hk'' b o DG hbS (GX b o DG e)
end
section
variable {prog:Program}{w:World}{A:Around}{E:Af}{s:Shared}
theorem KN {id:String}{b:Builtin}{args:Ae}{kw:List (Str×Value)}{Q:Af}(hk:builtinKind id=none) (hp:plainId id=true)
  (hb:entryFor table id=↑b) (ha:argsOk id #[args,kw])
  (hc:wpAny (model prog w) A.in1 (b #[args,kw]) (λ fin s'=>match fin with
   | .done f=>(match (Except.ok f:Result) with | .ok (.ret v)=>Q v s' | .ok _=>False | .error e=>E e s')
   | .again c'=>c'.quiet=true/\codeAny (model prog w) A c' (λ r s'=>match r with | .ok (.ret v)=>Q v s' | .ok _=>False | .error e=>E e s') s') E s):
  wpAny (model prog w) A (call (.builtin id) args kw) Q E s:=by
 exact wpAny_call (codeAny_call_builtin hp hb ?_);simp![checkBuiltinCall,hk];cases CK:Manifest.signature? id with
 | none=>show Ad hc
 | some sig=>
  have ha':Bind.checkArgs id sig #[args,kw]=pure Unit.unit:=by simpa only [argsOk,CK] using ha
  simp![ha'];show Ad hc
def Jy (a d:Value):argsOk "min" #[[a],[("default",d)]]:=by unfold argsOk;kernel_rfl
def NF {l:Addr}{Aa:Aq}{ks:List (Int×List Int)}{Q:Af}(hh:A.handled=none) (hu:A.units+8<cLine) (hl:s.heap.IsList l Aa) (hk:∀ (i:Nat) v,Aa[i]?=↑v->TupAt s.heap v (ks.getD i (0,[])))
  (h:∀ v h' tk,(Aa.size=0/\v=.none)\/(0<Aa.size/\Aa[argBest (λ i j=>pF (ks.getD i (0,[])) (ks.getD j (0,[]))) (Aa.size-1)]?=↑v)->(∀ b o,s.heap.get? b=↑o->h'.get? b=↑o)->Q v { s with heap:=h',toks:=tk }):
  wpAny (model prog w) A (call (.builtin "min") [.ref l] [("default",.none)]) Q E s:=by
 have Hf:(toString "min"++toString ".loop":String)="min.loop":=()
 exact KN F.kind_min F.plain_min F.entry_min (Jy _ _) ?_;change wpAny _ A.in1 (Builtin.Builtins.bindParams "min" ["key","default"] 0 #[[],[("default",.none)]] >>= _) _ _ s;exact gV (wpAny_of_eq (show Builtin.Builtins.bindParams "min" ["key","default"] 0 #[[],[("default",.none)]]=pure [none,↑.none] from rfl) ?_);exact gV (Ad ?_);exact gV (zaO hl ?_);exact gV (za9 ?_);rw[Hf];let#[ol,g1,g2]:=id hl;have Az:l<s.heap.objs.size:=Ap g1;have W:=Walks.list (prog:=prog) (w:=w) (A:=A.in1) hh s.heap.objs.size l (Aw Az) Aa;have p1:∀ b o,s.heap.get? b=↑o->(s.heap.push { cls:=.type "list_iterator",data:=.fields [.ref l,.int 0 0].toArray }).get? b=↑o:=λ b o e=>za1 _ e;have hsz:(s.heap.push { cls:=.type "list_iterator",data:=.fields [.ref l,.int 0 0].toArray }).objs.size=s.heap.objs.size+1:=by simp[Heap.push]
 have st:(s.heap.push { cls:=.type "list_iterator",data:=.fields [.ref l,.int 0 0].toArray }).IsListIter s.heap.objs.size l 0/\(s.heap.push { cls:=.type "list_iterator",data:=.fields [.ref l,.int 0 0].toArray }).IsList l Aa:=#[#[_,AJ _ rfl,rfl,rfl],#[ol,p1 _ _ g1,g2]];exact Ad #[plainId_quiet F.plain_min_loop _,NG W (λ i j=>pF (ks.getD i (0,[])) (ks.getD j (0,[]))) (h0:=s.heap) (λ i j vi vj s' Q E kp h1 h2 hq=>?_) _ ?_ .none ?_ Aa.size 0 _ [].toArray _ #[] ?_ (W.frame _ _ _ st λ b _ o e=>za1 _ e) (.inl #[rfl,rfl]) (AJ _ rfl) λ v h' tk hv hk=>?_]
 .have f:∀ {v k},TupAt s.heap v k->TupAt s'.heap v k:=by
   rintro v k ⟨b,c,t,us,rfl,⟨o1,a1,a2⟩,⟨o2,b1,b2⟩,i⟩;show#[b,c,t,us,rfl,#[o1,kp _ _ a1,a2],#[o2,kp _ _ b1,b2],i]
  show NM (f (hk i vi h1)) (f (hk j vj h2)) (by change A.units+1+4<cLine;lia) prog w E Q hq
 .intro hm;rw[hsz] at hm;rcases Ao.mp hm with z | z
  .show Nat.succ_ne_self _ z
  .show BM (B2 Az) (AX.mp z)
 .intro b o e;have hb:=Ap e;show#[λ z=>Aw hb (AX.mp z),λ z=>Aw (B2 hb) (by rw[z,hsz])]
 .show λ b o e=>za1 _ (p1 b o e)
 .exact h v h' tk hv λ b o e=>?_;have hb:=Ap e;show hk b o (λ z=>Aw hb (AX.mp z)) (λ z=>Aw (B2 hb) (by rw[z,hsz])) (za1 _ (p1 b o e))
end
end MX
namespace L2
open PySem PySem.Spec PyProof.Rows MX
def mC (K:Ac) (H:Hp) (v:V) (k:Int×List Int):Prop:=∃ b c,v=.ref b/\zO K H b [.int k.1,.ref c]/\zO K H c (k.2.map V.int)
def tG (ks:List (Int×List Int)) (n:Nat):Nat:=argBest (λ i j=>pF (ks.getD i (0,[])) (ks.getD j (0,[]))) (n-1)
section
variable {X:Cx}{e:Expr}{t:TA}{p pos q kp:Pos}{j:Nat}
def Mq {Fd:Ai}{O:St}{H:Hp}{s:Shared}(I:Inv X Fd O H s) {v:V}{u:Value}{k:Int×List Int}(h:mC X.K H v k) (r:RelV v u):TupAt s.heap u k:=by
 let#[b,c,rfl,h1,h2]:=h;obtain rfl:u=Value.ref b:=r;let#[is,r1,t1,_]:=I.tuple h1;let#[is2,r2,t2,_]:=I.tuple h2;cases r1 with
 | cons a1 r1=>
 cases r1 with
 | cons a2 r1=>
 cases r1;let#[tk,rfl]:=a1;cases a2;show#[b,c,tk,_,rfl,t1,t2,intsAre_of r2]
theorem dA {Fd:Ai}{O:St}{H:Hp}{s:Shared}(I:Inv X Fd O H s):∀ {es:List V}{us:Ae}{ks:List (Int×List Int)},Vals es us->Paired (mC X.K H) es ks->∀ (i:Nat) v,us[i]?=↑v->TupAt s.heap v (ks.getD i (0,[]))
 | _,_,_,.nil,_,i,v,h=>by simp at h
 | _,_,_,.cons a r,p,i,v,h=>by
  cases p with
  | cons k p=>
  cases i with
  | zero=>cases h;show Mq I k a
  | succ i=>show dA I r p i v (by exists h)
def cB (K:Ac):List V->Hp->VK->Prop:=λ xs H Q=>∃ (p:Addr) (es:List V) (ks:List (Int×List Int)),xs=[.ref p]/\zH K H p es/\Paired (mC K H) es ks/\(es=[]->Q .zo H)/\∀ v,es[tG ks es.length]?=↑v->Q v H
theorem T3 {k0:Nat}(hr:zN k0 X.A) (hc:X.calm=true) (hg:Gl X "min") (hm:X.mg "min"=none) (ha:PA X [e] t) (he:backTo pos (starEach [e] X.env)=(false,eval e X.env)::backTo pos (starEach [] X.env):=by rfl) (Am:AF X pos [e]:=by rfl):
  PE X (.Call (.Name "min" p) [e] [#[↑"default",.Constant .none j q,kp]] pos) (oW (cB X.K) t):=by
 intro Fd s O H Q I h;exact zaN (rq I hg hm boot_min ?_);exact PyProof.Rows.callWith_kw (zt (ha pos Fd s O H _ I h) λ us s1 #[vs,H1,I1,r1,q1]=>?_) he Am rfl rfl;exact PyProof.Rows.kws_cons (Constant_none (PyProof.Rows.kws_nil ?_));change wpAny (model X.prog X.w) X.A (call (.builtin "min") us [("default",.none)]) (EP X Fd O Q) X.xe s1;let#[p,es,ks,rfl,hq,hp,hn,hM]:=q1;let#[u,rfl,rx]:=vals1 r1;cases rx;let#[Aa,r',pl,hz]:=I1.list hq;have hu:=hr.units;exact NF (ks:=ks) (I1.ok.hd hc) ⋯ pl.isList (λ i v hv=>dA I1 r' hp i v (by exists hv)) λ v h' tk hv hk=>?_;have hsz:Aa.toArray.size=es.length:=by rw[AB,r'.length]
 rcases hv with ⟨h0,rfl⟩ | ⟨h0,hv⟩
 .show#[.zo,H1,I1.kept hk,rfl,hn (List.length_eq_zero_iff.mp (hsz.symm.trans h0))]
 .rw[hsz] at hv;have Hm:Aa[tG ks es.length]?=↑v:=by
   have:=hv;rw[Ee] at this;show this
  let#[i1,i2]:=AQ.mp Hm;have hi:tG ks es.length<es.length:=Nat.lt_of_lt_of_eq i1 r'.length.symm;let#[u,e1,e2]:=r'.get (Be hi);rw[Hm] at e1;cases e1;show#[_,H1,I1.kept hk,e2,hM _ (Be hi)]
end
end L2
namespace L3
open PySem PySem.Spec L2 MX
open PyProof.Rows hiding St
section
variable {X:Cx}{K:Ac}{e:Expr}{tA:zZ}{p pos q kp:Pos}{j:Nat}
def tw (k:Int×List Int):D:=.tup [.int k.1,.tup (k.2.map D.int)]
def lstK (d:D) (S:SS) (ks:List (Int×List Int)):Prop:=match d with
 | .xi es=>es=[]/\ks=[]
 | .ref a=>S a=↑(.lst (ks.map tw))
 | _=>False
def rE:xh:=λ ds S Q=>∃ a ks,ds=[a]/\lstK a S ks/\(ks=[]->Q .zo S)/\∀ k,ks[tG ks ks.length]?=↑k->Q (tw k) S
def rE.mo:vd rE:=λ ds S Q Q' hq #[a,ks,h1,h2,h3,h4]=>#[a,ks,h1,h2,λ e=>hq _ _ (h3 e),λ k a=>hq _ _ (h4 k a)]
def pK {H:Hp}{v:V}{k:Int×List Int}(h:ze K H (tw k) v):mC K H v k:=by
 simp![tw,ze,zh] at h;let#[b,xs,rfl,h1,x,ys,rfl,rfl,z,zs,rfl,#[c,ws,rfl,h2,h3],rfl]:=h;rw[h3.ints] at h2;show#[b,c,rfl,h1,h2]
theorem ak {H:Hp}:∀ {ks:List (Int×List Int)}{es:List V},zh K H (ks.map tw) es->Paired (mC K H) es ks
 | [],es,h=>by simp![Bj,zh] at h;subst h;show .nil
 | k::ks,es,h=>by
  simp![Ax,zh] at h;let#[x,xs,rfl,h1,h2]:=h;show .cons (pK h1) (ak h2)
def rE.fits:uo K rE (cB K):=λ xs ds H S Q h0 h2 h=>by
 let#[a,ks,rfl,h1,h3,h4]:=h;let#[x,rfl,r]:=h0.one;obtain⟨a,es,rfl,x1,x2⟩:∃ p es,x=.ref p/\zH K H p es/\zh K H (ks.map tw) es:=by
  unfold lstK at h1;split at h1
  .let#[rfl,rfl]:=h1;simp![ze] at r;let#[a,xs,r1,r2,r3]:=r;show#[a,xs,r1,r2.sq,r3]
  .rename_i a;simp![ze] at r;let#[xs,x1,x2]:=h2 a _ h1;show#[a,xs,r,.inl (.inl x1),x2]
  .show h1.elim
 have hl:es.length=ks.length:=by rw[<- x2.length,AH]
 exact#[a,es,ks,rfl,x1,ak x2,λ e=>h3 (by
  have:ks.length=0:=by rw[<- hl,e];rfl
  show List.length_eq_zero_iff.mp this) _ H (by simp![ze]) (.refl H) h2,λ v hv=>?_]
 rw[hl] at hv;have hi:tG ks ks.length<ks.length:=Nat.lt_of_lt_of_eq (AQ.mp hv).1 hl;have hk:=Be hi;let#[y,y1,y2]:=x2.get (i:=tG ks ks.length) (d:=tw ks[tG ks ks.length]) (by rw[AM,hk];rfl);rw[hv] at y1;cases y1;show h4 _ hk _ H y2 (.refl H) h2
def RA {k0:Nat}(hr:zN k0 X.A) (hm:X.mg "min"=none) (ha:yH X [e] tA) (hc:X.calm=true) (hg:Gl X "min") (he:backTo pos (starEach [e] X.env)=(false,eval e X.env)::backTo pos (starEach [] X.env)) (Am:AF X pos [e]):
  PD X (.Call (.Name "min" p) [e] [#[↑"default",.Constant .none j q,kp]] pos) (xc rE tA):=
 u6 (T3 hr hc hg hm ha.pa he Am) rE.mo rE.fits ha.mo
end
end L3
namespace L5
open PySem PySem.Spec L2 L3 MX
open PyProof.Rows hiding St
def tu (k:Int×List Int):T:=.tup [.int k.1,.tup (k.2.map T.int)]
def nJ:T->Option (Int×List Int)
 | .tup [.int c,.tup ts]=>(vz ts).map λ r=>(c,r)
 | _=>none
def pJ:List T->Option (List (Int×List Int))
 | []=>↑[]
 | t::ts=>(nJ t).bind λ k=>(pJ ts).map λ ks=>k::ks
def Mv {t:T}{k:Int×List Int}(h:nJ t=↑k):t=tu k:=by
 unfold nJ at h;split at h
 .let#[r,e1,e2]:=AK.mp h;cases e2;rw[pO e1];rfl
 .cases h
theorem ao:∀ {ts:List T}{ks:List (Int×List Int)},pJ ts=↑ks->ts=ks.map tu
 | [],ks,h=>by cases h;rfl
 | t::ts,ks,h=>by
  unfold pJ at h;let#[k,e1,e2]:=An.mp h;let#[ks',e3,rfl]:=AK.mp e2;rw[Mv e1,ao e3];rfl
def Mp (ks:List (Int×List Int)):pJ (ks.map tu)=↑ks:=by
 induction ks with
 | nil=>rfl
 | cons k ks ih=>
  have:nJ (tu k)=↑k:=by simp[nJ,tu,kj]
  simp[pJ,this,ih]
def pE:Al
 | [.lst ts]=>(pJ ts).map λ ks=>match ks[tG ks ks.length]? with
  | none=>.zo
  | some k=>tu k
 | _=>none
def dR {S:SS}{k:Int×List Int}{d:D}:Sn S (tu k) d↔d=tw k:=by
 unfold tu tw;constructor
 .intro h;simp![Sn,zg] at h;let#[ds,rfl,c,cs,rfl,rfl,c',cs',rfl,#[es,rfl,h],rfl]:=h;rw[uz.mp h]
 .rintro rfl;simp![Sn,zg];show#[_,rfl,_,_,rfl,rfl,_,_,rfl,#[_,rfl,uz.mpr rfl],rfl]
theorem ia {S:SS}:∀ {ks:List (Int×List Int)}{ds:List D},zg S (ks.map tu) ds->ds=ks.map tw
 | [],ds,h=>by simpa only [Bj,zg] using h
 | k::ks,ds,h=>by
  simp![Ax,zg] at h;let#[c,cs,rfl,h1,h2]:=h;rw[dR.mp h1,ia h2];rfl
def Lj:vf zv pE rE:=λ S Z ys z ds Q hz hv e hq=>by
 unfold pE at e;split at e
 .let#[d,rfl,h1]:=vk hv;let#[ks,e1,e2]:=AK.mp e;rw[ao e1] at h1;have hk:lstK d S ks:=by
   rcases h1 with h | ⟨ts,p,ds,e,rfl,h1,h2,_⟩
   .simp![Sn] at h;let#[ds,h1,h2]:=h;have e:=ia h2;subst e;rcases h1 with ⟨rfl,ho⟩ | ⟨a,rfl,h3⟩
    .cases ks with
     | nil=>show#[rfl,rfl]
     | cons k ks=>cases ho
    .show (uF h3).2
   .cases e;rw[ia h2] at h1;show h1
  exact#[d,ks,rfl,hk,λ en=>?_,λ k hk=>?_]
  .subst en;cases e2;show hq _ S (.refl S) (Cl.of (λ _=>nofun) ib)
  .rw[hk] at e2;cases e2;show hq _ S (.refl S) (Cl.of (λ _=>nofun) (dR.mpr rfl))
 .cases e
end L5
namespace L3
open PySem PySem.Spec L2
open PyProof.Rows hiding St
section
variable {X:Cx}{e:Expr}{es:List Expr}{tA:zZ}{pos p:Pos}
def vv (i:Nat) {x:Str}(hN:X.N[i]?=↑x:=by rfl) (hv:m6 X.env.scope x:=by first | show Or.inl rfl | show Or.inr (Or.inl rfl) | show Or.inr (Or.inr rfl)) (hd:(x == ("__debug__":Str))=false:=by decide) (A9:(x == ("__classdict__":Str))=false:=by decide):PD X (.Name x pos) (yj i):=Rp i (pv i hN hv hd A9)
def bh {x:Str}{k k':Nat}{ps:List Str}{sp:xR}(F:FD X.prog X.w X.K X.mg X.base x k ps sp) (hr:zN k' X.A) (ha:yH X (e::es) tA) (hk:k<=k') (hg:Gl X x) (A8:(x == ("__debug__":Str))=false)
  (he:AA X e es) (Am:AF X pos es):PD X (.Call (.Name x p) (e::es) [] pos) (kP sp tA):=Qm F (hr.mono hk) ha hg A8 he Am
end
def pX {N P:List Str}{sc:Scope}(h1:sc.kind=.function:=by rfl) (h2:sc.isCoroutine=false:=by rfl) (h3:sc.isGenerator=false:=by rfl) (h4:N.Nodup:=by decide +kernel) (h5:N.take P.length=P:=by rfl) (h6:∀ x∈P,sc.names.lookup x=↑.local\/sc.names.lookup x=↑.cell:=by decide +kernel) (h7:∀ y∈sc.names,y.2≠.free:=by decide +kernel):vg N P sc:=#[h1,h2,h3,h4,h5,h6,h7]
end L3
namespace L5
open L2 L3
theorem ny {R:Rk}{g:Sm}{t:zY}(h:z_ R g t:=by
 repeat' first
  | (with_reducible first | show PC _ | apply Np | apply PZ | apply OE)
  | (with_reducible first | show bA _ | exact sf (R:=xg) aX ?_ ?_ | exact iJ (R:=xg) ?_ | apply bB | apply bC | apply bD)
  | ((try first | exact yV.fr ?_ | exact yV.fe ?_);with_reducible first | show OC _ | exact sf (R:=zv) (by with_reducible first | show good_add | show gu | show Ls | show Lr | show Lq | show gw | show gy | show gz | show Li | show aW) ?_ ?_ | exact iJ (R:=zv) ?_ | exact OY (R:=zv) (by with_reducible first | show Lp | show Ld | show Ln | show Ll | show Lk | show Lu | show Lh | show Lf | show Lm | show Lv | show Lj) ?_ | apply PH | apply PM | apply Oh | apply OJ | apply Oi | show Ng _ | show PN _ | show P_ | apply Om | apply OD | apply Oc | exact OX (by with_reducible first | show gu | show gw | show gy | show gz) (by with_reducible first | show gu | show gw | show gy | show gz) ?_ ?_ ?_ | apply PV | apply PR | show OS _ | apply OB | apply OI | apply Oe)
  | (exact yV.er ?_;with_reducible first | show bA _ | exact sf (R:=xg) aX ?_ ?_ | exact iJ (R:=xg) ?_ | apply bB | apply bC | apply bD)
  | (with_reducible first | apply QM | apply Q_ | apply QS | show QL | apply QP | apply Pa | apply QZ | apply QU | apply QJ | show iI _ | apply QW | show QQ | apply QT | apply QV | show QY _ | apply QX | apply QR | apply QN | apply QO | apply QK | apply Pm | apply b9)
  | (exact rS.s ?_;with_reducible first | apply b9)
  | show b8 _
  | (with_reducible first | show Py | apply Pz | show Pw | apply Px | apply PJ | apply PL | apply OO | apply OK | apply OQ | show PK | show Pl _ | show Ph | apply Pj | show Pn | apply Po | apply Pf | apply Pc | apply Pd | apply Pg | apply Pb | apply Pe | show Pu | apply Pt)
  | (first | show Pq _ | apply Pk | apply Pp)
  | show z_.fv (iI _)
  | show z_.fv (b8 _)
  | show Bool.false):z_ R g t:=h
end L5
namespace L5
open PySem PySem.Spec L2 L3
open PyProof.Rows hiding St
def Cm (mg:Au) (x:Str) (t:V):Prop:=∃ u,mg x=↑u/\L2.RelV t u
def Hs (_:List (List Str×List (Option Nat))):Prop:=True
def Hq (s:Scope) (n:List Str):Bool:=s.names.all (λ y=>!(decide (y.2=.local)||decide (y.2=.free))||y.1 == ".0"||n.elem y.1)&&(s.names.filter λ y=>decide (y.2=.local)||decide (y.2=.free)).length == n.length+1
def Ht (_:List Str) (_:List (Option Nat)):Prop:=True
section
variable {n:List Str}{p:List (Option Nat)}{x:List Str×List (Option Nat)}{r:List (List Str×List (Option Nat))}
def Hs.a (_:Hs ((n,p)::r)):Ht n p:=trivial
def Hs.b (_:Hs (x::(n,p)::r)):Ht n p:=trivial
end
section
variable {X:Cx}{N' N:List Str}{pick:List (Option Nat)}{scope esc:Scope}{tg iter elt:Expr}{ifs:List Expr}{ti:xC}{g:yU}{Hr:yp}{te:zq}{pos:Pos}
def pl (_:Ht N' pick) (_:X.env.scope=esc) (_:X.N=N) (Sc:sV X N' pick scope) (_:Hq scope N'=true) (hi:wZ X tg iter ti) (hg:∀ cl C s H fp,N'.Nodup->w_ (yo X N' scope cl C s H fp) tg g) (hf:∀ cl C s H fp,N'.Nodup->ou (yo X N' scope cl C s H fp) ifs Hr) (he:∀ cl C s H fp,N'.Nodup->PD (yo X N' scope cl C s H fp) elt te)
  (nd:N'.Nodup) (hc:X.calm=true) (hs:∀ x,foldedSetIterable iter X.env x=pure x):
  PD X (.ListComp elt [#[tg,iter,ifs,0]] scope pos) (uL pick ti g Hr te):=RE Sc hc hi (λ cl C s H fp=>hg cl C s H fp nd) (λ cl C s H fp=>hf cl C s H fp nd) (λ cl C s H fp=>he cl C s H fp nd) hs
def Ti {a b:Expr}{k:Nat}{t:xP}(h:oq X [a,b] t) (hc:X.calm=true) (hn:(assignEach [a,b] X.env).length=2) (AG:(assignEach [a,b] X.env).findIdx? (·.1)=none):w_ X (.Tuple [a,b] k pos) (pU 2 t):=bf h hc hn AG
def Th {a b c:Expr}{k:Nat}{t:xP}(h:oq X [a,b,c] t) (hc:X.calm=true) (hn:(assignEach [a,b,c] X.env).length=3) (AG:(assignEach [a,b,c] X.env).findIdx? (·.1)=none):w_ X (.Tuple [a,b,c] k pos) (pU 3 t):=bf h hc hn AG
def RZ {x y:Str}(h:Cm X.mg x (.str y)) (hg:Gl X x:=by rfl) (hd:(x == ("__debug__":Str))=false:=by decide):PD X (.Name x pos) (dC (.str y)):=let #[_,a,b]:=h;RY a b hg hd
def Qa {x:Str}{n:Int}(h:Cm X.mg x (.int n)) (hg:Gl X x:=by rfl) (hd:(x == ("__debug__":Str))=false:=by decide):PD X (.Name x pos) (dC (.int n)):=let #[_,a,b]:=h;R_ a b hg hd
def TQ {c f:Str}{si:Stmt}{p Aj rpos:Pos}{k:Nat}{e:Expr}(h:rX X.K X.mg c f si/\uR f si) (hr:zN k X.A) (he:PD X e te) (hk:2<=k) (hg:Gl X c) (hc:X.calm=true) (A8:(c == ("__debug__":Str))=false)
  (hs:AA X e []) (Am:AF X Aj []) (hn:∀ v s,¬ X.xe v s):sM X false (.Raise ↑(.Call (.Name c p) [e] [] Aj) none rpos) (gZ c f te):=TU h.1 h.2 hr he hk hg hc A8 hs Am hn
def SA {t:zY}{i j:Nat}{n c:Str}{body:List Stmt}{p1 p2 p3 p4 B8:Pos}(hN:X.N.Nodup) (hb:vI X true body t) (hi:X.N[i]?=↑n) (hj:X.N[j]?=↑c) (A7:i≠j)
  (hg:Gl X "PurseError") (A6:X.env.kindOf n=↑.local) (Dm:Loc X.env.scope c) (DB:X.fn c=true\/X.env.scope.names.lookup c=↑.local) (BK:(n == ("__debug__":Str))=false) (BO:(n == ("__classdict__":Str))=false) (Bv:swapsWith (.Name n p3) ↑(.Name c p2) p4.line X.env=pure false)
  (AG:X.stack=X.env::X.outer) (AR:X.env.frame=↑X.env.locals) (hn:∀ v s,¬ X.xe v s):xD X (.Try body [.ExceptHandler ↑(.Name "PurseError" p1) ↑n [.Assign [.Name c p2] (.Name n p3) p4] B8] [] [] pos) (gW i j t):=SD i j hN hb A7 hi hj hg A6 Dm DB BK BO Bv AG AR hn
def cU {i:Nat}{y:Str}{py Bm:Pos}(_:Ht N' pick) (_:X.env.scope=esc) (_:X.N=N) (hn:X.N.Nodup) (Sc:sV X N' pick scope)
  (Bv:swapsWith (.ListComp elt [#[tg,iter,ifs,0]] scope pos) ↑(.Name y py) Bm.line X.env=pure true) (_:Hq scope N'=true)
  (hi:wZ X tg iter ti) (hg:∀ cl C s H fp,N'.Nodup->w_ (yo X N' scope cl C s H fp) tg g) (hf:∀ cl C s H fp,N'.Nodup->ou (yo X N' scope cl C s H fp) ifs Hr) (he:∀ cl C s H fp,N'.Nodup->PD (yo X N' scope cl C s H fp) elt te)
  (nd:N'.Nodup) (hc:X.calm=true) (hy:X.N[i]?=↑y) (hx:Loc X.env.scope y)
  (Ca:X.fn y=true\/X.env.scope.names.lookup y=↑.local) (hs:∀ x,foldedSetIterable iter X.env x=pure x):
  xD X (.Assign [.Name y py] (.ListComp elt [#[tg,iter,ifs,0]] scope pos) Bm) (uN (uL pick ti g Hr te) (hName i)):=SK Sc hc hi (λ cl C s H fp=>hg cl C s H fp nd) (λ cl C s H fp=>hf cl C s H fp nd) (λ cl C s H fp=>he cl C s H fp nd) hn hy hx Bv Ca hs
end
theorem pA {p:Prop}(h:p:=by
 repeat' first
  | show rfl
  | (change PD _ _ _;first | (change PD _ (.Name _ _) _;first | show vv 0 | show vv 1 | show vv 2 | show vv 3 | show vv 4 | show vv 5 | show vv 6 | show vv 7 | show vv 8 | show vv 9 | show vv 10 | show vv 11 | show vv 12 | show RZ (by assumption) | show Qa (by assumption)) | show RU | show Qo | show Ru | show R3 | (change PD _ (.Subscript (.Name "lows" _) _ _) _;apply Qi hr) | (change PD _ (.Call _ [.Name "lows" _] _ _) _;apply Qh T.len) | show Qj | apply Qk hr | apply Rx | apply RM | apply Rr | apply RG | (change PD _ (.Call _ _ _ _) _;first | (apply bh;assumption) | (apply bh;show vh.no (by assumption)) | apply RA hr T.min | apply RJ T.len | apply RH T.list T.range | apply RI T.list | apply Rq T.tuple | apply RB T.max | apply R8 T.min | apply Qq T.any | apply Qs T.all | apply Rv hr T.sorted U.set | apply Rw T.sorted | apply RQ T | apply RS T | apply RP T | apply RO T | apply Qu U.abs | apply RD | apply RC | (apply RT;assumption) | apply L3.iE hVE) | (change PD _ (.BinOp _ _ _ _) _;first | (have:=hB;first | apply Qd | apply R6) | apply Qt | apply Rt | apply R7 | apply Qe | apply R5 | apply Ry) | (change PD _ (.Compare _ _ _ _) _;first | apply RF hr | apply Qg hr | apply RK | apply Qb | apply RW hr | apply L5.iE | apply Ql pC pC fit_le fit_le yM.mo yM.mo) | apply Qr | apply Rz | apply R0 | apply R4 | apply RX | apply Qc | (apply pl (Hs.a hc) hS hN;show kR hS hN;decide +kernel) | (apply pl (Hs.b hc) hS hN;show kR hS hN;decide +kernel))
  | (change yH _ _ _;first | show Rn | apply Ro)
  | (change yO _ _ _;first | (change yO _ (.Compare _ _ _ _) _;first | apply Sk hr | apply Sv hr | apply Sj hr | apply So | apply Su | apply Ss hr | apply Sq | apply Sy pC pC fit_le fit_le yM.mo yM.mo) | apply Si | (apply sN.pt;first | apply ba | apply bc) | apply Sg)
  | apply ba | apply bc | apply Sd | apply Sf
  | (change wH _ _ _;first | show S7 | apply Sz | apply S8)
  | (change xD _ _ _;first | apply SH | apply SN | apply SO PassesOwn.never rfl | apply S9 PassesOwn.never | (apply cU (Hs.a hc) hS hN nd;show kR hS hN;rfl;decide +kernel) | (apply cU (Hs.b hc) hS hN nd;show kR hS hN;rfl;decide +kernel) | (change xD _ (.Assign [.Subscript (.Name "lows" _) _ _] _ _) _;apply SU hr) | apply SA | apply SE | apply SM | apply SR | show (SJ:xD _ (.Raise _ _ _) _))
  | apply Ri | apply Ti | apply Th | apply Rg | show Rf
  | (change wZ _ _ _ _;first | apply Ra T.range | apply S_ T.range | apply SX U.zip | apply Rc U.enumerate | apply SY)
  | show Rm | show SW | apply Rl | apply SV
  | (change vI _ _ _ _;first | show TX | apply TV | apply Sb)
  | (change sM _ _ _ _;first | (apply T_;assumption) | (apply TQ;assumption) | apply TR | apply TY | apply TZ)
  | (change _∈sD;simp) | show λ _ _ z=>z | show T
  | show hr | show nd | intro _ _ _ _ _ nd | show λ _=>rfl | show λ _ _=>rfl | show Or.inl rfl | show Or.inr rfl | show#[rfl,rfl,rfl,rfl] | decide
  | show (rfl:(_:List Str)[0]?=_) | show (rfl:(_:List Str)[1]?=_) | show (rfl:(_:List Str)[2]?=_) | show (rfl:(_:List Str)[3]?=_) | show (rfl:(_:List Str)[4]?=_) | show (rfl:(_:List Str)[5]?=_) | show (rfl:(_:List Str)[6]?=_) | show (rfl:(_:List Str)[7]?=_) | show (rfl:(_:List Str)[8]?=_) | show (rfl:(_:List Str)[9]?=_) | show (rfl:(_:List Str)[10]?=_) | show (rfl:(_:List Str)[11]?=_) | show (rfl:(_:List Str)[12]?=_) | (intro _;first | change wZ _ _ _ _ | change w_ _ _ _)):p:=h
section
variable {P:Program}{w:World}{K:Ac}{mg:Au}{base:Heap}{x:Str}{st:Stmt}{N ps:List Str}{k n:Nat}{g:Sm}{R:Rk}[Lo R]
def zU (hs:List (List Str×List (Option Nat))) (F:Fy K mg x st)
  (Ft:∀ (f:Addr) (Ah:Value) (A:Around) (outer:List Env) (s:Shared) (H:Hp) (E:XK),Hs hs->N.Nodup->(yL y8 P w K mg base N x (zG st) f Ah A outer s H E).y_.N=N->(yL y8 P w K mg base N x (zG st) f Ah A outer s H E).y_.env.scope=zG st->zN k (A.deeper (envOfC x (zG st) s.heap.objs.size f Ah))->
   ∃ t,wH (yL y8 P w K mg base N x (zG st) f Ah A outer s H E).y_ (yN st) t/\z_ R g t:=by intro f Ah A outer s H E hc nd hN hS hr;show#[_,pA,ny])
  (Sc:vg N ps (zG st):=by show pX) (hn:n=ps.length:=by rfl)
  (hb:∀ (kV doc pm:Value) (an:Option Addr) (Ah ct:Value) (us:Ae),us.length=ps.length->bindArgs (PySem.W.fnOf x x (wV st) (yN st) (zG st) .none kV doc pm an Ah ct) #[us,[]]=pure (ps.zip us):=by intro _ _ _ _ _ _;first | show Yv λ _=>rfl | show mz λ _ _=>rfl | show Yu λ _ _ _=>rfl | show Yt λ _ _ _ _=>rfl):FD P w K mg base x (k+1) ps (zx R (zD N n g)):=
 LN F Sc hn hb λ f Ah A outer s H E hr=>Ft f Ah A outer s H E trivial Sc.nd rfl rfl hr
def nU (hs:List (List Str×List (Option Nat))) (F:Fy K mg x st)
  (Ft:∀ (f:Addr) (Ah:Value) (A:Around) (outer:List Env) (s:Shared) (H:Hp) (E:XK),Hs hs->N.Nodup->(yL y8 P w K mg base N x (zG st) f Ah A outer s H E).y_.N=N->(yL y8 P w K mg base N x (zG st) f Ah A outer s H E).y_.env.scope=zG st->zN k (A.deeper (envOfC x (zG st) s.heap.objs.size f Ah))->
   ∃ t,vI (yL y8 P w K mg base N x (zG st) f Ah A outer s H E).y_ false (yN st) t/\z_ R g t:=by intro f Ah A outer s H E hc nd hN hS hr;show#[_,pA,ny])
  (Sc:vg N ps (zG st):=by show pX) (hn:n=ps.length:=by rfl)
  (hb:∀ (kV doc pm:Value) (an:Option Addr) (Ah ct:Value) (us:Ae),us.length=ps.length->bindArgs (PySem.W.fnOf x x (wV st) (yN st) (zG st) .none kV doc pm an Ah ct) #[us,[]]=pure (ps.zip us):=by intro _ _ _ _ _ _;first | show Yv λ _=>rfl | show mz λ _ _=>rfl | show Yu λ _ _ _=>rfl | show Yt λ _ _ _ _=>rfl):vh P w K mg base x (k+1) ps (zx R (zD N n g)):=
 LM F Sc hn hb λ f Ah A outer s H E hr=>Ft f Ah A outer s H E trivial Sc.nd rfl rfl hr
def LC {f:Addr}{fd:FuncData}(hs:List (List Str×List (Option Nat))) (F:wy K x x st f fd)
  (Ft:∀ (Ah:Value) (A:Around) (outer:List Env) (s:Shared) (H:Hp) (E:XK),Hs hs->N.Nodup->(yL y8 P w K mg base N x (zG st) f Ah A outer s H E).y_.N=N->(yL y8 P w K mg base N x (zG st) f Ah A outer s H E).y_.env.scope=zG st->zN k (A.deeper (envOfC x (zG st) s.heap.objs.size f Ah))->
   ∃ t,wH (yL y8 P w K mg base N x (zG st) f Ah A outer s H E).y_ (yN st) t/\z_ R g t:=by intro Ah A outer s H E hc nd hN hS hr;show#[_,pA,ny])
  (Sc:vg N ps (zG st):=by show pX) (hn:n=ps.length:=by rfl):yP P w K mg base y8 (k+1) f fd ps (uV K (zx R (zD N n g))):=
 Zf F Sc hn λ Ah A outer s H E hr=>Ft Ah A outer s H E trivial Sc.nd rfl rfl hr
end
end L5
namespace RN
open L5
abbrev Bd:=List (Int×Int)
def yJ (b c:Bd):Prop:=∀ q,ya b q=true->ya c q=true
def yJ.refl (b:Bd):yJ b b:=λ _ h=>h
def yJ.of {b c:Bd}(h:∀ p∈b,∃ r∈c,r.1<=p.1/\r.2<=p.2):yJ b c:=λ q x=>by
 let#[p,hp,h1,h2]:=xf.mp x;let#[r,hr,h3,h4]:=h p hp;show xf.mpr #[r,hr,⋯,⋯]
def yJ.at {b c:Bd}(h:yJ b c) {p:Int×Int}(hp:p∈b):∃ r∈c,r.1<=p.1/\r.2<=p.2:=xf.mp (h p (xf.mpr #[p,hp,A3 _,A3 _]))
structure Gd (A B:Int) (b:Bd):Prop where
 kh:ve b
 v5:∀ p∈b,(0<=p.1/\p.1<=A)/\0<=p.2/\p.2<=B
def xB:Bd:=[(0,0)]
theorem Gd.xB {A B:Int}(hA:0<=A) (hB:0<=B):Gd A B xB:=#[by unfold RN.xB ve;simp,λ p hp=>by
 unfold RN.xB at hp;cases AX.mp hp;show#[#[A3 _,hA],A3 _,hB]]
def Gd.Mf {A B:Int}{b:Bd}(h:Gd A B b):yJ b RN.xB:=yJ.of λ p hp=>#[(0,0),by unfold RN.xB;simp,(h.v5 p hp).1.1,(h.v5 p hp).2.1]
theorem Gd.eq {A B:Int}{b c:Bd}(h:Gd A B b) (h':Gd A B c) (x:yJ b c) (y:yJ c b):b=c:=ve.eq h.kh h'.kh λ q=>by
 rw[BX];show#[x q,y q]
def Gd.least {A B:Int}{ps:Bd}(h:∀ p∈ps,(0<=p.1/\p.1<=A)/\0<=p.2/\p.2<=B):Gd A B (wC ps):=#[h_ ps,λ p hp=>h p (Mb hp)]
def aa {ps qs:Bd}(h:∀ p∈ps,∃ r∈qs,r.1<=p.1/\r.2<=p.2):yJ (wC ps) (wC qs):=λ q x=>by
 rw[kd] at x ⊢;show yJ.of h q x
theorem aB:∀ {b:Bd}{lo hi:Int},ve b->(∀ p∈b,lo<=p.1/\p.1<=hi)->(b.length:Int)<=hi+1-lo\/b=[]
 | [],_,_,_,_=>.inr rfl
 | p::b,lo,hi,h,hb=>by
  have h1:=Br.mp h;have hp:=hb p Av;exact .inl ?_;rcases aB (lo:=p.1+1) (hi:=hi) h1.2 (λ q hq=>#[by have:=(h1.1 q hq).1;lia,(hb q (AD _ hq)).2]) with x | x
  .rw[Bb];lia
  .subst x;simp;lia
theorem aA:∀ {b:Bd}{lo hi:Int},ve b->(∀ p∈b,lo<=p.2/\p.2<=hi)->(b.length:Int)<=hi+1-lo\/b=[]
 | [],_,_,_,_=>.inr rfl
 | p::b,lo,hi,h,hb=>by
  have h1:=Br.mp h;have hp:=hb p Av;exact .inl ?_;rcases aA (lo:=lo) (hi:=p.2-1) h1.2 (λ q hq=>#[(hb q (AD _ hq)).1,by have:=(h1.1 q hq).2;lia]) with x | x
  .rw[Bb];lia
  .subst x;simp;lia
def Gd.rp {A B:Int}{b:Bd}(h:Gd A B b) (hA:0<=A):(b.length:Int)<=A+1:=by
 rcases aB (lo:=0) (hi:=A) h.kh (λ p hp=>(h.v5 p hp).1) with x | x
 .lia
 .subst x;simp;lia
def Gd.NX {A B:Int}{b:Bd}(h:Gd A B b) (hB:0<=B):(b.length:Int)<=B+1:=by
 rcases aA (lo:=0) (hi:=B) h.kh (λ p hp=>(h.v5 p hp).2) with x | x
 .lia
 .subst x;simp;lia
def xJ (x:Int):Int:=if x>0 then x else 0
def iU (x:Int):0<=xJ x:=by unfold xJ;split <;> lia
def iT {x y:Int}(h:x<=y):xJ x<=xJ y:=by unfold xJ;split <;> split <;> lia
def N5 {x g:Int}(h:0<=x) (hg:0<=g):xJ (x-g)<=x:=by unfold xJ;split <;> lia
def x9 (a b:Int) (p:Int×Int):Int×Int:=(xJ (p.1-a),xJ (p.2-b))
def v9 (A B:Int) (p:Int×Int):Bool:=decide (p.1<=A)&&decide (p.2<=B)
def m5 (A B a b:Int) (bd:Bd):Bd:=wC ((bd.map (x9 a b)).filter (v9 A B))
def J2 (A B a b:Int) (bd:Bd):Gd A B (m5 A B a b bd):=Gd.least λ p hp=>by
 let#[h1,h2]:=BI.mp hp;let#[q,_,rfl]:=Ar.mp h1;have h3:(x9 a b q).1<=A/\(x9 a b q).2<=B:=by simpa [v9] using h2
 show#[#[iU _,h3.1],iU _,h3.2]
def Y0 (A B a b:Int) {bd bd':Bd}(h:yJ bd bd'):yJ (m5 A B a b bd) (m5 A B a b bd'):=aa λ p hp=>by
 let#[h1,h2]:=BI.mp hp;let#[q,hq,rfl]:=Ar.mp h1;let#[r,hr,r1,r2]:=h.at hq;have h3:(x9 a b q).1<=A/\(x9 a b q).2<=B:=by simpa [v9] using h2
 have m1:(x9 a b r).1<=(x9 a b q).1:=iT ⋯;have m2:(x9 a b r).2<=(x9 a b q).2:=iT ⋯;show#[x9 a b r,BI.mpr #[Ar.mpr #[r,hr,rfl],by simp[v9];lia],m1,m2]
def ug (b c:Bd):Bd:=wC (b++c)
def Kg (b c:Bd) (q:Int×Int):ya (ug b c) q=(ya b q||ya c q):=by unfold ug;rw[kd,Kz]
def Kf {A B:Int}{b c:Bd}(h:Gd A B b) (h':Gd A B c):Gd A B (ug b c):=Gd.least λ p hp=>by
 rcases A4.mp hp with x | x
 .show h.v5 p x
 .show h'.v5 p x
def l_ (p q:Int×Int):Int×Int:=(if q.1>p.1 then q.1 else p.1,if q.2>p.2 then q.2 else p.2)
def vE (b c:Bd):Bd:=wC (b.flatMap λ p=>c.map (l_ p))
def Yb (b c:Bd) (q:Int×Int):ya (vE b c) q=(ya b q&&ya c q):=by
 unfold vE;rw[kd,BX,Bc,xf,xf,xf];constructor
 .rintro⟨p,hp,h1,h2⟩;let#[x,hx,hp]:=Cv.mp hp;let#[y,hy,rfl]:=Ar.mp hp;unfold l_ at h1 h2;dsimp only at h1 h2;exact#[#[x,hx,?_,?_],#[y,hy,?_,?_]] <;> (first | (split at h1 <;> lia) | (split at h2 <;> lia))
 .rintro⟨⟨x,hx,h1,h2⟩,⟨y,hy,h3,h4⟩⟩;exact#[l_ x y,Cv.mpr #[x,hx,Ar.mpr #[y,hy,rfl]],?_,?_]
  .change (if y.1>x.1 then y.1 else x.1)<=q.1;split <;> lia
  .change (if y.2>x.2 then y.2 else x.2)<=q.2;split <;> lia
def Jp {A B:Int}{b c:Bd}(h:Gd A B b) (h':Gd A B c):Gd A B (vE b c):=Gd.least λ p hp=>by
 let#[x,hx,hp]:=Cv.mp hp;let#[y,hy,rfl]:=Ar.mp hp;have a1:=h.v5 x hx;have a2:=h'.v5 y hy;unfold l_;dsimp only;exact#[#[?_,?_],?_,?_] <;> split <;> lia
def sG (bs:List Bd):Bd:=bs.foldl ug []
def ji (bs:List Bd):Bd:=bs.foldl vE xB
theorem Zv:∀ (bs:List Bd) (b:Bd) (q:Int×Int),ya (bs.foldl ug b) q=true↔ya b q=true\/∃ c∈bs,ya c q=true
 | [],b,q=>#[]
 | c::bs,b,q=>by
  rw[DM,Zv bs,Kg,Eb];constructor
  .rintro ((h | h) | ⟨d,hd,h⟩)
   .show .inl h
   .show .inr #[c,Av,h]
   .show .inr #[d,AD _ hd,h]
  .rintro (h | ⟨d,hd,h⟩)
   .show .inl (.inl h)
   .rcases Ao.mp hd with e | e
    .subst e;show .inl (.inr h)
    .show .inr #[d,e,h]
theorem kE {A B:Int}:∀ (bs:List Bd) (b:Bd),Gd A B b->(∀ c∈bs,Gd A B c)->Gd A B (bs.foldl ug b)
 | [],b,h,_=>h
 | c::bs,b,h,hb=>kE bs _ (Kf h (hb c Av)) λ d hd=>hb d (AD _ hd)
def Gd.nil {A B:Int}:Gd A B []:=#[by unfold ve;simp,λ p hp=>by cases hp]
theorem Yc:∀ (bs:List Bd) (b:Bd) (q:Int×Int),ya (bs.foldl vE b) q=true↔ya b q=true/\∀ c∈bs,ya c q=true
 | [],b,q=>#[]
 | c::bs,b,q=>by
  rw[DM,Yc bs,Yb,Bc];constructor
  .rintro⟨⟨h1,h2⟩,h3⟩;show#[h1,λ d hd=>by
    rcases Ao.mp hd with e | e
    .subst e;show h2
    .show h3 d e]
  .rintro⟨h1,h2⟩;show#[#[h1,h2 c Av],λ d hd=>h2 d (AD _ hd)]
theorem fx {A B:Int}:∀ (bs:List Bd) (b:Bd),Gd A B b->(∀ c∈bs,Gd A B c)->Gd A B (bs.foldl vE b)
 | [],b,h,_=>h
 | c::bs,b,h,hb=>fx bs _ (Jp h (hb c Av)) λ d hd=>hb d (AD _ hd)
def sd (pu:Bool) (g t:Int):Int×Int:=if pu=true then (t,g) else (g,t)
def v7 (pu:Bool) (p:Int×Int):Int:=if pu=true then p.2 else p.1
def sA (pu:Bool) (p:Int×Int):Int:=if pu=true then p.1 else p.2
def xN (pu:Bool) (yb give get:Int):Nat->Int->Int->Bd
 | 0,_,_=>[]
 | n+1,g,t=>if g<=yb then sd pu g t::xN pu yb give get n (g+give) (xJ (t-get)) else []
def UL {pu:Bool}{g t g' t':Int}(h:g'<=g) (h':t'<=t):(sd pu g' t').1<=(sd pu g t).1/\(sd pu g' t').2<=(sd pu g t).2:=by
 cases pu
 .show#[h,h']
 .show#[h',h]
theorem ZT (pu:Bool) (yb give get:Int):∀ (n:Nat) (g t g' t':Int),g'<=g->t'<=t->∀ e∈xN pu yb give get n g t,∃ r∈xN pu yb give get n g' t',r.1<=e.1/\r.2<=e.2
 | 0,_,_,_,_,_,_,e,he=>by cases he
 | n+1,g,t,g',t',h1,h2,e,he=>by
  unfold xN at he ⊢;split at he
  .rw[if_pos ⋯];rcases Ao.mp he with x | x
   .subst x;show#[_,Av,UL h1 h2]
   .let#[r,hr,r1]:=ZT pu yb give get n _ _ (g' + give) (xJ (t'-get)) ⋯ (iT ⋯) e x;show#[r,AD _ hr,r1]
  .cases he
theorem fk (pu:Bool) (yb give get most:Int) (hg:1<=give) (hgt:0<=get):∀ (n:Nat) (g t:Int),0<=g->0<=t->t<=most->∀ e∈xN pu yb give get n g t,(0<=v7 pu e/\v7 pu e<=yb)/\0<=sA pu e/\sA pu e<=most
 | 0,_,_,_,_,_,e,he=>by cases he
 | n+1,g,t,h1,h2,h3,e,he=>by
  unfold xN at he;split at he
  .rcases Ao.mp he with x | x
   .subst x;cases pu <;> show#[#[h1,by assumption],h2,h3]
   .show fk pu yb give get most hg hgt n _ _ ⋯ (iU _) (Int.le_trans (N5 h2 hgt) h3) e x
  .cases he
theorem ZU (pu:Bool) (yb give get:Int) (hg:1<=give):∀ (n:Nat) (g t:Int),g<=yb+1->((xN pu yb give get n g t).length:Int)<=yb+1-g
 | 0,g,t,h=>by simp[xN];lia
 | n+1,g,t,h=>by
  unfold xN;split
  .rw[Bb];by_cases hh:g+give<=yb+1
   .have:=ZU pu yb give get hg n (g+give) (xJ (t-get)) hh;lia
   .have e:xN pu yb give get n (g+give) (xJ (t-get))=[]:=by
     cases n with
     | zero=>rfl
     | succ n=>unfold xN;rw[if_neg ⋯]
    rw[e];simp;lia
  .simp;lia
structure Wy where
 f:Nat
 t:Nat
 a:Int
 b:Int
structure Sl where
 p:Nat
 pu:Bool
 gv:Int
 gt:Int
structure zI where
 A:Int
 B:Int
 os:List Bool
 ws:List Wy
 ss:List Sl
structure zI.Ok (F:zI):Prop where
 a0:0<=F.A
 a1:F.A<=12
 b0:0<=F.B
 b1:F.B<=12
 n1:1<=F.os.length
 n8:F.os.length<=8
 ws:∀ w∈F.ws,w.f<F.os.length/\w.t<F.os.length
 oO:F.ws.length<=60
 ss:∀ s∈F.ss,1<=s.gv/\0<=s.gt
 sl:F.ss=[]\/(F.A+1)*(F.B+1)<64
 s8:F.ss.length<=60
def zI.yb (F:zI) (pu:Bool):Int:=if pu=true then F.B else F.A
def yF (F:zI) (s:Sl) (p:Int×Int):Bd:=xN s.pu (F.yb s.pu) s.gv s.gt 100 (v7 s.pu p) (sA s.pu p)
def ml (F:zI) (s:Sl) (bd:Bd):Bd:=wC (bd.flatMap (yF F s))
def K9 (F:zI) (s:Sl) {b c:Bd}(h:yJ b c):yJ (ml F s b) (ml F s c):=aa λ p hp=>by
 let#[x,hx,hp]:=Cv.mp hp;let#[r,hr,r1,r2]:=h.at hx;let#[e,he,e1]:=ZT s.pu (F.yb s.pu) s.gv s.gt 100 (v7 s.pu x) (sA s.pu x) (v7 s.pu r) (sA s.pu r) (by unfold v7;split <;> assumption) (by unfold sA;split <;> assumption) p hp;show#[e,Cv.mpr #[r,hr,he],e1]
def K8 {F:zI}{s:Sl}(hs:1<=s.gv/\0<=s.gt) {p:Int×Int}(hp:(0<=p.1/\p.1<=F.A)/\0<=p.2/\p.2<=F.B):∀ e∈yF F s p,(0<=e.1/\e.1<=F.A)/\0<=e.2/\e.2<=F.B:=λ e he=>by
 let#[p,pu,gv,gt]:=s;unfold yF zI.yb at he;cases pu with
 | true=>show (fk true F.B gv gt F.A hs.1 hs.2 100 _ _ hp.2.1 hp.1.1 hp.1.2 e he).symm
 | false=>show fk false F.A gv gt F.B hs.1 hs.2 100 _ _ hp.1.1 hp.2.1 hp.2.2 e he
def KA {F:zI}{s:Sl}(hs:1<=s.gv/\0<=s.gt) {b:Bd}(h:Gd F.A F.B b):Gd F.A F.B (ml F s b):=Gd.least λ p hp=>by
 let#[x,hx,hp]:=Cv.mp hp;show K8 hs (h.v5 x hx) p hp
def wG (F:zI) (Fe:List Bd) (p:Nat):List Bd:=(F.ws.filter λ w=>decide (w.f=p)).map λ w=>m5 F.A F.B w.a w.b (Fe.getD w.t [])
def zI.G1 (F:zI) (p:Nat):Option Sl:=F.ss.find? λ s=>decide (s.p=p)
def yR (F:zI) (Fe:List Bd) (p:Nat):Bd:=
 if F.os.getD p false=true then match F.G1 p with
  | none=>sG (wG F Fe p)
  | some s=>ml F s (sG (wG F Fe p))
 else ji (wG F Fe p)
def fM (F:zI) (Fe:List Bd) (p:Nat):∀ c∈wG F Fe p,Gd F.A F.B c:=λ c hc=>by
 let#[w,_,rfl]:=Ar.mp hc;show J2 ..
def bJ {F:zI}(ok:F.Ok) (Fe:List Bd) (p:Nat):Gd F.A F.B (yR F Fe p):=by
 unfold yR;have h1:Gd F.A F.B (sG (wG F Fe p)):=kE _ _ Gd.nil (fM F Fe p);split
 .split
  .show h1
  .rename_i s e;show KA (ok.ss s (List.mem_of_find?_eq_some e)) h1
 .show fx _ _ (Gd.xB ok.a0 ok.b0) (fM F Fe p)
theorem N2 (F:zI) {l m:List Bd}(p:Nat) (h:∀ w∈F.ws,w.f=p->yJ (l.getD w.t []) (m.getD w.t [])):yJ (yR F l p) (yR F m p):=by
 have h1:yJ (sG (wG F l p)) (sG (wG F m p)):=λ q hq=>by
  unfold sG at hq ⊢;rw[Zv] at hq ⊢;rcases hq with x | ⟨c,hc,x⟩
  .show .inl x
  .let#[w,hw,rfl]:=Ar.mp hc;let#[w1,w2]:=BI.mp hw;show .inr #[_,Ar.mpr #[w,hw,rfl],Y0 _ _ _ _ (h w w1 (by exists w2)) q x]
 unfold yR;split
 .split
  .show h1
  .show K9 F _ h1
 .intro q hq;unfold ji at hq ⊢;rw[Yc] at hq ⊢;exact#[hq.1,λ c hc=>?_];let#[w,hw,rfl]:=Ar.mp hc;let#[w1,w2]:=BI.mp hw;show Y0 _ _ _ _ (h w w1 (by exists w2)) q (hq.2 _ (Ar.mpr #[w,hw,rfl]))
def N1 (F:zI) {l m:List Bd}(p:Nat) (h:∀ w∈F.ws,w.f=p->l.getD w.t []=m.getD w.t []):yR F l p=yR F m p:=by
 have:wG F l p=wG F m p:=by
  unfold wG;exact DR λ w hw=>?_;let#[w1,w2]:=BI.mp hw;rw[h w w1 (by exists w2)]
 unfold yR;rw[this]
def box:List (Int×Int):=(List.range 13).flatMap λ(i:Nat)=>(List.range 13).map λ(j:Nat)=>((i:Int),(j:Int))
def mu (b:Bd):Nat:=box.countP (ya b)
theorem Jm {p:Int×Int}(h:(0<=p.1/\p.1<=12)/\0<=p.2/\p.2<=12):p∈box:=by
 let#[x,y]:=p;dsimp only at h;exact Cv.mpr #[x.toNat,AO.mpr ⋯,Ar.mpr #[y.toNat,AO.mpr ⋯,?_]];rw[CH h.1.1,CH h.2.1]
theorem ZN {α:Type}{p q:α->Bool}:∀ {l:List α},(∀ x,q x=true->p x=true)->(∃ x∈l,p x=true/\q x=false)->l.countP q<l.countP p
 | [],_,#[x,hx,_]=>by cases hx
 | a::l,h,#[x,hx,h1,h2]=>by
  have hle:l.countP q<=l.countP p:=List.countP_mono_left λ y _=>h y;rw[List.countP_cons,List.countP_cons];rcases Ao.mp hx with e | e
  .subst e;rw[if_neg (by rw[h2];decide),if_pos h1];lia
  .have:=ZN h #[x,e,h1,h2];by_cases c:q a=true
   .rw[if_pos c,if_pos (h a c)];lia
   .rw[if_neg c];split <;> lia
theorem N8 {A B:Int}(hA:A<=12) (hB:B<=12) {b c:Bd}(hb:Gd A B b) (hc:Gd A B c) (h:yJ b c) (Ay:b≠c):mu b<mu c:=by
 exact ZN h ?_;by_cases x:∃ p∈c,ya b p=false
 .let#[p,hp,e]:=x;have q:=hc.v5 p hp;show#[p,Jm #[#[q.1.1,⋯],q.2.1,⋯],xf.mpr #[p,hp,A3 _,A3 _],e]
 .show absurd (hb.eq hc h (yJ.of λ p hp=>by
   cases e:ya b p with
   | true=>show xf.mp e
   | false=>show absurd #[p,hp,e] x)) Ay
def N9 (b:Bd):mu b<=169:=by
 have:box.length=169:=()
 rw[<- this];show List.countP_le_length
def vw (l:List Bd):Nat:=(l.map mu).sum
theorem bL:∀ (l:List Bd),vw l<=169*l.length
 | []=>by simp[vw]
 | b::l=>by
  have h1:=bL l;have h2:=N9 b;unfold vw at h1 ⊢;rw[Ax,List.sum_cons,Bb];lia
theorem iW {A B:Int}(hA:A<=12) (hB:B<=12):∀ {l m:List Bd},l.length=m.length->(∀ b∈l,Gd A B b)->(∀ b∈m,Gd A B b)->(∀ i,yJ (l.getD i []) (m.getD i []))->l≠m->vw l<vw m
 | [],[],_,_,_,_,h=>absurd rfl h
 | [],_::_,h,_,_,_,_=>by simp at h
 | _::_,[],h,_,_,_,_=>by simp at h
 | b::l,c::m,hl,gb,gc,h,Ay=>by
  have Hx:l.length=m.length:=by exists hl
  have h0:yJ b c:=h 0;have hs:∀ i,yJ (l.getD i []) (m.getD i []):=λ i=>by exists h (i+1)
  have key:vw l<=vw m:=by
   by_cases e:l=m
   .rw[e];show Ak _
   .show BV (iW hA hB Hx (λ x hx=>gb x (AD _ hx)) (λ x hx=>gc x (AD _ hx)) hs e)
  change (List.map mu (b::l)).sum<(List.map mu (c::m)).sum;rw[Ax,List.sum_cons,Ax,List.sum_cons];by_cases e:b=c
  .subst e;have:l≠m:=λ q=>Ay (by rw[q]);have:=iW hA hB Hx (λ x hx=>gb x (AD _ hx)) (λ x hx=>gc x (AD _ hx)) hs this;unfold vw at this;lia
  .have:=N8 hA hB (gb b Av) (gc c Av) h0 e;unfold vw at key;lia
def uG (F:zI) (fresh:List Nat) (p:Nat):Bool:=F.ws.any λ w=>decide (w.f=p)&&fresh.contains w.t
def yd (F:zI) (Fe:List Bd) (fresh:List Nat):List Bd:=(List.range Fe.length).map λ p=>if uG F fresh p=true then yR F Fe p else Fe.getD p []
def xy (Fe G6:List Bd):List Nat:=(List.range G6.length).filter λ p=>decide (G6.getD p []≠Fe.getD p [])
def pz (F:zI):Nat->List (List Bd)->List Bd->List Nat->Option (List (List Bd))
 | 0,_,_,_=>none
 | n+1,Gz,Fe,fresh=>if fresh=[] then ↑(Gz++[Fe]) else
   let fo:=yd F Fe fresh
   let fr:=xy Fe fo
   if fr=[] then ↑(Gz++[Fe]) else pz F n (Gz++[Fe]) fo fr
structure St (F:zI) (Fe:List Bd) (fresh:List Nat):Prop where
 len:Fe.length=F.os.length
 gd:∀ b∈Fe,Gd F.A F.B b
 fr:∀ p<F.os.length,uG F fresh p=false->(∃ w∈F.ws,w.f=p)->yR F Fe p=Fe.getD p []
 le:∀ p<F.os.length,(∃ w∈F.ws,w.f=p)->yJ (yR F Fe p) (Fe.getD p [])
def Zb {α:Type}(f:Nat->α) (n p:Nat) (d:α) (h:p<n):((List.range n).map f).getD p d=f p:=by
 rw[BJ,AM,List.getElem?_range h];rfl
def qm (F:zI) (Fe:List Bd) (fresh:List Nat):(yd F Fe fresh).length=Fe.length:=by unfold yd;simp
theorem St.at {F:zI}{Fe:List Bd}{fresh:List Nat}(s:St F Fe fresh) {p:Nat}(hp:p<F.os.length) (hw:∃ w∈F.ws,w.f=p):(yd F Fe fresh).getD p []=yR F Fe p:=by
 unfold yd;rw[Zb _ _ _ _ (by rw[s.len];show hp)];split
 .rfl
 .rename_i h;show (s.fr p hp (by exists h) hw).symm
def M_ {F:zI}{fresh:List Nat}{p:Nat}(h:uG F fresh p=true):∃ w∈F.ws,w.f=p:=by
 unfold uG at h;let#[w,h1,h2]:=Bl.mp h;show#[w,h1,by simp at h2;show h2.1]
def St.no {F:zI}{Fe:List Bd}{fresh:List Nat}(s:St F Fe fresh) {p:Nat}(hp:p<F.os.length) (hw:¬ ∃ w∈F.ws,w.f=p):(yd F Fe fresh).getD p []=Fe.getD p []:=by
 unfold yd;rw[Zb _ _ _ _ (by rw[s.len];show hp),if_neg (λ h=>hw (M_ h))]
def St.ZS {F:zI}{Fe:List Bd}{fresh:List Nat}(s:St F Fe fresh) (p:Nat):yJ ((yd F Fe fresh).getD p []) (Fe.getD p []):=by
 by_cases hp:p<F.os.length
 .by_cases hw:∃ w∈F.ws,w.f=p
  .rw[s.at hp hw];show s.le p hp hw
  .rw[s.no hp hw];show yJ.refl _
 .have h1:(yd F Fe fresh).getD p []=[]:=by
   rw[BJ,List.getElem?_eq_none (by rw[qm,s.len];lia)];rfl
  rw[h1];intro q x;cases x
def St.next {F:zI}(ok:F.Ok) {Fe:List Bd}{fresh:List Nat}(s:St F Fe fresh):St F (yd F Fe fresh) (xy Fe (yd F Fe fresh)) where
 len:=by rw[qm,s.len]
 gd:=λ b hb=>by
  unfold yd at hb;let#[p,hp,rfl]:=Ar.mp hb;split
  .show bJ ok Fe p
  .have Az:=AO.mp hp;rw[BJ,Be Az];show s.gd _ (Ci Az)
 fr:=λ p hp hn hw=>by
  rw[s.at hp hw];exact N1 F p λ w w1 w2=>?_;have hwt:=(ok.ws w w1).2;by_cases e:(yd F Fe fresh).getD w.t []=Fe.getD w.t []
  .show e
  .have:uG F (xy Fe (yd F Fe fresh)) p=true:=by
    unfold uG;exact Bl.mpr #[w,w1,?_];have:w.t∈xy Fe (yd F Fe fresh):=by
     unfold xy;show BI.mpr #[AO.mpr (by rw[qm,s.len];show hwt),by exists e]
    simp[w2,this]
   rw[this] at hn;cases hn
 le:=λ p hp hw=>by
  rw[s.at hp hw];show N2 F p λ w w1 w2=>s.ZS w.t
def L9 {Fe fo:List Bd}(hl:fo.length=Fe.length) (h:xy Fe fo≠[]):fo≠Fe:=λ e=>h (by
 subst e;unfold xy;simp)
def start (F:zI):List Bd:=List.replicate F.os.length xB
theorem St.start {F:zI}(ok:F.Ok):St F (start F) (List.range F.os.length) where
 len:=by unfold RN.start;simp
 gd:=λ b hb=>by rw[List.eq_of_mem_replicate hb];show Gd.xB ok.a0 ok.b0
 fr:=λ p hp hn #[w,w1,w2]=>by
  have:uG F (List.range F.os.length) p=true:=by
   unfold uG;exact Bl.mpr #[w,w1,?_];have:=(ok.ws w w1).2;simp[w2,this]
  rw[this] at hn;cases hn
 le:=λ p hp hw=>by
  have e:(RN.start F).getD p []=xB:=by
   unfold RN.start;rw[BJ,DX,if_pos hp];rfl
  rw[e];show (bJ ok _ p).Mf
theorem cw {F:zI}(ok:F.Ok):∀ (n:Nat) (Gz:List (List Bd)) (Fe:List Bd) (fresh:List Nat),St F Fe fresh->vw Fe<n->
  ∃ more HF,pz F n Gz Fe fresh=↑(Gz++Fe::more)/\(∀ r∈Fe::more,r.length=F.os.length/\∀ b∈r,Gd F.A F.B b)/\(Fe::more).getLast?=↑HF/\more.length<=vw Fe
 | 0,_,_,_,_,h=>⋯
 | n+1,Gz,Fe,fresh,s,h=>by
  unfold pz;split
  .show#[[],Fe,rfl,λ r hr=>by cases AX.mp hr;show#[s.len,s.gd],rfl,A2 _]
  .dsimp only;split
   .show#[[],Fe,rfl,λ r hr=>by cases AX.mp hr;show#[s.len,s.gd],rfl,A2 _]
   .rename_i hf;have s':=s.next ok;have Az:vw (yd F Fe fresh)<vw Fe:=iW ok.a1 ok.b1 (qm ..) s'.gd s.gd s.ZS (L9 (qm ..) hf);let#[more,HF,e1,e2,e3,e4]:=cw ok n (Gz++[Fe]) _ _ s' ⋯;exact#[yd F Fe fresh::more,HF,by rw[e1];simp,λ r hr=>?_,by rw[List.getLast?_cons_cons];show e3,by rw[Bb];lia];rcases Ao.mp hr with e | e
    .subst e;show#[s.len,s.gd]
    .show e2 r e
end RN
namespace zS
open PySem L2 L3 L5
abbrev eK:Sm:=
 (retS (wo (FK "int" (zc 0)) (iO (FK "bool" (zc 0)))))
def tP:Al:=zD ["thing"] 1 eK
abbrev mn:Ag:=
 yA [none,none] (xa qV (za (zc 0) (za (lI (zc 0) ↑(cI 1) none) zf))) (vn 2 (yT (zw 0) (yT (zw 1) u9))) xt (zb uB (zc 0) (zc 1))
abbrev eO:Sm:=
 (retS (zk (uP λ bs=>bs.all id) (za mn zf)))
def sT:Al:=zD ["things"] 1 eO
abbrev Ib:Sm:=
 (retS (wo (FK "str" (zc 0)) (zb (uE false) (zc 0) (tupS (za (cS (.str "keeper")) (za (cS (.str "taker")) zf))))))
def ej:Al:=zD ["thing"] 1 Ib
abbrev XA:Sm:=
 (retS (zk xo (za (zb zm (zc 0) (cI 1)) zf)))
def qP:Al:=zD ["floor"] 1 XA
abbrev Wf:Sm:=
 (retS (wo (zb ky (zb zm (zc 0) (cI 0)) (zb zm (zc 1) (cI 0))) (zb ky (zb zm (zc 0) (cI 1)) (zb zm (zc 1) (cI 1)))))
def oA:Al:=zD ["pair","other"] 2 Wf
abbrev mx:Sm:=
 (yn (rH (xb (yv (zc 1))) (yu (zb uB (zb zm (zc 2) (cI 1)) (zb zm (zb zm (zc 1) (nC (cI 1))) (cI 1))))) (xA 1 (zi 2)) yw)
abbrev XE:Sm:=
 (zr (ui 1 (xn zf))
 (zr (xX [2] (yy (zk vQ (za (zc 0) zf))) (zw 2) mx)
 (retS (zk tW (za (zc 1) zf)))))
def uq:Al:=zD ["pairs","least","pair"] 1 XE
abbrev qF:Sm:=
 (zr (xA 4 (aR (yu (zb (zL false) (zc 3) (cI 0))) (tupS (za (zi 5) (za (zi 6) zf))) (tupS (za (zi 6) (za (zi 5) zf)))))
 (zr (zR 5 (zb yg (zc 5) (zb zm (zc 1) (cI 2))))
 (zR 6 (zk rn (za (cI 0) (za (zb vP (zc 6) (zb zm (zc 1) (cI 3))) zf))))))
abbrev XB:Sm:=
 (zr (zR 3 (zb zm (zc 1) (cI 1)))
 (zr (ui 4 (xn zf))
 (zr (zR 5 (zb zm (zc 2) (zc 3)))
 (zr (zR 6 (zb zm (zc 2) (zb vP (cI 1) (zc 3))))
 (zr (oJ 1000000 [] (yu (zb uC (zc 5) (zb zm (zc 0) (zc 3)))) qF)
 (uY 4))))))
def mH:Al:=zD ["brims","stall","pair","purse","pairs","given","got"] 3 XB
abbrev XZ:Sm:=
 (retS (zb yg (zb wB (zb zm (zc 1) (cI 0)) (zb zm (zc 0) (cI 0))) (zb wB (zb zm (zc 1) (cI 1)) (zb zm (zc 0) (cI 1)))))
def jE:Al:=zD ["pair","prices"] 2 XZ
abbrev Jl:Ag:=
 yA [none,↑2] (xa vS (za (zb yg (zc 0) (cI 1)) zf)) (zw 0) xt (tupS (za (zi 1) (za (zi 0) zf)))
abbrev Jv:Sm:=
 (kA 1 Jl)
abbrev Ic:Sm:=
 (zr (ui 1 (xn zf))
 (zr (xX [2] (xa vS (za (zb yg (zc 0) (cI 1)) zf)) (zw 2) Jv)
 (uY 1)))
def o7:Al:=zD ["most","told","first"] 1 Ic
abbrev XN:Sm:=
 (zr (yn (yu (zb uB (zc 1) (zk xo (za (zc 0) zf)))) (retS (zb zm (zc 0) (zc 1))) yw)
 (retS (cI 0)))
def sS:Al:=zD ["_law_script","_law_k"] 2 XN
abbrev Yq:Sm:=
 (zr (xA 2 (zb yi (zc 3) (zb yZ (cI 10) (cI 6))))
 (zR 3 (zb xM (zc 3) (zb yZ (cI 10) (cI 6)))))
abbrev Yp:Sm:=
 (zr (zR 3 (zb yi (zb yg (zb yg (zb wB (zc 3) (cI 52027)) (zb xM (zc 3) (zb yZ (cI 10) (cI 22)))) (zb wB (cI 13) (zc 4))) (zb yg (zb yZ (cI 10) (cI 45)) (cI 9))))
 (xA 2 (zb xM (zb wB (zc 3) (zb yg (zb xM (zc 3) (zb yZ (cI 10) (cI 23))) (cI 7))) (zb yZ (cI 10) (cI 9)))))
abbrev XH:Sm:=
 (zr (ui 2 (xn zf))
 (zr (zR 3 (zk fO (za (zb xM (zc 0) (cI 2)) zf)))
 (zr (yn (yu (zb (zL false) (zb yi (zc 0) (cI 2)) (cI 1))) (zr (xX [4] (xa vS (za (zc 1) zf)) (zw 4) Yq)
 (uY 2)) yw)
 (zr (zR 3 (zb yg (zb yi (zc 3) (zb yg (zb yZ (cI 10) (cI 45)) (cI 9))) (cI 77003)))
 (zr (xX [4] (xa vS (za (zc 1) zf)) (zw 4) Yp)
 (uY 2))))))
def sQ:Al:=zD ["_law_cell","_law_count","_law_found","_law_number","_law_k"] 2 XH
abbrev XO:Sm:=
 (retS (zk rm (za (cI 12) (za (zb yg (zb vP (zb yi (zb yi (zc 0) (cI 25)) (zb yg (zb tf (cI 2) (zc 1)) (cI 1))) (zc 1)) (zb yi (zb wQ (zc 0) (cI 25)) (cI 2))) zf))))
def o4:Al:=zD ["_law_number","_law_most"] 2 XO
abbrev Ia:Sm:=
 (zr (zR 1 (xn (za (uD (t8 "NoFloor") (zc 0)) (za (uD (t8 "NoPlace") (zc 0)) (za (uD (t8 "NoWay") (zc 0)) zf)))))
 (zr (zR 1 (zb yg (zc 1) (xn (za (uD (t8 "NoPair") (zc 0)) (za (uD (t8 "NoCount") (zc 0)) (za (uD (t8 "NoMore") (zc 0)) zf))))))
 (retS (zb yg (zc 1) (xn (za (uD (t8 "NoChange") (zc 0)) (za (uD (t8 "NoName") (zc 0)) (za (uD (t8 "NoRow") (zc 0)) zf))))))))
def o3:Al:=zD ["_law_caught_here","_law_some"] 1 Ia
abbrev XI:Sm:=
 (zr (yn (rH (yu (zb (zL true) (FK "bool" (zc 0)) (FK "bool" (zc 1)))) (yu (zb (zL true) (FK "int" (zc 0)) (FK "int" (zc 1))))) (retS (cS (.bl false))) yw)
 (retS (zb (zL false) (zc 0) (zc 1))))
def qQ:Al:=zD ["_law_one","_law_other"] 2 XI
abbrev XF:Sm:=
 (retS (wo (FK "int" (zc 0)) (wo (iO (FK "bool" (zc 0))) (wo (zb uC (zc 1) (zc 0)) (zb uC (zc 0) (zc 2))))))
def oz:Al:=zD ["_law_thing","_law_least","_law_most"] 3 XF
abbrev eG:Sm:=
 (zr (yn (yu (zb aV (zb yi (zc 0) (cI 3)) (cI 0))) (retS (zi 1)) yw)
 (retS (zb zm (xn (za (zi 2) (za (zb vP (cI 0) (cI 1)) (za (cS (.bl true)) (za (cS (.bl false)) (za (cS .zo) (za (cS (.str "0")) (za (tupS (za (cI 0) zf)) (za (xn (za (cI 0) zf)) (za (zb yg (zb yZ (cI 10) (cI 20)) (zc 2)) zf)))))))))) (zb yi (zb wQ (zc 0) (cI 3)) (cI 9)))))
def sR:Al:=zD ["_law_number","_law_good","_law_above"] 3 eG
abbrev eJ:Sm:=
 (retS (wo (zk tP (za (zi 0) zf)) (fm uC uC (zc 1) (zc 0) (zc 2))))
def tN:Al:=zD ["thing","least","most"] 3 eJ
abbrev XS:Sm:=
 (retS (wo (zk tP (za (zi 0) zf)) (zb ky (zc 0) (cI 0))))
def jC:Al:=zD ["thing"] 1 XS
abbrev jh:Ag:=
 yA [none] (yy (zc 0)) (zw 0) xt (zk ej (za (zi 0) zf))
abbrev Wj:Sm:=
 (zr (yn (rH (xb (yv (FK "tuple" (zc 0)))) (xb (yu (fm uC uC (cI 1) (zk xo (za (zc 0) zf)) (cI 8))))) (retS (cS (.bl false))) yw)
 (retS (zk (uP λ bs=>bs.all id) (za jh zf))))
def mZ:Al:=zD ["thing"] 1 Wj
abbrev jb:Ag:=
 yA [none,↑1] (yy (zc 0)) (zw 0) xt (zk oA (za (zi 1) (za (zi 0) zf)))
abbrev XU:Sm:=
 (retS (zk (uP λ bs=>bs.any id) (za jb zf)))
def jD:Al:=zD ["border","pair"] 2 XU
abbrev Z_:Ag:=
 yA [none] (yy (zc 0)) (zw 0) xt (tupS (za (zb zm (zc 0) (cI 0)) (za (cI 0) (za (zb zm (zc 0) (cI 1)) zf))))
abbrev ZY:Ag:=
 yA [none] (yy (zc 1)) (zw 0) xt (tupS (za (zb zm (zc 0) (cI 0)) (za (cI 1) (za (zb zm (zc 0) (cI 1)) zf))))
abbrev fC:Sm:=
 (zr (gT 3 (zc 6) (zk rm (za (zc 7) (za (gU 3 (zc 6) (zi 7)) zf))))
 (yn (yu (zb (zL false) (md 3) (cI 2))) (xA 4 (tupS (za (zi 5) (za (zk rn (za (qw 3 (cI 0)) (za (qw 3 (cI 1)) zf))) zf)))) yw))
abbrev Wa:Sm:=
 (zr (zR 2 (zb yg Z_ ZY))
 (zr (Z2 3)
 (zr (ui 4 (xn zf))
 (zr (xX [5,6,7] (yy (zk vQ (za (zc 2) zf))) (vn 3 (yT (zw 5) (yT (zw 6) (yT (zw 7) u9)))) fC)
 (gD 4 (retS (zk uq (za (zi 4) zf))))))))
def mT:Al:=zD ["border","other","steps","lows","shared","first","side","second"] 2 Wa
abbrev XY:Sm:=
 (retS (zk uq (za (zb yg (zk listS (za (zc 0) zf)) (zk listS (za (zc 1) zf))) zf)))
def mO:Al:=zD ["border","other"] 2 XY
abbrev jd:Ag:=
 yA [none,↑1] (yy (zc 2)) (zw 0) xt (tupS (za (zk rn (za (cI 0) (za (zb vP (zb zm (zc 0) (cI 0)) (zb zm (zc 1) (cI 2))) zf))) (za (zk rn (za (cI 0) (za (zb vP (zb zm (zc 0) (cI 1)) (zb zm (zc 1) (cI 3))) zf))) zf)))
abbrev kU:Ag:=
 yA [none,↑0] (yy (zc 3)) (zw 0) (yv (zk oA (za (zi 1) (za (zi 0) zf)))) (zi 0)
abbrev We:Sm:=
 (zr (zR 3 jd)
 (retS (zk uq (za kU zf))))
def mW:Al:=zD ["brims","way","border","pairs"] 3 We
abbrev ja:Ag:=
 yA [none] (yy (zc 0)) (zw 0) xt (zk tP (za (zi 0) zf))
abbrev XR:Sm:=
 (retS (wo (FK "tuple" (zc 0)) (wo (zb (zL false) (zk xo (za (zc 0) zf)) (cI 4)) (zk (uP λ bs=>bs.all id) (za ja zf)))))
def jB:Al:=zD ["thing"] 1 XR
abbrev XG:Sm:=
 (retS (tupS (za (zi 0) (za (zb yi (zb yi (zc 2) (cI 8)) (zc 1)) (za (zk o4 (za (zb yi (zb wQ (zc 2) (cI 8)) (cI 50)) (za (zi 3) zf))) (za (zk o4 (za (zb yi (zb wQ (zc 2) (cI 400)) (cI 50)) (za (zi 3) zf))) zf))))))
def rY:Al:=zD ["_law_place","_law_many","_law_number","_law_size"] 4 XG
abbrev qC:Ag:=
 yA [none,↑1] (xa vS (za (cI 9) zf)) (zw 0) xt (zb (zL false) (zb zm (zc 1) (cI 0)) (zc 0))
abbrev eF:Sm:=
 (zr (yn (yu (zb (su false) (zc 1) (cS .zo))) (retS (zb (su false) (zc 0) (cS .zo))) yw)
 (zr (yn (rH (xb (yv (uD (λ _=>true) (zc 0)))) (yu (zb (zL true) (zk o3 (za (zi 0) zf)) qC))) (retS (cS (.bl false))) yw)
 (zr (yn (yu (zb (zL false) (zb zm (zc 1) (cI 0)) (cI 1))) (retS (zk qQ (za (gL "place" (zc 0)) (za (zb zm (zc 1) (cI 1)) zf)))) yw)
 (retS (zk qQ (za (gL "told" (zc 0)) (za (zb zm (zc 1) (cI 1)) zf)))))))
def uS:Al:=zD ["_law_caught_here","_law_due_here"] 2 eF
abbrev Ju:Sm:=
 (yn (xb (yv (zk oz (za (zi 4) (za (cI 0) (za (zi 3) zf)))))) (retS (tupS (za (cI 4) (za (zi 4) zf)))) yw)
abbrev XM:Sm:=
 (zr (yn (xb (yv (zk oz (za (zi 1) (za (cI 0) (za (zb vP (zk xo (za (zb zm (zc 0) (cI 1)) zf)) (cI 1)) zf)))))) (retS (tupS (za (cI 1) (za (zi 1) zf)))) yw)
 (zr (xX [4] (yy (zi 2)) (zw 4) Ju)
 (retS (cS .zo))))
def rZ:Al:=zD ["_law_floor_here","_law_place","_law_counts","_law_most","_law_thing"] 4 XM
abbrev fu:Ag:=
 yA [none,none] (xa qV (za (zc 0) (za (zc 1) zf))) (vn 2 (yT (zw 0) (yT (zw 1) u9))) xt (zk tN (za (zi 0) (za (zb zm (zc 1) (cI 0)) (za (zb zm (zc 1) (cI 1)) zf))))
abbrev eL:Sm:=
 (zr (yn (rH (xb (yv (FK "tuple" (zc 0)))) (yu (zb (zL true) (zk xo (za (zc 0) zf)) (zk xo (za (zc 1) zf))))) (retS (cS (.bl false))) yw)
 (retS (zk (uP λ bs=>bs.all id) (za fu zf))))
def r_:Al:=zD ["thing","bounds"] 2 eL
abbrev eM:Sm:=
 (yn (xb (yv (zk tN (za (zi 1) (za (cI 0) (za (zb vP (zk qP (za (zi 0) zf)) (cI 1)) zf)))))) (oY "NoPlace" "place" (zi 1)) yw)
def uu:Al:=zD ["floor","place"] 2 eM
abbrev jn:Sm:=
 (zR 1 (zk mO (za (zi 1) (za (zi 2) zf))))
abbrev Wc:Sm:=
 (zr (zR 1 (tupS zf))
 (zr (xX [2] (yy (zi 0)) (zw 2) jn)
 (retS (zi 1))))
def mU:Al:=zD ["borders","joined","border"] 1 Wc
abbrev jo:Sm:=
 (zR 1 (zk mT (za (zi 1) (za (zi 2) zf))))
abbrev Wd:Sm:=
 (zr (zR 1 (tupS (za (tupS (za (cI 0) (za (cI 0) zf))) zf)))
 (zr (xX [2] (yy (zi 0)) (zw 2) jo)
 (retS (zi 1))))
def mV:Al:=zD ["borders","joined","border"] 1 Wd
abbrev jm:Sm:=
 (xA 6 (zk rY (za (zi 8) (za (zi 4) (za (zb zm (zc 3) (zb yg (zb yg (cI 3) (zb tf (cI 4) (zc 8))) (zc 11))) (za (zi 10) zf))))))
abbrev p_:Sm:=
 (zr (zR 9 (zb zm (zc 3) (zb yg (cI 2) (zb tf (cI 4) (zc 8)))))
 (zr (xA 5 (zb zm (xn (za (cS (.str "keeper")) (za (cS (.str "taker")) zf))) (zb yi (zc 9) (cI 2))))
 (zr (zR 10 (zb zm (xn (za (cI 2) (za (cI 3) (za (cI 3) (za (cI 12) zf))))) (zb yi (zb wQ (zc 9) (cI 2)) (cI 4))))
 (zr (xX [11] (xa vS (za (zb yg (cI 1) (zb yi (zb wQ (zc 9) (cI 8)) (cI 3))) zf)) (zw 11) jm)
 (yn (Zy (yu (zb (zL false) (zb zm (zc 5) (zc 8)) (cS (.str "keeper")))) (yu (zb (zL false) (zb yi (zb wQ (zc 9) (cI 24)) (cI 3)) (cI 0)))) (xA 7 (tupS (za (zi 8) (za (zb yi (zb wQ (zc 9) (cI 72)) (cI 2)) (za (zb yg (cI 1) (zb yi (zb wQ (zc 9) (cI 144)) (cI 4))) (za (zb yi (zb wQ (zc 9) (cI 576)) (cI 5)) zf)))))) yw)))))
abbrev jk:Sm:=
 (xA 6 (zk rY (za (zb yi (zb yi (zb wQ (zb zm (zc 3) (cI 0)) (cI 64)) (cI 8)) (zc 4)) (za (zi 4) (za (zb zm (zc 3) (zb yg (cI 34) (zc 11))) (za (cI 3) zf))))))
abbrev XJ:Sm:=
 (zr (zR 3 (zk sQ (za (zi 0) (za (cI 43) zf))))
 (zr (zR 4 (zb yg (cI 1) (zb yi (zb zm (zc 3) (cI 0)) (zc 1))))
 (zr (ui 5 (xn zf))
 (zr (ui 6 (xn zf))
 (zr (ui 7 (xn zf))
 (zr (xX [8,9,10,11] (xa vS (za (zc 4) zf)) (zw 8) p_)
 (zr (yn (yu (zb (zL false) (zb yi (zb wQ (zb zm (zc 3) (cI 0)) (cI 8)) (cI 8)) (cI 1))) (xX [11] (xa vS (za (zk rm (za (cI 9) (za (zb vP (cI 24) (zk xo (za (zc 6) zf))) zf))) zf)) (zw 11) jk) yw)
 (zr (zR 12 (tupS (za (zb yi (zb zm (zc 3) (cI 1)) (zb yg (zc 2) (cI 1))) (za (zb yi (zb wQ (zb zm (zc 3) (cI 1)) (cI 13)) (zb yg (zc 2) (cI 1))) zf))))
 (retS (tupS (za (zi 12) (za (zk tW (za (zc 5) zf)) (za (zk tW (za (zk tX (za (zc 6) zf)) zf)) (za (zk tW (za (zc 7) zf)) zf))))))))))))))
def qR:Al:=zD ["_law_cell","_law_most","_law_brim","_law_xs","_law_many","_law_owners","_law_ways","_law_stalls","_law_place","_law_number","_law_size","_law_k","_law_brims"] 3 XJ
abbrev jg:Ag:=
 yA [none,↑1] (yy (zc 0)) (zw 0) xt (zk r_ (za (zi 0) (za (zi 1) zf)))
abbrev Wi:Sm:=
 (retS (wo (FK "tuple" (zc 0)) (zk (uP λ bs=>bs.all id) (za jg zf))))
def qT:Al:=zD ["thing","bounds"] 2 Wi
abbrev Wk:Sm:=
 (retS (zk r_ (za (zi 0) (za (tupS (za (tupS (za (cI 0) (za (cI 12) zf))) (za (tupS (za (cI 0) (za (cI 12) zf))) zf))) zf))))
def m_:Al:=zD ["thing"] 1 Wk
abbrev X_:Sm:=
 (yn (xb (yv (zk r_ (za (zi 1) (za (tupS (za (tupS (za (cI 0) (za (zb zm (zb zm (zc 0) (cI 0)) (cI 0)) zf))) (za (tupS (za (cI 0) (za (zb zm (zb zm (zc 0) (cI 0)) (cI 1)) zf))) zf))) zf))))) (oY "NoPair" "pair" (zi 1)) yw)
def mR:Al:=zD ["floor","pair"] 2 X_
abbrev kY:Ag:=
 yA [none,none,↑1] (xa rG (za (zb zm (zc 0) (cI 2)) zf)) (vn 2 (yT (zw 0) (yT (zw 1) u9))) (yu (zb (zL false) (zb zm (zc 1) (cI 0)) (zc 2))) (zi 0)
abbrev X7:Sm:=
 (zr (gS (zk (nA uu) (za (zi 0) (za (zi 1) zf))))
 (retS kY))
def mF:Al:=zD ["floor","place"] 2 X7
abbrev mv:Sm:=
 (yn (yu (zb (zL false) (zb zm (zc 2) (cI 0)) (zc 1))) (retS (zi 2)) yw)
abbrev X8:Sm:=
 (zr (gS (zk (nA uu) (za (zi 0) (za (zi 1) zf))))
 (zr (xX [2] (yy (zb zm (zc 0) (cI 3))) (zw 2) mv)
 (retS (cS .zo))))
def qO:Al:=zD ["floor","place","stall"] 2 X8
abbrev je:Ag:=
 yA [none] (yy (zc 0)) (zw 0) xt (zb zm (zc 0) (cI 0))
abbrev kW:Ag:=
 yA [none,↑4] (xa vS (za (zc 1) zf)) (zw 0) xt (zb (uE false) (zc 0) (zc 1))
abbrev Wg:Sm:=
 (zr (zR 2 (tupS (za (cI 0) (za (zb vP (zc 1) (cI 1)) zf))))
 (zr (zR 3 (tupS (za (nC (cI 12)) (za (cI 12) zf))))
 (zr (yn (xb (yv (zk qT (za (zi 0) (za (tupS (za (zi 2) (za (zi 2) (za (zi 3) (za (zi 3) zf))))) zf))))) (retS (cS (.bl false))) yw)
 (zr (zR 4 je)
 (retS (wo (zb uC (zk xo (za (zc 0) zf)) (cI 24)) (wo (zk sT (za (zi 0) zf)) (zk (uP λ bs=>bs.all id) (za kW zf)))))))))
def mX:Al:=zD ["thing","places","place","coins","starts"] 2 Wg
abbrev jf:Ag:=
 yA [none] (yy (zc 0)) (zw 0) xt (zb zm (zc 0) (cI 0))
abbrev kX:Ag:=
 yA [none,↑1] (yy (zc 0)) (zw 0) xt (zb (zL false) (zb zm (zc 1) (zb zm (zc 0) (cI 0))) (cS (.str "keeper")))
abbrev Wh:Sm:=
 (zr (zR 2 (tupS (za (cI 0) (za (zb vP (zk xo (za (zc 1) zf)) (cI 1)) zf))))
 (zr (yn (xb (yv (zk qT (za (zi 0) (za (tupS (za (zi 2) (za (tupS (za (cI 0) (za (cI 1) zf))) (za (tupS (za (cI 1) (za (cI 12) zf))) (za (tupS (za (cI 0) (za (cI 12) zf))) zf))))) zf))))) (retS (cS (.bl false))) yw)
 (retS (wo (zk sT (za jf zf)) (zk (uP λ bs=>bs.all id) (za kX zf))))))
def mY:Al:=zD ["thing","owners","place"] 2 Wh
abbrev jq:Sm:=
 (kA 4 (zk mH (za (zb zm (zc 0) (cI 0)) (za (zi 3) (za (zi 5) zf)))))
abbrev eN:Sm:=
 (zr (zR 3 (zk qO (za (zi 0) (za (zi 1) zf))))
 (zr (yn (yu (zb (su false) (zc 3) (cS .zo))) (retS (zi 2)) yw)
 (zr (ui 4 (xn zf))
 (zr (xX [5] (yy (zi 2)) (zw 5) jq)
 (gD 4 (retS (zk uq (za (zi 4) zf))))))))
def o8:Al:=zD ["floor","place","border","stall","pairs","pair"] 3 eN
abbrev XT:Sm:=
 (zr (yn (rH (xb (yv (FK "tuple" (zc 0)))) (yu (zb (zL true) (zk xo (za (zc 0) zf)) (cI 4)))) (retS (cS (.bl false))) yw)
 (zr (yn (rH (xb (yv (zk m_ (za (zb zm (zc 0) (cI 0)) zf)))) (xb (yv (zk mZ (za (zb zm (zc 0) (cI 1)) zf))))) (retS (cS (.bl false))) yw)
 (retS (wo (zk mX (za (zb zm (zc 0) (cI 2)) (za (zk xo (za (zb zm (zc 0) (cI 1)) zf)) zf))) (zk mY (za (zb zm (zc 0) (cI 3)) (za (zb zm (zc 0) (cI 1)) zf)))))))
def mK:Al:=zD ["thing"] 1 XT
abbrev k_:Ag:=
 yA [none,↑0] (yy (zk mF (za (zi 0) (za (zi 1) zf)))) (zw 0) xt (zb zm (zb zm (zc 1) (cI 2)) (zc 0))
abbrev kT:Ag:=
 yA [none,↑0,↑2] (yy (zc 3)) (zw 0) xt (zk mW (za (zb zm (zc 1) (cI 0)) (za (zi 0) (za (zb zm (zc 2) (zb zm (zc 0) (cI 1))) zf))))
abbrev XD:Sm:=
 (zr (zR 3 k_)
 (zr (zR 4 kT)
 (zr (yn (yu (zb (zL false) (zb zm (zb zm (zc 0) (cI 1)) (zc 1)) (cS (.str "keeper")))) (retS (zk o8 (za (zi 0) (za (zi 1) (za (zk mU (za (zi 4) zf)) zf))))) yw)
 (retS (zk mV (za (zi 4) zf))))))
def mI:Al:=zD ["floor","place","last","ways","ahead"] 3 XD
abbrev kZ:Ag:=
 yA [none,↑2] (yy (zb zm (zc 0) (cI 2))) (zw 0) (yu (zb (uE false) (zb zm (zc 0) (cI 1)) (zc 1))) (zb zm (zc 0) (cI 0))
abbrev jl:Sm:=
 (bP 3 (zc 4) (zk mI (za (zi 0) (za (zi 4) (za (zi 1) zf)))))
abbrev XC:Sm:=
 (zr (ui 3 (zk listS (za (zc 1) zf)))
 (zr (xX [4] (yy (zk tX (za kZ zf))) (zw 4) jl)
 (uY 3)))
def oy:Al:=zD ["floor","last","fresh","following","place"] 3 XC
abbrev jc:Ag:=
 yA [none] (yy (zb yg (zc 2) (zc 3))) (zw 0) xt (zk jB (za (zi 0) zf))
abbrev XW:Sm:=
 (zr (yn (xb (yv (zk (uP λ bs=>bs.all id) (za jc zf)))) iL yw)
 (zr (zR 4 (tupS (za (zi 0) (za (zk tW (za (zc 1) zf)) (za (zk tW (za (zk vQ (za (zc 2) zf)) zf)) (za (zk tW (za (zk vQ (za (zc 3) zf)) zf)) zf))))))
 (zr (yn (xb (yv (zk mK (za (zi 4) zf)))) iL yw)
 (retS (zi 4)))))
def mM:Al:=zD ["brims","owners","ways","stalls","floor"] 4 XW
abbrev mm:Ag:=
 yA [none,none,↑3] (xa rG (za (zc 4) zf)) (vn 2 (yT (zw 0) (yT (zw 1) u9))) (yu (zb (zL true) (zc 1) (zb zm (zc 2) (zc 0)))) (zi 0)
abbrev tI:Sm:=
 (zr (zR 3 (zb zm (zc 1) (nC (cI 1))))
 (zr (zR 4 (zk oy (za (zi 0) (za (zi 3) (za (zi 2) zf)))))
 (zr (zR 2 mm)
 (yn (yv (zc 2)) (xA 1 (zi 4)) yw))))
abbrev X9:Sm:=
 (zr (ui 1 (xn (za (zb tf (xn (za (tupS (za (tupS (za (cI 0) (za (cI 0) zf))) zf)) zf)) (zk qP (za (zi 0) zf))) zf)))
 (zr (zR 2 (zk nG (za (zk qP (za (zi 0) zf)) zf)))
 (zr (oJ 1000000 [3,4] (yv (zc 2)) tI)
 (uY 1))))
def mG:Al:=zD ["floor","told","fresh","last","following"] 1 X9
abbrev X6:Sm:=
 (retS (zk mM (za (zi 1) (za (zb zm (zc 0) (cI 1)) (za (zk listS (za (zb zm (zc 0) (cI 2)) zf)) (za (zk listS (za (zb zm (zc 0) (cI 3)) zf)) zf))))))
def qN:Al:=zD ["floor","brims"] 2 X6
abbrev Wb:Sm:=
 (retS (zb zm (zk mG (za (zi 0) zf)) (nC (cI 1))))
def qS:Al:=zD ["floor"] 1 Wb
abbrev XX:Sm:=
 (zr (qe uu (za (zi 0) (za (zi 1) zf)))
 (zr (qe mR (za (zi 0) (za (zi 2) zf)))
 (lM (zk jD (za (zb zm (zk qS (za (zi 0) zf)) (zc 1)) (za (zi 2) zf))))))
def tQ:Al:=zD ["floor","place","pair"] 3 XX
abbrev Yr:Sm:=
 (yn (xb (yv (zk jC (za (zi 3) zf)))) (oY "NoCount" "told" (zi 3)) yw)
abbrev qD:Ag:=
 yA [none,↑2] (yy (zb zm (zk qS (za (zi 0) zf)) (zc 1))) (zw 0) xt (tupS (za (zk jE (za (zi 0) (za (zi 1) zf))) (za (zi 0) zf)))
abbrev lh:Sm:=
 (zr (qe uu (za (zi 0) (za (zi 1) zf)))
 (zr (xX [3] (yy (tupS (za (zb zm (zc 2) (cI 0)) (za (zb zm (zc 2) (cI 1)) zf)))) (zw 3) Yr)
 (lM (zk pE (za qD zf)))))
def vK:Al:=zD ["floor","place","prices","price"] 3 lh
abbrev qB:Ag:=
 yA [none,↑0,↑1] (yy (zk o7 (za (zi 2) zf))) (zw 0) (yv (zk (nA tQ) (za (zk qN (za (zi 1) (za (zi 0) zf))) (za (zi 2) (za (zi 0) zf))))) (zi 0)
abbrev jI:Sm:=
 (zr (qe uu (za (zi 0) (za (zi 1) zf)))
 (zr (yn (xb (yv (zk tN (za (zi 2) (za (cI 0) (za (cI 3) zf)))))) (oY "NoCount" "told" (zi 2)) yw)
 (lM (zk uq (za qB zf)))))
def ur:Al:=zD ["floor","place","most"] 3 jI
abbrev eI:Sm:=
 (zr (zR 4 (cS .zo))
 (zr (dB 5 4 (yn (yu (zb (zL false) (zc 0) (cI 0))) (qe vK (za (zi 1) (za (zi 2) (za (zi 3) zf)))) (qe ur (za (zi 1) (za (zi 2) (za (zi 3) zf))))))
 (retS (zi 4))))
def tM:Al:=zD ["_law_way_here","_law_floor_here","_law_place","_law_thing","_law_caught_here","e"] 4 eI
abbrev my:Sm:=
 (zr (zR 3 (zk sQ (za (zk sS (za (zi 0) (za (zi 2) zf))) (za (cI 8) zf))))
 (zr (zR 4 (zk sR (za (zb zm (zc 3) (cI 0)) (za (zb yi (zb zm (zc 3) (cI 1)) (zk xo (za (zb zm (zc 1) (cI 1)) zf))) (za (zk xo (za (zb zm (zc 1) (cI 1)) zf)) zf)))))
 (zr (zR 5 (tupS (za (zk sR (za (zb zm (zc 3) (cI 2)) (za (zb yi (zb zm (zc 3) (cI 3)) (cI 50)) (za (cI 0) zf)))) (za (zk sR (za (zb zm (zc 3) (cI 4)) (za (zb yi (zb zm (zc 3) (cI 5)) (cI 50)) (za (cI 0) zf)))) zf))))
 (zr (zR 6 (zk sR (za (zb zm (zc 3) (cI 6)) (za (zb yi (zb zm (zc 3) (cI 7)) (cI 4)) (za (cI 4) zf)))))
 (zr (yn (xb (yv (zk uS (za (zk tM (za (cI 0) (za (zi 1) (za (zi 4) (za (zi 5) zf))))) (za (zk rZ (za (zi 1) (za (zi 4) (za (zi 5) (za (zb yZ (cI 10) (cI 50)) zf))))) zf))))) (retS (cS (.bl false))) yw)
 (yn (xb (yv (zk uS (za (zk tM (za (cI 1) (za (zi 1) (za (zi 4) (za (zi 6) zf))))) (za (zk rZ (za (zi 1) (za (zi 4) (za (xn (za (zi 6) zf)) (za (cI 3) zf))))) zf))))) (retS (cS (.bl false))) yw))))))
abbrev XQ:Sm:=
 (zr (zR 1 (zk qR (za (zk sS (za (zi 0) (za (cI 1) zf))) (za (cI 2) (za (cI 3) zf)))))
 (zr (xX [2,3,4,5,6] (xa o_ (za (cI 2) (za (zk rn (za (cI 3) (za (zk rm (za (zk xo (za (zc 0) zf)) (za (cI 42) zf))) zf))) (za (cI 14) zf)))) (zw 2) my)
 (retS (cS (.bl true)))))
def o5:Al:=zD ["_law_script","_law_floor_here","_law_k","_law_xs","_law_place","_law_prices","_law_number"] 1 XQ
def VM (ps:List (Int×Int)) (h:ps.length<64):vQ [.lst (ps.map zj)]=↑(.lst ((tY ps).map zj)):=by
 change (vp (ps.map zj)).bind _=_;rw[Ui,BH,if_pos #[by simpa using h,λ r hr=>by let#[p,_,rfl]:=Ar.mp hr;simp[vq]],<- dJ,AU];rfl
def Lb {qs p:List (Int×Int)}{x:Int×Int}(hr:∀ r,qs++y9 r (qs.getLast?.map (·.2))=y9 (p++r) none) (hb:tH (qs.getLast?.map (·.2)) x.2=true) (r:List (Int×Int)):
  (qs++[x])++y9 r ((qs++[x]).getLast?.map (·.2))=y9 (p++[x]++r) none:=by
 have:=hr (x::r);rw[show y9 (x::r) (qs.getLast?.map (·.2))=x::y9 r ↑x.2 by rw[y9,if_pos hb]] at this;exists this
def Lc {qs p:List (Int×Int)}{x:Int×Int}(hr:∀ r,qs++y9 r (qs.getLast?.map (·.2))=y9 (p++r) none) (hb:tH (qs.getLast?.map (·.2)) x.2=false) (r:List (Int×Int)):
  qs++y9 r (qs.getLast?.map (·.2))=y9 (p++[x]++r) none:=by
 have:=hr (x::r);rw[show y9 (x::r) (qs.getLast?.map (·.2))=y9 r (qs.getLast?.map (·.2)) by rw[y9,if_neg (by rw[hb];nofun)]] at this;exists this
theorem mJ (ps:List (Int×Int)) (hl:ps.length<64):uq [.lst (ps.map zj)]=↑(.tup ((wC ps).map zj)):=by
 let#[Y',h1,qs,h2,h3,h4]:=tp (is:=[2]) (g:=zw 2) (b:=mx) zj (λ p Y=>∃ qs:List (Int×Int),Y=[↑(.im (.lst (ps.map zj))),↑(.own (.lst (qs.map zj))),none]/\qs.length<=p.length/\
   ∀ r,qs++y9 r (qs.getLast?.map (·.2))=y9 (p++r) none) (tY ps) [↑(.im (.lst (ps.map zj))),↑(.own (.lst [])),none] #[[],#[],#[],λ r=>#[]] (by
  rintro p x q e Y ⟨qs,rfl,hq,hr⟩;have hlen:p.length<64:=by
   have:=congrArg List.length e;rw[(j_ ps).length_eq] at this;simp at this;lia
  have app:tH (qs.getLast?.map (·.2)) x.2=true->∃ Iw:List (Int×Int),yz [2] [↑(.im (.lst (ps.map zj))),↑(.own (.lst (qs.map zj++[zj x]))),↑(.im (zj x))]=[↑(.im (.lst (ps.map zj))),↑(.own (.lst (Iw.map zj))),none]/\Iw.length<=(p++[x]).length/\∀ r,Iw++y9 r (Iw.getLast?.map (·.2))=y9 (p++[x]++r) none:=λ hb=>
   #[qs++[x],#[],by simp;lia,Lb hr hb]
  rcases List.eq_nil_or_concat qs with rfl | ⟨init,l,rfl⟩
  .exact#[_,?_,app (by simp[tH])];simp[turn,mx]
  .simp![List.concat_eq_append] at *;by_cases hb:x.2<l.2
   .exact#[_,?_,app (by simp[tH,hb])];simp at hq;simp[turn,mx,zj,hb,uB];lia
   .exact#[[↑(.im (.lst (ps.map zj))),↑(.own (.lst ((init++[l]).map zj))),↑(.im (zj x))],?_,init++[l],#[],by simp at hq ⊢;lia,Lc hr (by simp[tH];lia)];simp[turn,mx,zj,hb,uB])
 have h5:=h4 [];simp[y9] at h5;unfold uq XE;simp[VM ps hl,h1,h2,h5,wC]
theorem JS (b o:List (Int×Int)) (hl:b.length+o.length<64):mO [.tup (b.map zj),.tup (o.map zj)]=↑(.tup ((wC (b++o)).map zj)):=by
 have h:=mJ (b++o) (by exists hl);rw[Cf] at h;have:b.length+o.length<=16777216:=⋯;unfold mO XY;simp[h,this]
def r0 (p:Int×Int):List Int:=[p.1,0,p.2]
def r1 (p:Int×Int):List Int:=[p.1,1,p.2]
def ym (l:Option Int) (v:Int):Int:=match l with
 | none=>v
 | some m=>if m<v then m else v
def vT (l:Option Int) (sh:List (Int×Int)) (f:Int->Int×Int):List (Int×Int):=match l with
 | some m=>sh++[f m]
 | none=>sh
structure Sw (b o:List (Int×Int)) (p:List (List Int)) (l0 l1:Option Int) (sh:List (Int×Int)):Prop where
 i_:∀ x,r0 x∈p->∃ m,l0=↑m/\m<=x.2
 iZ:∀ x,r1 x∈p->∃ m,l1=↑m/\m<=x.2
 fG:∀ m,l0=↑m->∃ x,r0 x∈p/\x.2=m
 fF:∀ m,l1=↑m->∃ x,r1 x∈p/\x.2=m
 len:sh.length<=p.length
 snd:∀ s∈sh,(∃ x,r0 x∈p/\x.1<=s.1/\x.2<=s.2)/\∃ x,r1 x∈p/\x.1<=s.1/\x.2<=s.2
 all:∀ x y,r0 x∈p->r1 y∈p->∃ s∈sh,(s.1<=x.1\/s.1<=y.1)/\(s.2<=x.2\/s.2<=y.2)
def lQ {x y:Int×Int}(h:r0 x=r0 y):x=y:=by
 unfold r0 at h;injection h with h1 h2;injection h2 with _ h2;injection h2 with h2 _;show Prod.ext h1 h2
def lP {x y:Int×Int}(h:r1 x=r1 y):x=y:=by
 unfold r1 at h;injection h with h1 h2;injection h2 with _ h2;injection h2 with h2 _;show Prod.ext h1 h2
def p7 {x y:Int×Int}(h:r0 x=r1 y):False:=by
 unfold r0 r1 at h;injection h with h1 h2;injection h2 with h2 _;lia
def tj {p:List (List Int)}{a x:List Int}(h:a∈p++[x]):a∈p\/a=x:=by exists h
def Sw.VD {b o:List (Int×Int)}{p:List (List Int)}{l0 l1:Option Int}{sh:List (Int×Int)}(h:Sw b o p l0 l1 sh) (x:Int×Int) (hx:∀ y,r0 y∈p->y.1<=x.1) (hy:∀ y,r1 y∈p->y.1<=x.1):
  Sw b o (p++[r0 x]) ↑(ym l0 x.2) l1 (vT l1 sh λ m=>(x.1,if m>ym l0 x.2 then m else ym l0 x.2)):=by
 have lo:ym l0 x.2<=x.2/\∀ m,l0=↑m->ym l0 x.2<=m:=by
  unfold ym;cases l0 with
  | none=>show#[A3 _,nofun]
  | some m=>dsimp only;split <;> exact#[⋯,λ m' e=>?_] <;> cases e <;> lia
 have la:∃ y,r0 y∈p++[r0 x]/\y.2=ym l0 x.2:=by
  unfold ym;cases l0 with
  | none=>show#[x,#[],rfl]
  | some m=>
   dsimp only;split
   .let#[y,h1,h2]:=h.fG m rfl;show#[y,by simp[h1],h2]
   .show#[x,#[],rfl]
 have Ie:∀ s∈sh,(∃ x',r0 x'∈p++[r0 x]/\x'.1<=s.1/\x'.2<=s.2)/\∃ x',r1 x'∈p++[r0 x]/\x'.1<=s.1/\x'.2<=s.2:=λ s hs=>by
  let#[#[a,a1,a2],c,c1,c2]:=h.snd s hs;show#[#[a,by simp[a1],a2],c,by simp[c1],c2]
 exact#[λ y hm=>?_,λ y hm=>?_,λ m e=>?_,λ m e=>?_,?_,λ s hs=>?_,λ y z hm hz=>?_]
 .rcases tj hm with q | q
  .let#[m,e,q2]:=h.i_ y q;show#[_,rfl,by have:=lo.2 m e;lia]
  .cases lQ q;show#[_,rfl,lo.1]
 .rcases tj hm with q | q
  .show h.iZ y q
  .show (p7 q.symm).elim
 .cases e;show la
 .let#[y,q1,q2]:=h.fF m e;show#[y,by simp[q1],q2]
 .have:=h.len;cases l1 <;> simp[vT] <;> lia
 .cases l1 with
  | none=>show Ie s hs
  | some m=>
   rcases A4.mp hs with q | q
   .show Ie s q
   .obtain rfl:s=_:=by exists q
    let#[y,y1,y2]:=la;let#[z,z1,z2]:=h.fF m rfl;have Ew:=hy z z1;exact#[#[y,y1,?_,by dsimp only;split <;> lia],z,by simp[z1],Ew,by dsimp only;split <;> lia];rcases tj y1 with w | w
    .show hx y w
    .cases lQ w;show A3 _
 .have hz':r1 z∈p:=by
   rcases tj hz with q | q
   .show q
   .show (p7 q.symm).elim
  rcases tj hm with q | q
  .let#[s,s1,s2]:=h.all y z q hz';exact#[s,?_,s2];cases l1 <;> simp[vT,s1]
  .cases lQ q;let#[m,e,hm]:=h.iZ z hz';subst e;exact#[_,A5 _ Av,.inl (A3 _),?_];have:=lo.1;dsimp only;split <;> lia
def Sw.swap {b o:List (Int×Int)}{p:List (List Int)}{l0 l1:Option Int}{sh:List (Int×Int)}(x:Int×Int) (h:Sw b o p l0 l1 sh) (hx:∀ y,r0 y∈p->y.1<=x.1) (hy:∀ y,r1 y∈p->y.1<=x.1):
  Sw b o (p++[r1 x]) l0 ↑(ym l1 x.2) (vT l0 sh λ m=>(x.1,if ym l1 x.2>m then ym l1 x.2 else m)):=by
 have lo:ym l1 x.2<=x.2/\∀ m,l1=↑m->ym l1 x.2<=m:=by
  unfold ym;cases l1 with
  | none=>show#[A3 _,nofun]
  | some m=>dsimp only;split <;> exact#[⋯,λ m' e=>?_] <;> cases e <;> lia
 have la:∃ y,r1 y∈p++[r1 x]/\y.2=ym l1 x.2:=by
  unfold ym;cases l1 with
  | none=>show#[x,#[],rfl]
  | some m=>
   dsimp only;split
   .let#[y,h1,h2]:=h.fF m rfl;show#[y,by simp[h1],h2]
   .show#[x,#[],rfl]
 have Ie:∀ s∈sh,(∃ x',r0 x'∈p++[r1 x]/\x'.1<=s.1/\x'.2<=s.2)/\∃ x',r1 x'∈p++[r1 x]/\x'.1<=s.1/\x'.2<=s.2:=λ s hs=>by
  let#[#[a,a1,a2],c,c1,c2]:=h.snd s hs;show#[#[a,by simp[a1],a2],c,by simp[c1],c2]
 exact#[λ y hm=>?_,λ y hm=>?_,λ m e=>?_,λ m e=>?_,?_,λ s hs=>?_,λ y z hm hz=>?_]
 .rcases tj hm with q | q
  .show h.i_ y q
  .show (p7 q).elim
 .rcases tj hm with q | q
  .let#[m,e,q2]:=h.iZ y q;show#[_,rfl,by have:=lo.2 m e;lia]
  .cases lP q;show#[_,rfl,lo.1]
 .let#[y,q1,q2]:=h.fG m e;show#[y,by simp[q1],q2]
 .cases e;show la
 .have:=h.len;cases l0 <;> simp[vT] <;> lia
 .cases l0 with
  | none=>show Ie s hs
  | some m=>
   rcases A4.mp hs with q | q
   .show Ie s q
   .obtain rfl:s=_:=by exists q
    let#[y,y1,y2]:=la;let#[z,z1,z2]:=h.fG m rfl;have Ew:=hx z z1;exact#[#[z,by simp[z1],Ew,by dsimp only;split <;> lia],y,y1,?_,by dsimp only;split <;> lia];rcases tj y1 with w | w
    .show hy y w
    .cases lP w;show A3 _
 .have hm':r0 y∈p:=by
   rcases tj hm with q | q
   .show q
   .show (p7 q).elim
  rcases tj hz with q | q
  .let#[s,s1,s2]:=h.all y z hm' q;exact#[s,?_,s2];cases l0 <;> simp[vT,s1]
  .cases lP q;let#[m,e,hm]:=h.i_ y hm';subst e;exact#[_,A5 _ Av,.inr (A3 _),?_];have:=lo.1;dsimp only;split <;> lia
structure Lw (d:List (Key×T)) (l0 l1:Option Int):Prop where
 v0:yE d (.inl 0)=l0.map T.int
 v1:yE d (.inl 1)=l1.map T.int
 len:d.length=(if l0.isSome then 1 else 0)+if l1.isSome then 1 else 0
def Lw.U5 {d:List (Key×T)}{l0 l1:Option Int}(h:Lw d l0 l1) (v:Int):Lw (wA d (.inl 0) (.int v)) ↑v l1:=by
 exact#[by rw[lu];simp,by rw[lu];simpa using h.v1,?_];rw[b_,h.v0,h.len];cases l0 <;> cases l1 <;> simp
def Lw.U4 {d:List (Key×T)}{l0 l1:Option Int}(h:Lw d l0 l1) (v:Int):Lw (wA d (.inl 1) (.int v)) l0 ↑v:=by
 exact#[by rw[lu];simpa using h.v0,by rw[lu];simp,?_];rw[b_,h.v1,h.len];cases l0 <;> cases l1 <;> simp
def k7 {rows p q:List (List Int)}{x:List Int}(e:L4.xm rows=p++x::q) {a:List Int}(ha:a∈p) {i j:Int}{as xs:List Int}(h1:a=i::as) (h2:x=j::xs):i<=j:=by
 have h:=L4.lH rows;rw[e,Ej] at h;have:=h.2.2 a ha x Av;subst h1 h2;rw[HT.tq] at this;by_cases c:j=i
 .lia
 .rw[if_neg c] at this;have:=of_decide_eq_false this;lia
def Jn {a0 a1 a2:W}{d:List (Key×T)}{S:List T}{x k y:Int}{lk:Option Int}(hv:yE d (.inl k)=lk.map T.int) (hd:d.length<16777216):
  gT 3 (zc 6) (zk rm (za (zc 7) (za (gU 3 (zc 6) (zi 7)) zf))) [↑a0,↑a1,↑a2,↑(.own (.zC d)),↑(.own (.lst S)),↑(.im (.int x)),↑(.im (.int k)),↑(.im (.int y))] =
   ↑(.nx [↑a0,↑a1,↑a2,↑(.own (.zC (wA d (.inl k) (.int (ym lk y))))),↑(.own (.lst S)),↑(.im (.int x)),↑(.im (.int k)),↑(.im (.int y))]):=by
 have hm:rm [.int y,(yE d (.inl k)).getD (.int y)]=↑(.int (ym lk y)):=by rw[hv];cases lk <;> simp[ym]
 change (rm [.int y,(yE d (.inl k)).getD (.int y)]).bind _=_;rw[hm];show if_pos hd
def bS (S:List T) (x:Int):Option Int->Option Int->List T
 | some u,↑v=>S++[.tup [.int x,.int (if v>u then v else u)]]
 | _,_=>S
def Jo {a0 a1 a2:W}{d:List (Key×T)}{S:List T}{x:Int}{f g:Option W}{l0 l1:Option Int}(h:Lw d l0 l1) (hs:S.length<16777216):
  yn (yu (zb (zL false) (md 3) (cI 2))) (xA 4 (tupS (za (zi 5) (za (zk rn (za (qw 3 (cI 0)) (za (qw 3 (cI 1)) zf))) zf)))) yw [↑a0,↑a1,↑a2,↑(.own (.zC d)),↑(.own (.lst S)),↑(.im (.int x)),f,g] =
   ↑(.nx [↑a0,↑a1,↑a2,↑(.own (.zC d)),↑(.own (.lst (bS S x l0 l1))),↑(.im (.int x)),f,g]):=by
 have ht:zL false (.int d.length) (.int 2)=↑(.bl (l0.isSome&&l1.isSome)):=by
  rw[h.len];cases l0 <;> cases l1 <;> rfl
 have hT:yu (zb (zL false) (md 3) (cI 2)) [↑a0,↑a1,↑a2,↑(.own (.zC d)),↑(.own (.lst S)),↑(.im (.int x)),f,g]=↑(l0.isSome&&l1.isSome):=by
  change ((zL false (.int d.length) (.int 2)).bind _)=_;rw[ht];rfl
 exact (congrArg (Option.bind · _) hT).trans ?_;cases l0 with
 | none=>rfl
 | some u=>
  cases l1 with
  | none=>rfl
  | some v=>
   have hf:tupS (za (zi 5) (za (zk rn (za (qw 3 (cI 0)) (za (qw 3 (cI 1)) zf))) zf)) [↑a0,↑a1,↑a2,↑(.own (.zC d)),↑(.own (.lst S)),↑(.im (.int x)),f,g]=↑(.tup [.int x,.int (if v>u then v else u)]):=by simp[h.v0,h.v1]
   show (congrArg (Option.bind · _) hf).trans (if_pos hs)
def Ya {a0 a1 a2:W}{d:List (Key×T)}{S:List T}{x k y:Int}{lk l0 l1:Option Int}(hv:yE d (.inl k)=lk.map T.int) (hd:d.length<16777216) (h:Lw (wA d (.inl k) (.int (ym lk y))) l0 l1) (hs:S.length<16777216):
  turn (vn 3 (yT (zw 5) (yT (zw 6) (yT (zw 7) u9)))) fC (.tup [.int x,.int k,.int y]) [↑a0,↑a1,↑a2,↑(.own (.zC d)),↑(.own (.lst S)),none,none,none] =
   ↑(.nx [↑a0,↑a1,↑a2,↑(.own (.zC (wA d (.inl k) (.int (ym lk y))))),↑(.own (.lst (bS S x l0 l1))),↑(.im (.int x)),↑(.im (.int k)),↑(.im (.int y))]):=
 (congrArg (Option.bind · _) (Jn hv hd)).trans (Jo h hs)
theorem JZ (b o:List (Int×Int)) (hl:b.length+o.length<64):∃ sh:List (Int×Int),mT [.tup (b.map zj),.tup (o.map zj)]=↑(.tup ((wC sh).map zj))/\sh.length<64/\∀ q,ya sh q=(ya b q&&ya o q):=by
 let a0:W:=.im (.tup (b.map zj))
 let a1:W:=.im (.tup (o.map zj))
 let rows:=b.map r0++o.map r1
 let a2:W:=.im (.lst (rows.map zu))
 have hlen:rows.length<64:=by simp[rows];show hl
 have hs:vQ [.lst (rows.map zu)]=↑(.lst ((L4.xm rows).map zu)):=by
  change ((vp (rows.map zu)).bind λ rs=>_)=_;rw[lL,BH,if_pos #[hlen,λ r hr=>by
   rcases A4.mp hr with h | h <;> let#[_,_,rfl]:=Ar.mp h <;> simp[r0,r1]]]
 have plen:(L4.xm rows).length=rows.length:=(L4.uX rows).length_eq;let#[Y1,h1,d,l0,l1,sh,e1,w1,s1]:=tp (is:=[5,6,7]) (g:=vn 3 (yT (zw 5) (yT (zw 6) (yT (zw 7) u9)))) (b:=fC) zu (λ p Y=>∃ d l0 l1 sh,Y=[↑a0,↑a1,↑a2,↑(.own (.zC d)),↑(.own (.lst (sh.map zj))),none,none,none]/\Lw d l0 l1/\Sw b o p l0 l1 sh) (L4.xm rows) [↑a0,↑a1,↑a2,↑(.own (.zC [])),↑(.own (.lst [])),none,none,none]
  #[[],none,none,[],#[],#[rfl,rfl,rfl],#[nofun,nofun,nofun,nofun,#[],nofun,nofun]] (by
  rintro p x q e Y ⟨d,l0,l1,sh,rfl,hw,Bv⟩;have hx:x∈rows:=(L4.uX rows).mem_iff.mp (by rw[e];simp);have Am:p.length<64:=by
   have:=congrArg List.length e;rw[plen] at this;simp at this;lia
  have Bw:sh.length<16777216:=by have:=Bv.len;lia
  have DD:d.length<16777216:=by rw[hw.len];split <;> split <;> lia
  rcases A4.mp hx with hm | hm
  .let#[y,_,rfl]:=Ar.mp hm;have st:=Bv.VD y (λ z hz=>k7 e hz rfl rfl) (λ z hz=>k7 e hz rfl rfl);have hw':=hw.U5 (ym l0 y.2);exact#[[↑a0,↑a1,↑a2,↑(.own (.zC (wA d (.inl 0) (.int (ym l0 y.2))))),↑(.own (.lst ((vT l1 sh λ m=>(y.1,if m>ym l0 y.2 then m else ym l0 y.2)).map zj))),↑(.im (.int y.1)),↑(.im (.int 0)),↑(.im (.int y.2))],?_,_,_,_,_,#[],hw',st];rw[show ((vT l1 sh λ m=>(y.1,if m>ym l0 y.2 then m else ym l0 y.2)).map zj)=bS (sh.map zj) y.1 ↑(ym l0 y.2) l1 by cases l1 <;> simp[vT,bS,zj]];show Ya hw.v0 DD hw' (by exists Bw)
  .let#[y,_,rfl]:=Ar.mp hm;have st:=Bv.swap y (λ z hz=>k7 e hz rfl rfl) (λ z hz=>k7 e hz rfl rfl);have hw':=hw.U4 (ym l1 y.2);exact#[[↑a0,↑a1,↑a2,↑(.own (.zC (wA d (.inl 1) (.int (ym l1 y.2))))),↑(.own (.lst ((vT l0 sh λ m=>(y.1,if ym l1 y.2>m then ym l1 y.2 else m)).map zj))),↑(.im (.int y.1)),↑(.im (.int 1)),↑(.im (.int y.2))],?_,_,_,_,_,#[],hw',st];rw[show ((vT l0 sh λ m=>(y.1,if ym l1 y.2>m then ym l1 y.2 else m)).map zj)=bS (sh.map zj) y.1 l0 ↑(ym l1 y.2) by cases l0 <;> simp[vT,bS,zj]];show Ya hw.v1 DD hw' (by exists Bw))
 have D1:sh.length<64:=by have:=s1.len;lia
 exact#[sh,?_,D1,λ q=>?_]
 .subst e1;have IC:Z_ [↑a0,↑a1,none,none,none,none,none,none]=↑(.lst ((b.map r0).map zu)):=by
   rw[AU];show xw zj (zu ∘ r0) b (by simp[a0]) ⋯ λ y _=>by simp[zj,zu,r0]
  have GA:ZY [↑a0,↑a1,none,none,none,none,none,none]=↑(.lst ((o.map r1).map zu)):=by
   rw[AU];show xw zj (zu ∘ r1) o (by simp[a1]) ⋯ λ y _=>by simp[zj,zu,r1]
  have hF:=mJ sh D1;have z:b.length+o.length<=16777216:=⋯;simp![a0,a1,a2,rows,Cf] at IC GA hs h1;unfold mT Wa;simp[IC,GA,z,hs,h1,hF] at IC GA hs h1 ⊢;simp[IC,GA,z,hs,h1,hF]
 .have m0:∀ x,r0 x∈L4.xm rows↔x∈b:=λ x=>by
   rw[(L4.uX rows).mem_iff];constructor
   .intro h;rcases A4.mp h with h | h <;> let#[y,hy,e]:=Ar.mp h
    .cases lQ e;show hy
    .show (p7 e.symm).elim
   .show λ h=>C3 _ (List.mem_map_of_mem h)
  have m1:∀ x,r1 x∈L4.xm rows↔x∈o:=λ x=>by
   rw[(L4.uX rows).mem_iff];constructor
   .intro h;rcases A4.mp h with h | h <;> let#[y,hy,e]:=Ar.mp h
    .show (p7 e).elim
    .cases lP e;show hy
   .show λ h=>A5 _ (List.mem_map_of_mem h)
  rw[BX,Bc,xf,xf,xf];constructor
  .rintro⟨s,hs,g1,g2⟩;let#[#[x,x1,x2,x3],y,y1,y2,y3]:=s1.snd s hs;show#[#[x,(m0 x).mp x1,⋯,⋯],y,(m1 y).mp y1,⋯,⋯]
  .rintro⟨⟨x,x1,x2,x3⟩,y,y1,y2,y3⟩;let#[s,s1,g1,g2]:=s1.all x y ((m0 x).mpr x1) ((m1 y).mpr y1);show#[s,s1,⋯,⋯]
theorem kJ {α:Type}(enc:α->T) (n:Nat) (h:∀ x,dep (enc x)<=n):∀ xs:List α,xr (xs.map enc)<=n
 | []=>by simp[xr]
 | x::xs=>by
  have:=h x;have:=kJ enc n h xs;simp![Ax,xr];lia
def Kq (p:Int×Int):dep (zj p)<=1:=by simp[zj,dep,xr]
def Z6 (ps:List (Int×Int)):dep (.tup (ps.map zj))<=60:=by
 have:=kJ zj 1 Kq ps;simp![dep];lia
end zS
namespace zS
open PySem L2 L3 L5 RN
def bT (b:Bd):T:=.tup (b.map zj)
def rT (r:List Bd):T:=.lst (r.map bT)
def kt (b:Bool):T:=if b=true then .str "keeper" else .str "taker"
def zM (w:Wy):T:=.tup [.int w.f,.int w.t,.int w.a,.int w.b]
def wM (b:Bool):Int:=if b=true then 1 else 0
def zQ (s:Sl):T:=.tup [.int s.p,.int (wM s.pu),.int s.gv,.int s.gt]
def zp (F:zI):T:=.tup [.tup [.int F.A,.int F.B],.tup (F.os.map kt),.tup (F.ws.map zM),.tup (F.ss.map zQ)]
def eq_int (i j:Int) (neg:Bool):zL neg (.int i) (.int j)=↑(.bl (cond neg (!decide (i=j)) (decide (i=j)))):=by
 simp[zL,dep,eqT];cases neg <;> simp[Bool.beq_eq_decide_eq]
def ei (F:zI):qP [zp F]=↑(.int F.os.length):=by
 simp[qP,XA,zp]
def YQ (q p:Int×Int):oA [zj q,zj p]=↑(.bl (wj q p)):=by
 by_cases h1:p.1<=q.1 <;> by_cases h2:p.2<=q.2 <;> simp[oA,Wf,zj,wj,h1,h2]
def qE {α:Type}(g:α->Bool) (xs:List α):wX (xs.map λ x=>T.bl (g x))=↑(xs.map g):=by
 have:=Yg (xs.map g)
 rwa [AU] at this
theorem JO (ps:List (Int×Int)) (q:Int×Int) (hl:ps.length<=10000):jD [bT ps,zj q]=↑(.bl (ya ps q)):=by
 have hc:jb [↑(.im (bT ps)),↑(.im (zj q))]=↑(.lst (ps.map λ p=>T.bl (wj q p))):=by
  unfold jb;exact xw zj _ ps (by simp[bT]) ⋯ λ p _=>?_;simp[YQ]
 unfold jD XU;generalize jb=cc at hc ⊢;simp[hc,qE];rfl
theorem J_ (A B:Int) (w:Wy) (bd:Bd) (hl:bd.length<64):mW [.tup [.int A,.int B],zM w,bT bd]=↑(bT (m5 A B w.a w.b bd)):=by
 have h1:jd [↑(.im (.tup [.int A,.int B])),↑(.im (zM w)),↑(.im (bT bd)),none]=↑(.lst ((bd.map (x9 w.a w.b)).map zj)):=by
  rw[AU];unfold jd;exact xw zj _ bd (by simp[bT]) ⋯ λ p _=>?_;simp[zj,zM,x9,xJ,pQ]
 have h2:kU [↑(.im (.tup [.int A,.int B])),↑(.im (zM w)),↑(.im (bT bd)),↑(.im (.lst ((bd.map (x9 w.a w.b)).map zj)))]=↑(.lst (((bd.map (x9 w.a w.b)).filter (v9 A B)).map zj)):=by
  have:=nI zj (λ p=>if v9 A B p=true then ↑(zj p) else none) (pick:=[none,↑0]) (it:=yy (zc 3)) (g:=zw 0) (c:=yv (zk oA (za (zi 1) (za (zi 0) zf)))) (f:=zi 0) (Y:=[↑(.im (.tup [.int A,.int B])),↑(.im (zM w)),↑(.im (bT bd)),↑(.im (.lst ((bd.map (x9 w.a w.b)).map zj)))]) (bd.map (x9 w.a w.b)) #[] (by simp;lia) (λ p _=>by
   have e:T.tup [.int A,.int B]=zj (A,B):=rfl;have ga:wj (A,B) p=v9 A B p:=rfl;simp![sj,e];simp[YQ,ga];cases v9 A B p <;> simp)
  unfold kU;rw[this,show ∀ l:List (Int×Int),l.filterMap (λ p=>if v9 A B p=true then ↑(zj p) else none)=(l.filter (v9 A B)).map zj from λ l=>by
   induction l with
   | nil=>rfl
   | cons a l ih=>by_cases h:v9 A B a=true <;> simp[CG,h,ih]]
 have h3:=mJ ((bd.map (x9 w.a w.b)).filter (v9 A B)) (Nat.lt_of_le_of_lt (Dd _ _) (by exists hl));unfold mW We;generalize jd=d1 at h1 ⊢;generalize kU=d2 at h2 ⊢;generalize uq=ff at h3 ⊢;generalize (bd.map (x9 w.a w.b)).map zj=L1 at h1 h2;generalize (((bd.map (x9 w.a w.b)).filter (v9 A B)).map zj)=L2 at h2 h3;simp[h1,h2,h3];rfl
def JR (b c:Bd) (hl:b.length+c.length<64):mO [bT b,bT c]=↑(bT (ug b c)):=JS b c hl
def JY (b c:Bd) (hl:b.length+c.length<64):mT [bT b,bT c]=↑(bT (vE b c)):=by
 let#[sh,h1,_,h2]:=JZ b c hl;have:wC sh=vE b c:=ve.eq (h_ _) (h_ _) λ q=>by
  rw[kd,h2,<- Yb]
 rw[<- this];show h1
theorem JQ {A B:Int}(hA:0<=A/\A<=12) (bs:List Bd) (h:∀ b∈bs,Gd A B b):mU [.lst (bs.map bT)]=↑(bT (sG bs)):=by
 let#[Y',h1,h2]:=tp (is:=[2]) (g:=zw 2) (b:=jn) bT (λ p Y=>Y=[↑(.im (.lst (bs.map bT))),↑(.im (bT (p.foldl ug []))),none]) bs [↑(.im (.lst (bs.map bT))),↑(.im (bT [])),none] rfl (by
  rintro p x q e Y rfl;have g1:Gd A B (p.foldl ug []):=kE p [] Gd.nil λ c hc=>h c (by rw[e];simp[hc]);have g2:Gd A B x:=h x (by rw[e];simp);have l1:=g1.rp hA.1;have l2:=g2.rp hA.1;exact#[[↑(.im (.lst (bs.map bT))),↑(.im (bT (ug (p.foldl ug []) x))),↑(.im (bT x))],?_,#[]];simp[turn,jn,JR (p.foldl ug []) x ⋯])
 subst h2;unfold mU Wc;generalize jn=bb at h1 ⊢;have e:bT []=.tup []:=rfl;rw[e] at h1;simp[h1,sG]
theorem JX {A B:Int}(hA:0<=A/\A<=12) (hB:0<=B) (bs:List Bd) (h:∀ b∈bs,Gd A B b):mV [.lst (bs.map bT)]=↑(bT (ji bs)):=by
 let#[Y',h1,h2]:=tp (is:=[2]) (g:=zw 2) (b:=jo) bT (λ p Y=>Y=[↑(.im (.lst (bs.map bT))),↑(.im (bT (p.foldl vE xB))),none]) bs [↑(.im (.lst (bs.map bT))),↑(.im (bT xB)),none] rfl (by
  rintro p x q e Y rfl;have g1:Gd A B (p.foldl vE xB):=fx p xB (Gd.xB hA.1 hB) λ c hc=>h c (by rw[e];simp[hc]);have g2:Gd A B x:=h x (by rw[e];simp);have l1:=g1.rp hA.1;have l2:=g2.rp hA.1;exact#[[↑(.im (.lst (bs.map bT))),↑(.im (bT (vE (p.foldl vE xB) x))),↑(.im (bT x))],?_,#[]];simp[turn,jo,JY (p.foldl vE xB) x ⋯])
 subst h2;unfold mV Wd;generalize jo=bb at h1 ⊢;have e:bT xB=.tup [.tup [.int 0,.int 0]]:=rfl;rw[e] at h1;simp[h1,ji]
theorem bR {α:Type}{is:List Nat}{g:T->Ev->Option Ev}{b:Sm}(enc ret:α->T) (test:α->Bool) (Y0:Ev):∀ (xs:List α) (Y:Ev),yz is Y=Y0->
  (∀ x∈xs,∃ Y',yz is Y'=Y0/\turn g b (enc x) Y0=↑(if test x=true then .rt (ret x) else .nx Y'))->
  yK is g b (xs.map enc) Y=↑(match xs.find? test with | some x=>.rt (ret x) | none=>.nx Y0)
 | [],Y,h,_=>by rw[Bj,List.find?_nil,yK,h]
 | x::xs,Y,h,ht=>by
  rw[Ax,hG,h];let#[Y',h1,h2]:=ht x Av;rw[h2,BE];by_cases c:test x=true
  .rw[if_pos c,c];rfl
  .rw[if_neg c];rw[Bool.not_eq_true] at c;rw[c];show bR enc ret test Y0 xs Y' h1 λ y hy=>ht y (AD _ hy)
def JD (i a b:Int):tN [.int i,.int a,.int b]=↑(.bl (decide (a<=i)&&decide (i<=b))):=by
 have h:tP [.int i]=↑(.bl true):=by simp[tP,eK,xx]
 by_cases h1:a<=i <;> by_cases h2:i<=b <;> simp[tN,eJ,h,h1,h2]
theorem mS (F:zI) (p:Nat) (h:p<F.os.length):uu [zp F,.int p]=↑.zo:=by
 have h1:=JD p 0 ((F.os.length:Int)-1);rw[show decide ((0:Int)<=p)=true from zaA ⋯,show decide ((p:Int)<=(F.os.length:Int)-1)=true from zaA ⋯] at h1;have h2:=ei F;unfold uu eM;generalize zp F=fl at *;simp[h1,h2]
def K7 (pu:Bool) (A B:Int) (sp gv gt:Int) (x y:Int) (hg:1<=gv) (b0 b1:T) (hb:zm b0 (.int (wM pu))=↑(.int (if pu=true then B else A))) (HW:zm b1 (.int 2)=↑(.int gv)) (hs3:zm b1 (.int 3)=↑(.int gt)) (pr:T):
  ∀ (n m:Nat) (g t:Int) (acc:Bd),(if pu=true then B else A)+1-g<=n->n<m->acc.length+n<=1000->
  ∃ g' t',xV [] (yu (zb uC (zc 5) (zb zm (zc 0) (zc 3)))) qF m [↑(.im b0),↑(.im b1),↑(.im pr),↑(.im (.int (wM pu))),↑(.own (.lst (acc.map zj))),↑(.im (.int g)),↑(.im (.int t))]
   = ↑(.nx [↑(.im b0),↑(.im b1),↑(.im pr),↑(.im (.int (wM pu))),↑(.own (.lst ((acc++xN pu (if pu=true then B else A) gv gt n g t).map zj))),↑(.im (.int g')),↑(.im (.int t'))]):=by
 have BC:∀ (m:Nat) (g t:Int) (acc:Bd),¬ g<=(if pu=true then B else A)->xV [] (yu (zb uC (zc 5) (zb zm (zc 0) (zc 3)))) qF (m+1) [↑(.im b0),↑(.im b1),↑(.im pr),↑(.im (.int (wM pu))),↑(.own (.lst (acc.map zj))),↑(.im (.int g)),↑(.im (.int t))]
   = ↑(.nx [↑(.im b0),↑(.im b1),↑(.im pr),↑(.im (.int (wM pu))),↑(.own (.lst (acc.map zj))),↑(.im (.int g)),↑(.im (.int t))]):=λ m g t acc hn=>by
  unfold xV;simp![zm] at hb;simp[hb,hn]
 intro n
 induction n with
 | zero=>
  intro m g t acc h1 h2 h3;obtain⟨m,rfl⟩:∃ k,m=k+1:=#[m-1,⋯];exact#[g,t,?_];rw[BC m g t acc ⋯];simp[xN]
 | succ n ih=>
  intro m g t acc h1 h2 h3;obtain⟨m,rfl⟩:∃ k,m=k+1:=#[m-1,⋯];by_cases hc:g<=(if pu=true then B else A)
  .let#[g',t',e]:=ih m (g+gv) (xJ (t-gt)) (acc++[sd pu g t]) ⋯ ⋯ (by simp;lia);exact#[g',t',?_];have ID:qF [↑(.im b0),↑(.im b1),↑(.im pr),↑(.im (.int (wM pu))),↑(.own (.lst (acc.map zj))),↑(.im (.int g)),↑(.im (.int t))]=↑(.nx [↑(.im b0),↑(.im b1),↑(.im pr),↑(.im (.int (wM pu))),↑(.own (.lst ((acc++[sd pu g t]).map zj))),↑(.im (.int (g+gv))),↑(.im (.int (xJ (t-gt))))]):=by
    simp![zm] at HW hs3;have hl:acc.length<16777216:=⋯;unfold qF;cases pu <;> simp[wM,eq_int,HW,hs3,hl,pQ,xJ,sd,zj]
   unfold xV;simp![zm] at hb;generalize qF=bb at *;have e2:xN pu (if pu=true then B else A) gv gt (n+1) g t=sd pu g t::xN pu (if pu=true then B else A) gv gt n (g+gv) (xJ (t-gt)):=by
    rw[xN,if_pos hc]
   rw[e2];simp![List.append_assoc,List.singleton_append] at e;simp[hb,hc,ID];exists e
  .exact#[g,t,?_];rw[BC m g t acc hc,xN,if_neg hc,CF]
theorem JW {F:zI}(ok:F.Ok) (s:Sl) (hs:1<=s.gv/\0<=s.gt) (p:Int×Int) (h0:0<=p.1/\0<=p.2):mH [.tup [.int F.A,.int F.B],zQ s,zj p]=↑(.lst ((yF F s p).map zj)):=by
 let#[sp,pu,gv,gt]:=s;have a1:=ok.a1;have b1:=ok.b1;let#[g',t',h]:=K7 pu F.A F.B sp gv gt p.1 p.2 hs.1 (.tup [.int F.A,.int F.B]) (zQ #[sp,pu,gv,gt]) (by cases pu <;> simp[wM]) (by simp[zQ]) (by simp[zQ]) (zj p) 100 1000000 (v7 pu p) (sA pu p) [] (by cases pu <;> simp[v7] <;> lia) () #[];unfold mH XB oJ;generalize hb:qF=bb at h ⊢;unfold yF zI.yb;simp![Bj,List.nil_append] at h;cases pu <;> simp[zQ,wM,zj,v7,sA] at h ⊢ <;> simp[h]
theorem JG (F:zI) (p:Nat) (h:p<F.os.length) (hl:F.ss.length<=60):qO [zp F,.int p]=↑(match F.G1 p with | some s=>zQ s | none=>.zo):=by
 have Hx:=bR (is:=[2]) (g:=zw 2) (b:=mv) zQ zQ (λ s=>decide (s.p=p)) [↑(.im (zp F)),↑(.im (.int p)),none] F.ss [↑(.im (zp F)),↑(.im (.int p)),none] #[] λ s _=>#[[↑(.im (zp F)),↑(.im (.int p)),↑(.im (zQ s))],#[],by
  by_cases c:s.p=p
  .simp[turn,mv,zQ,eq_int,c]
  .have c':¬ ((s.p:Int)=(p:Int)):=⋯;simp[turn,mv,zQ,eq_int,c,c']]
 have h1:=mS F p h;have h2:zm (zp F) (.int 3)=↑(.tup (F.ss.map zQ)):=by simp[zp]
 unfold qO X8;generalize mv=bb,zp F=fl at *;simp![zm] at h2;unfold zI.G1;generalize F.ss.find? _=o at *;simp[h1,h2,Hx];cases o <;> simp
theorem Zr:∀ (ws:List Wy) (k:Nat),rF k (ws.map zM)=(ws.zipIdx k).map λ wi=>T.tup [.int (wi.2:Int),zM wi.1]
 | [],k=>rfl
 | w::ws,k=>by
  rw[Ax,rF,Zr ws (k+1),DJ,Ax]
theorem jK (f:Wy->Bool):∀ (ws:List Wy) (k:Nat),((ws.zipIdx k).filter λ wi=>f wi.1).map (λ wi=>wi.1)=ws.filter f
 | [],k=>rfl
 | w::ws,k=>by
  rw[DJ,List.filter_cons,List.filter_cons];by_cases c:f w=true
  .rw[if_pos (by show c),if_pos c,Ax,jK f ws]
  .rw[if_neg (by show c),if_neg c,jK f ws]
theorem JE (F:zI) (p:Nat) (h:p<F.os.length) (hl:F.ws.length<=60):mF [zp F,.int p]=↑(.lst (((F.ws.zipIdx).filter λ wi=>decide (wi.1.f=p)).map λ wi=>T.int (wi.2:Int))):=by
 have hc:kY [↑(.im (zp F)),↑(.im (.int p))]=↑(.lst (((F.ws.zipIdx).filter λ wi=>decide (wi.1.f=p)).map λ wi=>T.int (wi.2:Int))):=by
  have:=nI (λ wi:Wy×Nat=>T.tup [.int (wi.2:Int),zM wi.1]) (λ wi=>if wi.1.f=p then ↑(T.int (wi.2:Int)) else none) (pick:=[none,none,↑1]) (it:=xa rG (za (zb zm (zc 0) (cI 2)) zf)) (g:=vn 2 (yT (zw 0) (yT (zw 1) u9))) (c:=yu (zb (zL false) (zb zm (zc 1) (cI 0)) (zc 2))) (f:=zi 0) (Y:=[↑(.im (zp F)),↑(.im (.int p))]) (F.ws.zipIdx) (by
   rw[<- Zr];simp[zp]) (by simp;lia) (λ wi _=>by
   by_cases c:wi.1.f=p
   .simp[zM,eq_int,c]
   .have c':¬ ((wi.1.f:Int)=(p:Int)):=⋯;simp[zM,eq_int,c,c'])
  unfold kY;rw[this];congr 2
  induction F.ws.zipIdx with
  | nil=>rfl
  | cons a l ih=>by_cases c:a.1.f=p <;> simp[CG,c,ih]
 have h1:=mS F p h;unfold mF X7;generalize kY=cc,zp F=fl at *;generalize List.map (λ wi:Wy×Nat=>T.int (wi.2:Int)) _=LL at *;simp[h1,hc]
theorem Zp:∀ (b c:Bd),xk (b.map zj) (c.map zj)=decide (b=c)
 | [],[]=>by simp[xk]
 | [],_::_=>by simp[xk]
 | _::_,[]=>by simp[xk]
 | p::b,q::c=>by
  have h:=Zp b c;have e:eqT (zj p) (zj q)=decide (p=q):=by
   let#[p1,p2]:=p;let#[q1,q2]:=q;by_cases h1:p1=q1 <;> by_cases h2:p2=q2 <;> simp[zj,eqT,xk,h1,h2]
  rw[Ax,Ax,xk,e,h];by_cases h1:p=q <;> by_cases h2:b=c <;> simp[h1,h2]
def N3 (b c:Bd):zL true (bT b) (bT c)=↑(.bl (decide (b≠c))):=by
 have h1:dep (bT b)<=60:=Z6 b;have h2:dep (bT c)<=60:=Z6 c;unfold zL;rw[if_pos #[h1,h2]];change ↑(T.bl (!(xk (b.map zj) (c.map zj))))=_;rw[Zp];by_cases h:b=c <;> simp[h]
def kg (l:List Bd) (p:Nat) (h:p<l.length):zm (rT l) (.int p)=↑(bT (l.getD p [])):=by
 change L2.zy (l.map bT) (p:Int)=_;exact vG ?_;rw[AM,Be h,BJ,Be h];rfl
theorem JV {F:zI}(ok:F.Ok) (p:Nat) (hp:p<F.os.length) (b:Bd) (hb:Gd F.A F.B b):o8 [zp F,.int p,bT b]=↑(bT (match F.G1 p with | none=>b | some s=>ml F s b)):=by
 have h1:=JG F p hp ok.s8;cases hs:F.G1 p with
 | none=>
  rw[hs] at h1;unfold o8 eN;generalize qO=f1 at h1 ⊢;generalize zp F=fl,bT b=bb at *;have is1:su false .zo .zo=↑(.bl true):=rfl;simp[h1,is1]
 | some s=>
  rw[hs] at h1;replace h1:qO [zp F,.int p]=↑(zQ s):=h1;have Bf:s∈F.ss:=List.mem_of_find?_eq_some hs;have hsz:=ok.ss s Bf;have G0:(F.A+1)*(F.B+1)<64:=by
   rcases ok.sl with x | x
   .rw[x] at Bf;cases Bf
   .show x
  have a0:=ok.a0;have b0:=ok.b0;have EK:∀ x∈b,((yF F s x).length:Int)<=F.yb s.pu+1:=λ x hx=>by
   have q:=hb.v5 x hx;have:=ZU s.pu (F.yb s.pu) s.gv s.gt hsz.1 100 (v7 s.pu x) (sA s.pu x) (by unfold zI.yb v7;split <;> lia);have g0:0<=v7 s.pu x:=by unfold v7;split <;> lia
   unfold yF;lia
  have AL:∀ q:Bd,(∀ x∈q,x∈b)->((q.flatMap (yF F s)).length:Int)<=q.length*(F.yb s.pu+1):=λ q=>by
   induction q with
   | nil=>intro _;simp
   | cons x q ih=>
    intro hq;have i1:=ih λ y hy=>hq y (AD _ hy);have i2:=EK x (hq x Av);rw[List.flatMap_cons,Cj,Bb,Int.natCast_add,Int.natCast_add,Int.add_mul];lia
  have hlen:(b.flatMap (yF F s)).length<64:=by
   have h2:=AL b λ _ h=>h;have l1:=hb.rp a0;have l2:=hb.NX b0;have:((b.flatMap (yF F s)).length:Int)<64:=by
    exact Dc h2 (Dc ?_ G0);unfold zI.yb;split
    .show Ea l1 ⋯
    .rw[Int.mul_comm (F.A+1)];show Ea l2 ⋯
   lia
  have hbr:zm (zp F) (.int 0)=↑(.tup [.int F.A,.int F.B]):=by simp[zp]
  let#[Y',h2,h3]:=tp (is:=[5]) (g:=zw 5) (b:=jq) zj (λ q Y=>Y=[↑(.im (zp F)),↑(.im (.int p)),↑(.im (bT b)),↑(.im (zQ s)),↑(.own (.lst ((q.flatMap (yF F s)).map zj))),none]) b [↑(.im (zp F)),↑(.im (.int p)),↑(.im (bT b)),↑(.im (zQ s)),↑(.own (.lst [])),none] rfl (by
   rintro q x r e Y rfl;have hx:x∈b:=by rw[e];simp
   have q1:=hb.v5 x hx;have hF:=JW ok s hsz x #[q1.1.1,q1.2.1];have hl2:(q.flatMap (yF F s)).length+(yF F s x).length<=16777216:=by
    have e2:(b.flatMap (yF F s)).length=(q.flatMap (yF F s)).length+((yF F s x).length+(r.flatMap (yF F s)).length):=by rw[e];simp
    lia
   exact#[[↑(.im (zp F)),↑(.im (.int p)),↑(.im (bT b)),↑(.im (zQ s)),↑(.own (.lst (((q++[x]).flatMap (yF F s)).map zj))),↑(.im (zj x))],?_,#[]];have e3:((q++[x]).flatMap (yF F s)).map zj=(q.flatMap (yF F s)).map zj++(yF F s x).map zj:=#[];rw[e3];unfold turn jq;have l3:((q.flatMap (yF F s)).map zj).length+((yF F s x).map zj).length<=16777216:=by exists hl2
   generalize mH=ff,(q.flatMap (yF F s)).map zj=L1,(yF F s x).map zj=L2,zp F=fl at *;simp![zm] at hbr;simp[hbr,hF,l3])
  subst h3;have hF:=mJ (b.flatMap (yF F s)) hlen;have nn:su false (zQ s) .zo=↑(.bl false):=rfl;unfold o8 eN;generalize jq=bb,uq=ff,qO=f1,(b.flatMap (yF F s)).map zj=L1 at *;have hbT:xI (bT b)=↑(b.map zj):=rfl;generalize bT b=bt,zp F=fl,zQ s=st at *;simp[h1,nn,hbT,h2,hF];rfl
theorem JM {F:zI}(ok:F.Ok) (p:Nat) (hp:p<F.os.length) (l:List Bd) (hl:l.length=F.os.length) (hg:∀ b∈l,Gd F.A F.B b):mI [zp F,.int p,rT l]=↑(bT (yR F l p)):=by
 have h1:=JE F p hp ok.oO;have hw2:zm (zp F) (.int 2)=↑(.tup (F.ws.map zM)):=by simp[zp]
 have hw0:zm (zp F) (.int 0)=↑(.tup [.int F.A,.int F.B]):=by simp[zp]
 have hw1:zm (zp F) (.int 1)=↑(.tup (F.os.map kt)):=by simp[zp]
 have c1:k_ [↑(.im (zp F)),↑(.im (.int p)),↑(.im (rT l)),none,none]=↑(.lst ((F.ws.filter λ w=>decide (w.f=p)).map zM)):=by
  rw[<- jK (λ w=>decide (w.f=p)) F.ws 0,AU];unfold k_;exact xw (λ wi:Wy×Nat=>T.int (wi.2:Int)) _ ((F.ws.zipIdx).filter λ wi=>decide (wi.1.f=p)) ?_ (Bk (Dd _ _) (by rw[List.length_zipIdx];have:=ok.oO;lia)) λ wi C7=>?_
  .generalize mF=ff at *;simp[h1]
  .have hm:=(BI.mp C7).1;have hg:=List.mem_zipIdx_iff_getElem?.mp hm;have:L2.zy (F.ws.map zM) (wi.2:Int)=↑(zM wi.1):=by
    show vG (by rw[AM,hg];rfl)
   generalize zp F=fl at *;simp![zm] at hw2;simp[hw2,this]
 have c2:kT [↑(.im (zp F)),↑(.im (.int p)),↑(.im (rT l)),↑(.im (.lst ((F.ws.filter λ w=>decide (w.f=p)).map zM))),none]=↑(.lst ((wG F l p).map bT)):=by
  unfold wG;rw[AU];unfold kT;exact xw zM _ (F.ws.filter λ w=>decide (w.f=p)) #[] (Bk (Dd _ _) (by have:=ok.oO;lia)) λ w hw=>?_;have hm:=(BI.mp hw).1;have ht:w.t<l.length:=by rw[hl];show (ok.ws w hm).2
  have e1:=kg l w.t ht;have gb:Gd F.A F.B (l.getD w.t []):=by
   rw[BJ,Be ht];show hg _ (Ci ht)
  have l13:=gb.rp ok.a0;have a12:=ok.a1;have hF:=J_ F.A F.B w (l.getD w.t []) ⋯;have e2:zm (zM w) (.int 1)=↑(.int (w.t:Int)):=by simp[zM]
  obtain⟨bd,Bn⟩:∃ bd,l.getD w.t []=bd:=#[_,rfl];rw[Bn] at e1 gb hF;have E_:(l[w.t]?).getD []=bd:=by rw[<- Bn,BJ]
  generalize mW=ff,zp F=fl,rT l=rt,zM w=wt at *;simp![zm] at hw0 e1 e2;simp[hw0,e1,e2,hF,E_]
 have gah:=fM F l p;have c3:=JQ #[ok.a0,ok.a1] (wG F l p) gah;have c4:=JX #[ok.a0,ok.a1] ok.b0 (wG F l p) gah;have c5:=JV ok p hp (sG (wG F l p)) (kE _ _ Gd.nil gah);have ho:L2.zy (F.os.map kt) (p:Int)=↑(kt (F.os.getD p false)):=by
  exact vG ?_;rw[AM,Be hp,BJ,Be hp];rfl
 have hk:∀ b:Bool,zL false (kt b) (.str "keeper")=↑(.bl b):=λ b=>by cases b <;> rfl
 unfold mI XD;generalize k_=d1,kT=d2,mU=f1,mV=f2,o8=f3,((F.ws.filter λ w=>decide (w.f=p)).map zM)=L1,zp F=fl,rT l=rt at *;unfold yR;have GX:=hk (F.os.getD p false);generalize F.os.getD p false=kb at *;generalize kt kb=ktb at *;generalize (T.str "keeper")=ks at *;simp![zm] at hw1;cases kb with
 | true=>
  simp[c1,c2,hw1,ho,GX,c3,c5]
  all_goals (cases F.G1 p <;> rfl)
 | false=>simp[c1,c2,hw1,ho,GX,c4]
theorem kz {α β:Type}(c:α->Bool) (g:α->β):∀ l:List α,l.filterMap (λ x=>if c x=true then ↑(g x) else none)=(l.filter c).map g
 | []=>rfl
 | a::l=>by by_cases h:c a=true <;> simp[CG,h,kz c g l]
def MP (t:Nat) (fr:List Nat):uE false (.int t) (.lst (fr.map λ(k:Nat)=>T.int (k:Int)))=↑(.bl (fr.contains t)):=by
 have d1:xr (fr.map λ(k:Nat)=>T.int (k:Int))<=60:=by
  exact kJ _ 60 (λ x=>?_) fr;simp[dep]
 have d0:dep (.int (t:Int))<=60:=by simp[dep]
 unfold uE;change (if dep (.int (t:Int))<=60/\xr (fr.map λ(k:Nat)=>T.int (k:Int))<=60 then _ else _)=_;rw[if_pos #[d0,d1]];change ↑(T.bl ((fr.map λ(k:Nat)=>T.int (k:Int)).any λ x=>eqT x (.int t)))=_;congr 2;rw[BX,Bl,List.contains_iff_mem];constructor
 .rintro⟨x,hx,h⟩;let#[k,hk,rfl]:=Ar.mp hx;have:(k:Int)=(t:Int):=by simpa [eqT] using h
  have:k=t:=⋯;subst this;show hk
 .intro h;show#[_,Ar.mpr #[t,h,rfl],by simp[eqT]]
def JL {F:zI}(ok:F.Ok) (Fe:List Bd) (fr:List Nat) (hl:Fe.length=F.os.length) (hg:∀ b∈Fe,Gd F.A F.B b):
  oy [zp F,rT Fe,.lst (fr.map λ(k:Nat)=>T.int (k:Int))]=↑(rT (yd F Fe fr)):=by
 have hw2:zm (zp F) (.int 2)=↑(.tup (F.ws.map zM)):=by simp[zp]
 have c1:kZ [↑(.im (zp F)),↑(.im (rT Fe)),↑(.im (.lst (fr.map λ(k:Nat)=>T.int (k:Int)))),↑(.own (.lst (Fe.map bT))),none]=↑(.lst (((F.ws.filter λ w=>fr.contains w.t).map λ w=>(w.f:Int)).map T.int)):=by
  have:=nI zM (λ w=>if fr.contains w.t=true then ↑(T.int (w.f:Int)) else none) (pick:=[none,↑2]) (it:=yy (zb zm (zc 0) (cI 2))) (g:=zw 0) (c:=yu (zb (uE false) (zb zm (zc 0) (cI 1)) (zc 1))) (f:=zb zm (zc 0) (cI 0)) (Y:=[↑(.im (zp F)),↑(.im (rT Fe)),↑(.im (.lst (fr.map λ(k:Nat)=>T.int (k:Int)))),↑(.own (.lst (Fe.map bT))),none]) F.ws (by
    generalize zp F=fl at *;simp![zm] at hw2;simp[hw2]) (by have:=ok.oO;lia) (λ w _=>by
   have hi:=MP w.t fr;generalize (T.lst (fr.map λ(k:Nat)=>T.int (k:Int)))=ft,fr.contains w.t=cb at *;cases cb <;> simp[zM,hi])
  unfold kZ;rw[this];rw[kz (λ w:Wy=>fr.contains w.t) (λ w:Wy=>T.int (w.f:Int)),AU];rfl
 have D0:tX [.lst (((F.ws.filter λ w=>fr.contains w.t).map λ w=>(w.f:Int)).map T.int)]=↑(.lst ((xZ ((F.ws.filter λ w=>fr.contains w.t).map λ w=>(w.f:Int))).map T.int)):=by
  change (match vz (((F.ws.filter λ w=>fr.contains w.t).map λ w=>(w.f:Int)).map T.int) with | some ns=>_ | none=>_)=_;rw[kj];exact if_pos ?_;have:=Dd (λ w:Wy=>fr.contains w.t) F.ws;have:=ok.oO;simp![AH];lia
 have Bf:∀ k∈xZ ((F.ws.filter λ w=>fr.contains w.t).map λ w=>(w.f:Int)),∃ p:Nat,k=(p:Int)/\p<F.os.length/\uG F fr p=true:=λ k hk=>by
  let#[w,hw,rfl]:=Ar.mp (lY.mp hk);let#[w1,w2]:=BI.mp hw;show#[w.f,rfl,(ok.ws w w1).1,Bl.mpr #[w,w1,by exists w2]]
 have EA:∀ p:Nat,uG F fr p=true->(p:Int)∈xZ ((F.ws.filter λ w=>fr.contains w.t).map λ w=>(w.f:Int)):=λ p h=>by
  let#[w,w1,w2]:=Bl.mp h;have w3:w.f=p/\fr.contains w.t=true:=by exists w2
  show lY.mpr (Ar.mpr #[w,BI.mpr #[w1,w3.2],by rw[w3.1]])
 generalize xZ ((F.ws.filter λ w=>fr.contains w.t).map λ w=>(w.f:Int))=up at *;have ft:∃ t,(T.lst (fr.map λ(k:Nat)=>T.int (k:Int)))=t:=#[_,rfl];let#[Y',h1,h2]:=tp (is:=[4]) (g:=zw 4) (b:=jl) T.int (λ pre Y=>Y=[↑(.im (zp F)),↑(.im (rT Fe)),↑(.im (.lst (fr.map λ(k:Nat)=>T.int (k:Int)))),↑(.own (.lst (((List.range Fe.length).map λ(p:Nat)=>if (p:Int)∈pre then yR F Fe p else Fe.getD p []).map bT))),none]) up
   [↑(.im (zp F)),↑(.im (rT Fe)),↑(.im (.lst (fr.map λ(k:Nat)=>T.int (k:Int)))),↑(.own (.lst (Fe.map bT))),none] (by
  have e:(List.range Fe.length).map (λ(p:Nat)=>if (p:Int)∈([]:List Int) then yR F Fe p else Fe.getD p [])=Fe:=by
   exact En #[] λ i h1 h2=>?_;simp[h2]
  rw[e];rfl) (by
  rintro pre k q e Y rfl;let#[p,rfl,hp,hw]:=Bf k (by rw[e];simp);have hF:=JM ok p hp Fe hl hg;exact#[[↑(.im (zp F)),↑(.im (rT Fe)),↑(.im (.lst (fr.map λ(k:Nat)=>T.int (k:Int)))),↑(.own (.lst (((List.range Fe.length).map λ(i:Nat)=>if (i:Int)∈pre++[(p:Int)] then yR F Fe i else Fe.getD i []).map bT))),↑(.im (.int p))],?_,#[]];have EG:(((List.range Fe.length).map λ(i:Nat)=>if (i:Int)∈pre then yR F Fe i else Fe.getD i []).map bT).set p (bT (yR F Fe p))=((List.range Fe.length).map λ(i:Nat)=>if (i:Int)∈pre++[(p:Int)] then yR F Fe i else Fe.getD i []).map bT:=by
   exact En #[] λ i h1 h2=>?_;rw[List.getElem_set];simp![List.getElem_map,DV,A4,AX];by_cases c:p=i
   .subst c;simp
   .have c':¬ ((i:Int)=(p:Int)):=⋯;simp[c,c']
  have B_:wD (((List.range Fe.length).map λ(i:Nat)=>if (i:Int)∈pre then yR F Fe i else Fe.getD i []).map bT).length (p:Int)=↑p:=by
   unfold wD;simp![AH,C4];rw[if_pos ⋯,if_pos ⋯,CC]
  rw[<- EG];unfold turn jl;generalize mI=ff,(((List.range Fe.length).map λ(i:Nat)=>if (i:Int)∈pre then yR F Fe i else Fe.getD i []).map bT)=LL,zp F=fl,rT Fe=rl,(T.lst (fr.map λ(k:Nat)=>T.int (k:Int)))=ftt at *;simp[hF,B_])
 subst h2;have fin:((List.range Fe.length).map λ(p:Nat)=>if (p:Int)∈up then yR F Fe p else Fe.getD p [])=yd F Fe fr:=by
  unfold yd;exact DR λ p hp=>?_;by_cases c:uG F fr p=true
  .rw[if_pos c,if_pos (EA p c)]
  .rw[if_neg c,if_neg λ h=>c (by let#[p',e,_,h']:=Bf _ h;show (show p'=p by lia)▸h')]
 rw[fin] at h1;have hlist:listS [rT Fe]=↑(.lst (Fe.map bT)):=rfl;unfold oy XC;generalize kZ=cc,jl=bb,(((F.ws.filter λ w=>fr.contains w.t).map λ w=>(w.f:Int)).map T.int)=L1,C8:up.map T.int=L2,Fe.map bT=L3,zp F=fl at *;have EF:xI (rT Fe)=↑L3:=by exists hlist
 generalize rT Fe=rl,(T.lst (fr.map λ(k:Nat)=>T.int (k:Int)))=ftt at *;simp[EF,c1,D0,h1,rT]
theorem Zs {α:Type}(enc:α->T) (d:α) (fo:List α):∀ (l:List α) (k:Nat),(∀ i,l.getD i d=fo.getD (k+i) d)->rF k (l.map enc)=(List.range l.length).map λ(p:Nat)=>T.tup [.int ((k+p:Nat):Int),enc (fo.getD (k+p) d)]
 | [],k,_=>rfl
 | b::l,k,h=>by
  have h0:=h 0;rw[Ax,rF,Zs enc d fo l (k+1) λ i=>by have:=h (i+1);rw[show k+1+i=k+(i+1) from by lia];exists this];rw[Bb,Em,Ax,AU];have e:b=fo.getD k d:=by exists h0
  congr 1
  .rw[e];rfl
  .exact DR λ p _=>?_;simp![Function.comp];rw[show k+1+p=k+Nat.succ p from by lia]
def yS (fr:List Nat):T:=.lst (fr.map λ(k:Nat)=>T.int (k:Int))
def Jk (a:T) (b c:Option L5.W) (Fe fo:List Bd) (hl:fo.length=Fe.length) (h16:fo.length<=10000):mm [↑(.im a),b,c,↑(.im (rT Fe)),↑(.im (rT fo))]=↑(yS (xy Fe fo)):=by
 have:=nI (λ p:Nat=>T.tup [.int (p:Int),bT (fo.getD p [])]) (λ p=>if decide (fo.getD p []≠Fe.getD p [])=true then ↑(T.int (p:Int)) else none) (pick:=[none,none,↑3]) (it:=xa rG (za (zc 4) zf)) (g:=vn 2 (yT (zw 0) (yT (zw 1) u9))) (c:=yu (zb (zL true) (zc 1) (zb zm (zc 2) (zc 0)))) (f:=zi 0) (Y:=[↑(.im a),b,c,↑(.im (rT Fe)),↑(.im (rT fo))]) (List.range fo.length) (by
   have:=Zs bT [] fo fo 0 λ i=>by rw[Nat.zero_add]
   simp![Nat.zero_add] at this;have e:rG [rT fo]=↑(rF 0 (fo.map bT)):=rfl;rw[<- this];generalize rG=en at *;simp[e]) (by simp;lia) (λ p hp=>by
  have HI:p<Fe.length:=by rw[<- hl];show AO.mp hp
  have h1:=kg Fe p HI;have h2:=N3 (fo.getD p []) (Fe.getD p []);generalize fo.getD p []=x,Fe.getD p []=y,rT Fe=rl at *;generalize decide (x≠y)=d at *;simp![zm] at h1;cases d <;> simp[h1,h2])
 unfold mm;rw[this,kz (λ p:Nat=>decide (fo.getD p []≠Fe.getD p [])) (λ p:Nat=>T.int (p:Int))];rfl
theorem cu {F:zI}(ok:F.Ok):∀ (n:Nat) (pre:List (List Bd)) (Fe:List Bd) (fr:List Nat) (res:List (List Bd)),St F Fe fr->pz F n pre Fe fr=↑res->pre.length+n<=10000->∀ (m:Nat),n<m->∀ x3 x4:Option L5.W,
  ∃ fr',xV [3,4] (yv (zc 2)) tI m [↑(.im (zp F)),↑(.own (.lst ((pre++[Fe]).map rT))),↑(.im (yS fr)),x3,x4]=↑(.nx [↑(.im (zp F)),↑(.own (.lst (res.map rT))),↑(.im fr'),none,none])
 | 0,_,_,_,_,_,h,_,_,_,_,_=>by cases h
 | n+1,pre,Fe,fr,res,s,h,hn,m,hm,x3,x4=>by
  have BC:∀ (m:Nat) (Gz:List (List Bd)) (x3 x4:Option L5.W),xV [3,4] (yv (zc 2)) tI (m+1) [↑(.im (zp F)),↑(.own (.lst (Gz.map rT))),↑(.im (yS [])),x3,x4]=↑(.nx [↑(.im (zp F)),↑(.own (.lst (Gz.map rT))),↑(.im (yS [])),none,none]):=λ m Gz x3 x4=>by
   unfold xV;simp[yS]
  obtain⟨m,rfl⟩:∃ k,m=k+1:=#[m-1,⋯];unfold pz at h;by_cases AR:fr=[]
  .rw[if_pos AR] at h;cases h;subst AR;show#[_,BC m _ x3 x4]
  .rw[if_neg AR] at h;dsimp only at h;have hlen:=s.len;have n8:=ok.n8;have hF:=JL ok Fe fr s.len s.gd;have G4:zm (.lst ((pre++[Fe]).map rT)) (.int (-1))=↑(rT Fe):=by
    change L2.zy ((pre++[Fe]).map rT) (-1)=_;rw[Cf];show fD _ _
   have hc:=λ b c=>Jk (zp F) b c Fe (yd F Fe fr) (qm ..) (by rw[qm,s.len];lia);have Ay:s_ (yS fr)=↑true:=by
    cases fr with
    | nil=>show absurd rfl AR
    | cons a l=>rfl
   have hb:∃ HA,tI [↑(.im (zp F)),↑(.own (.lst ((pre++[Fe]).map rT))),↑(.im (yS fr)),none,none]=↑(.nx [↑(.im (zp F)),↑(.own (.lst (HA.map rT))),↑(.im (yS (xy Fe (yd F Fe fr)))),↑(.im (rT Fe)),↑(.im (rT (yd F Fe fr)))])/\HA=if xy Fe (yd F Fe fr)=[] then pre++[Fe] else pre++[Fe]++[yd F Fe fr]:=by
    have hl2:((pre++[Fe]).map rT).length<16777216:=by simp;lia
    by_cases hf:xy Fe (yd F Fe fr)=[]
    .exact#[pre++[Fe],?_,by rw[if_pos hf]];have ht:s_ (yS (xy Fe (yd F Fe fr)))=↑false:=by rw[hf];rfl
     unfold tI;generalize mm=cc,oy=ff,(pre++[Fe]).map rT=L1,yS (xy Fe (yd F Fe fr))=f2 at *;unfold yS at *;simp![zm] at G4;generalize (T.lst (fr.map λ(k:Nat)=>T.int (k:Int)))=f1,rT (yd F Fe fr)=r2,rT Fe=r1 at *;simp![xI] at G4;simp[-s_,G4,hF,hc,ht]
    .exact#[pre++[Fe]++[yd F Fe fr],?_,by rw[if_neg hf]];have ht:s_ (yS (xy Fe (yd F Fe fr)))=↑true:=by
      cases e:xy Fe (yd F Fe fr) with
      | nil=>show absurd e hf
      | cons a l=>rfl
     have e2:(pre++[Fe]++[yd F Fe fr]).map rT=(pre++[Fe]).map rT++[rT (yd F Fe fr)]:=#[];rw[e2];unfold tI;generalize mm=cc,oy=ff,(pre++[Fe]).map rT=L1,yS (xy Fe (yd F Fe fr))=f2 at *;unfold yS at *;simp![zm] at G4;generalize (T.lst (fr.map λ(k:Nat)=>T.int (k:Int)))=f1,rT (yd F Fe fr)=r2,rT Fe=r1 at *;simp![xI] at G4;simp[-s_,G4,hF,hc,ht,hl2]
   let#[HA,ID,hb2]:=hb;have key:∀ R,xV [3,4] (yv (zc 2)) tI m [↑(.im (zp F)),↑(.own (.lst (HA.map rT))),↑(.im (yS (xy Fe (yd F Fe fr)))),↑(.im (rT Fe)),↑(.im (rT (yd F Fe fr)))]=R->xV [3,4] (yv (zc 2)) tI (m+1) [↑(.im (zp F)),↑(.own (.lst ((pre++[Fe]).map rT))),↑(.im (yS fr)),x3,x4]=R:=λ R e=>by
    rw[xV];generalize hbb:tI=bb at *;generalize D2:xV [3,4] (yv (zc 2)) bb m=lw at *;have hf:yz [3,4] [↑(.im (zp F)),↑(.own (.lst ((pre++[Fe]).map rT))),↑(.im (yS fr)),x3,x4]=[↑(.im (zp F)),↑(.own (.lst ((pre++[Fe]).map rT))),↑(.im (yS fr)),none,none]:=rfl;rw[hf];have ht:yv (zc 2) [↑(.im (zp F)),↑(.own (.lst ((pre++[Fe]).map rT))),↑(.im (yS fr)),none,none]=↑true:=by
     generalize yS fr=f1 at *;simp[-s_,Ay]
    rw[ht,BH,if_pos rfl,ID,BH];show e
   by_cases hf:xy Fe (yd F Fe fr)=[]
   .rw[if_pos hf] at h hb2;cases h;subst hb2;rw[hf] at key;obtain⟨m,rfl⟩:∃ k,m=k+1:=#[m-1,⋯];show#[_,key _ (BC m _ _ _)]
   .rw[if_neg hf] at h hb2;subst hb2;let#[fr',e]:=cu ok n (pre++[Fe]) (yd F Fe fr) (xy Fe (yd F Fe fr)) res (s.next ok) h (by simp;lia) m ⋯ ↑(.im (rT Fe)) ↑(.im (rT (yd F Fe fr)));show#[fr',key _ e]
theorem JH {F:zI}(ok:F.Ok):∃ more,mG [zp F]=↑(.lst ((RN.start F::more).map rT))/\(∀ r∈RN.start F::more,r.length=F.os.length/\∀ b∈r,Gd F.A F.B b)/\more.length<=2000/\pz F 2000 [] (RN.start F) (List.range F.os.length)=↑(RN.start F::more):=by
 have hmu:=bL (RN.start F);have Bw:(RN.start F).length=F.os.length:=by unfold RN.start;simp
 have n8:=ok.n8;have n1:=ok.n1;let#[more,HF,e1,e2,_,e4]:=cw ok 2000 [] (RN.start F) (List.range F.os.length) (St.start ok) ⋯;let#[fr',e]:=cu ok 2000 [] (RN.start F) (List.range F.os.length) _ (St.start ok) e1 #[] 1000000 () none none;exact#[more,?_,e2,⋯,e1];have hp:=ei F;have AG:rT (RN.start F)=.lst (List.replicate F.os.length (.tup [.tup [.int 0,.int 0]])):=by
  unfold rT RN.start;rw[List.map_replicate];rfl
 have hmul:tf (.lst [.tup [.tup [.int 0,.int 0]]]) (.int F.os.length)=↑(rT (RN.start F)):=by
  rw[AG];unfold tf;dsimp only;rw[if_pos #[#[],⋯,⋯,NT (by simp;lia)]];have:∀ n:Nat,(List.replicate n [T.tup [.tup [.int 0,.int 0]]]).flatten=List.replicate n (.tup [.tup [.int 0,.int 0]]):=λ n=>by
   induction n with
   | zero=>rfl
   | succ n ih=>rw[Cc,Cc,Cy,ih];rfl
  rw[CC,this]
 have Co:nG [.int F.os.length]=↑(yS (List.range F.os.length)):=by
  change (if 0<=(F.os.length:Int)/\(F.os.length:Int)<=16777216 then ↑(T.lst (rangeT 0 (F.os.length:Int).toNat)) else none)=_;rw[if_pos #[⋯,⋯]];change ↑(T.lst ((List.range (F.os.length:Int).toNat).map λ(k:Nat)=>T.int (0+(k:Int))))=_;rw[CC];unfold yS;simp
 unfold mG X9 oJ;generalize tI=bb,qP=ff,nG=lr at *;simp![List.nil_append,Ax,Bj] at e;generalize yS (List.range F.os.length)=f1 at *;rw[Ax];generalize rT (RN.start F)=r0,zp F=fl,D2:xV [3,4] (yv (zc 2)) bb 1000000=lw,tf=mw at *;simp[hp,hmul,Co,e]
def nD (i j:Int):tf (.int i) (.int j)=if vM i j then ↑(.int (i*j)) else none:=rfl
def MM {r:List Int}{rs:List (List Int)}:vz ((r::rs).map zu)=none:=rfl
def VH (rs:List (List Int)) (h0:rs≠[]) (hl:rs.length<64) (hn:∀ r∈rs,r≠[]):tX [.lst (rs.map zu)]=↑(.lst ((L4.xm (wc rs)).map zu)):=by
 cases rs with
 | nil=>show absurd rfl h0
 | cons r rs=>
  change (match vz ((r::rs).map zu) with
   | some ns=>if ns.length<64 then ↑(T.lst ((xZ ns).map T.int)) else none
   | none=>lG [T.lst ((r::rs).map zu)])=_
  rw[MM];change (vp ((r::rs).map zu)).bind _=_;rw[lL,BH,if_pos #[hl,hn]]
def b6 {f:T->T->Option T}{fa fb:Ag}{Y:Ev}{x y:T}{r:Option T}(h1:fa Y=↑x) (h2:fb Y=↑y) (h:f x y=r):zb f fa fb Y=r:=by
 change (fa Y).bind _=r;rw[h1];change (fb Y).bind _=r;rw[h2];show h
theorem UM (n:Nat) (h:n<=1000):yZ (.int 10) (.int (n:Int))=↑(.int (10 ^ n)):=by
 have hc:tT 10 (n:Int):=#[⋯,⋯,()];change (if tT 10 (n:Int) then ↑(T.int (10 ^ (n:Int).toNat)) else none)=_;rw[if_pos hc,CC]
def ni (n:Nat) (h:n<=1000) (Y:Ev):zb yZ (cI 10) (cS (.int (n:Int))) Y=↑(.int (10 ^ n)):=b6 rfl rfl (UM n h)
def VC (c:Int) (n:Nat) (hn:n<=100) (o6:Ag) (q6:Int) (h6:∀ Y,o6 Y=↑(.int q6)) (g6:0<q6/\q6<2 ^ 200) (Ha:Int):
  ∃ (v:Int) (xs:List Int),yK [4] (zw 4) (zr (xA 2 (zb yi (zc 3) o6)) (zR 3 (zb xM (zc 3) o6))) ((List.range n).map λ(k:Nat)=>T.int (0+(k:Int))) [↑(.im (.int c)),↑(.im (.int n)),↑(.own (.lst [])),↑(.im (.int Ha)),none]
   = ↑(.nx [↑(.im (.int c)),↑(.im (.int n)),↑(.own (.lst (xs.map T.int))),↑(.im (.int v)),none])/\xs.length=n:=by
 let#[Y',h1,v,xs,h2,h3]:=tp (is:=[4]) (g:=zw 4) (b:=(zr (xA 2 (zb yi (zc 3) o6)) (zR 3 (zb xM (zc 3) o6)))) (λ k:Nat=>T.int (0+(k:Int))) (λ p Y=>∃ (v:Int) (xs:List Int),Y=[↑(.im (.int c)),↑(.im (.int n)),↑(.own (.lst (xs.map T.int))),↑(.im (.int v)),none]/\xs.length=p.length)
   (List.range n) [↑(.im (.int c)),↑(.im (.int n)),↑(.own (.lst [])),↑(.im (.int Ha)),none] #[Ha,[],rfl,rfl] (by
  rintro p k q e Y ⟨v,xs,rfl,r1⟩;have hp:p.length<n:=by have:=congrArg List.length e;simp at this;lia
  have hl:(xs.map T.int).length<16777216:=by simp;lia
  have d6:uU v q6:=g6;have p6:=g6.1;exact#[[↑(.im (.int c)),↑(.im (.int n)),↑(.own (.lst ((xs++[v%q6]).map T.int))),↑(.im (.int (v/q6))),↑(.im (.int (0+(k:Int))))],?_,v/q6,xs++[v%q6],#[],by simp[r1]];have e2:(xs++[v%q6]).map T.int=xs.map T.int++[.int (v%q6)]:=#[];rw[e2];generalize xs.map T.int=L,(0+(k:Int))=kk at *;simp[turn,h6,hl,d6,p6])
 subst h2;show#[v,xs,h1,by exists h3]
def VB (c:Int) (n:Nat) (hn:n<=100) (oM o22 o23 o9:Ag) (M q22 HE q9:Int) (hM:∀ Y,oM Y=↑(.int M)) (h22:∀ Y,o22 Y=↑(.int q22)) (h23:∀ Y,o23 Y=↑(.int HE)) (h9:∀ Y,o9 Y=↑(.int q9))
  (gM:0<M/\M<2 ^ 180) (g22:0<q22/\q22<2 ^ 200) (g23:0<HE/\HE<2 ^ 200) (g9:0<q9/\q9<2 ^ 200) (Ha:Int) (EN:0<=Ha/\Ha<2 ^ 181):
  ∃ (v:Int) (xs:List Int),yK [4] (zw 4) (zr (zR 3 (zb yi (zb yg (zb yg (zb wB (zc 3) (cI 52027)) (zb xM (zc 3) o22)) (zb wB (cI 13) (zc 4))) oM)) (xA 2 (zb xM (zb wB (zc 3) (zb yg (zb xM (zc 3) o23) (cI 7))) o9))) ((List.range n).map λ(k:Nat)=>T.int (0+(k:Int))) [↑(.im (.int c)),↑(.im (.int n)),↑(.own (.lst [])),↑(.im (.int Ha)),none]
   = ↑(.nx [↑(.im (.int c)),↑(.im (.int n)),↑(.own (.lst (xs.map T.int))),↑(.im (.int v)),none])/\xs.length=n:=by
 let#[Y',h1,v,xs,h2,h3,h4]:=tp (is:=[4]) (g:=zw 4) (b:=(zr (zR 3 (zb yi (zb yg (zb yg (zb wB (zc 3) (cI 52027)) (zb xM (zc 3) o22)) (zb wB (cI 13) (zc 4))) oM)) (xA 2 (zb xM (zb wB (zc 3) (zb yg (zb xM (zc 3) o23) (cI 7))) o9)))) (λ k:Nat=>T.int (0+(k:Int)))
   (λ p Y=>∃ (v:Int) (xs:List Int),Y=[↑(.im (.int c)),↑(.im (.int n)),↑(.own (.lst (xs.map T.int))),↑(.im (.int v)),none]/\xs.length=p.length/\0<=v/\v<2 ^ 181)
   (List.range n) [↑(.im (.int c)),↑(.im (.int n)),↑(.own (.lst [])),↑(.im (.int Ha)),none] #[Ha,[],rfl,rfl,EN] (by
  rintro p k q e Y ⟨v,xs,rfl,r1,r2,r3⟩;have hp:p.length<n:=by have:=congrArg List.length e;simp at this;lia
  have hk:k<n:=AO.mp (by rw[e];simp);have hl:(xs.map T.int).length<16777216:=by simp;lia
  generalize hu:(v*52027+v/q22+13*(0+(k:Int)))%M=u;have u0:0<=u:=by rw[<- hu];show BU _ ⋯
  have u1:u<M:=by rw[<- hu];show B4 _ gM.1
  have d22:uU v q22:=g22;have m1:tU v 52027:=#[⋯,()];have m2:tU 13 (0+(k:Int)):=#[(),⋯];have pM:=gM.1;have d23:uU u HE:=g23;have w0:0<=u/HE:=Int.ediv_nonneg u0 ⋯;have w1:u/HE<=u:=Int.ediv_le_self _ u0;have m3:tU u (u/HE+7):=#[⋯,⋯];have d9:uU (u*(u/HE+7)) q9:=g9;exact#[[↑(.im (.int c)),↑(.im (.int n)),↑(.own (.lst ((xs++[u*(u/HE+7)/q9]).map T.int))),↑(.im (.int u)),↑(.im (.int (0+(k:Int))))],?_,u,xs++[u*(u/HE+7)/q9],#[],by simp[r1],u0,⋯];have e2:(xs++[u*(u/HE+7)/q9]).map T.int=xs.map T.int++[.int (u*(u/HE+7)/q9)]:=#[];rw[e2];generalize xs.map T.int=L,(0+(k:Int))=kk at *;simp[turn,hM,h22,h23,h9,hl,d22,m1,m2,pM,hu,d23,m3,d9])
 subst h2;show#[v,xs,h1,by exists h3]
def J7 (i:Int):0<=(if i<0 then -i else i):=by split <;> lia
theorem YJ (c:Int) (n:Nat) (hn:n<=100):∃ xs:List Int,sQ [.int c,.int n]=↑(.lst (xs.map T.int))/\xs.length=n:=by
 obtain⟨q6,h6,g6⟩:∃ q:Int,(∀ Y,zb yZ (cI 10) (cI 6) Y=↑(.int q))/\0<q/\q<2 ^ 200:=#[_,ni 6 (),AI];obtain⟨q9,h9,g9⟩:∃ q:Int,(∀ Y,zb yZ (cI 10) (cI 9) Y=↑(.int q))/\0<q/\q<2 ^ 200:=#[_,ni 9 (),AI];obtain⟨q22,h22,g22⟩:∃ q:Int,(∀ Y,zb yZ (cI 10) (cI 22) Y=↑(.int q))/\0<q/\q<2 ^ 200:=#[_,ni 22 (),AI];obtain⟨HE,h23,g23⟩:∃ q:Int,(∀ Y,zb yZ (cI 10) (cI 23) Y=↑(.int q))/\0<q/\q<2 ^ 200:=#[_,ni 23 (),AI];obtain⟨M,hM,gM⟩:∃ q:Int,(∀ Y,zb yg (zb yZ (cI 10) (cI 45)) (cI 9) Y=↑(.int q))/\0<q/\q<2 ^ 180:=#[10 ^ 45+9,fun Y=>b6 (ni 45 () Y) rfl rfl,AI];have hr:=p0 n ⋯;unfold sQ XH Yq Yp;have a0:=J7 (c/2);generalize ha:(if c/2<0 then -(c/2) else c/2)=num at *;have hnm0:0<=num%M:=BU _ ⋯;have hnm1:num%M<M:=B4 _ gM.1;have pM:=gM.1;have d2:uU c 2:=#[(),()];let#[v1,GB,e1,l1]:=VC c n hn _ q6 h6 g6 num;let#[v2,xs2,e2,l2]:=VB c n hn _ _ _ _ M q22 HE q9 hM h22 h23 h9 gM g22 g23 g9 (num%M+77003) #[⋯,⋯];generalize zb yg (zb yZ (cI 10) (cI 45)) (cI 9)=oM,zb yZ (cI 10) (cI 6)=o6,zb yZ (cI 10) (cI 9)=o9,zb yZ (cI 10) (cI 22)=o22,zb yZ (cI 10) (cI 23)=o23 at *;generalize ID:(zr (xA 2 (zb yi (zc 3) o6)) (zR 3 (zb xM (zc 3) o6)))=b1 at *;generalize hb2:(zr (zR 3 (zb yi (zb yg (zb yg (zb wB (zc 3) (cI 52027)) (zb xM (zc 3) o22)) (zb wB (cI 13) (zc 4))) oM)) (xA 2 (zb xM (zb wB (zc 3) (zb yg (zb xM (zc 3) o23) (cI 7))) o9)))=b2 at *;by_cases h:c%2=1
 .exact#[GB,?_,l1];generalize GB.map T.int=L1,(List.range n).map (λ(k:Nat)=>T.int (0+(k:Int)))=R at *;simp[d2,ha,h,hr,e1,eq_int]
 .exact#[xs2,?_,l2];generalize xs2.map T.int=L2',(List.range n).map (λ(k:Nat)=>T.int (0+(k:Int)))=R at *;simp[d2,ha,h,hr,hM,pM,e2,eq_int]
theorem YO (x:Int) (m:Nat) (h:m<=12):∃ y,o4 [.int x,.int m]=↑(.int y)/\-12<=y/\y<=12:=by
 have m1:vM 2 (m:Int):=.inl #[(),()];have m2:(0:Int)<2*(m:Int)+1:=⋯;have d:xE x 25:=#[(),()];have a0:=BU (x%25) (b:=2*(m:Int)+1) ⋯;have b0:0<=x/25%2:=BU _ ();exact#[if x%25%(2*(m:Int)+1)-m+x/25%2<12 then x%25%(2*(m:Int)+1)-m+x/25%2 else 12,by simp[o4,XO,nD,m1,m2,d],?_,?_]
 .split <;> lia
 .split <;> lia
def uv (many:Nat) (r:List Int):Prop:=∃ (f t:Nat) (a b:Int),r=[(f:Int),(t:Int),a,b]/\f<many/\t<many/\(-12<=a/\a<=12)/\-12<=b/\b<=12
theorem YI (place many:Nat) (num:Int) (sz:Nat) (hp:place<many) (hs:sz<=12):∃ r,(uv many r/\r.head?=↑(place:Int))/\rY [.int place,.int many,.int num,.int sz]=↑(zu r):=by
 have d8:xE num 8:=#[(),()];have d400:xE num 400:=#[(),()];let#[a,ha,a1]:=YO (num/8%50) sz hs;let#[b,hb,b1]:=YO (num/400%50) sz hs;have Dt:(0:Int)<many:=⋯;have t0:0<=num%8%many:=BU _ ⋯;have t1:num%8%many<many:=B4 _ Dt;have hm':0<many:=⋯;exact#[[(place:Int),((num%8%many).toNat:Int),a,b],#[#[place,(num%8%many).toNat,a,b,rfl,hp,⋯,a1,b1],rfl],?_];rw[CH t0];have hr:zu [(place:Int),num%8%many,a,b]=.tup [.int place,.int (num%8%many),.int a,.int b]:=rfl;rw[hr];unfold rY XG;generalize o4=fa at *;simp[d8,d400,ha,hb,hm']
def nL {xs:List Int}{j:Nat}(h:j<xs.length):∃ v,L2.zy (xs.map T.int) (j:Int)=↑(.int v):=#[xs.getD j 0,vG (by simp[h])]
def aj (b:Bool):zL false (kt b) (.str "keeper")=↑(.bl b):=by
 have h:(("taker":Str) == ("keeper":Str))=false:=()
 cases b
 .change zL false (.str "taker") (.str "keeper")=_;simp[zL,dep,eqT,h]
 .change zL false (.str "keeper") (.str "keeper")=_;simp[zL,dep,eqT]
def Yw (b:Sm) (n many pl:Nat) (E:List T->Option L5.W->Ev) (hE:∀ r x,yz [11] (E r x)=E r none) (hn:n<=100)
  (ht:∀ k<n,∀ rows:List T,rows.length<=1000->∃ r,(uv many r/\r.head?=↑(pl:Int))/\turn (zw 11) b (.int (0+(k:Int))) (E rows none)=↑(.nx (E (rows++[zu r]) ↑(.im (.int (0+(k:Int)))))))
  (rows:List (List Int)) (hl:rows.length<=100) (hr:∀ r∈rows,uv many r):
  ∃ Fo:List (List Int),yK [11] (zw 11) b ((List.range n).map λ(k:Nat)=>T.int (0+(k:Int))) (E (rows.map zu) none)=↑(.nx (E (Fo.map zu) none))/\Fo.length=rows.length+n/\(∀ r∈Fo,uv many r)/\(∀ r∈rows,r∈Fo)/\(0<n->∃ r∈Fo,r.head?=↑(pl:Int)):=by
 let#[Y',h1,Fo,h2,h3,h4,h5,h6]:=tp (is:=[11]) (g:=zw 11) (b:=b) (λ k:Nat=>T.int (0+(k:Int))) (λ p Y=>∃ Fo:List (List Int),Y=E (Fo.map zu) none/\Fo.length=rows.length+p.length/\(∀ r∈Fo,uv many r)/\(∀ r∈rows,r∈Fo)/\(0<p.length->∃ r∈Fo,r.head?=↑(pl:Int)))
   (List.range n) (E (rows.map zu) none) #[rows,hE _ _,rfl,hr,λ _ h=>h,λ h=>absurd h #[]] (by
  rintro p k q e Y ⟨Fo,rfl,u1,u2,u3,u4⟩;have hp:p.length<n:=by have:=congrArg List.length e;simp at this;lia
  have hk:k<n:=AO.mp (by rw[e];simp);let#[r,#[v1,v3],v2]:=ht k hk (Fo.map zu) (by simp;lia);exact#[_,v2,Fo++[r],by rw[hE];simp,by simp![Cj,List.length_singleton,u1];lia,λ r' Iz=>?_,λ r' h=>C3 _ (u3 r' h),λ _=>#[r,#[],v3]];rcases A4.mp Iz with h | h
  .show u2 r' h
  .cases AX.mp h;show v1)
 subst h2;show#[Fo,h1,by simpa using h3,h4,h5,λ h=>h6 (by exists h)]
def UR (c mo br:T) (xs:List Int) (hx:xs.length=43) (many:Nat) (hm:many<=8) (os:List Bool) (rows:List (List Int)) (GZ:List T) (k:Nat) (hk:k<many) (ho:os.length=k) (hrl:rows.length<=3*k) (hr:∀ r∈rows,uv many r) (hs:GZ.length<=k):
  ∃ (b:Bool) (Fo:List (List Int)) (GY:List T) (nu sz:Int),turn (zw 8) p_ (.int (0+(k:Int))) [↑(.im c),↑(.im mo),↑(.im br),↑(.im (.lst (xs.map T.int))),↑(.im (.int many)),↑(.own (.lst (os.map kt))),↑(.own (.lst (rows.map zu))),↑(.own (.lst GZ)),none,none,none,none,none]
   = ↑(.nx [↑(.im c),↑(.im mo),↑(.im br),↑(.im (.lst (xs.map T.int))),↑(.im (.int many)),↑(.own (.lst ((os++[b]).map kt))),↑(.own (.lst (Fo.map zu))),↑(.own (.lst GY)),↑(.im (.int (0+(k:Int)))),↑(.im (.int nu)),↑(.im (.int sz)),none,none])
   /\ Fo.length<=3*(k+1)/\(∀ r∈Fo,uv many r)/\(∀ r∈rows,r∈Fo)/\(∃ r∈Fo,r.head?=↑(k:Int))/\GY.length<=k+1/\(GY=GZ\/(b=true/\∃ s:RN.Sl,(s.p=k/\(1<=s.gv/\s.gv<=12)/\0<=s.gt/\s.gt<=12)/\GY=GZ++[zQ s])):=by
 let#[v,hv]:=nL (xs:=xs) (j:=2+4*k) ⋯;have Hm:L2.zy (xs.map T.int) (2+4*(k:Int))=↑(.int v):=hv;obtain⟨b,hb⟩:∃ b:Bool,L2.zy [T.str "keeper",T.str "taker"] (v%2)=↑(kt b):=by
  rcases Int.emod_two_eq v with h | h <;> rw[h]
  .show#[true,rfl]
  .show#[false,rfl]
 obtain⟨sz,hsz,sz1⟩:∃ sz:Nat,L2.zy [T.int 2,T.int 3,T.int 3,T.int 12] (v/2%4)=↑(.int (sz:Int))/\sz<=12:=by
  have h0:0<=v/2%4:=BU _ ();have h1:v/2%4<4:=B4 _ ();generalize v/2%4=z at *;obtain h | h | h | h:z=0\/z=1\/z=2\/z=3:=⋯
  all_goals subst h
  .show#[2,rfl,()]
  .show#[3,rfl,()]
  .show#[3,rfl,()]
  .show#[12,rfl,()]
 obtain⟨n1,hn1,n0,n3⟩:∃ n:Nat,1+v/8%3=(n:Int)/\0<n/\n<=3:=#[(1+v/8%3).toNat,⋯,⋯,⋯];let#[Fo,g1,g2,g3,g4,g5]:=Yw jm n1 many k (λ rs x=>[↑(.im c),↑(.im mo),↑(.im br),↑(.im (.lst (xs.map T.int))),↑(.im (.int many)),↑(.own (.lst ((os++[b]).map kt))),↑(.own (.lst rs)),↑(.own (.lst GZ)),↑(.im (.int (k:Int))),↑(.im (.int v)),↑(.im (.int sz)),x,none]) (λ _ _=>rfl) ⋯
  (λ k' GX rs hrs=>by
   let#[v2,hv2]:=nL (xs:=xs) (j:=3+4*k+k') ⋯;have hv2':L2.zy (xs.map T.int) (3+4*(k:Int)+(0+(k':Int)))=↑(.int v2):=by rw[<- hv2];congr 1;lia
   let#[r,hr1,hr2]:=YI k many v2 sz hk ⋯;exact#[r,hr1,?_];have m1:vM 4 (k:Int):=.inl #[(),()];have CL:rs.length<16777216:=⋯;unfold turn jm;generalize rY=fw,xs.map T.int=XL,(os++[b]).map kt=OL,zu r=rr,(0+(k':Int))=kk at *;generalize hk4:(k:Int)=kI at *;simp[nD,m1,hv2',hr2,CL])
  rows ⋯ hr
 have Co:=p0 n1 ⋯;have Cq:(os.map kt).length<16777216:=by simp;lia
 have B_:L2.zy ((os++[b]).map kt) (k:Int)=↑(kt b):=vG (by rw[Cf,CB (by simp;lia)];simp[ho]);have AG:GZ.length<16777216:=⋯;have EW:=aj b;have m1:vM 4 (k:Int):=.inl #[(),()];have d2:xE v 2:=#[(),()];have d8:xE v 8:=#[(),()];have d24:xE v 24:=#[(),()];have d72:xE v 72:=#[(),()];have d144:xE v 144:=#[(),()];have d576:xE v 576:=#[(),()];have fin:∀ GY:List T,(if b=true/\v/24%3=0 then GZ++[.tup [.int k,.int (v/72%2),.int (1+v/144%4),.int (v/576%5)]] else GZ)=GY->turn (zw 8) p_ (.int (0+(k:Int))) [↑(.im c),↑(.im mo),↑(.im br),↑(.im (.lst (xs.map T.int))),↑(.im (.int many)),↑(.own (.lst (os.map kt))),↑(.own (.lst (rows.map zu))),↑(.own (.lst GZ)),none,none,none,none,none]
   = ↑(.nx [↑(.im c),↑(.im mo),↑(.im br),↑(.im (.lst (xs.map T.int))),↑(.im (.int many)),↑(.own (.lst ((os++[b]).map kt))),↑(.own (.lst (Fo.map zu))),↑(.own (.lst GY)),↑(.im (.int (0+(k:Int)))),↑(.im (.int v)),↑(.im (.int sz)),none,none]):=λ GY he=>by
  have e2:(os++[b]).map kt=os.map kt++[kt b]:=#[];unfold turn p_;rw[e2] at g1 B_ ⊢;simp![Int.zero_add] at g1 Co ⊢;generalize jm=bb,(List.range n1).map (λ(k:Nat)=>T.int (k:Int))=RR,Fo.map zu=L2',rows.map zu=L1',xs.map T.int=XL,os.map kt=OL,(T.str "taker")=s2 at *;generalize hs1:(T.str "keeper")=s1 at *;generalize kt b=kb at *;generalize hkI:(k:Int)=kI at *;generalize D7:zL=ee at *;have hee0:ee false (.int (v/24%3)) (.int 0)=↑(.bl (decide (v/24%3=0))):=by rw[<- D7];show eq_int _ _ _
  by_cases ID:b=true
  .subst ID;by_cases hz:v/24%3=0
   .rw[if_pos #[rfl,hz]] at he;subst he;rw[hz] at hee0;simp[nD,m1,Hm,hb,Cq,d2,hsz,d8,hn1,Co,g1,B_,EW,d24,hee0,hz,AG,d72,d144,d576]
   .rw[if_neg (λ h=>hz h.2)] at he;subst he;simp[nD,m1,Hm,hb,Cq,d2,hsz,d8,hn1,Co,g1,B_,EW,d24,hee0,hz]
  .have hb2:b=false:=by exists ID
   subst hb2;rw[if_neg (λ h=>ID h.1)] at he;subst he;simp[nD,m1,Hm,hb,Cq,d2,hsz,d8,hn1,Co,g1,B_,EW]
 exact#[b,Fo,_,v,sz,fin _ rfl,⋯,g3,g4,g5 n0,?_,?_]
 .split
  .simp;lia
  .lia
 .split
  .rename_i E9;have hp:v/72%2=0\/v/72%2=1:=⋯;exact .inr #[E9.1,#[k,decide (v/72%2=1),1+v/144%4,v/576%5],#[rfl,by dsimp only;lia,by dsimp only;lia,by dsimp only;lia],?_];rcases hp with h | h <;> simp[zQ,wM,h]
  .show .inl rfl
def xv (w:Wy):List Int:=[(w.f:Int),(w.t:Int),w.a,w.b]
theorem W9 {w v:Wy}(h:xv w=xv v):w=v:=by
 let#[f,t,a,b]:=w;let#[f',t',a',b']:=v;simp![xv,List.cons.injEq,and_true] at h;let#[h1,h2,rfl,rfl]:=h;have e1:f=f':=⋯;have e2:t=t':=⋯;subst e1 e2;rfl
theorem cp {many:Nat}:∀ l:List (List Int),(∀ r∈l,uv many r)->∃ ws:List Wy,l=ws.map xv/\∀ w∈ws,(w.f<many/\w.t<many)/\(-12<=w.a/\w.a<=12)/\-12<=w.b/\w.b<=12
 | [],_=>#[[],rfl,nofun]
 | r::l,h=>by
  let#[ws,e1,e2]:=cp l λ x hx=>h x (AD _ hx);let#[f,t,a,b,rfl,hf,ht,hc]:=h r Av;exact#[#[f,t,a,b]::ws,by rw[e1];rfl,λ w hw=>?_];rcases Ao.mp hw with x | x
  .subst x;show#[#[hf,ht],hc]
  .show e2 w x
def VI {many:Nat}(rs:List (List Int)) (h0:rs≠[]) (hl:rs.length<64) (hw:∀ r∈rs,uv many r):
  ∃ ws:List Wy,tX [.lst (rs.map zu)]=↑(.lst (ws.map zM))/\ws.length<=rs.length/\(∀ w∈ws,(w.f<many/\w.t<many)/\(-12<=w.a/\w.a<=12)/\-12<=w.b/\w.b<=12)/\(∀ w:Wy,w∈ws↔xv w∈rs)/\(ws.map xv).Pairwise (λ a b=>HT.lexLt b a=false/\a≠b):=by
 have hn:∀ r∈rs,r≠[]:=λ r hr=>by let#[f,t,a,b,rfl,_]:=hw r hr;simp
 have hm:∀ r,r∈L4.xm (wc rs)↔r∈rs:=λ r=>by rw[(L4.uX _).mem_iff,nF]
 let#[ws,e1,e2]:=cp (many:=many) (L4.xm (wc rs)) λ r hr=>hw r ((hm r).mp hr);exact#[ws,?_,?_,e2,λ w=>?_,?_]
 .rw[VH rs h0 hl hn,e1,AU];rfl
 .have:=congrArg List.length e1;rw[(L4.uX _).length_eq,AH] at this;have:=iM rs;lia
 .rw[<- hm,e1];constructor
  .show λ h=>Ar.mpr #[w,h,rfl]
  .intro h;let#[v,hv,e]:=Ar.mp h;rw[<- W9 e];show hv
 .rw[<- e1];show (L4.lH _).and ((L4.uX _).nodup_iff.mpr (lW rs))
structure Gf (os:List Bool) (ws:List Wy) (ss:List Sl):Prop where
 n1:1<=os.length
 n8:os.length<=8
 wr:∀ w∈ws,(w.f<os.length/\w.t<os.length)/\(-12<=w.a/\w.a<=12)/\-12<=w.b/\w.b<=12
 wl:ws.length<=24
 wp:(ws.map xv).Pairwise (λ a b=>HT.lexLt b a=false/\a≠b)
 way:∀ x<os.length,∃ w∈ws,w.f=x
 sr:∀ s∈ss,s.p<os.length/\os.getD s.p false=true/\(1<=s.gv/\s.gv<=12)/\0<=s.gt/\s.gt<=12
 sp:ss.Pairwise (λ a b=>a.p<b.p)
 sl:ss.length<=8
def JP (c:Int) (most yb:Nat) (h1:1<=most) (h8:most<=8) (hb:yb<=12):
  ∃ F:zI,qR [.int c,.int most,.int yb]=↑(zp F)/\Gf F.os F.ws F.ss/\(0<=F.A/\F.A<=yb)/\0<=F.B/\F.B<=yb:=by
 let#[xs,CJ,hx]:=YJ c 43 ();have Ck:sQ [.int c,.int 43]=↑(.lst (xs.map T.int)):=CJ;let#[v0,hv0]:=nL (xs:=xs) (j:=0) ⋯;let#[v1,hv1]:=nL (xs:=xs) (j:=1) ⋯;have hv0':L2.zy (xs.map T.int) 0=↑(.int v0):=hv0;have hv1':L2.zy (xs.map T.int) 1=↑(.int v1):=hv1;have EO:(0:Int)<most:=⋯;have hmoN:0<most:=h1;obtain⟨many,IL,m1,m8⟩:∃ n:Nat,1+v0%most=(n:Int)/\1<=n/\n<=8:=by
  have:=BU v0 (b:=(most:Int)) ⋯;have:=B4 v0 EO;show#[(1+v0%most).toNat,⋯,⋯,⋯]
 let#[Y',g1,os,rows,GZ,g2,g3,g4,g5,g6,g7,ss,D0,hsg,BZ]:=tp (is:=[8,9,10,11]) (g:=zw 8) (b:=p_) (λ k:Nat=>T.int (0+(k:Int)))
   (λ p Y=>∃ (os:List Bool) (rows:List (List Int)) (GZ:List T),Y=[↑(.im (.int c)),↑(.im (.int most)),↑(.im (.int yb)),↑(.im (.lst (xs.map T.int))),↑(.im (.int many)),↑(.own (.lst (os.map kt))),↑(.own (.lst (rows.map zu))),↑(.own (.lst GZ)),none,none,none,none,none]
    /\ os.length=p.length/\rows.length<=3*p.length/\(∀ r∈rows,uv many r)/\(∀ x∈p,∃ r∈rows,r.head?=↑(x:Int))/\GZ.length<=p.length/\∃ ss:List Sl,GZ=ss.map zQ/\(∀ s∈ss,s.p<os.length/\os.getD s.p false=true/\(1<=s.gv/\s.gv<=12)/\0<=s.gt/\s.gt<=12)/\ss.Pairwise (λ a b=>a.p<b.p))
   (List.range many) [↑(.im (.int c)),↑(.im (.int most)),↑(.im (.int yb)),↑(.im (.lst (xs.map T.int))),↑(.im (.int many)),↑(.own (.lst [])),↑(.own (.lst [])),↑(.own (.lst [])),none,none,none,none,none] #[[],[],[],rfl,rfl,#[],nofun,nofun,#[],[],rfl,nofun,.nil] (by
  rintro p k q e Y ⟨os,rows,GZ,rfl,r1,r2,r3,r4,r5,ss,r6,r7,r8⟩;have hk:k<many:=AO.mp (by rw[e];simp);have hpk:p.length=k:=by
   have h2:=congrArg (λ l=>l[p.length]?) e;simp![CB (Ak _),Nat.sub_self,D_] at h2;let#[h3,h4]:=AQ.mp h2;exists h4
  let#[b,Fo,GY,nu,sz,t1,t2,t3,t4,t5,t6,t7]:=UR (.int c) (.int most) (.int yb) xs hx many m8 os rows GZ k hk ⋯ ⋯ r3 ⋯;have grow:∀ s∈ss,s.p<(os++[b]).length/\(os++[b]).getD s.p false=true/\(1<=s.gv/\s.gv<=12)/\0<=s.gt/\s.gt<=12:=λ s hs=>by
   let#[a1,a2,a3]:=r7 s hs;exact#[by simp;lia,?_,a3];rw[BJ,CA a1,<- BJ];show a2
  exact#[_,t1,os++[b],Fo,GY,rfl,by simp[r1],by simp;lia,t3,λ x hx=>?_,by simp;lia,by
   rcases t7 with rfl | ⟨hb,s,⟨s0,s1⟩,rfl⟩
   .show#[ss,r6,grow,r8]
   .exact#[ss++[s],by rw[r6];simp,λ z hz=>?_,Ej.mpr #[r8,#[],λ a ha c hc=>?_]]
    .rcases A4.mp hz with h | h
     .show grow z h
     .cases AX.mp h;exact#[by simp;lia,?_,s1];rw[s0,BJ,CB ⋯,show k-os.length=0 by lia,hb];rfl
    .cases AX.mp hc;have:=(r7 a ha).1;lia]
  rcases A4.mp hx with h | h
  .let#[r,y1,y2]:=r4 x h;show#[r,t4 r y1,y2]
  .cases AX.mp h;show t5)
 subst g2;rw[C4] at g3 g4 g7;obtain⟨n9,hn9,n9'⟩:∃ n:Nat,(if 24-(rows.length:Int)<9 then 24-(rows.length:Int) else 9)=(n:Int)/\n<=9:=by
  split
  .show#[24-rows.length,⋯,⋯]
  .show#[9,rfl,⋯]
 obtain⟨pl,Am,pl1⟩:∃ n:Nat,v0/64%8%many=(n:Int)/\n<many:=by
  have:=BU (v0/64%8) (b:=(many:Int)) ⋯;have:=B4 (v0/64%8) (b:=(many:Int)) ⋯;show#[(v0/64%8%many).toNat,⋯,⋯]
 have d64:xE v0 64:=#[(),()];have Dt:0<many:=m1;let#[Ih,k1,k2,k3,k4,_]:=Yw jk n9 many pl (λ rs x=>[↑(.im (.int c)),↑(.im (.int most)),↑(.im (.int yb)),↑(.im (.lst (xs.map T.int))),↑(.im (.int many)),↑(.own (.lst (os.map kt))),↑(.own (.lst rs)),↑(.own (.lst GZ)),none,none,none,x,none]) (λ _ _=>rfl) ⋯
  (λ k' GX rs hrs=>by
   let#[v2,hv2]:=nL (xs:=xs) (j:=34+k') ⋯;have hv2':L2.zy (xs.map T.int) (34+(0+(k':Int)))=↑(.int v2):=by rw[<- hv2];congr 1;lia
   let#[r,hr1,hr2]:=YI pl many v2 3 pl1 ⋯;have hr2':rY [.int pl,.int many,.int v2,.int 3]=↑(zu r):=hr2;exact#[r,hr1,?_];have CL:rs.length<16777216:=⋯;unfold turn jk;generalize rY=fw,xs.map T.int=XL,os.map kt=OL,zu r=rr,(0+(k':Int))=kk at *;simp[hv0',d64,Dt,Am,hv2',hr2',CL])
  rows ⋯ g5
 have fin:∃ GH:List (List Int),(if v0/8%8=1 then Ih else rows)=GH/\GH≠[]/\GH.length<=24/\(∀ r∈GH,uv many r)/\∀ x<many,∃ r∈GH,r.head?=↑(x:Int):=by
  exact#[_,rfl,?_];have hx:∀ x<many,∃ r∈rows,r.head?=↑(x:Int):=λ x hx=>g6 x (AO.mpr hx);have hx2:∀ x<many,∃ r∈Ih,r.head?=↑(x:Int):=λ x hh=>by
   let#[r,y1,y2]:=hx x hh;show#[r,k4 r y1,y2]
  split
  .exact#[λ e=>?_,⋯,k3,hx2];let#[r,y,_]:=hx2 0 Dt;rw[e] at y;cases y
  .exact#[λ e=>?_,⋯,g5,hx];let#[r,y,_]:=hx 0 Dt;rw[e] at y;cases y
 let#[GH,e3,r0,r1,r2,r3]:=fin;let#[ws,w1,w2,w3,w4,w5]:=VI GH r0 ⋯ r2;have D9:(0:Int)<(yb:Int)+1:=⋯;have A0:=BU v1 (b:=(yb:Int)+1) ⋯;have A1:=B4 v1 D9;have B0:=BU (v1/13) (b:=(yb:Int)+1) ⋯;have B1:=B4 (v1/13) D9;have Bw:ss.length=GZ.length:=by rw[D0,AH]
 exact#[#[v1%((yb:Int)+1),v1/13%((yb:Int)+1),os,ws,ss],?_,#[by dsimp only;lia,by dsimp only;lia,λ w hw=>by dsimp only;rw[g3];show w3 w hw,by dsimp only;lia,w5,λ x hx=>?_,hsg,BZ,by dsimp only;lia],by dsimp only;lia]
 .have Co:=p0 many ⋯;have hrg9:=p0 n9 ⋯;have d8:xE v0 8:=#[(),()];have d13:xE v1 13:=#[(),()];have hlen:xo [.lst (rows.map zu)]=↑(.int rows.length):=#[];have ET:(os.map kt).length<=16777216:=by simp;lia
  have hls:GZ.length<=16777216:=⋯;have D2:(ws.map zM).length<=16777216:=by simp;lia
  have hq:=eq_int (v0/8%8) 1 false;change qR _=↑(.tup [.tup [.int (v1%((yb:Int)+1)),.int (v1/13%((yb:Int)+1))],.tup (os.map kt),.tup (ws.map zM),.tup (ss.map zQ)]);rw[<- D0];unfold qR XJ;generalize p_=bb2,jk=bb3,sQ=fs,xs.map T.int=XL,(List.range many).map (λ(k:Nat)=>T.int (0+(k:Int)))=R1,(List.range n9).map (λ(k:Nat)=>T.int (0+(k:Int)))=R9,os.map kt=OL at *;by_cases h:v0/8%8=1
  .rw[if_pos h] at e3;subst e3;rw[h] at hq;generalize ws.map zM=WL at *;generalize hrr:rows.map zu=RR at *;generalize Ih.map zu=RR2 at *;have CQ:RR.length=rows.length:=by rw[<- hrr,AH]
   generalize zL=ee,tX=sv at *;simp[Ck,hv0',EO,hmoN,IL,Co,g1,d8,hq,h,CQ,hn9,hrg9,k1,hv1',D9,d13,w1,ET,hls,D2]
  .rw[if_neg h] at e3;subst e3;generalize ws.map zM=WL,rows.map zu=RR,zL=ee,tX=sv at *;simp[Ck,hv0',EO,hmoN,IL,Co,g1,d8,hq,h,hv1',D9,d13,w1,ET,hls,D2]
 .dsimp only at hx;rw[g3] at hx;let#[r,y1,y2]:=r3 x hx;let#[f,t,a,b,rfl,hf,ht,_]:=r2 r y1;exact#[#[f,t,a,b],(w4 _).mpr y1,?_];have:(f:Int)=(x:Int):=by exists y2
  dsimp only;lia
def vW (t:T):Bool:=!zT t&&(match t with | .tup ts=>ts.all (λ u=>!zT u) | _=>true)
def vW.top {t:T}(h:vW t=true):zT t=false:=by
 unfold vW at h;simp![Bc,Eo] at h;show h.1
def vW.mem {ts:List T}(h:vW (.tup ts)=true) {u:T}(hu:u∈ts):zT u=false:=by
 simp![vW,Bc,B5,Eo] at h;show h.2 u hu
def wh (t:T) (a b:Int):Bool:=match t with
 | .int i=>decide (a<=i)&&decide (i<=b)
 | _=>false
def eg (t:T) (he:zT t=false):tP [t]=↑(.bl (match t with | .int _=>true | _=>false)):=by
 cases t with
 | err _ _ _=>cases he
 | _=>simp[tP,eK,xx]
def j9 (t:T) (a b:Int) (he:zT t=false):tN [t,.int a,.int b]=↑(.bl (wh t a b)):=by
 have h:=eg t he;unfold tN eJ;by_cases hi:∃ i,t=.int i
 .let#[i,rfl]:=hi;unfold wh;by_cases h1:a<=i <;> by_cases h2:i<=b <;> simp[h,h1,h2]
 .have h':tP [t]=↑(.bl false):=by
   rw[h];cases t with
   | int i=>show absurd #[i,rfl] hi
   | _=>rfl
  have e:wh t a b=false:=by
   cases t with
   | int i=>show absurd #[i,rfl] hi
   | _=>rfl
  rw[e];simp[h']
theorem ll {α:Type}(enc:α->T):∀ (ts:List T) (bs:List α),List.zipWith (λ a b=>T.tup [a,b]) ts (bs.map enc)=(ts.zip bs).map λ p=>T.tup [p.1,enc p.2]
 | [],bs=>#[]
 | t::ts,[]=>#[]
 | t::ts,b::bs=>by simp[ll enc ts bs]
def fy {α:Type}(g:α->Bool) (xs:List α):wX (xs.map λ x=>T.bl (g x))=↑(xs.map g):=by
 have:=Yg (xs.map g);rw[AU] at this;show this
def fK {α:Type}(g:α->Bool) (xs:List α):(xs.map g).all id=xs.all g:=by
 rw[DS];rfl
def vR (t:T) (bs:List (Int×Int)):Bool:=match t with
 | .tup ts=>decide (ts.length=bs.length)&&(ts.zip bs).all λ p=>wh p.1 p.2.1 p.2.2
 | _=>false
def Nv {t:T}(he:zT t=false) (h:¬ ∃ ts,t=.tup ts):∃ s,jR t=↑s/\xx s "tuple"=false:=by
 cases t with
 | tup ts=>show absurd #[ts,rfl] h
 | err _ _ _=>cases he
 | _=>show#[_,rfl,()]
theorem eh (t:T) (bs:List (Int×Int)) (hl:bs.length<=100) (he:vW t=true):r_ [t,.tup (bs.map zj)]=↑(.bl (vR t bs)):=by
 have it:xx "tuple" "tuple"=true:=()
 by_cases ht:∃ ts,t=.tup ts
 .let#[ts,rfl]:=ht;unfold r_ eL vR;by_cases h:ts.length=bs.length
  .have hc:fu [↑(.im (.tup ts)),↑(.im (.tup (bs.map zj)))]=↑(.lst ((ts.zip bs).map λ p=>T.bl (wh p.1 p.2.1 p.2.2))):=by
    unfold fu;exact xw (λ p:T×(Int×Int)=>T.tup [p.1,zj p.2]) _ (ts.zip bs) ?_ ?_ λ p hp=>?_
    .simp[ll]
    .simp;lia
    .simp[sj,zj,j9 _ _ _ (vW.mem he (Dk hp).1)]
   simp[it,eq_int,h,hc,fy,fK]
  .have h':¬ (ts.length:Int)=bs.length:=⋯;simp[it,eq_int,h,h']
 .let#[s,s1,s2]:=Nv (vW.top he) ht;have e:vR t bs=false:=by
   cases t with
   | tup ts=>show absurd #[ts,rfl] ht
   | _=>rfl
  rw[e];unfold r_ eL;simp[-jR,s1,s2]
def oP:List (List Int)->Bool
 | a::b::l=>HT.lexLt a b&&oP (b::l)
 | _=>true
def oQ:List Int->Bool
 | a::b::l=>decide (a<b)&&oQ (b::l)
 | _=>true
theorem jJ {α:Type}(lt:α->α->Bool) (up:List α->Bool) (h0:up []=true) (h1:∀ a,up [a]=true) (h2:∀ a b l,up (a::b::l)=(lt a b&&up (b::l))):∀ l:List α,((l.zip (l.drop 1)).all λ p=>lt p.1 p.2)=up l
 | []=>by simp[h0]
 | [a]=>by simp[h1]
 | a::b::l=>by
  have ih:=jJ lt up h0 h1 h2 (b::l);simp![List.drop_succ_cons,List.drop_zero,Er,List.all_cons] at ih ⊢;rw[h2,<- ih]
def ZM {α:Type}(xs:List α):uh xs ↑1 none=xs.drop 1:=by
 unfold uh;have e:HT.zA xs.length 0 ↑1=min 1 xs.length:=by simp[HT.zA]
 have e2:HT.zA xs.length xs.length none=xs.length:=rfl;rw[e,e2];cases xs with
 | nil=>rfl
 | cons x xs=>simp
def JI (rs:List (List Int)) (hl:rs.length<=16777216):sT [.tup (rs.map zu)]=↑(.bl (oP rs)):=by
 have hc:mn [↑(.im (.tup (rs.map zu)))]=↑(.lst ((rs.zip (rs.drop 1)).map λ p=>T.bl (HT.lexLt p.1 p.2))):=by
  unfold mn;exact xw (λ p:List Int×List Int=>T.tup [zu p.1,zu p.2]) _ (rs.zip (rs.drop 1)) ?_ ?_ λ p hp=>?_
  .simp![xa,za,zc,lI,mr,cS,zf,qV,kQ,BH,ZM,Ua,Option.map_some,D_];rw[<- CW,ll,List.zip_map_left,AU];rfl
  .simp;lia
  .simp[sj,zu,uB,kj]
 unfold sT eO;simp[hc,fy,fK];have:=jJ (λ a b=>HT.lexLt a b) oP rfl (λ _=>rfl) (λ _ _ _=>rfl) rs;exists this
def JJ (ns:List Int) (hl:ns.length<=16777216):sT [.lst (ns.map T.int)]=↑(.bl (oQ ns)):=by
 have hc:mn [↑(.im (.lst (ns.map T.int)))]=↑(.lst ((ns.zip (ns.drop 1)).map λ p=>T.bl (decide (p.1<p.2)))):=by
  unfold mn;exact xw (λ p:Int×Int=>T.tup [T.int p.1,T.int p.2]) _ (ns.zip (ns.drop 1)) ?_ ?_ λ p hp=>?_
  .simp![xa,za,zc,lI,mr,cS,zf,qV,kQ,BH,ZM,cf,Option.map_some,D_];rw[<- CW,ll,List.zip_map_left,AU];rfl
  .simp;lia
  .simp[sj,uB]
 unfold sT eO;simp[hc,fy,fK];have:=jJ (λ a b:Int=>decide (a<b)) oQ rfl (λ _=>rfl) (λ _ _ _=>rfl) ns;exists this
def iR (r:List Int):vW (zu r)=true:=by
 simp[vW,zu,zT]
theorem YK (rs:List (List Int)) (bs:List (Int×Int)) (hl:bs.length<=100) (hz:rs.length<=100) (h:∀ r∈rs,vR (zu r) bs=true):qT [.tup (rs.map zu),.tup (bs.map zj)]=↑(.bl true):=by
 have hc:jg [↑(.im (.tup (rs.map zu))),↑(.im (.tup (bs.map zj)))]=↑(.lst (rs.map λ _=>T.bl true)):=by
  unfold jg;exact xw zu _ rs #[] ⋯ λ r hr=>?_;have:=eh (zu r) bs hl (iR r);rw[h r hr] at this;generalize zu r=rr,bs.map zj=BB at *;simp[this]
 have it:xx "tuple" "tuple"=true:=()
 have hb:wX (rs.map λ _=>T.bl true)=↑(rs.map λ _=>true):=qE _ _;unfold qT Wi;generalize jg=cc at *;simp[it,hc,hb]
theorem JK (os:List Bool) (h1:1<=os.length) (h8:os.length<=8):mZ [.tup (os.map kt)]=↑(.bl true):=by
 have ho:∀ b,ej [kt b]=↑(.bl true):=λ b=>by cases b <;> rfl
 have hc:jh [↑(.im (.tup (os.map kt)))]=↑(.lst (os.map λ _=>T.bl true)):=by
  unfold jh;exact xw kt _ os #[] ⋯ λ b _=>?_;have:=ho b;generalize kt b=kb at *;simp[this]
 have it:xx "tuple" "tuple"=true:=()
 have hb:wX (os.map λ _=>T.bl true)=↑(os.map λ _=>true):=qE _ _;have e1:(1:Int)<=((os.map kt).length:Int):=by simp;lia
 have e2:((os.map kt).length:Int)<=8:=by simp;lia
 unfold mZ Wj;generalize jh=cc,os.map kt=O at *;simp[it,e1,e2,hc,hb]
def WN {rs:List (List Int)}(h:rs.Pairwise (λ a b=>HT.lexLt b a=false/\a≠b)):oP rs=true:=by
 induction rs with
 | nil=>rfl
 | cons a l ih=>
  cases l with
  | nil=>rfl
  | cons b l=>
   have h1:=Br.mp h;have h2:=h1.1 b Av;have:HT.lexLt a b=true:=by
    cases e:HT.lexLt a b with
    | true=>rfl
    | false=>show absurd (L4.hZ a b e h2.1) h2.2
   simp[oP,this,ih h1.2]
def J0 (k:Nat) (ws:List Wy) (h:∃ w∈ws,w.f=k) (hl:ws.length<=100):uE false (.int (k:Int)) (.lst (ws.map λ w=>T.int (w.f:Int)))=↑(.bl true):=by
 let#[w,hw,e]:=h;have hd:xr (ws.map λ w=>T.int (w.f:Int))<=60:=by
  have:=kJ (λ w:Wy=>T.int (w.f:Int)) 0 (λ _=>by simp[dep]) ws;lia
 have ha:(ws.map λ w=>T.int (w.f:Int)).any (λ t=>eqT t (.int (k:Int)))=true:=by
  rw[Bl];show#[_,Ar.mpr #[w,hw,rfl],by simp[eqT,e]]
 unfold uE;simp![cf];generalize (ws.map λ w=>T.int (w.f:Int))=L at *;simp[dep,hd,ha]
section
variable {os:List Bool}{ws:List Wy}{ss:List Sl}
def lq (ws:List Wy):ws.map zM=(ws.map xv).map zu:=by rw[AU];rfl
def vo (s:Sl):List Int:=[(s.p:Int),wM s.pu,s.gv,s.gt]
def ic (ss:List Sl):ss.map zQ=(ss.map vo).map zu:=by rw[AU];rfl
def cq {x y z u:Int}{a b c d:Int×Int}(h1:a.1<=x/\x<=a.2) (h2:b.1<=y/\y<=b.2) (h3:c.1<=z/\z<=c.2) (h4:d.1<=u/\u<=d.2):vR (zu [x,y,z,u]) [a,b,c,d]=true:=by
 simp[vR,zu,wh,h1,h2,h3,h4]
theorem Gf.ways (G:Gf os ws ss):mX [.tup (ws.map zM),.int (os.length:Int)]=↑(.bl true):=by
 have hw:=YK (ws.map xv) [(0,(os.length:Int)-1),(0,(os.length:Int)-1),(-12,12),(-12,12)] #[] (by have:=G.wl;simp;lia) (λ r hr=>by
  let#[w,hw,rfl]:=Ar.mp hr;let#[#[a1,a2],a3,a4]:=G.wr w hw;show cq #[by dsimp only;lia,by dsimp only;lia] #[by dsimp only;lia,by dsimp only;lia] a3 a4)
 rw[<- lq] at hw;have eb:T.tup ([(0,(os.length:Int)-1),(0,(os.length:Int)-1),(-12,12),(-12,12)].map zj)=.tup [.tup [.int 0,.int ((os.length:Int)-1)],.tup [.int 0,.int ((os.length:Int)-1)],.tup [.int (-12),.int 12],.tup [.int (-12),.int 12]]:=rfl;rw[eb] at hw;have C8:=JI (ws.map xv) (by have:=G.wl;simp;lia);rw[WN G.wp,<- lq] at C8;have hl:(ws.map zM).length=ws.length:=#[];have wl:=G.wl;have n8:=G.n8;have IC:∀ a b c d,je [↑(.im (.tup (ws.map zM))),a,b,c,d]=↑(.lst (ws.map λ w=>T.int (w.f:Int))):=λ a b c d=>by
  unfold je;exact xw zM _ ws #[] ⋯ λ w _=>?_;simp[zM]
 have GA:∀ a c d,kW [a,↑(.im (.int (os.length:Int))),c,d,↑(.im (.lst (ws.map λ w=>T.int (w.f:Int))))]=↑(.lst ((List.range os.length).map λ _=>T.bl true)):=λ a c d=>by
  unfold kW;exact xw (λ k:Nat=>T.int (0+(k:Int))) _ (List.range os.length) ?_ (by simp;lia) λ k hk=>?_
  .simp[p0 os.length ⋯]
  .have e:=J0 k ws (G.way k (AO.mp hk)) ⋯;generalize (ws.map λ w=>T.int (w.f:Int))=L,uE false=ii at *;simp[e]
 have hb:wX ((List.range os.length).map λ _=>T.bl true)=↑((List.range os.length).map λ _=>true):=qE _ _;have e24:(ws.length:Int)<=24:=⋯;unfold mX Wg;generalize je=c1,kW=c2,(ws.map λ w=>T.int (w.f:Int))=L,ws.map zM=WL at *;generalize (List.range os.length).map (λ _=>T.bl true)=RL at *;generalize qT=f1,sT=f2 at *;simp[hw,IC,GA,C8,hb,hl,e24]
def WS {ns:List Int}(h:ns.Pairwise (· < ·)):oQ ns=true:=by
 induction ns with
 | nil=>rfl
 | cons a l ih=>
  cases l with
  | nil=>rfl
  | cons b l=>
   have h1:=Br.mp h;simp[oQ,h1.1 b Av,ih h1.2]
theorem Gf.stalls (G:Gf os ws ss):mY [.tup (ss.map zQ),.tup (os.map kt)]=↑(.bl true):=by
 have hw:=YK (ss.map vo) [(0,(os.length:Int)-1),(0,1),(1,12),(0,12)] #[] (by have:=G.sl;simp;lia) (λ r hr=>by
  let#[s,hs,rfl]:=Ar.mp hr;let#[a1,_,a3,a4]:=G.sr s hs;show cq #[by dsimp only;lia,by dsimp only;lia] (by unfold wM;split <;> decide) a3 a4)
 rw[<- ic] at hw;have eb:T.tup ([(0,(os.length:Int)-1),(0,1),(1,12),(0,12)].map zj)=.tup [.tup [.int 0,.int ((os.length:Int)-1)],.tup [.int 0,.int 1],.tup [.int 1,.int 12],.tup [.int 0,.int 12]]:=rfl;rw[eb] at hw;have sl:=G.sl;have C8:=JJ (ss.map λ s=>(s.p:Int)) (by simp;lia);rw[WS (CD.mpr (G.sp.imp λ h=>⋯)),AU] at C8;have IC:∀ a b,jf [↑(.im (.tup (ss.map zQ))),a,b]=↑(.lst (ss.map (T.int ∘ λ s=>(s.p:Int)))):=λ a b=>by
  unfold jf;exact xw zQ _ ss #[] ⋯ λ s _=>?_;simp[zQ]
 have GA:∀ b,kX [↑(.im (.tup (ss.map zQ))),↑(.im (.tup (os.map kt))),b]=↑(.lst (ss.map λ _=>T.bl true)):=λ b=>by
  unfold kX;exact xw zQ _ ss #[] ⋯ λ s hs=>?_;let#[a1,a2,_]:=G.sr s hs;have ha:L2.zy (os.map kt) (s.p:Int)=↑(kt true):=vG (by rw[AM,Be a1];rw[BJ,Be a1] at a2;simp![Option.getD_some] at a2;rw[a2];rfl);have hk:=aj true;generalize os.map kt=O,kt true=kk,(T.str "keeper")=ks,zL false=ee at *;simp[zQ,ha,hk]
 have hb:wX (ss.map λ _=>T.bl true)=↑(ss.map λ _=>true):=qE _ _;have hl:((os.map kt).length:Int)=os.length:=#[];unfold mY Wh;generalize jf=c1,kX=c2,(ss.map (T.int ∘ λ s=>(s.p:Int)))=L,ss.map zQ=SL,os.map kt=O at *;generalize (ss.map λ _=>T.bl true)=RL at *;generalize qT=f1,sT=f2 at *;simp[hw,IC,GA,C8,hb,hl]
theorem Gf.floor (G:Gf os ws ss) {A B:Int}(hA:0<=A/\A<=12) (hB:0<=B/\B<=12):mK [zp #[A,B,os,ws,ss]]=↑(.bl true):=by
 have h1:=eh (zu [A,B]) [(0,12),(0,12)] #[] (iR _);have e1:vR (zu [A,B]) [(0,12),(0,12)]=true:=by simp[vR,zu,wh,hA,hB]
 rw[e1] at h1;have hb:m_ [.tup [.int A,.int B]]=↑(.bl true):=by
  have eb:T.tup ([((0:Int),(12:Int)),(0,12)].map zj)=.tup [.tup [.int 0,.int 12],.tup [.int 0,.int 12]]:=rfl;rw[eb] at h1;have er:zu [A,B]=.tup [.int A,.int B]:=rfl;rw[er] at h1;unfold m_ Wk;generalize r_=ff at *;simp[h1]
 have h2:=JK os G.n1 G.n8;have h3:=G.ways;have h4:=G.stalls;have it:xx "tuple" "tuple"=true:=()
 have hl:((os.map kt).length:Int)=os.length:=#[];have g0:∀ a b c d:T,L2.zy [a,b,c,d] 0=↑a:=λ _ _ _ _=>rfl;have g1:∀ a b c d:T,L2.zy [a,b,c,d] 1=↑b:=λ _ _ _ _=>rfl;have g2:∀ a b c d:T,L2.zy [a,b,c,d] 2=↑c:=λ _ _ _ _=>rfl;have g3:∀ a b c d:T,L2.zy [a,b,c,d] 3=↑d:=λ _ _ _ _=>rfl;have e2:∀ i j:Int,zL true (.int i) (.int j)=↑(.bl (!decide (i=j))):=λ i j=>eq_int i j true;unfold mK XT zp;dsimp only;generalize m_=f1,mZ=f2,mX=f3,mY=f4,os.map kt=O,ws.map zM=WL,ss.map zQ=SL,zL true=ee at *;simp[it,e2,g0,g1,g2,g3,hb,h2,hl,h3,h4]
def q_ (rs:List (List Int)) (hl:rs.length<64) (hn:∀ r∈rs,r≠[]) (hs:rs.Pairwise λ a b=>HT.lexLt b a=false):vQ [.lst (rs.map zu)]=↑(.lst (rs.map zu)):=by
 change ((vp (rs.map zu)).bind λ rs=>_)=_;rw[lL,BH,if_pos #[hl,hn],<- L4.jZ (.refl rs) hs]
theorem JN {r:List Int}(h:r.length=4):jB [zu r]=↑(.bl true):=by
 have hw:∀ x:Int,tP [.int x]=↑(.bl true):=λ x=>eg (.int x) rfl;have hc:ja [↑(.im (zu r))]=↑(.lst (r.map λ _=>T.bl true)):=by
  unfold ja;exact xw T.int _ r (by simp[zu]) ⋯ λ x _=>?_;simp[hw x]
 have it:xx "tuple" "tuple"=true:=()
 have hb:wX (r.map λ _=>T.bl true)=↑(r.map λ _=>true):=qE _ _;have hl:((r.map T.int).length:Int)=4:=by simp;lia
 unfold jB XR;generalize ja=cc at *;unfold zu at *;generalize r.map T.int=R at *;simp[it,eq_int,hl,hc,hb]
def VU (h:ss.Pairwise (λ a b=>a.p<b.p)):(ss.map vo).Pairwise λ a b=>HT.lexLt b a=false:=by
 exact CD.mpr (h.imp λ{a b} Cu=>?_);unfold vo;rw[HT.tq,if_neg ⋯];simp;lia
theorem Gf.made (G:Gf os ws ss) {A B:Int}(hA:0<=A/\A<=12) (hB:0<=B/\B<=12):mM [zj (A,B),.tup (os.map kt),.lst (ws.map zM),.lst (ss.map zQ)]=↑(zp #[A,B,os,ws,ss]):=by
 have wl:=G.wl;have sl:=G.sl;have hc:jc [↑(.im (zj (A,B))),↑(.im (.tup (os.map kt))),↑(.im (.lst (ws.map zM))),↑(.im (.lst (ss.map zQ))),none]=↑(.lst ((ws.map xv++ss.map vo).map λ _=>T.bl true)):=by
  unfold jc;exact xw zu _ (ws.map xv++ss.map vo) ?_ (by simp;lia) λ r hr=>?_
  .have e:(ws.map xv++ss.map vo).map zu=ws.map zM++ss.map zQ:=by rw[Cf,<- lq,<- ic]
   have hl:(ws.map zM).length+(ss.map zQ).length<=16777216:=by simp;lia
   rw[e];generalize ws.map zM=WL,ss.map zQ=SL at *;simp[hl]
  .have h4:r.length=4:=by
    rcases A4.mp hr with h | h <;> let#[x,_,rfl]:=Ar.mp h <;> rfl
   have:=JN h4;generalize zu r=rr at *;simp[this]
 have hb:wX ((ws.map xv++ss.map vo).map λ _=>T.bl true)=↑((ws.map xv++ss.map vo).map λ _=>true):=qE _ _;have hal:((ws.map xv++ss.map vo).map λ _=>true).all id=true:=by rw[DS];simp
 have s1:vQ [.lst (ws.map zM)]=↑(.lst (ws.map zM)):=by
  rw[lq];show q_ _ (by simp;lia) (λ r hr=>by let#[x,_,rfl]:=Ar.mp hr;simp[xv]) (G.wp.imp λ h=>h.1)
 have s2:vQ [.lst (ss.map zQ)]=↑(.lst (ss.map zQ)):=by
  rw[ic];show q_ _ (by simp;lia) (λ r hr=>by let#[x,_,rfl]:=Ar.mp hr;simp[vo]) (VU G.sp)
 have hf:=G.floor hA hB;have l1:(os.map kt).length<=16777216:=by have:=G.n8;simp;lia
 have l2:(ws.map zM).length<=16777216:=by simp;lia
 have l3:(ss.map zQ).length<=16777216:=by simp;lia
 have ef:zp #[A,B,os,ws,ss]=.tup [zj (A,B),.tup (os.map kt),.tup (ws.map zM),.tup (ss.map zQ)]:=rfl;rw[ef] at hf ⊢;unfold mM XW;generalize jc=cc,mK=f1 at *;generalize ((ws.map xv++ss.map vo).map λ _=>T.bl true)=RL at *;generalize ((ws.map xv++ss.map vo).map λ _=>true)=BL at *;generalize os.map kt=O at *;generalize ws.map zM=WL,ss.map zQ=SL,zj (A,B)=pp,vQ=so at *;simp[hc,hb,hal,s1,s2,l1,l2,l3,hf]
def Gf.WD (G:Gf os ws ss) (A0 B0:Int) {q:Int×Int}(h:(0<=q.1/\q.1<=12)/\0<=q.2/\q.2<=12):qN [zp #[A0,B0,os,ws,ss],zj q]=↑(zp #[q.1,q.2,os,ws,ss]):=by
 have hm:=G.made h.1 h.2;have wl:=G.wl;have sl:=G.sl;have k1:zm (zp #[A0,B0,os,ws,ss]) (.int 1)=↑(.tup (os.map kt)):=rfl;have k2:zm (zp #[A0,B0,os,ws,ss]) (.int 2)=↑(.tup (ws.map zM)):=rfl;have k3:zm (zp #[A0,B0,os,ws,ss]) (.int 3)=↑(.tup (ss.map zQ)):=rfl;have l2:(ws.map zM).length<=16777216:=by simp;lia
 have l3:(ss.map zQ).length<=16777216:=by simp;lia
 have eq:zj (q.1,q.2)=zj q:=rfl;rw[eq] at hm;unfold qN X6;generalize mM=f1,zp #[A0,B0,os,ws,ss]=fl,zp #[q.1,q.2,os,ws,ss]=gl,os.map kt=O,ws.map zM=WL,ss.map zQ=SL,zj q=pp at *;simp![zm] at k1 k2 k3;simp[k1,k2,k3,l2,l3,hm]
def upTo (m:Nat):List (Int×Int):=(List.range (m+1)).flatMap λ(i:Nat)=>(List.range (m+1)).map λ(j:Nat)=>((i:Int),(j:Int))
theorem JF:∀ {m:Nat},m<=3->o7 [.int (m:Int)]=↑(.lst ((upTo m).map zj))
 | 0,_=>rfl
 | 1,_=>rfl
 | 2,_=>rfl
 | 3,_=>rfl
 | _+4,h=>⋯
def WQ {m:Nat}(h:m<=3):(upTo m).length<=16:=by
 match m,h with
 | 0,_=>decide
 | 1,_=>decide
 | 2,_=>decide
 | 3,_=>decide
theorem WO {m:Nat}(q:Int×Int):q∈upTo m↔(0<=q.1/\q.1<=m)/\0<=q.2/\q.2<=m:=by
 unfold upTo;rw[Cv];constructor
 .rintro⟨i,hi,h⟩;let#[j,hj,rfl]:=Ar.mp h;have:=AO.mp hi;have:=AO.mp hj;dsimp only;lia
 .rintro⟨⟨a,b⟩,c,d⟩;exact#[q.1.toNat,AO.mpr ⋯,Ar.mpr #[q.2.toNat,AO.mpr ⋯,?_]];rw[CH a,CH c]
end
theorem YN {F:zI}(ok:F.Ok):∃ l:List Bd,qS [zp F]=↑(rT l)/\l.length=F.os.length/\∀ b∈l,Gd F.A F.B b:=by
 let#[more,hr,hn,_]:=JH ok;obtain⟨pre,lst,e⟩:∃ pre lst,RN.start F::more=pre++[lst]:=#[_,_,(List.dropLast_concat_getLast (l:=RN.start F::more) #[]).symm];rw[e] at hr hn;have B_:L2.zy ((pre++[lst]).map rT) (-1)=↑(rT lst):=by
  rw[Cf];show fD
 exact#[lst,?_,hn lst #[]];unfold qS Wb;generalize (pre++[lst]).map rT=L,mG=f1,zp F=fl at *;simp[hr,B_]
def Pr (p:Int):Prop:=0<=p/\p<=10 ^ 30
theorem Yo {p x:Int}(hp:Pr p) (hx:0<=x/\x<=12):tU p x:=by
 let#[a,h]:=hp;have h2:(10:Int) ^ 30<2 ^ 200:=()
 have h3:(12:Int)<2 ^ 200:=()
 have e:((2 ^ 200:Nat):Int)=2 ^ 200:=by norm_cast
 constructor
 .have:(p.natAbs:Int)<((2 ^ 200:Nat):Int):=by
   rw[e,Int.natAbs_of_nonneg a];show Dc h h2
  show Int.ofNat_lt.mp this
 .have:(x.natAbs:Int)<((2 ^ 200:Nat):Int):=by
   rw[e,Int.natAbs_of_nonneg hx.1];show Dc hx.2 h3
  show Int.ofNat_lt.mp this
def cost (ps:Int×Int) (q:Int×Int):Int:=ps.1*q.1+ps.2*q.2
def iz (ps:Int×Int):T:=.tup [.int ps.1,.int ps.2]
def fZ (q:Int×Int):Prop:=(0<=q.1/\q.1<=12)/\0<=q.2/\q.2<=12
def JU {ps q:Int×Int}(h1:Pr ps.1) (h2:Pr ps.2) (hq:fZ q):jE [zj q,iz ps]=↑(.int (cost ps q)):=by
 have m1:=Yo h1 hq.1;have m2:=Yo h2 hq.2;unfold jE XZ zj iz cost;simp[m1,m2]
def gf (ps q:Int×Int):Int×List Int:=(cost ps q,[q.1,q.2])
def fA (ps:Int×Int) (b:Bd):Option (Int×Int):=b[tG (b.map (gf ps)) b.length]?
def ND (ps:Int×Int) (b:Bd):pE [.lst (b.map λ q=>.tup [.int (cost ps q),zj q])]=↑(match fA ps b with | none=>.zo | some q=>.tup [.int (cost ps q),zj q]):=by
 have e:(b.map λ q=>T.tup [.int (cost ps q),zj q])=(b.map (gf ps)).map tu:=by rw[AU];rfl
 rw[e];unfold pE;simp![Mp,Option.map_some];unfold fA;rw[AH,AM];cases b[tG (b.map (gf ps)) b.length]? <;> rfl
def mQ (F:zI) (y:T) (he:zT y=false):uu [zp F,y]=↑(if wh y 0 ((F.os.length:Int)-1)=true then .zo else .err "NoPlace" "place" y):=by
 have h:=j9 y 0 ((F.os.length:Int)-1) he;have hp:=ei F;unfold uu eM;generalize zp F=fl at *;cases q:wh y 0 ((F.os.length:Int)-1) <;> simp[hp,h,q]
def JT (F:zI) (y:T) (he:vW y=true):mR [zp F,y]=↑(if vR y [(0,F.A),(0,F.B)]=true then .zo else .err "NoPair" "pair" y):=by
 have h:=eh y [(0,F.A),(0,F.B)] (by change 2<=100;decide) he;simp![Ax,Bj,zj] at h;unfold mR X_ zp;cases q:vR y [(0,F.A),(0,F.B)] <;> simp[h,q]
def wO (t:T):Bool:=match t with
 | .int i=>decide (0<=i)
 | _=>false
def mL (t:T) (he:zT t=false):jC [t]=↑(.bl (wO t)):=by
 have h:=eg t he;unfold jC XS;cases t with
 | err _ _ _=>cases he
 | int i=>by_cases h0:0<=i <;> simp[h,wO,h0]
 | _=>simp[h,wO]
def KC (F:zI) (t a b:T) (he:zT t=false) (hw:wh t 0 ((F.os.length:Int)-1)=false):vK [zp F,t,.tup [a,b]]=↑(.err "NoPlace" "place" t):=by
 have h:=mQ F t he;rw[hw] at h;unfold vK lh;generalize zp F=fl,qD=cc,Yr=bb at *;simp[h]
def KH (F:zI) (t a b:T) (he:zT t=false) (ha:zT a=false) (hw:wh t 0 ((F.os.length:Int)-1)=true) (h1:wO a=false):vK [zp F,t,.tup [a,b]]=↑(.err "NoCount" "told" a):=by
 have h:=mQ F t he;have hf:=mL a ha;rw[hw] at h;rw[h1] at hf;have g0:L2.zy [a,b] 0=↑a:=rfl;have g1:L2.zy [a,b] 1=↑b:=rfl;unfold vK lh;generalize zp F=fl,qD=cc at *;simp[h,hf,g0,g1,yK,turn]
def KG (F:zI) (t a b:T) (he:zT t=false) (ha:zT a=false) (hb:zT b=false) (hw:wh t 0 ((F.os.length:Int)-1)=true) (h1:wO a=true) (h2:wO b=false):vK [zp F,t,.tup [a,b]]=↑(.err "NoCount" "told" b):=by
 have h:=mQ F t he;have hf:=mL a ha;have hf2:=mL b hb;rw[hw] at h;rw[h1] at hf;rw[h2] at hf2;have g0:L2.zy [a,b] 0=↑a:=rfl;have g1:L2.zy [a,b] 1=↑b:=rfl;unfold vK lh;generalize zp F=fl,qD=cc at *;simp[h,hf,hf2,g0,g1,yK,turn]
def jL {t:T}{n:Nat}(h:wh t 0 ((n:Int)-1)=true):∃ p:Nat,t=.int (p:Int)/\p<n:=by
 cases t with
 | int i=>
  simp![wh,Bc,decide_eq_true_eq] at h;show#[i.toNat,by rw[CH h.1],⋯]
 | _=>cases h
def gH {t:T}(h:wO t=true):∃ i:Int,t=.int i/\0<=i:=by
 cases t with
 | int i=>show#[i,rfl,by simpa [wO] using h]
 | _=>cases h
def KD {F:zI}(ok:F.Ok) {l:List Bd}(hB:qS [zp F]=↑(rT l)) (hl:l.length=F.os.length) (hg:∀ b∈l,Gd F.A F.B b) (t a b:T) (hw:wh t 0 ((F.os.length:Int)-1)=true) (h1:wO a=true) (h2:wO b=true) (ha:wh a 0 (10 ^ 30)=true) (hb:wh b 0 (10 ^ 30)=true):
  ∃ r,vK [zp F,t,.tup [a,b]]=↑r/\zT r=false:=by
 let#[p,rfl,hp]:=jL hw;let#[x,rfl,hx]:=gH h1;let#[y,rfl,hy]:=gH h2;have px:Pr x:=#[hx,by simp![wh,Bc,decide_eq_true_eq] at ha;show ha.2];have py:Pr y:=#[hy,by simp![wh,Bc,decide_eq_true_eq] at hb;show hb.2];have B_:=kg l p (by rw[hl];show hp);have D4:Gd F.A F.B (l.getD p []):=by
  have HI:p<l.length:=by rw[hl];show hp
  rw[BJ,Be HI];show hg _ (Ci HI)
 have hlen:=D4.rp ok.a0;have ha1:=ok.a1;have ID:=ok.b1;have hc:=mS F p hp;obtain⟨rr,hmk,he⟩:∃ rr,pE [.lst ((l.getD p []).map λ q=>.tup [.int (cost (x,y) q),zj q])]=↑rr/\zT rr=false:=#[_,ND (x,y) (l.getD p []),by cases fA (x,y) (l.getD p []) <;> rfl];have A6:∀ q∈l.getD p [],fZ q:=λ q hq=>by
  have:=D4.v5 q hq;unfold fZ;lia
 have Bo:qD [↑(.im (zp F)),↑(.im (.int (p:Int))),↑(.im (.tup [.int x,.int y])),none]=↑(.lst ((l.getD p []).map λ q=>T.tup [.int (cost (x,y) q),zj q])):=by
  unfold qD;exact xw zj _ (l.getD p []) ?_ ⋯ λ q hq=>?_
  .simp![zm] at B_;generalize zp F=fl at *;simp[hB,B_,bT]
  .have:=JU (ps:=(x,y)) px py (A6 q hq);unfold iz at this;dsimp only at this;generalize zj q=pq at *;simp[this]
 have hf:=mL (.int x) rfl;have hf2:=mL (.int y) rfl;rw[h1] at hf;rw[h2] at hf2;have g0:L2.zy [T.int x,.int y] 0=↑(.int x):=rfl;have g1:L2.zy [T.int x,.int y] 1=↑(.int y):=rfl;exact#[rr,?_,he];unfold vK lh;generalize qD=cc,((l.getD p []).map λ q=>T.tup [.int (cost (x,y) q),zj q])=LL,zp F=fl at *;simp[hc,hf,hf2,g0,g1,yK,turn,Bo,hmk,he]
theorem LZ {F:zI}(ok:F.Ok) {l:List Bd}(hB:qS [zp F]=↑(rT l)) (hl:l.length=F.os.length) (hg:∀ b∈l,Gd F.A F.B b) {p:Nat}(hp:p<F.os.length) (hq:0<=F.A/\0<=F.B):∃ v,tQ [zp F,.int (p:Int),zj (F.A,F.B)]=↑(.bl v):=by
 have c1:=mS F p hp;have c2:mR [zp F,zj (F.A,F.B)]=↑.zo:=by
  have h:=JT F (zu [F.A,F.B]) (iR _);have e:vR (zu [F.A,F.B]) [(0,F.A),(0,F.B)]=true:=by simp[vR,zu,wh,hq.1,hq.2]
  rw[e,if_pos rfl] at h;show h
 have hx:=kg l p (by rw[hl];show hp);have D4:Gd F.A F.B (l.getD p []):=by
  have HI:p<l.length:=by rw[hl];show hp
  rw[BJ,Be HI];show hg _ (Ci HI)
 have hlen:=D4.rp ok.a0;have ha1:=ok.a1;have hh:=JO (l.getD p []) (F.A,F.B) ⋯;exact#[ya (l.getD p []) (F.A,F.B),?_];generalize ya (l.getD p []) (F.A,F.B)=v,bT (l.getD p [])=bt,zj (F.A,F.B)=pq,zp F=fl,rT l=rl at *;simp![zm] at hx;unfold tQ XX;simp[c1,c2,hB,hx,hh]
section
variable {os:List Bool}{ws:List Wy}{ss:List Sl}
def Gf.ok (G:Gf os ws ss) {q:Int×Int}(h:(0<=q.1/\q.1<=3)/\0<=q.2/\q.2<=3):zI.Ok #[q.1,q.2,os,ws,ss]:=
 #[h.1.1,by dsimp only;lia,h.2.1,by dsimp only;lia,G.n1,G.n8,λ w hw=>(G.wr w hw).1,by have:=G.wl;dsimp only;lia,λ s hs=>#[(G.sr s hs).2.2.1.1,(G.sr s hs).2.2.2.1],
  .inr (by dsimp only;show Dc (Int.mul_le_mul (c:=4) ⋯ (by lia:_<=(4:Int)) ⋯ ⋯) ()),by have:=G.sl;dsimp only;lia]
open Classical in
def kD (os:List Bool) (ws:List Wy) (ss:List Sl) (p:Nat) (q:Int×Int):Bool:=decide (tQ [zp #[q.1,q.2,os,ws,ss],.int (p:Int),zj q]=↑(.bl true))
def Gf.enough (G:Gf os ws ss) {q:Int×Int}(h:(0<=q.1/\q.1<=3)/\0<=q.2/\q.2<=3) {p:Nat}(hp:p<os.length):tQ [zp #[q.1,q.2,os,ws,ss],.int (p:Int),zj q]=↑(.bl (kD os ws ss p q)):=by
 let#[l,hB,hl,hg]:=YN (G.ok h);let#[v,hv]:=LZ (G.ok h) hB hl hg (p:=p) hp #[h.1.1,h.2.1];have Hm:tQ [zp #[q.1,q.2,os,ws,ss],.int (p:Int),zj q]=↑(.bl v):=hv;unfold kD;rw[Hm];cases v <;> simp
def Md (fl:T) (p m:Int) (L:List (Int×Int)) (e:Int×Int->Bool) (gl:Int×Int->T) (h0:o7 [.int m]=↑(.lst (L.map zj))) (hl:L.length<=16) (h1:∀ q∈L,qN [fl,zj q]=↑(gl q)) (h2:∀ q∈L,tQ [gl q,.int p,zj q]=↑(.bl (e q))):
  qB [↑(.im fl),↑(.im (.int p)),↑(.im (.int m))]=↑(.lst ((L.filter e).map zj)):=by
 have:=nI zj (λ q=>if e q=true then ↑(zj q) else none) (pick:=[none,↑0,↑1]) (it:=yy (zk o7 (za (zi 2) zf))) (g:=zw 0) (c:=yv (zk (nA tQ) (za (zk qN (za (zi 1) (za (zi 0) zf))) (za (zi 2) (za (zi 0) zf))))) (f:=zi 0) (Y:=[↑(.im fl),↑(.im (.int p)),↑(.im (.int m))]) L (by
   generalize L.map zj=LL,o7=ff at *;simp[h0]) (Bk hl ()) (λ q hq=>by
   have a1:=h1 q hq;have a2:=h2 q hq;clear h0 h1 h2;generalize qN=f1,tQ=f2,gl q=gq,e q=eq,zj q=pq at *;cases eq <;> simp[a1,a2])
 unfold qB;rw[this,kz]
def NZ (F:zI) (t b:T) (he:zT t=false) (hw:wh t 0 ((F.os.length:Int)-1)=false):ur [zp F,t,b]=↑(.err "NoPlace" "place" t):=by
 have h:=mQ F t he;rw[hw] at h;unfold ur jI;generalize zp F=fl,qB=cc at *;simp[h]
def N_ (F:zI) (t b:T) (he:zT t=false) (hb:zT b=false) (hw:wh t 0 ((F.os.length:Int)-1)=true) (h3:wh b 0 3=false):ur [zp F,t,b]=↑(.err "NoCount" "told" b):=by
 have h:=mQ F t he;have h2:=j9 b 0 3 hb;rw[hw] at h;rw[h3] at h2;unfold ur jI;generalize zp F=fl,qB=cc at *;simp[h,h2]
def Mc (fl BT LL:T) (p m:Int) (c1:uu [fl,.int p]=↑.zo) (c2:tN [.int m,.int 0,.int 3]=↑(.bl true)) (hc:qB [↑(.im fl),↑(.im (.int p)),↑(.im (.int m))]=↑LL) (hF:uq [LL]=↑BT) (he:zT BT=false):ur [fl,.int p,.int m]=↑BT:=by
 unfold ur jI;generalize qB=cc,uu=f1,tN=f2,uq=f3 at *;simp[c1,c2,hc,hF,he]
theorem Gf.least (G:Gf os ws ss) (A0 B0:Int) (t b:T) (hw:wh t 0 ((os.length:Int)-1)=true) (h3:wh b 0 3=true):∃ r,ur [zp #[A0,B0,os,ws,ss],t,b]=↑r/\zT r=false:=by
 let#[p,rfl,hp]:=jL hw;let#[m,rfl,hm]:=jL (n:=4) (t:=b) h3;have hm3:m<=3:=⋯;have c1:=mS #[A0,B0,os,ws,ss] p hp;have c2:=j9 (.int (m:Int)) 0 3 rfl;rw[h3] at c2;have hl:=WQ hm3;have A6:∀ q∈upTo m,(0<=q.1/\q.1<=3)/\0<=q.2/\q.2<=3:=λ q h=>by have:=(WO q).mp h;lia
 have h0:=JF hm3;generalize upTo m=L at *;have hc:=Md (zp #[A0,B0,os,ws,ss]) (p:Int) (m:Int) L (kD os ws ss p) (λ q=>zp #[q.1,q.2,os,ws,ss]) h0 hl (λ q hq=>G.WD A0 B0 (by have:=A6 q hq;lia)) (λ q hq=>G.enough (A6 q hq) hp);generalize kD os ws ss p=e at *;have hf:(L.filter e).length<64:=by
  have:=Dd e L;lia
 show#[_,Mc _ _ _ _ _ c1 c2 hc (mJ (L.filter e) hf) rfl,rfl]
end
def YH (t:T) (a b:Int) (he:zT t=false):oz [t,.int a,.int b]=↑(.bl (wh t a b)):=by
 unfold oz XF;cases t with
 | err _ _ _=>cases he
 | int i=>by_cases h1:a<=i <;> by_cases h2:i<=b <;> simp[xx,wh,h1,h2]
 | _=>simp[xx,wh]
structure Od (t:T):Prop where
 ne:zT t=false
 dp:dep t<=60
 nd:t≠.yD
 le:∀ i,t=.int i->i<=10 ^ 30
def YL {t:T}(h:Od t):qQ [t,t]=↑(.bl true):=by
 have e:zL false t t=↑(.bl true):=by unfold zL;rw[if_pos #[h.dp,h.dp],gQ];rfl
 have e2:∀ b:Bool,zL true (.bl b) (.bl b)=↑(.bl false):=λ b=>by cases b <;> rfl
 unfold qQ XI;cases t with
 | err _ _ _=>cases h.ne
 | yD=>show absurd rfl h.nd
 | _=>simp[xx,e,e2]
theorem UW {L:List T}{P:T->Prop}(hP:∀ y∈L,P y) {i:Int}(h0:0<=i) (h1:i<L.length):∃ v,L2.zy L i=↑v/\P v:=by
 have e:i=(i.toNat:Int):=⋯;have hl:i.toNat<L.length:=⋯;rw[e];show#[L[i.toNat],vG (by simp[hl]),hP _ (Ci hl)]
theorem Od.int {i:Int}(h:i<=10 ^ 30):Od (.int i):=#[rfl,by change 0<=60;decide,nofun,λ j e=>by cases e;show h]
theorem jA (n g ab:Int) (hg:g<=10 ^ 30) (ha:0<=ab/\ab<=8):∃ t,sR [.int n,.int g,.int ab]=↑t/\Od t:=by
 have d3:xE n 3:=#[(),()];by_cases h0:n%3>0
 .exact#[.int g,?_,.int hg];unfold sR eG;simp[h0]
 .have Cu:ab<=10 ^ 30:=Int.le_trans ha.2 ();have hab2:100000000000000000000+ab<=10 ^ 30:=by
   have:(100000000000000000000:Int)+8<=10 ^ 30:=()
   lia
  have p20:tT 10 20:=()
  let#[v,h1,h2]:=UW (L:=[.int ab,.int (-1),.bl true,.bl false,.zo,.str "0",.tup [.int 0],.lst [.int 0],.int (100000000000000000000+ab)]) (P:=Od) (by
   intro y hy;simp![Ao,AY,or_false] at hy;rcases hy with rfl | rfl | rfl | rfl | rfl | rfl | rfl | rfl | rfl
   .show .int Cu
   .show .int ()
   .show#[rfl,(),nofun,nofun]
   .show#[rfl,(),nofun,nofun]
   .show#[rfl,(),nofun,nofun]
   .show#[rfl,(),nofun,nofun]
   .show#[rfl,(),nofun,nofun]
   .show#[rfl,(),nofun,nofun]
   .show .int hab2) (i:=n/3%9) (BU _ ()) (by
    have:=B4 (n/3) (b:=9) ();simp![Bb,Cz];lia)
  exact#[v,?_,h2];unfold sR eG;simp[h0,d3,p20,h1]
def kS {fl t th r:T}(h:vK [fl,t,th]=↑r):tM [.int 0,fl,t,th]=↑(if zT r=true then r else .zo):=by
 have e:zL false (.int 0) (.int 0)=↑(.bl true):=rfl;unfold tM eI;generalize vK=f1,ur=f2 at *;cases q:zT r <;> simp[h,q,e]
def fq {fl t th r:T}(h:ur [fl,t,th]=↑r):tM [.int 1,fl,t,th]=↑(if zT r=true then r else .zo):=by
 have e:zL false (.int 1) (.int 0)=↑(.bl false):=rfl;unfold tM eI;generalize vK=f1,ur=f2 at *;cases q:zT r <;> simp[h,q,e]
def LF (x:T):o3 [.err "NoPlace" "place" x]=↑(.lst ((List.range 9).map λ k=>T.bl (decide (k=1)))):=rfl
def LD (x:T):o3 [.err "NoCount" "told" x]=↑(.lst ((List.range 9).map λ k=>T.bl (decide (k=4)))):=rfl
theorem ZZ (c x:T) (d:Nat):qC [↑(.im c),↑(.im (.tup [.int (d:Int),x]))]=↑(.lst ((List.range 9).map λ k=>T.bl (decide (k=d)))):=by
 have hr:=p0 9 ();have hx:L2.zy [T.int (d:Int),x] 0=↑(.int (d:Int)):=rfl;unfold qC;exact xw (λ k:Nat=>T.int (k:Int)) _ (List.range 9) ?_ #[] λ k _=>?_
 .show hr▸rfl
 .have e:=eq_int (d:Int) (k:Int) false;have e2:decide ((d:Int)=(k:Int))=decide (k=d):=by
   rw[decide_eq_decide];lia
  simp[hx,e];lia
def cx {t:T}(h:Od t):uS [.err "NoPlace" "place" t,.tup [.int 1,t]]=↑(.bl true):=by
 have f:=LF t;have c:qC [↑(.im (.err "NoPlace" "place" t)),↑(.im (.tup [.int 1,t]))]=_:=ZZ (.err "NoPlace" "place" t) t 1;have l:=YL h;have g0:L2.zy [T.int 1,t] 0=↑(.int 1):=rfl;have g1:L2.zy [T.int 1,t] 1=↑t:=rfl;have e:zL true (.lst ((List.range 9).map λ k=>T.bl (decide (k=1)))) (.lst ((List.range 9).map λ k=>T.bl (decide (k=1))))=↑(.bl false):=rfl;have i0:su false (T.tup [T.int 1,t]) .zo=↑(.bl false):=rfl;have e1:zL false (.int 1) (.int 1)=↑(.bl true):=rfl;unfold uS eF;generalize qC=cc,o3=f1,qQ=f2,((List.range 9).map λ k=>T.bl (decide (k=1)))=LL at *;simp[f,c,l,g0,g1,e,e1,i0]
def il {t:T}(h:Od t):uS [.err "NoCount" "told" t,.tup [.int 4,t]]=↑(.bl true):=by
 have f:=LD t;have c:qC [↑(.im (.err "NoCount" "told" t)),↑(.im (.tup [.int 4,t]))]=_:=ZZ (.err "NoCount" "told" t) t 4;have l:=YL h;have g0:L2.zy [T.int 4,t] 0=↑(.int 4):=rfl;have g1:L2.zy [T.int 4,t] 1=↑t:=rfl;have e:zL true (.lst ((List.range 9).map λ k=>T.bl (decide (k=4)))) (.lst ((List.range 9).map λ k=>T.bl (decide (k=4))))=↑(.bl false):=rfl;have i0:su false (T.tup [T.int 4,t]) .zo=↑(.bl false):=rfl;have e1:zL false (.int 4) (.int 1)=↑(.bl false):=rfl;unfold uS eF;generalize qC=cc,o3=f1,qQ=f2,((List.range 9).map λ k=>T.bl (decide (k=4)))=LL at *;simp[f,c,l,g0,g1,e,e1,i0]
def cy:uS [.zo,.zo]=↑(.bl true):=rfl
def kF (n:Nat) (most:Int) (t:T) (cs:List T):T:=if wh t 0 ((n:Int)-1)=true then (match cs.find? λ c=>!wh c 0 most with | none=>.zo | some c=>.tup [.int 4,c]) else .tup [.int 1,t]
theorem Zz (F:zI) {t:T}(ht:zT t=false) (cs:List T) (hc:∀ c∈cs,zT c=false) (most:Int) (C:T) (hC:xI C=↑cs) (hl:cs.length<=2):rZ [zp F,t,C,.int most]=↑(kF F.os.length most t cs):=by
 have h0:=YH t 0 ((F.os.length:Int)-1) ht;have hk:L2.zy [zj (F.A,F.B),.tup (F.os.map kt),.tup (F.ws.map zM),.tup (F.ss.map zQ)] 1=↑(.tup (F.os.map kt)):=rfl;have hlen:((F.os.map kt).length:Int)=(F.os.length:Int):=#[];have hw:∀ c∈cs,oz [c,.int 0,.int most]=↑(.bl (wh c 0 most)):=λ c h=>YH c 0 most (hc c h);have ef:zp F=.tup [zj (F.A,F.B),.tup (F.os.map kt),.tup (F.ws.map zM),.tup (F.ss.map zQ)]:=rfl;unfold kF rZ XM;rw[ef];generalize F.os.map kt=O,F.ws.map zM=WL,F.ss.map zQ=SL,zj (F.A,F.B)=pp at *;cases q:wh t 0 ((F.os.length:Int)-1)
 .rw[q] at h0;simp[hk,hlen,h0]
 .rw[q] at h0;rcases cs with _ | ⟨a,_ | ⟨b,_ | ⟨c,cs⟩⟩⟩
  .simp[hk,hlen,h0,hC,yK]
  .have ha:=hw a #[];cases qa:wh a 0 most <;> rw[qa] at ha <;> simp[hk,hlen,h0,hC,yK,turn,ha,qa]
  .have ha:=hw a #[];have hb:=hw b #[];cases qa:wh a 0 most <;> rw[qa] at ha <;> cases qb:wh b 0 most <;> rw[qb] at hb <;> simp[hk,hlen,h0,hC,yK,turn,ha,qa,hb,qb]
  .simp at hl
def oK {a:T}(h:Od a):wh a 0 (10 ^ 50)=wO a:=by
 cases a with
 | int i=>
  have h1:=h.le i rfl;have h2:(10:Int) ^ 30<=10 ^ 50:=()
  have h3:i<=10 ^ 50:=Int.le_trans h1 h2;change (decide (0<=i)&&decide (i<=10 ^ 50))=decide (0<=i);rw[zaA h3,Bool.and_true]
 | _=>rfl
def eW {a:T}(h:Od a) (hf:wO a=true):wh a 0 (10 ^ 30)=true:=by
 let#[i,rfl,h0]:=gH hf;have h1:=h.le i rfl;simp![wh,Bc,decide_eq_true_eq];show#[h0,h1]
section
variable {os:List Bool}{ws:List Wy}{ss:List Sl}
def Gf.KI (G:Gf os ws ss) {A B:Int}(hA:0<=A/\A<=3) (hB:0<=B/\B<=3) {t a b:T}(ht:Od t) (ha:Od a) (hb:Od b):
  ∃ cg du,tM [.int 0,zp #[A,B,os,ws,ss],t,.tup [a,b]]=↑cg/\rZ [zp #[A,B,os,ws,ss],t,.tup [a,b],.int (10 ^ 50)]=↑du/\uS [cg,du]=↑(.bl true):=by
 have hd:=Zz #[A,B,os,ws,ss] ht.ne [a,b] (by
  intro c hc;simp![Ao,AY,or_false] at hc;rcases hc with rfl | rfl
  .show ha.ne
  .show hb.ne) (10 ^ 50) (.tup [a,b]) rfl (Ak 2)
 unfold kF at hd;cases qt:wh t 0 ((os.length:Int)-1)
 .have h:=kS (KC #[A,B,os,ws,ss] t a b ht.ne qt);rw[qt] at hd;show#[_,_,h,hd,cx ht]
 .rw[qt,if_pos rfl] at hd;cases qa:wO a
  .have h:=kS (KH #[A,B,os,ws,ss] t a b ht.ne ha.ne qt qa);have e:([a,b].find? λ c=>!wh c 0 (10 ^ 50))=↑a:=by rw[BE,oK ha,qa];rfl
   rw[e] at hd;show#[_,_,h,hd,il ha]
  .cases qb:wO b
   .have h:=kS (KG #[A,B,os,ws,ss] t a b ht.ne ha.ne hb.ne qt qa qb);have e:([a,b].find? λ c=>!wh c 0 (10 ^ 50))=↑b:=by rw[BE,oK ha,qa,BE,oK hb,qb];rfl
    rw[e] at hd;show#[_,_,h,hd,il hb]
   .have ok:=G.ok (q:=(A,B)) #[hA,hB];let#[l,l1,l2,l3]:=YN ok;let#[r,h1,h2]:=KD ok l1 l2 l3 t a b qt qa qb (eW ha qa) (eW hb qb);have h:=kS h1;rw[h2,if_neg ()] at h;have e:([a,b].find? λ c=>!wh c 0 (10 ^ 50))=none:=by rw[BE,oK ha,qa,BE,oK hb,qb];rfl
    rw[e] at hd;show#[_,_,h,hd,cy]
def Gf.Ma (G:Gf os ws ss) (A B:Int) {t n:T}(ht:Od t) (hn:Od n):
  ∃ cg du,tM [.int 1,zp #[A,B,os,ws,ss],t,n]=↑cg/\rZ [zp #[A,B,os,ws,ss],t,.lst [n],.int 3]=↑du/\uS [cg,du]=↑(.bl true):=by
 have hd:=Zz #[A,B,os,ws,ss] ht.ne [n] (by
  intro c hc;simp![Ao,AY,or_false] at hc;subst hc;show hn.ne) 3 (.lst [n]) rfl (by change 1<=2;decide)
 unfold kF at hd;cases qt:wh t 0 ((os.length:Int)-1)
 .have h:=fq (NZ #[A,B,os,ws,ss] t n ht.ne qt);rw[qt] at hd;show#[_,_,h,hd,cx ht]
 .rw[qt,if_pos rfl] at hd;cases qn:wh n 0 3
  .have h:=fq (N_ #[A,B,os,ws,ss] t n ht.ne hn.ne qt qn);have e:([n].find? λ c=>!wh c 0 3)=↑n:=by rw[BE,qn];rfl
   rw[e] at hd;show#[_,_,h,hd,il hn]
  .let#[r,h1,h2]:=G.least A B t n qt qn;have h:=fq h1;rw[h2,if_neg ()] at h;have e:([n].find? λ c=>!wh c 0 3)=none:=by rw[BE,qn];rfl
   rw[e] at hd;show#[_,_,h,hd,cy]
end
def YM (ns:List Int) (k:Nat):∃ v,sS [wL ns,.int (k:Int)]=↑(.int v):=by
 unfold sS XN wL;by_cases h:k<ns.length
 .have e:L2.zy (ns.map T.int) (k:Int)=↑(.int (ns.getD k 0)):=vG (by simp[h]);show#[_,by simp[h,e,uB];rfl]
 .show#[0,by simp[h,uB]]
def r9 {xs:List Int}{j:Nat}(h:j<xs.length):L2.zy (xs.map T.int) (j:Int)=↑(.int (xs.getD j 0)):=vG (by simp[h])
def small (x:Int) {m:Int}(h:0<m) (hm:m<=100):x%m<=10 ^ 30:=by
 have:=B4 x h;have h2:(100:Int)<=10 ^ 30:=()
 lia
theorem Mj {F:zI}(G:Gf F.os F.ws F.ss) (hA:0<=F.A/\F.A<=3) (hB:0<=F.B/\F.B<=3) (ns:List Int) (k:Nat):∃ Y',yz [2,3,4,5,6] Y'=[↑(.im (wL ns)),↑(.im (zp F)),none,none,none,none,none]/\turn (zw 2) my (.int (2+(k:Int)*14)) [↑(.im (wL ns)),↑(.im (zp F)),none,none,none,none,none]=↑(.nx Y'):=by
 let#[v,hv]:=YM ns (2+k*14);have Hm:sS [wL ns,.int (2+(k:Int)*14)]=↑(.int v):=by
  rw[<- hv];congr 3
 let#[xs,CJ,hx]:=YJ v 8 ();have Ck:sQ [.int v,.int 8]=↑(.lst (xs.map T.int)):=CJ;have i0:L2.zy (xs.map T.int) 0=↑(.int (xs.getD 0 0)):=r9 (j:=0) ⋯;have i1:L2.zy (xs.map T.int) 1=↑(.int (xs.getD 1 0)):=r9 (j:=1) ⋯;have i2:L2.zy (xs.map T.int) 2=↑(.int (xs.getD 2 0)):=r9 (j:=2) ⋯;have i3:L2.zy (xs.map T.int) 3=↑(.int (xs.getD 3 0)):=r9 (j:=3) ⋯;have i4:L2.zy (xs.map T.int) 4=↑(.int (xs.getD 4 0)):=r9 (j:=4) ⋯;have i5:L2.zy (xs.map T.int) 5=↑(.int (xs.getD 5 0)):=r9 (j:=5) ⋯;have i6:L2.zy (xs.map T.int) 6=↑(.int (xs.getD 6 0)):=r9 (j:=6) ⋯;have i7:L2.zy (xs.map T.int) 7=↑(.int (xs.getD 7 0)):=r9 (j:=7) ⋯;have n8:=G.n8;have n0:0<F.os.length:=G.n1;let#[t,ht,ot]:=jA (xs.getD 0 0) (xs.getD 1 0%(F.os.length:Int)) (F.os.length:Int) (small _ ⋯ ⋯) ⋯;let#[a,ha,oa]:=jA (xs.getD 2 0) (xs.getD 3 0%50) 0 (small _ () ()) ();let#[b,hb,ob]:=jA (xs.getD 4 0) (xs.getD 5 0%50) 0 (small _ () ()) ();let#[n,hn,on]:=jA (xs.getD 6 0) (xs.getD 7 0%4) 4 (small _ () ()) ();let#[c0,d0,r1,r2,r3]:=G.KI hA hB ot oa ob;let#[c1,d1,s1,s2,s3]:=G.Ma F.A F.B ot on;have k1:zm (zp F) (.int 1)=↑(.tup (F.os.map kt)):=rfl;have hl:((F.os.map kt).length:Int)=F.os.length:=#[];have p50:tT 10 50:=#[(),(),()];have e50:(10:Int) ^ 50=100000000000000000000000000000000000000000000000000:=()
 rw[e50] at r2;exact#[[↑(.im (wL ns)),↑(.im (zp F)),↑(.im (.int (2+(k:Int)*14))),↑(.im (.lst (xs.map T.int))),↑(.im t),↑(.im (.tup [a,b])),↑(.im n)],#[],?_];clear G CJ;unfold turn my;generalize sS=f1,sQ=f2,sR=f3,uS=f4,tM=f5,rZ=f6 at *;have DA:zp #[F.A,F.B,F.os,F.ws,F.ss]=zp F:=rfl;rw[DA] at r1 r2 s1 s2;generalize zp F=fl,F.os.map kt=O,wL ns=sc,(2+(k:Int)*14)=kk,xs.map T.int=XL,xs.getD 0 0=x0,xs.getD 1 0=x1,xs.getD 2 0=x2,xs.getD 3 0=x3,xs.getD 4 0=x4,xs.getD 5 0=x5,xs.getD 6 0=x6,xs.getD 7 0=x7 at *;simp![zm] at k1;simp[Hm,Ck,i0,i1,i2,i3,i4,i5,i6,i7,k1,hl,n0,ht,ha,hb,hn,r1,r2,r3,s1,s2,s3,p50]
theorem Mk (ns:List Int) (Bz:ns.length<=63):o5 [wL ns]=↑(.bl true):=by
 let#[c,hc]:=YM ns 1;have hc':sS [wL ns,.int 1]=↑(.int c):=hc;let#[F,hF,G,hA,hB]:=JP c 2 3 () () ();have hF':qR [.int c,.int 2,.int 3]=↑(zp F):=hF;obtain⟨n,hn⟩:∃ n:Nat,o_ [.int 2,.int (if (if (42:Int)<ns.length then 42 else (ns.length:Int))>3 then (if (42:Int)<ns.length then 42 else (ns.length:Int)) else 3),.int 14]=↑((List.range n).map λ(k:Nat)=>T.int (2+(k:Int)*14)):=by
  generalize hz:(if (if (42:Int)<ns.length then 42 else (ns.length:Int))>3 then (if (42:Int)<ns.length then 42 else (ns.length:Int)) else 3)=z;have HR:0<=z/\z<=60:=by rw[<- hz];split <;> split <;> lia
  exact#[uA 2 z 14,?_];change (if (rB 2=true/\rB z=true)/\rB 14=true/\(0:Int)<14 then ↑(lO 2 14 (uA 2 z 14)) else none)=_;rw[if_pos #[#[(),by simp[rB];lia],(),()]];rfl
 have IM:=kc (is:=[2,3,4,5,6]) (g:=zw 2) (b:=my) (λ k:Nat=>T.int (2+(k:Int)*14)) (λ _=>false) (.bl false)
  [↑(.im (wL ns)),↑(.im (zp F)),none,none,none,none,none] (List.range n)
  [↑(.im (wL ns)),↑(.im (zp F)),none,none,none,none,none] rfl λ k _=>by
   let#[Y',r1,r2]:=Mj G hA hB ns k;show#[Y',r1,by rw[if_neg ()];show r2]
 have Fc:(List.range n).any (λ _=>false)=false:=#[];rw[Fc,if_neg ()] at IM;have IP:xo [wL ns]=↑(.int (ns.length:Int)):=by simp[wL]
 unfold o5 XQ;generalize my=bb,sS=f1,qR=ff,(List.range n).map (λ(k:Nat)=>T.int (2+(k:Int)*14))=RR,zp F=fl,wL ns=sc,xo=ll2,o_=rr at *;simp[hc',hF',IP,hn,IM]
end zS
namespace PySem.W.Fast
def te11572402181855455850:=0
local macro_rules|`(command|example:=$s:str)=>do
 let mut r:Array Lean.Syntax:=.empty
 let mut n:=0
 let mut k:=0
 for c in s.getString.toList do
  let a:=c.toNat
  n:=n*62+(if a>96 then a-61 else if a>64 then a-55 else a-48)
  k:=k+1
  if k==11 then
   let i:=Lean.mkIdent (.mkSimple s!"tw{n}")
   r:=r.push (<-`(command|theorem $i:ident:True:=trivial))
   n:=0
   k:=0
 return Lean.mkNullNode r
example:="9BKMJVz6CcBJoeuno81a9TAHDWqEA0mzo48V4xTZgxbcBQLeWXe68Ni9oMaTmxyR5p1DQnWYQ19EL2pAFEbJyyBL8HCBN49wcgD35TGGLSY6siBdSXAJs1nQB9svbq9Jh52QJA4hNlUCqfd3DjxTmDMgDTCM8w8Is6E6d9kdrZtgSKdT1ZkWEwsZqVcBUBG4w3z8EREMZlmqvuGSwEHFpzqz6DZT4s6zlCS2AmMEhNqjeoTbSYGAz8yNniw3O7KqfE5J6QhAJTNrB1nKKU91FpHOGbh307FKKJp95qNY32b72anV56zg2wwhofR82a3HHhU2kGelaB1Dy2qoHRxyb3zUsUTgfUaHDPCqdVUi9eaC6l9PS9pRkEFy92qO8co6SH2yiCZKeqed3Km3FDyzbYPL1eyoBkopBU0IAMAM3HMfj8ePYNeoS4HnLbx3TaQvUST7eCJ4E0088j51C7G9UlmIUFPzUhOaxS5uCfKjAYYWJub7rM507WP13nCrQ6Kjam5eI9Vi0FFQQQys6IgIirYVX3096lAlAMxJnd3sTKYSSLLpa8oOTbZlxCzO3TdXc1AoM3P5mp5YerTy6YCrTmUfLo68A8fsjYCXPxR88VjAtXGDZrVGV8ygkCyrfN0GQclwcyCtN0mCnqd1q2Et1B5hZMjxkje3HVLNH8yB37CHY2AIVMwntIRc2Xs1u9tMF8vxwd7pRQZLPHYRHGHnGy6RhkhmzXIEYK4GrsR6MKBjCHFsA7vlETO2WXRmVlFXVKFLtf5NyuUcEJiqYAwhtv6FLgJXEOj3o5mJzIaJcGWm1C9eNDUIrjA7H5eGAWLj2v6q0xFEyoHvlRAJZARLqhQptSIu8L4l0urSn9bsdaqXWyPd8CQDSmMwyyX3qU8BdtNI4F1bczERWKkmSHByGEYMqIL8I3EUU864FXI8Fw3lUVE20VDVoOTBf33yRJ2dLdaieKue6wR2Y4ou7NpGpKgp9YvQd79HUWJX2xshF6YS5RLXUj0S4bTdhO3kCixLtGChLhHnqJDMIydmlInLF20KZXHThFYTAJrleIkFTMS1lTnczzDGYrAIYy41nsO7YD1tkKtOyQY5DHUxYSqqFp3Cv4AK5OQPyN6dG9qqXJdSH4hy7YcD1Mhz7WzeKsAp0gQC7wwFkAImBgDsv6vKw00RhEDDKxmyGkyzJGFNn2rkXPyG1r1iK5x1ihJaFNxMx6plaDyIoHxg4i4G3tqZOKHAWp42UXaU6fn2Uq5TkvD7LA1c75v0YdDcTlaQLtdjUUzZwBeD1Q4oPjU2xF5yQtHMGlzGFKzwCY79stSu5rEnNkulPiA2kEll2B69oS9aUmUUGeHxA5gtwOKwanGcBH8ozJdLJNO01BRsUCQ6jeEFqQITh8DZMHHIF1imQQSe549Xvtb5UXEGAvJtBiim1QGmB4eWzhnVn1zAdz3UIZiWKn3XjIAJbjEJ8dRfgwK27fEKX3nOTWDmIGe9UQjhT1zs4Y9GQeoLuTl86gOqIjWg6EA0JFE5ItJxlBviERZPbH4iJE7i5o1Ewq1FHoyOQadkZBLjqknrwYQZ1EvM0x9cu5qkAoJCkNnxOVwE4r5PCdBCP9EEaZJkNCWUw5So8Hnakyg9Ciamz28gyrj0a0bppqkwMvIz3fmT9qmfP6tpZ7wE4q8i66i9fKUPyAE0V71lf9MjFrFqxtvJVq9BtHyWnK9UbvJZ9r0W1rrcYe95UvJKCSivMfHnJdWbuCc9XIe0ey5aXSDGACPMeVnEc3L6B6zw0sqx2PFKZhmAQaj5qAYFa4E0qvJL0VEupibHKVt4aZJPqOxl3vFp0XjCJHjKJ8PespUrAKOiK2qXRTjcpcIFq2gXAtpMJoHwZ8suNfesv4XNpQIhSQOU1uGWAspJO25LB6ulW0kzH37SxMb751Bx10YseuDjAynn4HrB4hRyHqCFZ3BfWWb9G6Eh4pgpIhQRp0syx8OnMb9dGZ24tH4QtLjKwuPs3E3T2aGSTJg8JUngQDGoC6L7ahSlICfTXYG1l9C2JWi1Xp085ZBhpJO7yVUVnKDmi2Vk2KYwFKcS0OeOmCV7eiyCT8hFw2FtllTJAvmpf3lUadx13xRz9tGa1CCG63X99jMtvshQLf40pROch9SCeJ11iNx4LZTqJpQOsXatmx55KT0loYieUrC1jHUSnvvZqJL8da2C1S6DBNYeaiaBvYRLhFc7UXafGo9YQAQExRzbE3tuPwonkbr3KOd5IuBBO15FwbjyidmrR5FMBNsUiELfNCYgnF1bDu428wqksBNiSBiGUbeKOcySn86hS0aoIoCkvAzxqTJZLfJ36DqfHkvYvySGJbd4lSAYnHAoVnPhsjzNT3FeVtmH5g0NHv0J3cxYQ2fDpYvCoZqLArIf5GqhwxIO6CqL7KTmJQuKFdOA71zi84DFdbnkOfJIPq18V0toxOHk9E1VGop10kjB9sEmuMOGHAGLnnVtKUyHrNCpRUAkoOdwC8FmwPRWPNdX9GjXBfznw8MH3TvH9wZfU0IJuqZrfdchH51b77ujORmu08R1Fhd4kLF2TliEqgo6uWAHRvHNrTmJr01hCj3uZ87o9blhrtUc5Ii4KESq9AaSKsKy93DmiOD9AKJGlwv99dRwFnody8jzZ4d4QjzhBEj5qaIzK262HiGd1JaPXv8qHO640c41DzonLixKFCdcx9i6ZjGUGMNlcSjVu5yDYm51CuKeIbqDlzoQL6MC4RbjJUPmrtL60hF4UVjBL9wRicAemmZ9LUBMiJ00vbL6bRdTNjZrOk3KSlI617C3xDf5M9Tmu1S69R6aHRpmIz39tCet8Cn9gV7JPXrjCPr9D1lvcmWAoTtz5AWN1KWswZfHdr16mNKGdcB3jGInpuLY9LAjjU9YbR9t5hfZuTfFem6KKioUVRYStq2UKvxSZgNvw1dWiETz9jO135NE3gRgKGxAaQQ3hkEGzN2lCPXmxG1H57yFIm0DF4WrCOw1TLYp0zOKpqtlN9GhFNHDClfmcmXv56HJGRVoz5EC9PInNtnmg0p1cOZec4Zgjy17P0H4DTTJe4NAJ38JKeWS3VTvCNdF7V9GZKPGPyVMulCXNRIsyVJyrEbC0uLX2cbqGW9Yo0n1WlaKTOOq6LgCoEDcfaGBS0cvjIQK4GT00nvSLhSgJLCcXQf15au5I9iZcv2SVU2hn5QrnKmQdcxLHG4gG1x5iBIhMS5JzUrmuEXLHx8yBJrvTWMqY9ip03kMUC7mD6pX17FVOYqB7UZqKATWiz0hXVpn5Zk2p29jta0XbyNtLl4uaWBu1PrDs8anhqSW6WAnTppxPcnPxKas7vT0hVTgAXcCL6CuQHDE8pWzMET5W00TgA4Dq5BXuGTzFqnJClM8Dn04Ln8RnL8FGfn8FBLi428ElVVRTw59OKXRDPSGpr7EKgwHXM0Mr062uDTvOmuV8KCsfRMQvWfGs4MLJFK0sv6N5QPmUqam8232WNfrdvKKgUCPnbYuRo2b2AQgWA9YzsuiIZvkYFRZqFAGzXXG7ZPu7aA832tCO7qMk8iZCHXqPKqgBPVRgytwo1gDGRRoNgid9h6IFObUC1ZkH9TUeISmkGAV0lq5Jpyp2g088T1dwf3SuuC42M8EpOG6E7qZpYWMtEoO0opqyqPqjWPCDr0aIiuKVK80EqWHuOi3n4ohecgGCR1wDgY2EymGGXH70WOyQYExqU1oipHW7sbh2Gx4KkJCAFWm3g19ampEgFdLIMhkjO1210FX9vhpE6Rek0JZ2UZVHhJkE7HvVk6Nbfj2C0Y4vTaaqoL3NvLNu0fuyD3iSjtNIGFJJ1mwkYVT7VoEL5VzjDBSLsDQrVMkWYExe1xY76sctahy2UZqCyxzGzID6dSwkAc2xmDEeuqgeTCZZL5LqPwnJYcYA7wy9m1Asr61GXVzYYNFqDAygTz7vQuVY8G6cPwuXPtP469lvf0wOQY7Tx5YFNXVQgKyOyV4fzStD8ppwMUo7ZUc237JLS4hZ7EHwuZtLoxYimFHJxnAHIPPyBFmkHuziv6hLgOMqp8PUgSCTSC5kzpqLc26wN7jCEPXDGHBik9jelVsIsEXZ6vDYnuAkT7kRbcx15HDFlpoqCMlSI9Q29eqZlA4DACDlDIZYaBAd7Z5As91CAJajv5hnQxTu4hioxeBZia117eo850OVOuHibiVsQXNxmGPsM2E8z3Uk6KWWhpK0bRV3ctPOxPe9Cz4RZRMv3cJUTBmPokfV1ulBJEvErXePOuG2yVaPo82IJt7iLzkxUYi0M0ci4WcLDaRzBXx5FUK51ZaBDVU6MaX1449LMWuRDEpkMIGc855jFZAF5Df2ktfVIqc8U0lbVzcmQAAljeGrMtvZqJV8DUBopDejHlj70Wo5TXa5QMTLdHivgn9p1AQjjDthhEZwv7ymtblx54SF8qRbP4i5MlcpNEpwBG2NF6gaXUkixLLDr5A2RRcw805MPyZe77cJVFF9FVoKNBGSUVTkBqOlt53Outlem53c32e5dTDBLo7LqG19vF1A8u2VU0FOtXCGIE9euzBQNDqVGtfVnW7zuIQ9oeaMCFiY323a88Fr6b3JeJL31uSNr3lRBB3ZgzNHPk324SCkfLFJn4KKZnI84fISgBR7Fky7yeD08egTiy1ZiuuAabjZsISLDGLSzBYl5KXbp2jOwXke4Gaq7H7DXzO3rxhCxJ4h4Bqoy3GbDimWkE6nH594kmn2Wl37AOlGZLc8QyzDusHe3ZMaheErnjANAJO1hDvsg4oNGUv37wSJM98Hd9pKxtklJ34xm3FR7FVbfwAlB7lN5EQr7o6M0YVaN2KYPXvFcuKi6KUSRwCoGiXrOVBjbI3IaNr4F7Xu7QoJpXMQIzv5NdIIFbuOGQEOQhOtsV0Xx90573jmaVd4IJxdbnAy9maH7gjLm1JX3iKkAIEI31LmKAuUxMZRHJRJJEBydq5h0z3JTMCE4lkSjMFt00O38EpSC6AXuZxNpaTX1y7jXGfxzFR4vnHTBi62SO04pLlYqSNHR2CATXiUFMKP7YaUZoCtciRIaWBlT6q2e9IFQb1FqM2BH9YXd9JdWqDHJCod9O3HttRGnslmoxQDNCHbIFNeqGQvF2KROTcCraYxCWhtuYQQK9wJP7HWr6I6R51n6PtwF4R9DCCROOaqLksZAjBs3opkas64vdjo2ho1AD4Pk6A71Jllg4kxFJa0FjqG2yNqNbdbgFmF3D4vCFF8n48l5oKxUqm7jEvYzgkJ9nzuKB0hmRFvAeKClWARfOm54R6IENynkiQvPDV0fGYZAj0dLRJkPTCWMyiLnuQNK2plnBD9JxtRsSVo7"
end PySem.W.Fast
namespace zS
open PySem L2 L3 L5
open PyProof.Rows hiding St
def top (i:Nat):Stmt:=PySem.Challenge.pw_purseborder_k73_worth_refused.main.body.getD i (.Pass #[0,0,0,0])
abbrev kl:Stmt:=(fh (top 4)).getD 0 (.Pass #[0,0,0,0])
abbrev km:Stmt:=(fh (top 5)).getD 0 (.Pass #[0,0,0,0])
abbrev pP:Stmt:=(fh (top 8)).getD 0 (.Pass #[0,0,0,0])
def M8:uR "told" pP:=#[pX,#[_,_,_,_,rfl,λ _=>rfl],λ _ _ _ _ _ _ _ _=>mz λ _ _=>rfl]
def M7:uR "pair" km:=#[pX,#[_,_,_,_,rfl,λ _=>rfl],λ _ _ _ _ _ _ _ _=>mz λ _ _=>rfl]
def M6:uR "place" kl:=#[pX,#[_,_,_,_,rfl,λ _=>rfl],λ _ _ _ _ _ _ _ _=>mz λ _ _=>rfl]
set_option maxHeartbeats 0
section
variable (P:Program)(w:World)(K:Ac)(mg:Au)(base:Heap)
abbrev jG:=FD P w K mg base "is_whole" 1 ["thing"] (zx zv tP)
abbrev eD:=FD P w K mg base "are_rising" 1 ["things"] (zx zv sT)
abbrev Xk:=FD P w K mg base "is_owner" 1 ["thing"] (zx zv ej)
abbrev ez:=FD P w K mg base "places_of" 1 ["floor"] (zx zv qP)
abbrev eB:=FD P w K mg base "at_or_above" 1 ["pair","other"] (zx zv oA)
abbrev oB:=FD P w K mg base "least_pairs" 1 ["pairs"] (zx zv uq)
abbrev YV:=FD P w K mg base "pairs_ahead_of_changes" 1 ["brims","stall","pair"] (zx zv mH)
abbrev Xr:=FD P w K mg base "cost_of" 1 ["pair","prices"] (zx zv jE)
abbrev Xu:=FD P w K mg base "brims_up_to" 1 ["most"] (zx zv o7)
abbrev Xg:=FD P w K mg base "_law_cell_at" 1 ["_law_script","_law_k"] (zx xg sS)
abbrev e9:=FD P w K mg base "_law_stirred" 1 ["_law_cell","_law_count"] (zx zv sQ)
abbrev Xi:=FD P w K mg base "_law_amount" 1 ["_law_number","_law_most"] (zx zv o4)
abbrev Xe:=FD P w K mg base "_law_flags" 1 ["_law_caught_here"] (zx zv o3)
abbrev Xc:=FD P w K mg base "_law_like" 1 ["_law_one","_law_other"] (zx zv qQ)
abbrev YZ:=FD P w K mg base "_law_whole" 1 ["_law_thing","_law_least","_law_most"] (zx zv oz)
abbrev Xb:=FD P w K mg base "_law_odd" 1 ["_law_number","_law_good","_law_above"] (zx xg sR)
abbrev jF:=FD P w K mg base "is_whole_within" 2 ["thing","least","most"] (zx zv tN)
abbrev Xl:=FD P w K mg base "is_from_nought_on" 2 ["thing"] (zx zv jC)
abbrev X3:=FD P w K mg base "are_owners" 2 ["thing"] (zx zv mZ)
abbrev Xn:=FD P w K mg base "holds" 2 ["border","pair"] (zx zv jD)
abbrev Xv:=FD P w K mg base "both" 2 ["border","other"] (zx zv mT)
abbrev Xq:=FD P w K mg base "either" 2 ["border","other"] (zx zv mO)
abbrev Xy:=FD P w K mg base "border_ahead_of_way" 2 ["brims","way","border"] (zx zv mW)
abbrev Xj:=FD P w K mg base "is_row" 2 ["thing"] (zx zv jB)
abbrev Y_:=FD P w K mg base "_law_way" 2 ["_law_place","_law_many","_law_number","_law_size"] (zx zv rY)
abbrev Xa:=FD P w K mg base "_law_right" 2 ["_law_caught_here","_law_due_here"] (zx zv uS)
abbrev Xf:=FD P w K mg base "_law_due" 2 ["_law_floor_here","_law_place","_law_counts","_law_most"] (zx zv rZ)
abbrev jH:=FD P w K mg base "is_row_within" 3 ["thing","bounds"] (zx zv r_)
abbrev oE:=vh P w K mg base "check_place" 3 ["floor","place"] (zx zv uu)
abbrev Xw:=FD P w K mg base "border_of_either" 3 ["borders"] (zx xg mU)
abbrev Xx:=FD P w K mg base "border_of_all" 3 ["borders"] (zx xg mV)
abbrev Xd:=FD P w K mg base "_law_floor" 3 ["_law_cell","_law_most","_law_brim"] (zx zv qR)
abbrev eC:=FD P w K mg base "are_rows_within" 4 ["thing","bounds"] (zx zv qT)
abbrev X4:=FD P w K mg base "are_brims" 4 ["thing"] (zx zv m_)
abbrev Xs:=vh P w K mg base "check_pair" 4 ["floor","pair"] (zx zv mR)
abbrev YS:=FD P w K mg base "ways_from" 4 ["floor","place"] (zx zv mF)
abbrev YT:=FD P w K mg base "stall_at" 4 ["floor","place"] (zx xg qO)
abbrev X0:=FD P w K mg base "are_ways" 5 ["thing","places"] (zx zv mX)
abbrev X2:=FD P w K mg base "are_stalls" 5 ["thing","owners"] (zx zv mY)
abbrev Xz:=FD P w K mg base "border_ahead_of_changes" 5 ["floor","place","border"] (zx xg o8)
abbrev Xm:=FD P w K mg base "is_floor" 6 ["thing"] (zx zv mK)
abbrev YX:=FD P w K mg base "next_border" 6 ["floor","place","last"] (zx xg mI)
abbrev YW:=FD P w K mg base "next_round" 7 ["floor","last","fresh"] (zx zv oy)
abbrev Xo:=FD P w K mg base "floor_of" 7 ["brims","owners","ways","stalls"] (zx xg mM)
abbrev YU:=FD P w K mg base "rounds" 8 ["floor"] (zx zv mG)
abbrev YR:=FD P w K mg base "with_brims" 8 ["floor","brims"] (zx xg qN)
abbrev eA:=FD P w K mg base "borders" 9 ["floor"] (zx xg qS)
abbrev Xp:=vh P w K mg base "enough" 10 ["floor","place","pair"] (zx zv tQ)
abbrev Xt:=vh P w K mg base "cheapest" 10 ["floor","place","prices"] (zx zv vK)
abbrev YY:=vh P w K mg base "least_brims" 11 ["floor","place","most"] (zx zv ur)
abbrev Xh:=FD P w K mg base "_law_caught" 12 ["_law_way_here","_law_floor_here","_law_place","_law_thing"] (zx xg tM)
variable {K mg}(T:Bt mg)(U:X5 mg)
include T U
theorem O5 (F:Fy K mg "is_whole" (top 17)):jG P w K mg base:=
 zU [] F
theorem Nl (F:Fy K mg "are_rising" (top 22)):eD P w K mg base:=
 zU [(["one","other"],[none,none])] F
theorem O8 (F:Fy K mg "is_owner" (top 24)) (FE:Cm mg "KEEPER" (.str "keeper")) (GF:Cm mg "TAKER" (.str "taker")):Xk P w K mg base:=
 zU [] F
theorem PX (F:Fy K mg "places_of" (top 29)):ez P w K mg base:=
 zU [] F
theorem Nh (F:Fy K mg "at_or_above" (top 35)):eB P w K mg base:=
 zU [] F
theorem Oj (F:Fy K mg "least_pairs" (top 36)):oB P w K mg base:=
 zU [] F
theorem PY (F:Fy K mg "pairs_ahead_of_changes" (top 42)):YV P w K mg base:=
 zU [] F
theorem OT (F:Fy K mg "cost_of" (top 58)):Xr P w K mg base:=
 zU [] F (by intro f Ah A outer s H E hc nd hN hS hr;have hB:=trivial;show#[_,pA,ny])
theorem OZ (F:Fy K mg "brims_up_to" (top 60)):Xu P w K mg base:=
 zU [(["second","first"],[none,↑2])] F
theorem O0 (F:Fy K mg "_law_cell_at" (top 63)):Xg P w K mg base:=
 zU [] F
theorem Ot (F:Fy K mg "_law_stirred" (top 64)):e9 P w K mg base:=
 zU [] F (by intro f Ah A outer s H E hc nd hN hS hr;have hB:=trivial;show#[_,pA,ny])
theorem O2 (F:Fy K mg "_law_amount" (top 65)):Xi P w K mg base:=
 zU [] F
theorem Oy (F:Fy K mg "_law_flags" (top 68)) (FU:Og K mg "NoChange") (F5:Og K mg "NoCount") (F4:Og K mg "NoFloor") (Gg:Og K mg "NoMore") (Ge:Og K mg "NoName") (Gb:Og K mg "NoPair") (F0:Og K mg "NoPlace") (GD:Og K mg "NoRow") (GC:Og K mg "NoWay"):Xe P w K mg base:=
 zU [] F
theorem Ow (F:Fy K mg "_law_like" (top 69)):Xc P w K mg base:=
 zU [] F
theorem Oo (F:Fy K mg "_law_whole" (top 70)):YZ P w K mg base:=
 zU [] F
theorem Ov (F:Fy K mg "_law_odd" (top 71)):Xb P w K mg base:=
 zU [] F
theorem O4 (F:Fy K mg "is_whole_within" (top 18)) (Fw:jG P w K mg base):jF P w K mg base:=
 zU [] F
theorem O9 (F:Fy K mg "is_from_nought_on" (top 19)) (Fw:jG P w K mg base):Xl P w K mg base:=
 zU [] F
theorem Nm (F:Fy K mg "are_owners" (top 25)) (Fz:Cm mg "MOST_PLACES" (.int 8)) (GQ:Xk P w K mg base):X3 P w K mg base:=
 zU [(["owner"],[none])] F
theorem OG (F:Fy K mg "holds" (top 37)) (FC:eB P w K mg base):Xn P w K mg base:=
 zU [(["own","pair"],[none,↑1])] F
theorem O_ (F:Fy K mg "both" (top 38)) (Fg:oB P w K mg base):Xv P w K mg base:=
 zU [(["pair"],[none])] F
theorem OP (F:Fy K mg "either" (top 39)) (Fg:oB P w K mg base):Xq P w K mg base:=
 zU [] F
theorem Nd (F:Fy K mg "border_ahead_of_way" (top 41)) (Fg:oB P w K mg base) (FC:eB P w K mg base):Xy P w K mg base:=
 zU [(["pair","way"],[none,↑1]),(["pair","brims"],[none,↑0])] F
theorem O7 (F:Fy K mg "is_row" (top 53)) (Fw:jG P w K mg base):Xj P w K mg base:=
 zU [(["number"],[none])] F
theorem Oq (F:Fy K mg "_law_way" (top 66)) (Gm:Xi P w K mg base):Y_ P w K mg base:=
 zU [] F
theorem Ou (F:Fy K mg "_law_right" (top 73)) (hVE:mg "ValueError"=none) (GP:Xc P w K mg base) (Gx:Xe P w K mg base):Xa P w K mg base:=
 zU [(["_law_k","_law_due_here"],[none,↑1])] F
theorem Oz (F:Fy K mg "_law_due" (top 74)) (Gu:YZ P w K mg base):Xf P w K mg base:=
 zU [] F
theorem O6 (F:Fy K mg "is_row_within" (top 20)) (Fi:jF P w K mg base):jH P w K mg base:=
 zU [(["number","bound"],[none,none])] F
theorem OU (F:Fy K mg "check_place" (top 30)) (F6:rX K mg "NoPlace" "place" kl/\uR "place" kl) (Fi:jF P w K mg base) (FP:ez P w K mg base):oE P w K mg base:=
 nU [] F
theorem Nb (F:Fy K mg "border_of_either" (top 44)) (Hl:Xq P w K mg base):Xw P w K mg base:=
 zU [] F
theorem Nc (F:Fy K mg "border_of_all" (top 45)) (Iq:Xv P w K mg base):Xx P w K mg base:=
 zU [] F
theorem Ox (F:Fy K mg "_law_floor" (top 67)) (FA:e9 P w K mg base) (G7:Y_ P w K mg base):Xd P w K mg base:=
 zU [] F
theorem Nk (F:Fy K mg "are_rows_within" (top 21)) (Fj:jH P w K mg base):eC P w K mg base:=
 zU [(["row","bounds"],[none,↑1])] F
theorem Nn (F:Fy K mg "are_brims" (top 23)) (Fn:Cm mg "MOST_COINS" (.int 12)) (Fj:jH P w K mg base):X4 P w K mg base:=
 zU [] F
theorem OV (F:Fy K mg "check_pair" (top 31)) (Gh:rX K mg "NoPair" "pair" km/\uR "pair" km) (Fj:jH P w K mg base):Xs P w K mg base:=
 nU [] F
theorem PB (F:Fy K mg "ways_from" (top 32)) (Fh:oE P w K mg base):YS P w K mg base:=
 zU [(["number","way","place"],[none,none,↑1])] F
theorem PQ (F:Fy K mg "stall_at" (top 33)) (Fh:oE P w K mg base):YT P w K mg base:=
 zU [] F
theorem Ni (F:Fy K mg "are_ways" (top 26)) (Fn:Cm mg "MOST_COINS" (.int 12)) (FN:Cm mg "MOST_WAYS" (.int 24)) (Fp:eC P w K mg base) (FI:eD P w K mg base):X0 P w K mg base:=
 zU [(["way"],[none]),(["start","starts"],[none,↑4])] F
theorem Nj (F:Fy K mg "are_stalls" (top 27)) (FE:Cm mg "KEEPER" (.str "keeper")) (Fn:Cm mg "MOST_COINS" (.int 12)) (Fp:eC P w K mg base) (FI:eD P w K mg base):X2 P w K mg base:=
 zU [(["stall"],[none]),(["stall","owners"],[none,↑1])] F
theorem Nf (F:Fy K mg "border_ahead_of_changes" (top 43)) (GO:YT P w K mg base) (Fg:oB P w K mg base) (Fu:YV P w K mg base):Xz P w K mg base:=
 zU [] F
theorem OA (F:Fy K mg "is_floor" (top 28)) (GV:X0 P w K mg base) (Gp:X2 P w K mg base) (Gy:X4 P w K mg base) (Gq:X3 P w K mg base):Xm P w K mg base:=
 zU [] F
theorem Ob (F:Fy K mg "next_border" (top 46)) (FE:Cm mg "KEEPER" (.str "keeper")) (FW:Xx P w K mg base) (Fv:Xy P w K mg base) (Fq:Xz P w K mg base) (Gs:YS P w K mg base) (FL:Xw P w K mg base):YX P w K mg base:=
 zU [(["number","floor"],[none,↑0]),(["way","floor","last"],[none,↑0,↑2])] F
theorem Oa (F:Fy K mg "next_round" (top 47)) (F8:YX P w K mg base):YW P w K mg base:=
 zU [(["way","fresh"],[none,↑2])] F
theorem OH (F:Fy K mg "floor_of" (top 54)) (GR:Xm P w K mg base) (Hj:Xj P w K mg base):Xo P w K mg base:=
 zU [(["row"],[none])] F
theorem PU (F:Fy K mg "rounds" (top 48)) (Gj:YW P w K mg base) (FP:ez P w K mg base):YU P w K mg base:=
 zU [(["place","border","last"],[none,none,↑3])] F
theorem P0 (F:Fy K mg "with_brims" (top 55)) (GS:Xo P w K mg base):YR P w K mg base:=
 zU [] F
theorem Na (F:Fy K mg "borders" (top 50)) (Hi:YU P w K mg base):eA P w K mg base:=
 zU [] F
theorem OM (F:Fy K mg "enough" (top 51)) (Fh:oE P w K mg base) (Gn:Xs P w K mg base) (HP:Xn P w K mg base) (F7:eA P w K mg base):Xp P w K mg base:=
 nU [] F
theorem OW (F:Fy K mg "cheapest" (top 59)) (FJ:rX K mg "NoCount" "told" pP/\uR "told" pP) (Fh:oE P w K mg base) (FG:Xl P w K mg base) (G_:Xr P w K mg base) (F7:eA P w K mg base):Xt P w K mg base:=
 nU [(["pair","prices"],[none,↑2])] F
theorem Ol (F:Fy K mg "least_brims" (top 61)) (FO:Cm mg "MOST_BRIM" (.int 3)) (FJ:rX K mg "NoCount" "told" pP/\uR "told" pP) (Fh:oE P w K mg base) (Fg:oB P w K mg base) (Fi:jF P w K mg base) (Ga:Xu P w K mg base) (Hk:Xp P w K mg base) (Gi:YR P w K mg base):YY P w K mg base:=
 nU [(["brims","floor","place"],[none,↑0,↑1])] F
theorem O1 (F:Fy K mg "_law_caught" (top 72)) (GU:Xt P w K mg base) (F9:YY P w K mg base):Xh P w K mg base:=
 zU [] F
theorem O3 {f:Addr}{fd:FuncData}(F:wy K "law" "law" (top 75) f fd) (Gw:Xd P w K mg base) (F_:Xg P w K mg base) (FA:e9 P w K mg base) (G8:Xb P w K mg base) (Gv:Xa P w K mg base) (Gk:Xh P w K mg base) (G9:Xf P w K mg base):yP P w K mg base y8 13 f fd ["_law_script"] (uV K (zx zv o5)):=
 LC [] F
end
def all_mk {l:PySem.W.OpenLaw}{w:World}{K:Ac}{h:Heap}{mg:Au}{fa:Addr}(X:K.In h) (G:h.Ns mainGlobals mg) (E5:mg "law"=↑(.ref fa))
  (h0:Fx K "is_whole" (top 17)) (h1:Fx K "is_whole_within" (top 18)) (h2:Fx K "is_from_nought_on" (top 19)) (h3:Fx K "is_row_within" (top 20)) (h4:Fx K "are_rows_within" (top 21)) (h5:Fx K "are_rising" (top 22)) (h6:Fx K "are_brims" (top 23)) (h7:Fx K "is_owner" (top 24)) (h8:Fx K "are_owners" (top 25)) (h9:Fx K "are_ways" (top 26)) (h10:Fx K "are_stalls" (top 27)) (h11:Fx K "is_floor" (top 28)) (h12:Fx K "places_of" (top 29)) (h13:Fx K "check_place" (top 30)) (h14:Fx K "check_pair" (top 31)) (h15:Fx K "ways_from" (top 32)) (h16:Fx K "stall_at" (top 33)) (h17:Fx K "at_or_above" (top 35)) (h18:Fx K "least_pairs" (top 36)) (h19:Fx K "holds" (top 37)) (h20:Fx K "both" (top 38)) (h21:Fx K "either" (top 39)) (h22:Fx K "border_ahead_of_way" (top 41)) (h23:Fx K "pairs_ahead_of_changes" (top 42)) (h24:Fx K "border_ahead_of_changes" (top 43)) (h25:Fx K "border_of_either" (top 44)) (h26:Fx K "border_of_all" (top 45)) (h27:Fx K "next_border" (top 46)) (h28:Fx K "next_round" (top 47)) (h29:Fx K "rounds" (top 48)) (h30:Fx K "borders" (top 50)) (h31:Fx K "enough" (top 51)) (h32:Fx K "is_row" (top 53)) (h33:Fx K "floor_of" (top 54)) (h34:Fx K "with_brims" (top 55)) (h35:Fx K "cost_of" (top 58)) (h36:Fx K "cheapest" (top 59)) (h37:Fx K "brims_up_to" (top 60)) (h38:Fx K "least_brims" (top 61)) (h39:Fx K "_law_cell_at" (top 63)) (h40:Fx K "_law_stirred" (top 64)) (h41:Fx K "_law_amount" (top 65)) (h42:Fx K "_law_way" (top 66)) (h43:Fx K "_law_floor" (top 67)) (h44:Fx K "_law_flags" (top 68)) (h45:Fx K "_law_like" (top 69)) (h46:Fx K "_law_whole" (top 70)) (h47:Fx K "_law_odd" (top 71)) (h48:Fx K "_law_caught" (top 72)) (h49:Fx K "_law_right" (top 73)) (h50:Fx K "_law_due" (top 74)) (h51:Fx K "law" (top 75))
  (FE:Cn K "KEEPER" (.str "keeper"))
  (FO:Cn K "MOST_BRIM" (.int 3))
  (Fn:Cn K "MOST_COINS" (.int 12))
  (Fz:Cn K "MOST_PLACES" (.int 8))
  (FN:Cn K "MOST_WAYS" (.int 24))
  (GF:Cn K "TAKER" (.str "taker"))
  (FJ:Ei K "NoCount" "told" pP)
  (Gh:Ei K "NoPair" "pair" km)
  (F6:Ei K "NoPlace" "place" kl)
  (FU:Ec K "NoChange")
  (F5:Ec K "NoCount")
  (F4:Ec K "NoFloor")
  (Gg:Ec K "NoMore")
  (Ge:Ec K "NoName")
  (Gb:Ec K "NoPair")
  (F0:Ec K "NoPlace")
  (GD:Ec K "NoRow")
  (GC:Ec K "NoWay")
  (hVE:PySem.W.nsIn K mainGlobals "ValueError"=↑none)
  (y0:PySem.W.nsIn K mainGlobals "set"=↑none) (y1:PySem.W.nsIn K mainGlobals "zip"=↑none) (y2:PySem.W.nsIn K mainGlobals "enumerate"=↑none) (y3:PySem.W.nsIn K mainGlobals "abs"=↑none)
  (z0:PySem.W.nsIn K mainGlobals "len"=↑none) (z1:PySem.W.nsIn K mainGlobals "range"=↑none) (z2:PySem.W.nsIn K mainGlobals "any"=↑none) (z3:PySem.W.nsIn K mainGlobals "all"=↑none) (z4:PySem.W.nsIn K mainGlobals "sorted"=↑none) (z5:PySem.W.nsIn K mainGlobals "isinstance"=↑none) (z6:PySem.W.nsIn K mainGlobals "bool"=↑none) (z7:PySem.W.nsIn K mainGlobals "int"=↑none) (z8:PySem.W.nsIn K mainGlobals "str"=↑none) (z9:PySem.W.nsIn K mainGlobals "list"=↑none) (z10:PySem.W.nsIn K mainGlobals "tuple"=↑none) (z11:PySem.W.nsIn K mainGlobals "max"=↑none) (z12:PySem.W.nsIn K mainGlobals "min"=↑none):
  ∃ fd:FuncData,(∀ (s:Shared) (v:Value),BindsTo s fd #[[v],[]] [("_law_script",v)])/\∀ base:Heap,K.In base->base.Ns mainGlobals mg->yP l.prog w K mg base y8 13 fa fd ["_law_script"] (uV K (zx zv o5)):=by
 have T:Bt mg:=#[Bi X G z0,Bi X G z1,Bi X G z2,Bi X G z3,Bi X G z4,Bi X G z5,Bi X G z6,Bi X G z7,Bi X G z8,Bi X G z9,Bi X G z10,Bi X G z11,Bi X G z12];have U:X5 mg:=#[#[Bi X G y0,Bi X G y1,Bi X G y2],Bi X G y3];replace FE:=FE.mk X G;replace FO:=FO.mk X G;replace Fn:=Fn.mk X G;replace Fz:=Fz.mk X G;replace FN:=FN.mk X G;replace GF:=GF.mk X G;have FJ:=And.intro (FJ.mk X G) M8;have Gh:=And.intro (Gh.mk X G) M7;have F6:=And.intro (F6.mk X G) M6;replace FU:=FU.mk X G;replace F5:=F5.mk X G;replace F4:=F4.mk X G;replace Gg:=Gg.mk X G;replace Ge:=Ge.mk X G;replace Gb:=Gb.mk X G;replace F0:=F0.mk X G;replace GD:=GD.mk X G;replace GC:=GC.mk X G;replace hVE:=Bi X G hVE;let#[fd,Fl,hb]:=h51.law X G E5 λ _ _ _ _ _ _ _ _=>.of_eq rfl;exact#[fd,hb,λ base _ _=>?_];have Fw:=O5 l.prog w base T U (h0.mk X G);have FI:=Nl l.prog w base T U (h5.mk X G);have GQ:=O8 l.prog w base T U (h7.mk X G) FE GF;have FP:=PX l.prog w base T U (h12.mk X G);have FC:=Nh l.prog w base T U (h17.mk X G);have Fg:=Oj l.prog w base T U (h18.mk X G);have Fu:=PY l.prog w base T U (h23.mk X G);have G_:=OT l.prog w base T U (h35.mk X G);have Ga:=OZ l.prog w base T U (h37.mk X G);have F_:=O0 l.prog w base T U (h39.mk X G);have FA:=Ot l.prog w base T U (h40.mk X G);have Gm:=O2 l.prog w base T U (h41.mk X G);have Gx:=Oy l.prog w base T U (h44.mk X G) FU F5 F4 Gg Ge Gb F0 GD GC;have GP:=Ow l.prog w base T U (h45.mk X G);have Gu:=Oo l.prog w base T U (h46.mk X G);have G8:=Ov l.prog w base T U (h47.mk X G);have Fi:=O4 l.prog w base T U (h1.mk X G) Fw;have FG:=O9 l.prog w base T U (h2.mk X G) Fw;have Gq:=Nm l.prog w base T U (h8.mk X G) Fz GQ;have HP:=OG l.prog w base T U (h19.mk X G) FC;have Iq:=O_ l.prog w base T U (h20.mk X G) Fg;have Hl:=OP l.prog w base T U (h21.mk X G) Fg;have Fv:=Nd l.prog w base T U (h22.mk X G) Fg FC;have Hj:=O7 l.prog w base T U (h32.mk X G) Fw;have G7:=Oq l.prog w base T U (h42.mk X G) Gm;have Gv:=Ou l.prog w base T U (h49.mk X G) hVE GP Gx;have G9:=Oz l.prog w base T U (h50.mk X G) Gu;have Fj:=O6 l.prog w base T U (h3.mk X G) Fi;have Fh:=OU l.prog w base T U (h13.mk X G) F6 Fi FP;have FL:=Nb l.prog w base T U (h25.mk X G) Hl;have FW:=Nc l.prog w base T U (h26.mk X G) Iq;have Gw:=Ox l.prog w base T U (h43.mk X G) FA G7;have Fp:=Nk l.prog w base T U (h4.mk X G) Fj;have Gy:=Nn l.prog w base T U (h6.mk X G) Fn Fj;have Gn:=OV l.prog w base T U (h14.mk X G) Gh Fj;have Gs:=PB l.prog w base T U (h15.mk X G) Fh;have GO:=PQ l.prog w base T U (h16.mk X G) Fh;have GV:=Ni l.prog w base T U (h9.mk X G) Fn FN Fp FI;have Gp:=Nj l.prog w base T U (h10.mk X G) FE Fn Fp FI;have Fq:=Nf l.prog w base T U (h24.mk X G) GO Fg Fu;have GR:=OA l.prog w base T U (h11.mk X G) GV Gp Gy Gq;have F8:=Ob l.prog w base T U (h27.mk X G) FE FW Fv Fq Gs FL;have Gj:=Oa l.prog w base T U (h28.mk X G) F8;have GS:=OH l.prog w base T U (h33.mk X G) GR Hj;have Hi:=PU l.prog w base T U (h29.mk X G) Gj FP;have Gi:=P0 l.prog w base T U (h34.mk X G) GS;have F7:=Na l.prog w base T U (h30.mk X G) Hi;have Hk:=OM l.prog w base T U (h31.mk X G) Fh Gn HP F7;have GU:=OW l.prog w base T U (h36.mk X G) FJ Fh FG G_ F7;have F9:=Ol l.prog w base T U (h38.mk X G) FO FJ Fh Fg Fi Ga Hk Gi;have Gk:=O1 l.prog w base T U (h48.mk X G) GU F9;show O3 l.prog w base T U Fl Gw F_ FA G8 Gv Gk G9
def walk {l:PySem.W.OpenLaw}{q:Program}{loose:List Str}{XP:(Str->Option Value)->Heap->Prop}{YP:World->Heap->Prop}{d:DefRec}{K:Params->Ac}(hn:l.most=↑63) (DE:d.params.defaults=[])
  (hY:∀ (w:World) (h:Heap),YP w h->(K w.params).In h)
  (F:∀ (w:World) (mg:Au) (fa:Addr) (h:Heap),(K w.params).In h->h.Ns mainGlobals mg->mg d.name=↑(.ref fa)->
   ∃ fd:FuncData,(∀ (s:Shared) (u:Value),BindsTo s fd #[[u],[]] [("_law_script",u)])/\∀ base:Heap,(K w.params).In base->base.Ns mainGlobals mg->yP l.prog w (K w.params) mg base y8 13 fa fd ["_law_script"] (uV (K w.params) (zx zv o5))):
  PySem.W.WalkO q loose XP YP l.row.toRowW d [] (λ f vs=>PySem.call f vs):=
 L2.WI (n:=63) (k:=13) (x:="_law_script") (CX:=λ _=>y8) (sp:=λ w=>uV (K w.params) (zx zv o5)) hn () DE #[rfl,(),()] hY F (λ _ _ a ns hl hO hS=>Mm Mk hO hS hl) λ _ _ _ _ _ z=>z
end zS
open PySem PySem.W PyProof.Rows
set_option maxHeartbeats 0 in
theorem PySem.Challenge.cw_purseborder_k73_worth_refused_holds : PySem.Challenge.rw_purseborder_k73_worth_refused.Holds := by
 w_on;o_law;k_head;(case hw=>w_witness2)
 k_fill
 refine zS.walk (l:=PySem.Challenge.rw_purseborder_k73_worth_refused) rfl rfl (λ w h Y=>PySem.W.kIn_of Y) ?F
 case F=>
  intro w mg fa h KX G Du;refine' zS.all_mk KX G Du ?_ ?_ ?_ ?_ ?_ ?_ ?_ ?_ ?_ ?_ ?_ ?_ ?_ ?_ ?_ ?_ ?_ ?_ ?_ ?_ ?_ ?_ ?_ ?_ ?_ ?_ ?_ ?_ ?_ ?_ ?_ ?_ ?_ ?_ ?_ ?_ ?_ ?_ ?_ ?_ ?_ ?_ ?_ ?_ ?_ ?_ ?_ ?_ ?_ ?_ ?_ ?_ ?_ ?_ ?_ ?_ ?_ ?_ ?_ ?_ ?_ ?_ ?_ ?_ ?_ ?_ ?_ ?_ ?_ ?_ ?_ ?_ ?_ ?_ ?_ ?_ ?_ ?_ ?_ ?_ ?_ ?_ ?_ ?_ ?_ ?_ ?_ ?_
  all_goals first | exact L3.Ei.i (by k_is) (by k_is) (by k_is) (by k_is) (by kernel_rfl) (by k_is) (by k_is) (by k_is) (by k_is) (by k_is) (by k_is) | exact L3.Ec.i (by k_is) (by k_is) (by k_is) (by k_is) (by kernel_rfl) | exact L5.Fx.i (by k_is) (by k_is) (by k_is) (by k_is) | k_is | exact L5.Cn.i (by k_is) (by exact⟨_,rfl⟩)
