import PyProof.Rows.All
import Wide.All
import OpenK.AllK
import Wide.FinOn
import Lean
import PyProof.EqAt
import PyProof.EqKinds
import PyProof.TupleCall
import PySem.SetOps
import PyProof.SetScanFacts
import PyProof.TupleKey
import PyProof.SetKind
import PyProof.SetRoads
import PyProof.IsRules
import PyProof.ZipIter
import PyProof.TupleIter
import PyProof.ListMulRoad
import PyProof.FactsAll.tuple
import PyProof.ListRange
import PyProof.Draws
import PyProof.EnumFor
import PyProof.Rows.ListMul
import PyProof.AutoListH
import PyProof.ExcInit
import PyProof.ExcClass2
import PyProof.InstStore
import PyProof.InstStoreFacts
import PyProof.ExcArgsOwn
import PyProof.IsInstance
import PyProof.IsInstanceH
import PyProof.StationsW
import PyProof.Rows.CatchOwn
import PyProof.FactsAll.dict_1
import PyProof.Rows.Range3
import PyProof.FitsBits
import PyProof.DictRoadsH
import PyProof.MinMaxWalk
import PyProof.WalkInts
import PyProof.Rows.MinMaxN
import PySem.Challenge.RW_purseborder_k34_whole_just_so_many_steps
set_option Elab.async false
set_option linter.all false
set_option maxRecDepth 100000
set_option genSizeOf false
set_option compiler.extract_closed false
set_option bootstrap.genMatcherCode false
abbrev Af:=PySem.Value->PySem.Shared->Prop
abbrev Ai:=List (PySem.Addr×PySem.Obj)
abbrev Ae:=List PySem.Value
abbrev AI:=PySem.Str->Option PySem.Value
abbrev Ax:=Array PySem.Value
def AM {p:Prop}[Decidable p](h:decide p=true:=by decide +kernel):p:=of_decide_eq_true h
noncomputable section
def IE:=@PySem.wpAny_bind
def JD:=@PySem.Heap.get?_push_of_some
def JE:=@decide_eq_false
def JF:=@decide_eq_true
def JG:=@PySem.wpAny_mono
def JI:=@PySem.wpAny_holding
def JH:=@PySem.wpAny_field
def JK:=@PySem.wpAny_call_entry
def JJ:=@PySem.wpAny_setState_of
def JL:=@PySem.wpAny_seqItems
def JN:=@PySem.wpAny_truthy_bool
def JM:=@PySem.wpAny_newObj_type
def JR:=@PySem.wpAny_passesOwn
def JQ:=@PySem.wpAny_forIn_list
def JP:=@PySem.Heap.get?_update_self
def JO:=@PySem.wpAny_callSpecial?_slot
def JU:=@PySem.wpAny_specialOf
def JT:=@PySem.wpAny_isInstance
def JS:=@PySem.wpAny_setField_rec
def JX:=@PySem.wpAny_pyIter_list
def JW:=@PySem.wpAny_askSetting
def JV:=@PySem.wpAny_setField
def JZ:=@PySem.Heap.get?_update_other
def JY:=@PySem.Heap.get?_update_ne
def Ak:=@Option.bind_eq_some_iff
def Ap:=@List.mem_cons_self
def Aw:=@List.mem_cons_of_mem
def AE:=@Option.map_eq_some_iff
def Ba:=@List.map_nil
def A_:=@List.not_mem_nil
def Bc:=@Nat.lt_or_ge
def Bn:=@List.nodup_cons
def Bm:=@List.mem_flatMap
def Bx:=@List.lookup_cons
def Bw:=@List.pairwise_cons
def Bv:=@List.find?_cons
def Bu:=@List.any_cons
def BE:=@List.append_nil
def BI:=@Bool.false_ne_true
def BH:=@Nat.ne_of_gt
def BO:=@List.replicate_succ
def BN:=@Nat.lt_trans
def BW:=@List.mem_iff_getElem
def Cd:=@List.flatten_cons
def Cq:=@List.filterMap_cons
def Cp:=@List.mem_append_left
def Co:=@List.getElem?_append_left
def Ck:=@Array.getElem_toList
def Cj:=@List.nodup_range
def Ci:=@Nat.lt_succ_of_lt
def Cg:=@Int.zero_add
def Cf:=@List.flatMap_cons
def CL:=@List.getElem?_replicate
def CK:=@Bool.and_false
def CJ:=@List.pairwise_map
def CI:=@Array.getElem?_eq_none
def CH:=@Nat.le_add_right
def CG:=@Int.toNat_natCast
def CF:=@List.mem_of_find?_eq_some
def CD:=@Int.add_mul
def CB:=@List.length_filter_le
def CA:=@List.mem_nil_iff
def C8:=@List.getElem?_append_right
def C7:=@List.length_nil
def C6:=@List.pairwise_append
def C5:=@Array.size_map
def C4:=@List.ext_getElem
def C3:=@List.pairwise_iff_getElem
def C2:=@Nat.mod_lt
def C1:=@List.find?_eq_none
def C0:=@List.toList_toArray
def CZ:=@List.nodup_append
def CY:=@Nat.zero_add
def CW:=@Nat.add_assoc
def CV:=@Int.mul_nonneg
def CU:=@Int.natCast_succ
def CT:=@Int.natCast_add
def DP:=@List.of_mem_zip
def DN:=@Option.isSome_iff_exists
def DM:=@List.length_set
def DL:=@Nat.lt_of_le_of_lt
def DJ:=@List.forIn_cons
def DI:=@List.pairwise_singleton
def DH:=@List.lookup_append
def DG:=@List.getElem?_set
def DF:=@List.getElem?_eq_none
def DE:=@Array.getD_eq_getD_getElem?
def DD:=@Bool.and_self
def DC:=@List.map_congr_left
def DB:=@Nat.mul_comm
def DA:=@List.length_pos_of_mem
def Dz:=@Nat.lt_trichotomy
def Dy:=@Array.getElem?_setIfInBounds
def Dx:=@List.foldl_cons
def Dw:=@Array.forIn_toList
def Dv:=@List.map_take
def Du:=@List.map_drop
def Dt:=@List.nodup_nil
def Ds:=@List.zipIdx_cons
def D8:=@List.mem_filterMap
def D7:=@List.length_take
def D6:=@List.zip_cons_cons
def D5:=@List.getElem_range
def D4:=@Int.emod_lt_of_pos
def D3:=@List.getElem?_cons_succ
def D2:=@List.take_append_drop
def D1:=@List.getElem?_range
def D0:=@List.perm_ext_iff_of_nodup
def DZ:=@List.mem_iff_getElem?
def DY:=@Bool.or_eq_true
def DX:=@Bool.not_eq_true
def DW:=@List.flatMap_append
def DV:=@List.flatMap_nil
def zcH:=@Int.mul_le_mul_of_nonneg_right
def AB:=@List.size_toArray
def AU:=@List.getElem?_eq_getElem
def AX:=@List.getElem?_eq_some_iff
def AH:=@List.getElem?_map
def Aj:=@Nat.le_refl
def Ah:=@List.mem_cons
def Av:=@List.map_cons
def AA:=@List.length_map
def Au:=@PySem.Heap.lt_size
def AJ:=@PySem.Heap.get?_push_size
def Ao:=@List.mem_map
def A3:=@List.getD_eq_getElem?_getD
def Ct:=@Bool.not_false
def AF:=@Nat.ne_of_lt
def A6:=@List.mem_append_right
def BS:=@Bool.not_true
def AO:=@List.mem_singleton
def BG:=@List.mem_of_getElem?
def Bj:=@Array.getElem?_eq_getElem
def A2:=@List.mem_append
def A5:=@List.length_cons
def AD:=@List.mem_range
def Bh:=@PySem.W.mg_none_of
def Bi:=@Nat.lt_of_lt_of_le
def A4:=@Bool.false_eq_true
def BR:=@List.length_range
def AL:=@Int.le_refl
def A7:=@Bool.eq_iff_iff
def Bb:=@List.mem_filter
def AW:=@Option.bind_some
def AY:=@List.any_eq_true
def Ad:=@PySem.wpAny_pure
def BB:=@Array.length_toList
def BF:=@Array.getElem?_toList
def AR:=@Nat.zero_le
def A1:=@Option.some.inj
def A0:=@List.map_map
def Bp:=@List.length_append
def BA:=@List.getElem_mem
def Be:=@Nat.le_trans
def BQ:=@Nat.lt_irrefl
def Cs:=@Nat.lt_succ_self
def Bo:=@Nat.le_of_lt
def BP:=@List.all_eq_true
def Cr:=@Bool.and_eq_true
def Bz:=@List.map_append
def CM:=@List.append_assoc
def C_:=@Int.emod_nonneg
def C9:=@Int.toNat_of_nonneg
open Lean in
def zRc:Nat->Term->MacroM (TSyntax `rcasesPat)
|0,_=>Macro.throwUnsupported
|n+1,t=>match t with
 |`(#[$xs,*])=>do let ys<-xs.getElems.mapM (zRc n);`(rcasesPat|⟨$[$ys:rcasesPat],*⟩)
 |`(_)=>`(rcasesPat|_)
 |`($x:ident)=>`(rcasesPat|$x:ident)
 |_=>Macro.throwUnsupported
local macro_rules|`(tactic|let $p:term:=$e)=>do let q<-zRc 9 p;`(tactic|obtain $q:rcasesPat:=$e)
local macro_rules|`(tactic|simp! [$a,*] $[$l:location]?)=>`(tactic|simp only [$a,*] $[$l:location]?)
local macro_rules|`(tactic|exists $e)=>`(tactic|simpa using $e)
local macro_rules|`(tactic|show $e)=>`(tactic|refine $e)
local macro_rules|`(tactic|exact $e)=>`(tactic|refine $e)
local macro_rules|`(#[])=>`(by simp)|`(#[$xs,*])=>`(⟨$xs,*⟩)
local macro_rules|`(↑$x)=>`(some $x)
local macro_rules|`(⋯)=>`(by lia)
local macro_rules|`(())=>`(by decide)
abbrev Ac:=PySem.W.Frag
local macro_rules(kind:=Lean.Parser.Command.declaration)|s=>do
 if s[0][4].getNumArgs>0||![``Lean.Parser.Command.definition,``Lean.Parser.Command.abbrev].contains s[1].getKind then Lean.Macro.throwUnsupported
 return s.setArg 0 (s[0].setArg 4 (Lean.mkNullNode [Lean.mkNode ``Lean.Parser.Command.noncomputable [Lean.mkAtom "noncomputable"].toArray].toArray))
namespace L2
open PySem PySem.Spec PyProof.Rows
abbrev Key:=Sum Int Str
def qB:Key->Value->Bool
 | .inl k,v=>Value.isInt k v
 | .inr x,v=>Value.isStrOf x v
def Ql (w:World):Key->Int
 | .inl k=>hashInt k
 | .inr x=>hashStr w x
theorem t4:∀ {k:Key}{v:Value},qB k v=true->(∃ i t,k=Sum.inl i/\v=Value.int i t)\/(∃ x t,k=Sum.inr x/\v=Value.str x t)
 | .inl i,v,h=>by
  let#[t,e]:=Value.isInt_shape (k:=i) (v:=v) h;show .inl #[i,t,rfl,e]
 | .inr x,v,h=>by
  let#[t,e]:=Value.isStrOf_shape (x:=x) (v:=v) h;show .inr #[x,t,rfl,e]
def Qk (i:Int) (t:Tok):qB (.inl i) (.int i t)=true:=by simp[qB,Value.isInt]
def Qj (x:Str) (t:Tok):qB (.inr x) (.str x t)=true:=by simp[qB,Value.isStrOf]
def Qi (a b:Int):decide ((Sum.inl a:Key)=Sum.inl b)=(a == b):=by
 by_cases e:a=b
 .subst e;simp
 .have h:¬ (Sum.inl a:Key)=Sum.inl b:=λ q=>e (Sum.inl.inj q);rw[JE h];show (beq_eq_false_iff_ne.mpr e).symm
def Qf (a b:Str):decide ((Sum.inr a:Key)=Sum.inr b)=decide (a=b):=by
 by_cases e:a=b
 .subst e;simp
 .have h:¬ (Sum.inr a:Key)=Sum.inr b:=λ q=>e (Sum.inr.inj q);rw[JE h,JE e]
def Qh (a:Int) (b:Str):decide ((Sum.inl a:Key)=Sum.inr b)=false:=JE (λ q=>nomatch q)
def Qg (a:Str) (b:Int):decide ((Sum.inr a:Key)=Sum.inl b)=false:=JE (λ q=>nomatch q)
def wu (prog:Program) (w:World):PySem.KeyKind prog w Key where
 is:=qB
 hash:=Ql w
 inj:=λ v a b ha hb=>by
  rcases t4 ha with ⟨i,t,rfl,rfl⟩ | ⟨x,t,rfl,rfl⟩
  .rcases t4 hb with ⟨j,u,rfl,e⟩ | ⟨y,u,rfl,e⟩
   .injection e with e1 _;rw[e1]
   .show nomatch e
  .rcases t4 hb with ⟨j,u,rfl,e⟩ | ⟨y,u,rfl,e⟩
   .show nomatch e
   .injection e with e1 _;rw[e1]
 byValue:=λ k v h=>by
  rcases t4 h with ⟨i,t,rfl,rfl⟩ | ⟨x,t,rfl,rfl⟩ <;> rfl
 pyHash:=λ hv h=>by
  rcases t4 hv with ⟨i,t,rfl,rfl⟩ | ⟨x,t,rfl,rfl⟩
  .show wpAny_pyHash_int h
  .show wpAny_pyHash_str h
 eqBool:=λ hu hv h=>by
  rcases t4 hu with ⟨i,t,rfl,rfl⟩ | ⟨x,t,rfl,rfl⟩
  .rcases t4 hv with ⟨j,u,rfl,rfl⟩ | ⟨y,u,rfl,rfl⟩
   .rw[Qi] at h;show wpAny_eqBool_int h
   .rw[Qh] at h;show SeqAt.EqAt.int_str i t y u _ _ _ _ h
  .rcases t4 hv with ⟨j,u,rfl,rfl⟩ | ⟨y,u,rfl,rfl⟩
   .rw[Qg] at h;show SeqAt.EqAt.str_int x t j u _ _ _ _ h
   .rw[Qf] at h;show wpAny_eqBool_str h
 «strs»:=λ k x t v h=>by
  rcases t4 h with ⟨i,u,rfl,e⟩ | ⟨y,u,rfl,e⟩
  .show nomatch e
  .injection e with e1 _
   subst e1;cases v <;> rfl
def RB (prog:Program) (w:World) (i:Int) (t:Tok):(wu prog w).is (.inl i) (.int i t)=true:=Qk i t
def RA (prog:Program) (w:World) (x:Str) (t:Tok):(wu prog w).is (.inr x) (.str x t)=true:=Qj x t
inductive V where
 | zp | bl (b:Bool) | int (i:Int) | str (x:Str) | lp (b:Array UInt8) | cP (b:UInt64) | ref (a:Addr) | ty (n:String)
 deriving DecidableEq
def RelV:V->Value->Prop
 | .zp,u=>u=Value.none
 | .bl b,u=>u=Value.bool b
 | .int i,u=>∃ t,u=Value.int i t
 | .str x,u=>∃ t,u=Value.str x t
 | .lp b,u=>∃ t,u=Value.bytes b t
 | .cP b,u=>∃ t,u=Value.float b t
 | .ref a,u=>u=Value.ref a
 | .ty n,u=>u=Value.type n
abbrev Vals:List V->List Value->Prop:=Paired RelV
theorem Vals.length {xs:List V}{us:Ae}(r:Vals xs us):xs.length=us.length:=Paired.length r
theorem Vals.get:∀ {xs:List V}{us:Ae}{i:Nat}{x:V},Vals xs us->xs[i]?=↑x->∃ u,us[i]?=↑u/\RelV x u
 | _,_,_,_,.nil,e=>by simp at e
 | _,_,0,_,.cons r _,e=>by simp at e;subst e;show#[_,rfl,r]
 | _,_,i+1,x,.cons _ t,e=>by
  let#[u,h1,h2]:=Vals.get (i:=i) (x:=x) t (by exists e);show#[u,by simpa using h1,h2]
theorem Vals.set {x:V}{u:Value}(r:RelV x u):∀ {xs:List V}{us:Ae}(i:Nat),Vals xs us->Vals (xs.set i x) (us.set i u)
 | _,_,_,.nil=>.nil
 | _,_,0,.cons _ t=>.cons r t
 | _,_,i+1,.cons q t=>.cons q (Vals.set r i t)
theorem Vals.append:∀ {xs ys:List V}{us ws:Ae},Vals xs us->Vals ys ws->Vals (xs++ys) (us++ws)
 | _,_,_,_,.nil,s=>s
 | _,_,_,_,.cons r t,s=>.cons r (Vals.append t s)
def uc:Option V->Option Value->Prop
 | some v,↑u=>RelV v u
 | none,none=>True
 | _,_=>False
def KV {κ:Type}:List (κ × V)->List (κ × Value)->Prop:=Paired λ(p:κ × V) (q:κ × Value)=>p.1=q.1/\RelV p.2 q.2
def kV:Key->V
 | .inl i=>.int i
 | .inr x=>.str x
inductive HO where
 /-- a list -/
 | lst (xs:List V)
 /-- a tuple (never changes) -/
 | tup (xs:List V)
 /-- a dict Hz keys are ints and texts;one Hz keys are tuples of ints and texts (Hm empty one is both) -/
 | dK (Ab:List (Key×V)) | dT (Ab:List (List Key×V))
 /-- a dict with keys (i,(j,..)) -/
 | dN (xs:List ((Int×List Int)×Addr×Value))
 /-- a set of ints: Aa members,Aa size -/
 | set (S:Int->Bool) (n:Nat)
 /-- an instance of Hm class at C,Aa dict at dx,Aa attributes -/
 | ins (C dx:Addr) (fs:List (Str×V))
 /-- Hm dict of Hm instance at x -/
 | own (x:Addr)
 /-- Hm dict of an exception -/
 | xd (fs:List (Str×V))
 /-- a bound method,f of x -/
 | met (f x:Addr)
 /-- a range object lo,lo+1,.. below hi -/
 | kI (lo hi:Int)
 /-- a HC that is known to Hm object (Hm II;a dict while a loop walks it): read,never written while it is so -/
 | xT (o:Obj) (u:HO)
 /-- a code HG table -/
 | sW (ps:Ax)
 /-- any other HC,by what is true of Aa one object (a def of one's own: yJ a S n:=HO.ext λ h=>..) -/
 | ext (φ:Heap->Prop)
abbrev Hp:=Addr->Option HO
def upd (H:Hp) (a:Addr) (o:HO):Hp:=λ b=>if b=a then ↑o else H b
def y6 {H:Hp}{a:Addr}{o:HO}:upd H a o a=↑o:=by unfold upd;rw[if_pos rfl]
def zW {H:Hp}{a b:Addr}{o:HO}(h:b≠a):upd H a o b=H b:=by unfold upd;rw[if_neg h]
def vx {H:Hp}{a b:Addr}{o u:HO}(h:H a=↑o) (h':H b=↑u) (d:o≠u):a≠b:=by
 intro e;subst e;rw[h] at h';show d (A1 h')
def uE {H:Hp}{a b:Addr}{o:HO}(h:H a=↑o) (h':H b=none):a≠b:=by
 intro e;subst e;rw[h] at h';cases h'
def R1 (x:(Int×List Int)×Addr×Value):DictEntry:=#[reduceHash (Builtin.Tuple.tupleHashOf [hashInt x.1.1,reduceHash (Builtin.Tuple.tupleHashOf (x.1.2.map hashInt))]),.ref x.2.1,x.2.2]
def iU (h:Heap) (a:Addr):Prop:=∃ o,h.get? a=↑o/\o.dict=none
def iU.new (h:Heap) {d:Ax}{n:Nat}:iU (h.push { cls:=.type "tuple",data:=.seq d n }) h.objs.size:=#[_,AJ _ rfl,rfl]
section
variable (P:Program)(w:World)
def yL (H:Hp) (h:Heap) (a:Addr):HO->Prop
 | .lst xs=>xs.length<=sizeLine/\∃ (Aa:Ae) (n:Nat),Vals xs Aa/\h.get? a=↑{ cls:=.type "list",data:=.seq Aa.toArray n }
 | .tup xs=>(xs.length<=sizeLine/\iU h a)/\∃ Aa:List Value,Vals xs Aa/\IsTup h a Aa.toArray
 | .dK Ab=>Ab.length<=sizeLine/\(a == sysModules)=false/\∃ vs,KV Ab vs/\h.DictOf (wu P w) a vs
 | .dT Ab=>Ab.length<=sizeLine/\(a == sysModules)=false/\∃ xs:List (List Key×Addr×Value),
   Paired (λ(p:List Key×V) (q:List Key×Addr×Value)=>p.1=q.1/\H q.2.1=↑(.tup (p.1.map kV))/\RelV p.2 q.2.2) Ab xs/\
   ∃ o es ep,h.get? a=↑o/\o.ExactDict/\o.data=.dict es ep/\es.toList=xs.map (entryOfKey (tupleKind (wu P w)))/\(xs.map (·.1)).Nodup
 | .dN xs=>(xs.length<=sizeLine/\(a == sysModules)=false)/\∃ o es ep,h.get? a=↑o/\o.ExactDict/\o.data=.dict es ep/\es.toList=xs.map R1/\(xs.map (·.1)).Nodup
 | .set S n=>h.SetOf (intKind P w) a S n
 | .ins C dx fs=>H dx=↑(.own a)/\fs.length<=1000/\dx≠a/\h.get? a=↑(PySem.W.instObj C dx)/\
   ∃ mA,h.Ns1 dx mA/\(∀ f,uc (fs.lookup f) (mA f))/\PySem.Within mA (fs.map (·.1))
 | .own _=>∃ o,h.get? a=↑o
 | .xd fs=>∃ mA,h.Ns1 a mA/\∀ f,uc (fs.lookup f) (mA f)
 | .kI lo hi=>∃ t u v,h.get? a=↑{ cls:=.type "range",data:=.fields [.int lo t,.int hi u,.int 1 v].toArray }
 | .xT o u=>h.get? a=↑o/\yL H h a u
 | .sW ps=>h.get? a=↑{ cls:=.none,data:=.fields ps }
 | .met f x=>h.get? a=↑(PySem.W.methodObj (.ref f) (.ref x))
 | .ext φ=>φ h/\(∃ o,h.get? a=↑o)/\∀ h1 h2:Heap,φ h1->(∀ o,h1.get? a=↑o->h2.get? a=↑o)->φ h2
def yM (H:Hp) (h:Heap):Prop:=∀ a o,H a=↑o->yL P w H h a o
end
section
variable {P:Program}{w:World}{H H':Hp}{h h':Heap}{a:Addr}{o:HO}
theorem yL.lt (x:yL P w H h a o):a<h.objs.size:=by
 cases o with
 | lst xs=>let#[_,_,_,_,e]:=x;show Au e
 | tup xs=>let#[_,_,_,p]:=x;show p.lt
 | dK Ab=>let#[_,_,_,_,o,_,_,e,_]:=x;show Au e
 | dT Ab=>let#[_,_,_,_,o,_,_,e,_]:=x;show Au e
 | dN xs=>let#[_,o,_,_,e,_]:=x;show Au e
 | set S n=>let#[o,_,_,_,e,_]:=x;show Au e
 | ins C dx fs=>let#[_,_,_,e,_]:=x;show Au e
 | own y=>let#[_,e]:=x;show Au e
 | xd fs=>let#[_,#[_,_,_,e,_],_]:=x;show Au e
 | kI lo hi=>let#[_,_,_,e]:=x;show Au e
 | xT ob u=>let#[e,_]:=x;show Au e
 | sW ps=>show Au (show h.get? a=↑_ from x)
 | met f y=>show Au (show h.get? a=↑_ from x)
 | ext φ=>let#[_,#[_,e],_]:=x;show Au e
theorem Paired.qx {α β:Type}{F G:α->β->Prop}:∀ {l₁:List α}{l₂:List β},Paired F l₁ l₂->(∀ a b,F a b->G a b)->Paired G l₁ l₂
 | _,_,.nil,_=>.nil
 | _,_,.cons r t,f=>.cons (f _ _ r) (Paired.qx t f)
def yL.uY (x:yL P w H h a o) (k:∀ b u,(b=a\/H b=↑(.own a))->h.get? b=↑u->h'.get? b=↑u)
  (ho:∀ b,H b=↑(.own a)->H' b=↑(.own a)) (ht:∀ b xs,H b=↑(.tup xs)->H' b=↑(.tup xs)):yL P w H' h' a o:=by
 induction o with
 | lst xs=>let#[z,Aa,n,r,e]:=x;show#[z,Aa,n,r,k _ _ (.inl rfl) e]
 | tup xs=>let#[#[z,y,u,v],Aa,r,ob,e,c]:=x;show#[#[z,y,k _ _ (.inl rfl) u,v],Aa,r,ob,k _ _ (.inl rfl) e,c]
 | dK Ab=>let#[z,y,vs,r,ob,es,ep,e,c]:=x;show#[z,y,vs,r,ob,es,ep,k _ _ (.inl rfl) e,c]
 | dT Ab=>
  let#[z,y,xs,r,ob,es,ep,e,c]:=x;show#[z,y,xs,Paired.qx r λ p q z=>#[z.1,ht _ _ z.2.1,z.2.2],ob,es,ep,k _ _ (.inl rfl) e,c]
 | dN xs=>let#[z,ob,es,ep,e,c]:=x;show#[z,ob,es,ep,k _ _ (.inl rfl) e,c]
 | set S n=>let#[ob,es,ep,t,e,c]:=x;show#[ob,es,ep,t,k _ _ (.inl rfl) e,c]
 | ins C dx fs=>
  let#[d,z,ne,e,mA,#[od,es,ep,e2,c],r]:=x;show#[ho _ d,z,ne,k _ _ (.inl rfl) e,mA,#[od,es,ep,k _ _ (.inr d) e2,c],r]
 | own y=>let#[ob,e]:=x;show#[ob,k _ _ (.inl rfl) e]
 | xd fs=>let#[mA,#[od,es,ep,e,c],r]:=x;show#[mA,#[od,es,ep,k _ _ (.inl rfl) e,c],r]
 | kI lo hi=>let#[t,u,v,e]:=x;show#[t,u,v,k _ _ (.inl rfl) e]
 | xT ob u ih=>let#[e,q]:=x;show#[k _ _ (.inl rfl) e,ih q]
 | sW ps=>
  have e:h.get? a=↑{ cls:=.none,data:=.fields ps }:=x;change h'.get? a=↑{ cls:=.none,data:=.fields ps };show k a _ (.inl rfl) e
 | met f y=>
  have e:h.get? a=↑(PySem.W.methodObj (.ref f) (.ref y)):=x;change h'.get? a=↑(PySem.W.methodObj (.ref f) (.ref y));show k a _ (.inl rfl) e
 | ext φ=>let#[p,#[o,e],st]:=x;show#[st _ _ p λ o q=>k _ _ (.inl rfl) q,#[o,k _ _ (.inl rfl) e],st]
theorem yM.lt (x:yM P w H h) (e:H a=↑o):a<h.objs.size:=(x a o e).lt
def yM.fresh (x:yM P w H h) (e:h.objs.size<=a):H a=none:=by
 cases q:H a with
 | none=>rfl
 | some u=>show absurd (Bi (x.lt q) e) (BQ _)
def yM.kept (x:yM P w H h) (k:∀ b u,h.get? b=↑u->h'.get? b=↑u):yM P w H h':=λ a o e=>
 (x a o e).uY (λ b u _ q=>k b u q) (λ _ q=>q) λ _ _ q=>q
def yM.laid (x:yM P w H h) (k:∀ b u,h.get? b=↑u->h'.get? b=↑u) (hp:h.objs.size<=a) (new:yL P w (upd H a o) h' a o):yM P w (upd H a o) h':=λ b u e=>by
 have hn:=x.fresh hp;by_cases hb:b=a
 .subst hb;rw[y6] at e;cases e;show new
 .rw[zW hb] at e;show (x b u e).uY (λ c v _ q=>k c v q) (λ c q=>by rw[zW (uE q hn)];show q) λ c xs q=>by rw[zW (uE q hn)];show q
end
def Rd (H:Hp) (a:Addr) (u:HO):Prop:=H a=↑u\/∃ o,H a=↑(.xT o u)
def Rd.ok {P:Program}{w:World}{H:Hp}{h:Heap}{a:Addr}{u:HO}(r:Rd H a u) (x:yM P w H h):yL P w H h a u:=by
 rcases r with r | ⟨o,r⟩
 .show x a u r
 .let#[_,q]:=x a _ r;show q
def oK:Option HO->Prop
 | some (.lst _)=>True
 | some (.dK _)=>True
 | some (.dT _)=>True
 | some (.dN _)=>True
 | some (.set _ _)=>True
 | some (.ins _ _ _)=>True
 | some (.ext _)=>True
 | _=>False
section
variable {P:Program}{w:World}{H:Hp}{h h':Heap}{x e:Addr}{o':HO}
def yM.write (ok:yM P w H h) (mu:oK (H x)) (he:e=x\/H e=↑(.own x)) (k:∀ b u,b≠e->h.get? b=↑u->h'.get? b=↑u) (CQ:∃ u,h'.get? e=↑u)
  (new:yL P w (upd H x o') h' x o'):yM P w (upd H x o') h':=λ b u q=>by
 have HH:∀ c y,H c=↑(.own y)->c≠x:=λ c y r z=>by subst z;rw[r] at mu;show mu
 have IQ:∀ c xs,H c=↑(.tup xs)->c≠x:=λ c xs r z=>by subst z;rw[r] at mu;show mu
 by_cases hb:b=x
 .subst hb;rw[y6] at q;cases q;show new
 .rw[zW hb] at q;by_cases BM:b=e
  .have q':H b=↑(.own x):=by
    rcases he with z | z
    .show absurd (BM.trans z) hb
    .rw[BM];show z
   rw[q] at q';cases q';let#[v,hv]:=CQ;show#[v,by rw[BM];show hv]
  .exact (ok b u q).uY (λ c v hc r=>k c v ?_ r) (λ c r=>by rw[zW (HH c b r)];show r) λ c xs r=>by rw[zW (IQ c xs r)];show r
   rcases hc with rfl | hc
   .show BM
   .rintro rfl;rcases he with z | z
    .show HH c b hc z
    .rw[hc] at z;cases z;show hb rfl
end
structure Un (fs ex:List Addr) (H H':Hp) (h h':Heap):Prop where
 keep:∀ b o,h.get? b=↑o->H b=none->b∉fs->b∉ex->h'.get? b=↑o
 slot:∀ b o,h.get? b=↑o->H b=none->b∈fs->b∉ex->∃ sl,h'.get? b=↑{ o with slots:=sl }
 free:∀ b o,h.get? b=↑o->H b=none->b∉ex->H' b=none
 there:∀ b o,h.get? b=↑o->b∉ex->∃ o',h'.get? b=↑o'
 uA:∀ b xs,H b=↑(.tup xs)->H' b=↑(.tup xs)
 t7:∀ b o u,H b=↑(.xT o u)->H' b=↑(.xT o u)
 tX:∀ b ps,H b=↑(.sW ps)->∃ more,H' b=↑(.sW (ps++more))
section
variable {fs ex:List Addr}{H H1:Hp}{h h1 h':Heap}{a x e:Addr}{o:HO}
def Un.any (u:Un fs ex H H1 h h1) {b:Addr}{ob:Obj}(q:h.get? b=↑ob) (n:H b=none) (hx:b∉ex):∃ sl,h1.get? b=↑{ ob with slots:=sl }:=by
 by_cases hb:b∈fs
 .show u.slot b ob q n hb hx
 .show#[ob.slots,u.keep b ob q n hb hx]
def Un.kept (k:∀ b u,h.get? b=↑u->h'.get? b=↑u):Un fs ex H H h h':=
 #[λ b ob q _ _ _=>k b ob q,λ b ob q _ _ _=>#[ob.slots,k b ob q],λ _ _ _ n _=>n,λ b ob q _=>#[ob,k b ob q],λ _ _ q=>q,λ _ _ _ q=>q,λ _ ps q=>#[[].toArray,by rw[q];simp]]
def Un.refl:Un fs ex H H h h:=Un.kept λ _ _ q=>q
def Un.laid (k:∀ b u,h.get? b=↑u->h'.get? b=↑u) (hp:h.objs.size<=a) (hn:H a=none):Un fs ex H (upd H a o) h h' where
 keep:=λ b u q _ _ _=>k b u q
 slot:=λ b u q _ _ _=>#[u.slots,k b u q]
 free:=λ b u q n _=>by rw[zW (AF (Bi (Au q) hp))];show n
 there:=λ b u q _=>#[u,k b u q]
 uA:=λ b xs q=>by rw[zW (uE q hn)];show q
 t7:=λ b u xs q=>by rw[zW (uE q hn)];show q
 tX:=λ b ps q=>#[[].toArray,by rw[zW (uE q hn),q];simp]
def Un.write (mu:oK (H x)) (he:e=x\/H e=↑(.own x)) (k:∀ b u,b≠e->h.get? b=↑u->h'.get? b=↑u) (CQ:∃ u,h'.get? e=↑u):Un fs ex H (upd H x o) h h':=by
 have hx:∀ b,H b=none->b≠x:=λ b n z=>by subst z;rw[n] at mu;show mu
 have hb:∀ b,H b=none->b≠e:=λ b n z=>by
  subst z;rcases he with r | r
  .show hx b n r
  .rw[n] at r;cases r
 have hm:∀ b u,H b=↑u->¬ oK ↑u->b≠x:=λ b u q nm z=>by subst z;rw[q] at mu;show nm mu
 exact#[λ b u q n _ _=>k b u (hb b n) q,λ b u q n _ _=>#[u.slots,k b u (hb b n) q],λ b u q n _=>by rw[zW (hx b n)];show n,λ b u q _=>?_,
  λ b xs q=>by rw[zW (hm b _ q λ z=>z)];show q,λ b u xs q=>by rw[zW (hm b _ q λ z=>z)];show q,λ b ps q=>#[[].toArray,by rw[zW (hm b _ q λ z=>z),q];simp]]
 by_cases BM:b=e
 .subst BM;show CQ
 .show#[u,k b u BM q]
end
def nE (h:Heap) (H:Hp):List Addr:=(List.range h.objs.size).filter λ a=>(H a).isSome
def t5 (h:Heap) (H:Hp):Heap:=PySem.W.hideAll h (nE h H)
def QD (h:Heap) (H:Hp):(t5 h H).objs.size=h.objs.size:=PySem.W.hideAll_size _ _
def QE {h:Heap}{H:Hp}{b:Addr}{o:Obj}(e:h.get? b=↑o) (n:H b=none):(t5 h H).get? b=↑o:=
 PySem.W.hideAll_get _ e λ hm=>by
  have q:(H b).isSome=true:=(Bb.mp hm).2;rw[n] at q;simp at q
def Rl {h:Heap}{H:Hp}{b:Addr}{o:Obj}(e:(t5 h H).get? b=↑o):h.get? b=↑o/\H b=none:=by
 have e':h.get? b=↑o:=PySem.W.of_hideAll (nE h H) e;exact#[e',?_];cases q:H b with
 | none=>rfl
 | some x=>
  have hm:b∈nE h H:=Bb.mpr #[AD.mpr (Au e'),by simp[q]];have z:(t5 h H).get? b=none:=PySem.W.hideAll_none (nE h H) hm;rw[z] at e;cases e
structure Mod (K:Ac) (mg:AI) (base:Heap):Prop where
 j4:K.In base
 glob:base.Ns mainGlobals mg
 blt:∃ mb,base.Ns builtinsNs mb/\∀ x:Str,x≠"__name__"->mb x=bootBuiltins x
 nolimit:base.NoLimit
structure Cx where
 prog:Program
 w:World
 K:Ac
 mg:Str->Option Value
 base:Heap
 A:Around
 N:List Str
 s₀:Shared
 H₀:Hp
 env:Env
 outer:List Env
 stack:List Env
 ex:List Addr
 fn:Str->Bool
 calm:Bool
 pn:Ai
 xe:Af
def v8 (l:List Env):List Addr:=l.filterMap (·.frame)
abbrev AG (X:Cx) (e:Expr) (es:List Expr):Prop:=starEach (e::es) X.env=(false,eval e X.env)::starEach es X.env
abbrev AN (X:Cx) (p:Pos) (es:List Expr):Prop:=(backTo p (starEach es X.env)).any (·.1)=false
abbrev Cx.fs (X:Cx):List Addr:=v8 X.outer
def lI (sc:Scope) (x:Str):Prop:=sc.names.lookup x=↑.local\/sc.names.lookup x=↑.cell\/sc.names.lookup x=↑.free
def Loc (sc:Scope) (x:Str):Prop:=sc.names.lookup x=↑.local\/sc.names.lookup x=↑.cell
def Look (env:Env) (h:Heap) (m:AI) (x:Str) (u:Value):Prop:=
 (env.kindOf x=↑.local/\m x=↑u)\/((env.kindOf x=↑.cell\/env.kindOf x=↑.free)/\∃ c,env.cells.lookup x=↑c/\h.IsCell c ↑u)
structure Cx.Ok (X:Cx):Prop where
 mod:Mod X.K X.mg X.base
 kind:X.env.scope.kind=.function
 glob:X.env.globals=mainGlobals
 blt:X.env.builtins=builtinsNs
 above:X.s₀.heap.objs.size<=X.env.locals
 inj:∀ x y c,X.env.cells.lookup x=↑c->X.env.cells.lookup y=↑c->x=y
 has:∀ x,(X.env.kindOf x=↑.cell\/X.env.kindOf x=↑.free)->∃ c,X.env.cells.lookup x=↑c
 oA:∀ x c,X.fn x=true->X.env.cells.lookup x=↑c->X.s₀.heap.objs.size<=c
 hd:X.calm=true->X.A.handled=none
 frames:X.A.frames=↑X.stack
 nI:X.stack=X.outer\/(X.stack=X.env::X.outer/\X.env.frame=↑X.env.locals)
 jZ:∀ b∈X.ex,b≠X.env.locals/\∀ x c,X.env.cells.lookup x=↑c->c≠b
 bs:∀ b o,X.base.get? b=↑o->X.s₀.heap.get? b=↑o/\X.H₀ b=none
 rM:X.base.objs.size<=X.s₀.heap.objs.size
 pM:∀ b o,X.base.get? b=↑o->b∉X.ex
 og:∀ b∈X.ex,b∉X.fs
 uv:X.s₀.heap.FunFrames X.base X.outer
 qM:∀ b∈X.fs,X.H₀ b=none
structure Inv (X:Cx) (EN:Ai) (B:List (Option V)) (H:Hp) (s:Shared):Prop where
 ok:X.Ok
 os:s.os=X.s₀.os
 bare:AllBare s.gens
 base:Un X.fs X.ex X.H₀ H X.s₀.heap s.heap
 loc:∃ m,s.heap.Ns X.env.locals m/\∀ (i:Nat) (x:Str) (v:V),X.N[i]?=↑x->B[i]?=↑↑v->lI X.env.scope x->∃ u,RelV v u/\Look X.env s.heap m x u
 cell:∀ x c,X.env.cells.lookup x=↑c->∃ v,s.heap.IsCell c v
 free:H X.env.locals=none
 uH:∀ x c,X.env.cells.lookup x=↑c->H c=none
 pin:∀ p∈X.pn++EN,s.heap.get? p.1=↑p.2/\H p.1=none/\p.1≠X.env.locals/\p.1∉X.fs/\∀ v,p.2.data≠.cell v
 zu:yM X.prog X.w H s.heap
 len:B.length=X.N.length
section
variable {X:Cx}{EN:Ai}{B:List (Option V)}{H H':Hp}{s:Shared}{h':Heap}
def Cx.Ok.Rq (ok:X.Ok) {b:Addr}{o:Obj}(e:X.base.get? b=↑o):b∉X.fs:=λ hb=>by
 have:=(ok.uv.mem hb).1;rw[e] at this;cases this
theorem Inv.bs (I:Inv X EN B H s):∀ b o,X.base.get? b=↑o->s.heap.get? b=↑o/\H b=none:=λ b o e=>
 #[I.base.keep b o (I.ok.bs b o e).1 (I.ok.bs b o e).2 (I.ok.Rq e) (I.ok.pM b o e),I.base.free b o (I.ok.bs b o e).1 (I.ok.bs b o e).2 (I.ok.pM b o e)]
def Inv.bk (I:Inv X EN B H s):∀ b o,X.base.get? b=↑o->s.heap.get? b=↑o:=λ b o e=>(I.bs b o e).1
theorem Inv.mod (I:Inv X EN B H s):Mod X.K X.mg X.base:=I.ok.mod
def Inv.vz (I:Inv X EN B H s):X.K.In s.heap:=I.ok.mod.j4.keeps I.bk
theorem Inv.lt (I:Inv X EN B H s):X.env.locals<s.heap.objs.size:=let #[_,hn,_]:=I.loc;hn.lt
def Inv.sz (I:Inv X EN B H s):X.s₀.heap.objs.size<=s.heap.objs.size:=Be I.ok.above (Bo I.lt)
def Inv.eI (I:Inv X EN B H s) {a:Addr}(h:s.heap.objs.size<=a):a∉X.fs:=λ hb=>by
 let#[_,o,ho,_]:=I.ok.uv.mem hb;show absurd (Bi (Au ho) (Be I.sz h)) (BQ _)
def Inv.rK (I:Inv X EN B H s):∀ x c,X.env.cells.lookup x=↑c->c≠X.env.locals:=λ x c e z=>by
 let#[v,o,ho,hd]:=I.cell x c e;let#[m,#[o',es,ep,Fq,F6,_],_]:=I.loc;rw[z,Fq] at ho;cases ho;rw[F6] at hd;cases hd
theorem Inv.uv (I:Inv X EN B H s):s.heap.FunFrames X.base X.outer:=by
 have all:∀ (l:List Env),(∀ b∈v8 l,b∈X.fs)->X.s₀.heap.FunFrames X.base l->s.heap.FunFrames X.base l:=by
  intro l
  induction l with
  | nil=>intro _ _;trivial
  | cons env r ih=>
   intro hs hl;let#[hk,#[L,o,hf,hn,ho,hd],hr]:=hl;have hL:L∈X.fs:=hs L (by unfold v8;rw[Cq,hf];show Ap);let#[sl,e]:=I.base.slot L o ho (I.ok.qM L hL) hL λ z=>I.ok.og L z hL;show#[hk,#[L,_,hf,hn,e,hd],ih (λ b hb=>hs b (by unfold v8;rw[Cq,hf];show Aw _ hb)) hr]
 show all X.outer (λ _ hb=>hb) I.ok.uv
theorem Inv.stack (I:Inv X EN B H s):s.heap.FunFrames X.base X.stack:=by
 rcases I.ok.nI with e | ⟨e,hf⟩
 .rw[e];show I.uv
 .rw[e];let#[m,hn,_]:=I.loc;exact .cons (by rw[I.ok.kind];decide) hf hn ?_ I.uv;show Heap.get?_none_of_le (Be I.ok.rM I.ok.above)
def Inv.k9 (I:Inv X EN B H s):∀ b∈v8 X.stack,b∈X.env.locals::X.fs:=λ b hb=>by
 rcases I.ok.nI with e | ⟨e,hf⟩
 .rw[e] at hb;show Aw _ hb
 .rw[e] at hb;unfold v8 at hb;rw[Cq,hf] at hb;show hb
def Inv.gQ (I:Inv X EN B H s):∀ b∈v8 X.stack,H b=none:=λ b hb=>by
 rcases Ah.mp (I.k9 b hb) with e | hb
 .rw[e];show I.free
 .let#[_,o,ho,_]:=I.ok.uv.mem hb;show I.base.free b o ho (I.ok.qM b hb) λ z=>I.ok.og b z hb
def Inv.step {g':Array GenState}{t':Nat}{d':Drawn}{ch:List Addr}(I:Inv X EN B H s)
  (BU:∀ b∈ch,(b∈X.ex\/X.s₀.heap.objs.size<=b)/\b≠X.env.locals/\(∀ x c,X.env.cells.lookup x=↑c->c≠b)/\∀ p∈X.pn++EN,p.1≠b)
  (keep:∀ b o,b≠X.env.locals->b∉X.fs->b∉ch->s.heap.get? b=↑o->H b=none->h'.get? b=↑o)
  (slot:∀ b o,b≠X.env.locals->b∈X.fs->b∉ch->s.heap.get? b=↑o->H b=none->∃ sl,h'.get? b=↑{ o with slots:=sl }) (free:∀ b o,b∉ch->s.heap.get? b=↑o->H b=none->H' b=none)
  (there:∀ b o,b∉ch->s.heap.get? b=↑o->∃ o',h'.get? b=↑o')
  (uA:∀ b xs,H b=↑(.tup xs)->H' b=↑(.tup xs)) (t7:∀ b o u,H b=↑(.xT o u)->H' b=↑(.xT o u)) (tX:∀ b ps,H b=↑(.sW ps)->∃ more,H' b=↑(.sW (ps++more)))
  (ns:∀ m,s.heap.Ns X.env.locals m->h'.Ns X.env.locals m) (zu:yM X.prog X.w H' h') (hg:AllBare g'):
  Inv X EN B H' { s with heap:=h',gens:=g',drawn:=d',toks:=t' }:=by
 have neL:∀ b o,X.s₀.heap.get? b=↑o->b≠X.env.locals:=λ b o e=>AF (Bi (Au e) I.ok.above);have Ih:∀ b o,X.s₀.heap.get? b=↑o->b∉X.ex->b∉ch:=λ b o e hx hb=>by
  rcases (BU b hb).1 with z | z
  .show hx z
  .show absurd (Bi (Au e) z) (BQ _)
 have cellK:∀ x c,X.env.cells.lookup x=↑c->∀ v,s.heap.IsCell c v->h'.IsCell c v:=λ x c e v #[o,ho,hd]=>by
  have HK:c∉ch:=λ z=>(BU c z).2.2.1 x c e rfl;by_cases hc:c∈X.fs
  .let#[sl,q]:=slot c o (I.rK x c e) hc HK ho (I.uH x c e);show#[_,q,hd]
  .show#[o,keep c o (I.rK x c e) hc HK ho (I.uH x c e),hd]
 exact#[I.ok,I.os,hg,#[λ b o e n hb hx=>?_,λ b o e n hb hx=>?_,λ b o e n hx=>?_,λ b o e hx=>?_,λ b xs e=>uA b xs (I.base.uA b xs e),λ b o xs e=>t7 b o xs (I.base.t7 b o xs e),λ b ps e=>?_],?_,λ x c e=>?_,?_,λ x c e=>?_,λ p hp=>?_,zu,I.len]
 .show keep b o (neL b o e) hb (Ih b o e hx) (I.base.keep b o e n hb hx) (I.base.free b o e n hx)
 .let#[sl,e1]:=I.base.slot b o e n hb hx;let#[sl',e2]:=slot b _ (neL b o e) hb (Ih b o e hx) e1 (I.base.free b o e n hx);show#[sl',e2]
 .let#[o',e1]:=I.base.there b o e hx;show free b o' (Ih b o e hx) e1 (I.base.free b o e n hx)
 .let#[o',e1]:=I.base.there b o e hx;show there b o' (Ih b o e hx) e1
 .let#[m1,e1]:=I.base.tX b ps e;let#[m2,e2]:=tX b _ e1;show#[m1++m2,by rw[e2,Array.append_assoc]]
 .let#[m,hn,hl]:=I.loc;exact#[m,ns m hn,λ i x v e1 e2 e3=>?_];let#[u,r,l]:=hl i x v e1 e2 e3;exact#[u,r,?_];rcases l with l | ⟨k,c,e,z⟩
  .show .inl l
  .show .inr #[k,c,e,cellK x c e _ z]
 .let#[v,z]:=I.cell x c e;show#[v,cellK x c e v z]
 .let#[m,#[o,_,_,ho,_],_]:=I.loc;show free _ o (λ z=>(BU _ z).2.1 rfl) ho I.free
 .let#[v,o,ho,hd]:=I.cell x c e;show free c o (λ z=>(BU c z).2.2.1 x c e rfl) ho (I.uH x c e)
 .let#[e,n,ne,nf,d]:=I.pin p hp;have HK:p.1∉ch:=λ z=>(BU p.1 z).2.2.2 p hp rfl;show#[keep p.1 p.2 ne nf HK e n,free p.1 p.2 HK e n,ne,nf,d]
theorem Inv.un {t':Nat}(I:Inv X EN B H s) (u:Un X.fs [] H H' s.heap h') (zu:yM X.prog X.w H' h'):Inv X EN B H' { s with heap:=h',toks:=t' }:=by
 let#[m,#[o,es,ep,ho,r],_]:=id I.loc;let#[sl,hL]:=u.any ho I.free #[];show I.step (g':=s.gens) (d':=s.drawn) (ch:=[]) (λ _ z=>nomatch z) (λ b o _ hb _ e n=>u.keep b o e n hb #[]) (λ b o _ hb _ e n=>u.slot b o e n hb #[]) (λ b o _ e n=>u.free b o e n #[]) (λ b o _ e=>u.there b o e #[]) u.uA u.t7 u.tX (λ m' hm=>by
  let#[o',FC,Jv,Fq,r']:=hm;rw[ho] at Fq;cases Fq;show#[_,FC,Jv,hL,r']) zu I.bare
def Inv.call {g':Array GenState}{t':Nat}{d':Drawn}{ch:List Addr}(I:Inv X EN B H s) (u:Un (v8 X.stack) ch H H' s.heap h') (zu:yM X.prog X.w H' h') (hg:AllBare g')
  (BU:∀ b∈ch,(b∈X.ex\/X.s₀.heap.objs.size<=b)/\b≠X.env.locals/\(∀ x c,X.env.cells.lookup x=↑c->c≠b)/\∀ p∈X.pn++EN,p.1≠b):
  Inv X EN B H' { s with heap:=h',gens:=g',drawn:=d',toks:=t' }:=by
 let#[m,#[o,es,ep,ho,r],_]:=id I.loc;let#[sl,hL]:=u.any ho I.free λ z=>(BU _ z).2.1 rfl;show I.step (ch:=ch) BU (λ b o hL hb hc e n=>u.keep b o e n (λ z=>(Ah.mp (I.k9 b z)).elim hL hb) hc) (λ b o _ _ hc e n=>u.any e n hc) (λ b o hc e n=>u.free b o e n hc) (λ b o hc e=>u.there b o e hc) u.uA u.t7 u.tX (λ m' hm=>by
  let#[o',FC,Jv,Fq,r']:=hm;rw[ho] at Fq;cases Fq;show#[_,FC,Jv,hL,r']) zu hg
def Inv.turned {t':Nat}{it:Addr}(I:Inv X EN B H s) (k:∀ b o,b≠it->s.heap.get? b=↑o->h'.get? b=↑o) (hn:H it=none) (hL:it≠X.env.locals)
  (h1:it∈X.ex\/X.s₀.heap.objs.size<=it) (h2:∀ x c,X.env.cells.lookup x=↑c->c≠it) (h3:∀ p∈X.pn++EN,p.1≠it):Inv X EN B H { s with heap:=h',toks:=t' }:=by
 have HJ:∀ b u,H b=↑u->b≠it:=λ b u e z=>by rw[z,hn] at e;cases e
 exact I.step (g':=s.gens) (d':=s.drawn) (ch:=[it]) (λ b hb=>?_) (λ b o _ _ hc e _=>k b o (λ z=>hc (by simp[z])) e) (λ b o _ _ hc e _=>#[o.slots,k b o (λ z=>hc (by simp[z])) e]) (λ _ _ _ _ n=>n)
  (λ b o hc e=>#[o,k b o (λ z=>hc (by simp[z])) e]) (λ _ _ e=>e) (λ _ _ _ e=>e) (λ b ps e=>#[[].toArray,by rw[e];simp]) (λ m hm=>?_) (λ b u e=>?_) I.bare
 .have e:b=it:=by exists hb
  subst e;show#[h1,hL,h2,h3]
 .let#[o,es,ep,ho,r]:=hm;show#[o,es,ep,k _ o (Ne.symm hL) ho,r]
 .exact (I.zu b u e).uY (λ c v hc q=>k c v ?_ q) (λ _ q=>q) λ _ _ q=>q;rcases hc with z | z
  .rw[z];show HJ b u e
  .show HJ c _ z
def Inv.tok (I:Inv X EN B H s) (t:Nat):Inv X EN B H { s with toks:=t }:=I.un (h':=s.heap) (t':=t) Un.refl I.zu
theorem Inv.kept {t':Nat}(I:Inv X EN B H s) (k:∀ b u,s.heap.get? b=↑u->h'.get? b=↑u):Inv X EN B H { s with heap:=h',toks:=t' }:=I.un (Un.kept k) (I.zu.kept k)
theorem Inv.laid {a:Addr}{o:HO}{t':Nat}(I:Inv X EN B H s) (k:∀ b u,s.heap.get? b=↑u->h'.get? b=↑u) (hp:s.heap.objs.size<=a) (new:yL X.prog X.w (upd H a o) h' a o):
  Inv X EN B (upd H a o) { s with heap:=h',toks:=t' }:=I.un (Un.laid k hp (I.zu.fresh hp)) (I.zu.laid k hp new)
theorem Inv.write {x e:Addr}{o:HO}{t':Nat}(I:Inv X EN B H s) (mu:oK (H x)) (he:e=x\/H e=↑(.own x)) (k:∀ b u,b≠e->s.heap.get? b=↑u->h'.get? b=↑u) (CQ:∃ u,h'.get? e=↑u)
  (new:yL X.prog X.w (upd H x o) h' x o):Inv X EN B (upd H x o) { s with heap:=h',toks:=t' }:=I.un (Un.write mu he k CQ) (I.zu.write mu he k CQ new)
def Inv.kR {G1:Ai}(I:Inv X EN B H s) (h:∀ p∈G1,s.heap.get? p.1=↑p.2/\H p.1=none/\p.1≠X.env.locals/\p.1∉X.fs/\∀ v,p.2.data≠.cell v):Inv X G1 B H s:=
 #[I.ok,I.os,I.bare,I.base,I.loc,I.cell,I.free,I.uH,λ p hp=>(A2.mp hp).elim (λ z=>I.pin p (Cp _ z)) (h p),I.zu,I.len]
def eK {N:List Str}(hN:N.Nodup) {i j:Nat}{x:Str}(a:N[i]?=↑x) (b:N[j]?=↑x):i=j:=by
 let#[h1,e1]:=AX.mp a;let#[h2,e2]:=AX.mp b;show (List.getElem_inj hN).mp (e1.trans e2.symm)
def YV {M:Model}{A:Around}{E:Af}{i:Nat}{x:Str}{v:V}{u:Value}{Q:Unit->Shared->Prop}(I:Inv X EN B H s) (hN:X.N.Nodup) (hi:X.N[i]?=↑x) (hx:Loc X.env.scope x) (r:RelV v u)
  (h:∀ s',Inv X EN (B.set i ↑v) H s'->(∃ a,Heap.SameBut a s.heap s'.heap/\(a=X.env.locals\/X.env.cells.lookup x=↑a))->Q Unit.unit s') (hf:X.fn x=true\/X.env.scope.names.lookup x=↑.local:=by first | show .inl rfl | show .inr rfl | assumption):wpAny M A (storeName X.env x u) Q E s:=by
 let#[m,hn,hl]:=id I.loc;have EK:(X.env.scope.kind == .class||(X.env.scope.kind == .module&&X.env.locals != X.env.globals))=false:=by rw[I.ok.kind];rfl
 have hiσ:i < B.length:=by rw[I.len];show (AX.mp hi).1
 have rK:=I.rK;have tracked:∀ {a:Addr}{h':Heap},(∃ o,s.heap.get? a=↑o/\H a=none)->Heap.SameBut a s.heap h'->yM X.prog X.w H h':=λ{a h'} ha hs b ob e=>by
  let#[_,_,G5]:=ha;exact (I.zu b ob e).uY (λ c w' hc q=>(hs.2 c ?_).trans q) (λ _ q=>q) λ _ _ q=>q;rintro rfl;rcases hc with rfl | hc
  .rw[G5] at e;cases e
  .rw[G5] at hc;cases hc
 rcases hx with hk | hk
 .exact wpAny_storeName_local hk hn (λ h' Iq hs=>?_) EK;let#[oL,_,_,Ip,_]:=id hn;exact h _ #[I.ok,I.os,I.bare,#[λ b o e n hb hx=>?_,λ b o e n hb hx=>?_,I.base.free,λ b o e hx=>?_,I.base.uA,I.base.t7,I.base.tX],#[_,Iq,λ j y v' e1 e2 e3=>?_],λ y c e=>?_,I.free,I.uH,λ p hp=>?_,tracked #[oL,Ip,I.free] hs,by exists I.len] #[_,hs,.inl rfl]
  .show (hs.2 b (AF (Bi (Au e) I.ok.above))).trans (I.base.keep b o e n hb hx)
  .let#[sl,e1]:=I.base.slot b o e n hb hx;show#[sl,(hs.2 b (AF (Bi (Au e) I.ok.above))).trans e1]
  .let#[o',e1]:=I.base.there b o e hx;show#[o',(hs.2 b (AF (Bi (Au e) I.ok.above))).trans e1]
  .by_cases hj:j=i
   .subst hj;rw[hi] at e1;cases e1;rw[List.getElem?_set_self hiσ] at e2;cases e2;show#[u,r,.inl #[hk,#[]]]
   .rw[List.getElem?_set_ne (Ne.symm hj)] at e2;let#[u',r',q]:=hl j y v' e1 e2 e3;exact#[u',r',?_];rcases q with ⟨k,e⟩ | ⟨k,c,e,z⟩
    .exact .inl #[k,?_];have:y≠x:=λ e=>hj (eK hN e1 (e▸hi));simp[this,e]
    .show .inr #[k,c,e,z.sameBut hs (rK y c e)]
  .let#[w',z]:=I.cell y c e;show#[w',z.sameBut hs (rK y c e)]
  .let#[e,n,ne,nf,d]:=I.pin p hp;show#[(hs.2 p.1 ne).trans e,n,ne,nf,d]
 .have Ca:X.fn x=true:=by
   rcases hf with z | z
   .show z
   .rw[z] at hk;cases hk
  let#[c,hc]:=I.ok.has x (.inl hk);let#[w',z]:=I.cell x c hc;exact wpAny_storeName_cell I.ok.kind hk hc z (λ h' FK hs=>?_);let#[oc,hoc,Ew]:=id z;exact h { s with heap:=h' } #[I.ok,I.os,I.bare,#[λ b o e n hb hx=>?_,λ b o e n hb hx=>?_,I.base.free,λ b o e hx=>?_,I.base.uA,I.base.t7,I.base.tX],#[m,hn.sameBut hs (Ne.symm (rK x c hc)),λ j y v' e1 e2 e3=>?_],λ y c' e=>?_,I.free,I.uH,λ p hp=>?_,tracked #[oc,hoc,I.uH x c hc] hs,by exists I.len] #[c,hs,.inr hc]
  .show (hs.2 b (AF (Bi (Au e) (I.ok.oA x c Ca hc)))).trans (I.base.keep b o e n hb hx)
  .let#[sl,e1]:=I.base.slot b o e n hb hx;show#[sl,(hs.2 b (AF (Bi (Au e) (I.ok.oA x c Ca hc)))).trans e1]
  .let#[o',e1]:=I.base.there b o e hx;show#[o',(hs.2 b (AF (Bi (Au e) (I.ok.oA x c Ca hc)))).trans e1]
  .by_cases hj:j=i
   .subst hj;rw[hi] at e1;cases e1;rw[List.getElem?_set_self hiσ] at e2;cases e2;show#[u,r,.inr #[.inl hk,c,hc,FK]]
   .rw[List.getElem?_set_ne (Ne.symm hj)] at e2;let#[u',r',q]:=hl j y v' e1 e2 e3;exact#[u',r',?_];rcases q with q | ⟨k,c',e,z'⟩
    .show .inl q
    .exact .inr #[k,c',e,z'.sameBut hs ?_];rintro rfl;show hj (eK hN e1 (I.ok.inj _ _ _ e hc▸hi))
  .by_cases hcc:c'=c
   .subst hcc;show#[_,FK]
   .let#[w2,z2]:=I.cell y c' e;show#[w2,z2.sameBut hs hcc]
  .let#[e,n,ne,nf,d]:=I.pin p hp;exact#[(hs.2 p.1 ?_).trans e,n,ne,nf,d];intro q;rw[q,hoc] at e;have q':oc=p.2:=A1 e;show d w' (by rw[<- q'];show Ew)
def k8 {M:Model}{A:Around}{E:Af}{i:Nat}{x:Str}{v:V}{u:Value}{Q:Unit->Shared->Prop}(I:Inv X EN B H s) (hN:X.N.Nodup) (hi:X.N[i]?=↑x) (hx:Loc X.env.scope x) (r:RelV v u)
  (h:∀ s',Inv X EN (B.set i ↑v) H s'->Q Unit.unit s') (hf:X.fn x=true\/X.env.scope.names.lookup x=↑.local:=by first | show .inl rfl | show .inr rfl | assumption):wpAny M A (storeName X.env x u) Q E s:=
 YV I hN hi hx r (λ s' I' _=>h s' I') hf
def Inv.Na {s':Shared}{ch:List Addr}(I:Inv X EN B H s) (ho:s'.os=s.os) (u:Un (v8 X.stack) ch H H' s.heap s'.heap) (zu:yM X.prog X.w H' s'.heap) (hg:AllBare s'.gens)
  (BU:∀ b∈ch,(b∈X.ex\/X.s₀.heap.objs.size<=b)/\b≠X.env.locals/\(∀ x c,X.env.cells.lookup x=↑c->c≠b)/\∀ p∈X.pn++EN,p.1≠b):Inv X EN B H' s':=by
 let#[h',g',d',t',o']:=s';have e:o'=s.os:=ho;subst e;show I.call (g':=g') (t':=t') (d':=d') u zu hg BU
end
abbrev XK:=Value->Option Addr->Hp->Prop
abbrev St:=List (Option V)
abbrev VK:=V->Hp->Prop
abbrev TE:=St->Hp->VK->Prop
abbrev TT:=St->Hp->(Bool->Hp->Prop)->Prop
abbrev TA:=St->Hp->(List V->Hp->Prop)->Prop
structure Ends where
 nx:St->Hp->Prop
 rt:VK
 bk:St->Hp->Prop:=λ _ _=>False
 ct:St->Hp->Prop:=λ _ _=>False
abbrev TS:=Ends->St->Hp->Prop
def EP (X:Cx) (EN:Ai) (B:St) (Q:VK) (u:Value) (s':Shared):Prop:=∃ v H',Inv X EN B H' s'/\RelV v u/\Q v H'
def TP (X:Cx) (EN:Ai) (B:St) (Q:Bool->Hp->Prop) (b:Bool) (s':Shared):Prop:=∃ H',Inv X EN B H' s'/\Q b H'
def AP (X:Cx) (EN:Ai) (B:St) (Q:List V->Hp->Prop) (us:Ae) (s':Shared):Prop:=∃ vs H',Inv X EN B H' s'/\Vals vs us/\Q vs H'
def SP (X:Cx) (EN:Ai) (D:Ends) (f:Flow) (s':Shared):Prop:=
 match f with
 | .next=>∃ B' H',Inv X EN B' H' s'/\D.nx B' H'
 | .brk=>∃ B' H',Inv X EN B' H' s'/\D.bk B' H'
 | .cont=>∃ B' H',Inv X EN B' H' s'/\D.ct B' H'
 | .ret u=>∃ v B' H',Inv X EN B' H' s'/\RelV v u/\D.rt v H'
def PE (X:Cx) (e:Expr) (t:TE):Prop:=
 ∀ (EN:Ai) (s:Shared) (B:St) (H:Hp) (Q:VK),Inv X EN B H s->t B H Q->wpAny (model X.prog X.w) X.A (eval e X.env) (EP X EN B Q) X.xe s
def PT (X:Cx) (e:Expr) (t:TT):Prop:=
 ∀ (EN:Ai) (s:Shared) (B:St) (H:Hp) (Q:Bool->Hp->Prop),Inv X EN B H s->t B H Q->wpAny (model X.prog X.w) X.A (isTrue e X.env (eval e X.env)) (TP X EN B Q) X.xe s
def PW (X:Cx) (e:Expr) (t:TT):Prop:=
 ∀ (whole:Sem Value) (EN:Ai) (s:Shared) (B:St) (H:Hp) (Q:Bool->Hp->Prop),Inv X EN B H s->t B H Q->wpAny (model X.prog X.w) X.A (isTrue e X.env whole) (TP X EN B Q) X.xe s
def PW.pt {X:Cx}{e:Expr}{t:TT}(h:PW X e t):PT X e t:=h _
def PA (X:Cx) (es:List Expr) (t:TA):Prop:=
 ∀ (pos:Pos) (EN:Ai) (s:Shared) (B:St) (H:Hp) (Q:List V->Hp->Prop),Inv X EN B H s->t B H Q->wpAny (model X.prog X.w) X.A (spliced (backTo pos (starEach es X.env))) (AP X EN B Q) X.xe s
def PS (X:Cx) (st:Stmt) (t:TS):Prop:=
 ∀ (EN:Ai) (s:Shared) (B:St) (H:Hp) (D:Ends),Inv X EN B H s->t D B H->wpAny (model X.prog X.w) X.A (exec st X.env) (SP X EN D) X.xe s
def xM (X:Cx) (st:List Stmt) (t:TS):Prop:=
 ∀ (EN:Ai) (s:Shared) (B:St) (H:Hp) (D:Ends),Inv X EN B H s->t D B H->wpAny (model X.prog X.w) X.A (execs st X.env) (SP X EN D) X.xe s
def zx {α:Type}{t:Sem α}{Q Q':α->Shared->Prop}{M:Model}{A:Around}{E:Af}{s:Shared}(h:wpAny M A t Q E s) (hQ:∀ a s,Q a s->Q' a s):wpAny M A t Q' E s:=JG h hQ λ _ _ x=>x
section
variable {X:Cx}
def kx (i:Nat):TE:=fun B H Q=>∃ v,B[i]?=↑↑v/\Q v H
def tC (v:V):TE:=λ _ H Q=>Q v H
def Wq {i:Nat}{x:Str}{pos:Pos}(hN:X.N[i]?=↑x) (hv:lI X.env.scope x) (hd:(x == ("__debug__":Str))=false:=by decide) (BD:(x == ("__classdict__":Str))=false:=by decide):PE X (.Name x pos) (kx i):=by
 intro EN s B H Q I h;let#[v,e,h]:=h;let#[m,hn,hl]:=I.loc;let#[u,r,l]:=hl i x v hN e hv;have fin:EP X EN B Q u s:=#[v,H,I,r,h];rcases l with ⟨hk,hm⟩ | ⟨hk,c,hc,G7⟩
 .show wpAny_Name (wpAny_loadName_local I.ok.kind hk hn hm fin) hd
 .rcases hk with hk | hk
  .show wpAny_Name (wpAny_loadName_cell I.ok.kind hk hc G7 fin) hd
  .show wpAny_Name (wpAny_loadName_free I.ok.kind hk hc G7 fin BD) hd
def W5 {i j pos}:PE X (.Constant (.int i) j pos) (tC (.int i)):=λ _ _ _ H _ I h=>wpAny_Constant_int #[.int i,H,I.tok _,#[_,rfl],h]
def WG {b j pos}:PE X (.Constant (.bool b) j pos) (tC (.bl b)):=λ _ _ _ H _ I h=>Constant_bool #[.bl b,H,I,rfl,h]
def Wx {j pos}:PE X (.Constant .none j pos) (tC .zp):=λ _ _ _ H _ I h=>Constant_none #[.zp,H,I,rfl,h]
def Wt {x j pos}:PE X (.Constant (.str x) j pos) (tC (.str x)):=λ _ _ _ H _ I h=>Calls.Constant_str #[.str x,H,I.tok _,#[_,rfl],h]
def Gl (X:Cx) (x:Str):Prop:=X.env.kindOf x=↑.globalImplicit
def dE {E:Af}{EN:Ai}{s:Shared}{B:St}{H:Hp}{x:Str}{u:Value}{pos:Pos}{Q:Af}(I:Inv X EN B H s) (hg:Gl X x) (hm:X.mg x=↑u) (h:Q u s)
  (hd:(x == ("__debug__":Str))=false:=by decide):wpAny (model X.prog X.w) X.A (eval (.Name x pos) X.env) Q E s:=
 Calls.Name_function_global I.ok.kind hg (Calls.loadGlobal_global (by rw[I.ok.glob];show I.mod.glob.keeps I.bk) hm h) hd
def qA {E:Af}{EN:Ai}{s:Shared}{B:St}{H:Hp}{x:Str}{u:Value}{pos:Pos}{Q:Af}(I:Inv X EN B H s) (hg:Gl X x) (hm:X.mg x=none) (hv:bootBuiltins x=↑u) (h:Q u s)
  (hn:x≠"__name__":=by decide) (hd:(x == ("__debug__":Str))=false:=by decide):wpAny (model X.prog X.w) X.A (eval (.Name x pos) X.env) Q E s:=by
 let#[mb,h1,h2]:=I.mod.blt;show Calls.Name_function_global I.ok.kind hg (Calls.loadGlobal_builtin (by rw[I.ok.glob];show I.mod.glob.keeps I.bk) hm (by rw[I.ok.blt];show h1.keeps I.bk) ((h2 x hn).trans hv) h) hd
def W7 {x:Str}{v:V}{u:Value}{pos:Pos}(hg:Gl X x) (hm:X.mg x=↑u) (r:RelV v u) (hd:(x == ("__debug__":Str))=false:=by decide):PE X (.Name x pos) (tC v):=
 λ _ _ _ H _ I h=>dE I hg hm #[v,H,I,r,h] hd
def WE {x:Str}{v:V}{u:Value}{pos:Pos}(hg:Gl X x) (hm:X.mg x=none) (hv:bootBuiltins x=↑u) (r:RelV v u) (hn:x≠"__name__":=by decide) (hd:(x == ("__debug__":Str))=false:=by decide):PE X (.Name x pos) (tC v):=
 λ _ _ _ H _ I h=>qA I hg hm hv #[v,H,I,r,h] hn hd
variable {a b:Expr}{ta tb:TE}{pos:Pos}
variable {tA Ie:TT}{EU:List Expr}
def YU (t u:TT):TT:=fun B H Q=>t B H λ c H1=>if c=true then u B H1 Q else Q false H1
def YE (t u:TT):TT:=fun B H Q=>t B H λ c H1=>if c=true then Q true H1 else u B H1 Q
def YG (t:TT):TT:=fun B H Q=>t B H λ c H1=>Q (!c) H1
def X9 (ha:PT X a tA):PW X (.BoolOp .And [a] pos) tA:=by
 intro wh EN s B H Q I h;exact isTrue_and (zx (ha EN s B H Q I h) λ c s1 e=>?_);cases c with
 | true=>show isTrue_and_nil e
 | false=>show e
def X7 (ha:PT X a tA):PW X (.BoolOp .Or [a] pos) tA:=by
 intro wh EN s B H Q I h;exact isTrue_or (zx (ha EN s B H Q I h) λ c s1 e=>?_);cases c with
 | false=>show isTrue_or_nil e
 | true=>show e
def XA (ha:PT X a tA) (hb:PW X (.BoolOp .And (b::EU) pos) Ie):PW X (.BoolOp .And (a::b::EU) pos) (YU tA Ie):=by
 intro wh EN s B H Q I h;exact isTrue_and (zx (ha EN s B H _ I h) λ c s1 #[H1,I1,q1]=>?_);cases c with
 | true=>show hb wh EN s1 B H1 Q I1 q1
 | false=>show#[H1,I1,q1]
def X8 (ha:PT X a tA) (hb:PW X (.BoolOp .Or (b::EU) pos) Ie):PW X (.BoolOp .Or (a::b::EU) pos) (YE tA Ie):=by
 intro wh EN s B H Q I h;exact isTrue_or (zx (ha EN s B H _ I h) λ c s1 #[H1,I1,q1]=>?_);cases c with
 | true=>show#[H1,I1,q1]
 | false=>show hb wh EN s1 B H1 Q I1 q1
def XE (ha:PT X a tA):PT X (.UnaryOp .Not a pos) (YG tA):=by
 intro EN s B H Q I h;show isTrue_not (ha EN s B H (λ c H1=>Q (!c) H1) I h)
def YT (ta tb:TE):TE:=fun B H Q=>ta B H λ x H1=>∃ c,x=.bl c/\if c=true then tb B H1 Q else Q (.bl false) H1
def YF (ta:TE):TE:=fun B H Q=>ta B H λ x H1=>∃ c,x=.bl c/\Q (.bl (!c)) H1
def Wv {op} {t:TE}(h:PE X a t):PE X (.BoolOp op [a] pos) t:=λ EN s B H Q I hw=>BoolOp_one (h EN s B H Q I hw)
def WH (ha:PE X a ta) (hb:PE X (.BoolOp .And (b::EU) pos) tb):PE X (.BoolOp .And (a::b::EU) pos) (YT ta tb):=by
 intro EN s B H Q I h;exact BoolOp_and (zx (ha EN s B H _ I h) λ v s1 #[x,H1,I1,r1,q1]=>?_);let#[c,rfl,q1]:=q1;cases r1;exact JN ?_;cases c with
 | true=>show hb EN s1 B H1 Q I1 q1
 | false=>show#[.bl false,H1,I1,rfl,q1]
def Ww (ha:PE X a ta):PE X (.UnaryOp .Not a pos) (YF ta):=by
 intro EN s B H Q I h;exact UnaryOp_ (zx (ha EN s B H _ I h) λ v s1 #[x,H1,I1,r1,q1]=>?_);let#[c,rfl,q1]:=q1;cases r1;show not_of (JN #[.bl (!c),H1,I1,rfl,q1])
def YM (t:TT) (ta tb:TE):TE:=fun B H Q=>t B H λ c H1=>if c=true then ta B H1 Q else tb B H1 Q
def W6 {c:Expr}(hc:PT X c tA) (ha:PE X a ta) (hb:PE X b tb):PE X (.IfExp c a b pos) (YM tA ta tb):=by
 intro EN s B H Q I h;exact wpAny_IfExp (zx (hc EN s B H _ I h) λ d s1 #[H1,I1,q1]=>?_);cases d with
 | true=>show ha EN s1 B H1 Q I1 q1
 | false=>show hb EN s1 B H1 Q I1 q1
end
def zC (K:Ac) (H:Hp) (a:Addr) (xs:List V):Prop:=
 Rd H a (.lst xs)\/
  ∃ (o:Obj) (Aa:Ax) (n:Nat),K.lookup a=↑o/\o.cls=.type "list"/\o.dict=none/\o.data=.seq Aa n/\Aa.size<=sizeLine/\Vals xs Aa.toList
def zN (K:Ac) (H:Hp) (a:Addr) (xs:List V):Prop:=
 Rd H a (.tup xs)\/
  ∃ (o:Obj) (Aa:Ax) (n:Nat),K.lookup a=↑o/\(o.cls=.type "tuple"/\o.dict=none)/\o.data=.seq Aa n/\Aa.size<=sizeLine/\Vals xs Aa.toList
def N6:Value->Option V
 | .none=>↑.zp
 | .bool b=>↑(.bl b)
 | .int i _=>↑(.int i)
 | .str x _=>↑(.str x)
 | .bytes b _=>↑(.lp b)
 | .float b _=>↑(.cP b)
 | .ref a=>↑(.ref a)
 | .type n=>↑(.ty n)
 | _=>none
def RelV.abs {x:V}{u:Value}(r:RelV x u):N6 u=↑x:=by
 cases x with
 | zp=>cases r;rfl
 | bl _=>cases r;rfl
 | ref _=>cases r;rfl
 | ty _=>cases r;rfl
 | _=>let#[t,rfl]:=r;rfl
theorem RelV.inj {x y:V}{u:Value}(r:RelV x u) (q:RelV y u):x=y:=A1 (r.abs.symm.trans q.abs)
theorem Vals.inj:∀ {xs ys:List V}{us:Ae},Vals xs us->Vals ys us->xs=ys
 | _,_,_,.nil,.nil=>rfl
 | _,_,_,.cons r t,.cons r' t'=>by rw[r.inj r',Vals.inj t t']
section
variable {X:Cx}{EN:Ai}{B:St}{H:Hp}{s:Shared}{a:Addr}{xs ys:List V}
def zC.of {K:Ac}(h:H a=↑(.lst xs)):zC K H a xs:=.inl (.inl h)
def zN.of {K:Ac}(h:H a=↑(.tup xs)):zN K H a xs:=.inl (.inl h)
def Inv.list (I:Inv X EN B H s) (h:zC X.K H a xs):∃ Aa:List Value,Vals xs Aa/\PlainL s.heap a Aa.toArray/\xs.length<=sizeLine:=by
 rcases h with h | ⟨o,Aa,n,hk,hc,hd,hs,hz,r⟩
 .let#[z,Aa,n,r,e]:=h.ok I.zu;show#[Aa,r,#[_,n,e,rfl,rfl,rfl],z]
 .exact#[Aa.toList,r,#[o,n,I.vz a o hk,hc,hd,by exists hs],?_];have e:=r.length;simp![BB] at e;lia
def Inv.tuple (I:Inv X EN B H s) (h:zN X.K H a xs):∃ Aa:List Value,Vals xs Aa/\IsTup s.heap a Aa.toArray/\xs.length<=sizeLine:=by
 rcases h with h | ⟨o,Aa,n,hk,hc,hs,hz,r⟩
 .let#[z,Aa,r,p]:=h.ok I.zu;show#[Aa,r,p,z.1]
 .exact#[Aa.toList,r,#[o,I.vz a o hk,hc.1,n,by exists hs],?_];have e:=r.length;simp![BB] at e;lia
def Inv.jx (I:Inv X EN B H s) (h:zC X.K H a xs) (h':zC X.K H a ys):xs=ys:=by
 let#[Aa,r,#[o,n,e,_,_,d],_]:=I.list h;let#[AK,r',#[o',n',e',_,_,d'],_]:=I.list h';rw[e] at e';cases e';rw[d] at d'
 injection d' with d1 _
 have:Aa=AK:=by exists congrArg Array.toList d1
 subst this;show r.inj r'
def Inv.kq (I:Inv X EN B H s) (h:zN X.K H a xs) (h':zN X.K H a ys):xs=ys:=by
 let#[Aa,r,#[o,e,_,n,d],_]:=I.tuple h;let#[AK,r',#[o',e',_,n',d'],_]:=I.tuple h';rw[e] at e';cases e';rw[d] at d'
 injection d' with d1 _
 have:Aa=AK:=by exists congrArg Array.toList d1
 subst this;show r.inj r'
end
abbrev Cx.u7 (X:Cx) (E:Af):Cx:={ X with xe:=E }
abbrev Cx.vb (X:Cx):Cx:=X.u7 λ _ _=>False
theorem Cx.Ok.u7 {X:Cx}(ok:X.Ok) (E:Af):(X.u7 E).Ok:=
 #[ok.mod,ok.kind,ok.glob,ok.blt,ok.above,ok.inj,ok.has,ok.oA,ok.hd,ok.frames,ok.nI,ok.jZ,ok.bs,ok.rM,ok.pM,ok.og,ok.uv,ok.qM]
def Cx.Ok.qf {X:Cx}{E:Af}(ok:(X.u7 E).Ok):X.Ok:=
 #[ok.mod,ok.kind,ok.glob,ok.blt,ok.above,ok.inj,ok.has,ok.oA,ok.hd,ok.frames,ok.nI,ok.jZ,ok.bs,ok.rM,ok.pM,ok.og,ok.uv,ok.qM]
section
variable {X:Cx}{EN:Ai}{B:St}{H:Hp}{s:Shared}{E:Af}
theorem Inv.u7 (I:Inv X EN B H s) (E:Af):Inv (X.u7 E) EN B H s:=#[I.ok.u7 E,I.os,I.bare,I.base,I.loc,I.cell,I.free,I.uH,I.pin,I.zu,I.len]
theorem Inv.qf (I:Inv (X.u7 E) EN B H s):Inv X EN B H s:=#[I.ok.qf,I.os,I.bare,I.base,I.loc,I.cell,I.free,I.uH,I.pin,I.zu,I.len]
theorem SP.qf {D:Ends}{f:Flow}{s':Shared}(h:SP (X.u7 E) EN D f s'):SP X EN D f s':=by
 cases f with
 | ret u=>let#[v,B',H',I,r,q]:=h;show#[v,B',H',I.qf,r,q]
 | _=>let#[B',H',I,q]:=h;show#[B',H',I.qf,q]
theorem xM.vb {st:List Stmt}{t:TS}(h:xM X.vb st t):xM X st t:=λ EN s B H D I hw=>
 JG (h EN s B H D (I.u7 _) hw) (λ _ _ q=>q.qf) λ _ _ z=>False.elim z
end
section
variable {X:Cx}{st:Stmt}{EU:List Stmt}{t u:TS}{e:Expr}{te:TE}{pos:Pos}
def YH:TS:=λ D B H=>D.nx B H
def YC (t u:TS):TS:=λ D B H=>t { D with nx:=u D } B H
def XH:xM X [] YH:=λ _ _ B H _ I h=>wpAny_execs_nil #[B,H,I,h]
def XI (h1:PS X st t) (h2:xM X EU u):xM X (st::EU) (YC t u):=by
 intro EN s B H D I h;exact wpAny_execs_cons (zx (h1 EN s B H { D with nx:=u D } I h) λ f s1 q=>?_);cases f with
 | next=>
  let#[B',H',I',q]:=q;show h2 EN s1 B' H' D I' q
 | ret v=>show q
 | _=>show q
def XG (h1:PS X st t):xM X [st] t:=by
 intro EN s B H D I h;exact wpAny_execs_cons (zx (h1 EN s B H D I h) λ f s1 q=>?_);cases f with
 | next=>show wpAny_execs_nil q
 | ret v=>show q
 | _=>show q
def Inv.quiet {EN:Ai}{B:St}{H:Hp}{s:Shared}(I:Inv X EN B H s):interactive X.env=false:=by simp[interactive,I.ok.kind]
def YO (te:TE):TS:=λ D B H=>te B H λ _ H1=>D.nx B H1
def XT (he:PE X e te) (hs:swapsWith e none pos.line X.env=pure false:=by rfl):PS X (.Expr e pos) (YO te):=by
 intro EN s B H D I h;show wpAny_Expr_any (zx (he EN s B H _ I h) λ v s1 #[x,H1,I1,r1,q1]=>#[B,H1,I1,q1]) I.quiet hs
def YD (te:TE):TS:=λ D B H=>te B H D.rt
def XO (he:PE X e te):PS X (.Return ↑e pos) (YD te):=by
 intro EN s B H D I h;show wpAny_Return_some (zx (he EN s B H _ I h) λ v s1 #[x,H1,I1,r1,q1]=>#[x,B,H1,I1,r1,q1])
def YL (c:TT) (t u:TS):TS:=λ D B H=>c B H λ b H1=>if b=true then t D B H1 else u D B H1
def XR {c:Expr}{a b:List Stmt}{tc:TT}(hc:PT X c tc) (ha:xM X a t) (hb:xM X b u):PS X (.If c a b pos) (YL tc t u):=by
 intro EN s B H D I h;exact wpAny_If (zx (hc EN s B H _ I h) λ d s1 #[H1,I1,q1]=>?_);cases d with
 | true=>show ha EN s1 B H1 D I1 q1
 | false=>show hb EN s1 B H1 D I1 q1
end
abbrev TG:=V->St->Hp->(St->Hp->Prop)->Prop
abbrev tG:=List V->St->Hp->(St->Hp->Prop)->Prop
def PG (X:Cx) (target:Expr) (t:TG):Prop:=
 ∀ (EN:Ai) (s:Shared) (B:St) (H:Hp) (v:V) (u:Value) (Q:St->Hp->Prop),Inv X EN B H s->RelV v u->t v B H Q->
  wpAny (model X.prog X.w) X.A (assign target X.env u) (λ _ s'=>∃ B' H',Inv X EN B' H' s'/\Q B' H') X.xe s
def uS (X:Cx) (ts:List Expr) (t:tG):Prop:=
 ∀ (EN:Ai) (s:Shared) (B:St) (H:Hp) (vs:List V) (us:Ae) (Q:St->Hp->Prop),Inv X EN B H s->Vals vs us->t vs B H Q->
  wpAny (model X.prog X.w) X.A (assignInOrder ((assignEach ts X.env).map (·.2)) us) (λ _ s'=>∃ B' H',Inv X EN B' H' s'/\Q B' H') X.xe s
abbrev iR:=V->V->V->Hp->(Hp->Prop)->Prop
def aH (X:Cx) (t:iR):Prop:=
 ∀ (EN:Ai) (s:Shared) (B:St) (H:Hp) (o i v:V) (ov iv u:Value) (Q:Hp->Prop),Inv X EN B H s->RelV o ov->RelV i iv->RelV v u->t o i v H Q->
  wpAny (model X.prog X.w) X.A (setItem ov iv u) (λ _ s'=>∃ H',Inv X EN B H' s'/\Q H') X.xe s
section
variable {X:Cx}{pos:Pos}
def qK (i:Nat):TG:=λ v B H Q=>Q (B.set i ↑v) H
def Wi {i:Nat}{x:Str}(hN:X.N.Nodup) (hi:X.N[i]?=↑x) (hx:Loc X.env.scope x) (hf:X.fn x=true\/X.env.scope.names.lookup x=↑.local:=by first | show .inl rfl | show .inr rfl | assumption):PG X (.Name x pos) (qK i):=by
 intro EN s B H v u Q I r h;show wpAny_assign_Name (k8 I hN hi hx r (λ s' I'=>#[_,H,I',h]) hf)
def Q_:tG:=λ vs B H Q=>vs=[]/\Q B H
def Pa (t:TG) (u:tG):tG:=λ vs B H Q=>∃ v r,vs=v::r/\t v B H fun B' H'=>u r B' H' Q
def We:uS X [] Q_:=by
 intro EN s B H vs us Q I r h;let#[e,h]:=h;subst e;cases r;show assignInOrder_nil #[B,H,I,h]
def Wf {e:Expr}{es:List Expr}{t:TG}{u:tG}(h1:PG X e t) (h2:uS X es u)
  (hs:(assignEach (e::es) X.env).map (·.2)=assign e X.env::(assignEach es X.env).map (·.2):=by rfl):uS X (e::es) (Pa t u):=by
 intro EN s B H vs us Q I r h;let#[v,vr,e1,h]:=h;subst e1;cases r with
 | cons r rr=>
  rw[hs];exact assignInOrder_cons (zx (h1 EN s B H _ _ _ I r h) λ _ s1 #[B1,H1,I1,q1]=>?_);show h2 EN s1 B1 H1 _ _ Q I1 rr q1
def cK (K:Ac) (n:Nat) (t:tG):TG:=λ v B H Q=>∃ a xs,v=.ref a/\zN K H a xs/\xs.length=n/\t xs B H Q
def Wg {es:List Expr}{k:Nat}{t:tG}{n:Nat}(hc:X.calm=true) (h:uS X es t)
  (hn:(assignEach es X.env).length=n:=by rfl) (AZ:(assignEach es X.env).findIdx? (·.1)=none:=by rfl):PG X (.Tuple es k pos) (cK X.K n t):=by
 intro EN s B H v u Q I r hw;let#[a,xs,e1,hq,hl,hw]:=hw;subst e1;cases r;let#[Aa,rv,ht,hz]:=I.tuple hq;exact assign_Tuple_tuple (I.ok.hd hc) ht (by simp[hn,<- hl,rv.length]) AZ λ h' hx=>?_;have I1:Inv X EN B H { s with heap:=h' }:=I.kept (t':=s.toks) λ b o e=>hx b o (AF (Au e)) e;show h EN _ B H xs _ Q I1 (by exists rv) hw
def QZ (to ti:TE) (t:iR):TG:=λ v B H Q=>to B H λ o H1=>ti B H1 λ i H2=>t o i v H2 λ H3=>Q B H3
def Wh {o i:Expr}{to ti:TE}{t:iR}(ho:PE X o to) (hi:PE X i ti) (hs:aH X t)
  (ha:∀ v,assign (.Subscript o i pos) X.env v=(do
   let ov <- holding [v] (eval o X.env)
   let iv <- holding [v,ov] (eval i X.env)
   standAt pos
   holding [v,ov,iv] (setItem ov iv v)
   release [v,ov,iv] []):=by intro _;rfl):PG X (.Subscript o i pos) (QZ to ti t):=by
 intro EN s B H v u Q I r h;rw[ha];exact IE (JI (zx (ho EN s B H _ I h) λ ov s1 #[x,H1,I1,r1,q1]=>?_));exact IE (JI (zx (hi EN s1 B H1 _ I1 q1) λ iv s2 #[y,H2,I2,r2,q2]=>?_));exact IE (wpAny_standAt (IE (JI (zx (hs EN s2 B H2 x y v ov iv u _ I2 r1 r2 r q2) λ _ s3 #[H3,I3,q3]=>?_))));show wpAny_release #[B,H3,I3,q3]
def nH (te:TE) (g:TG):TS:=λ D B H=>te B H λ x H1=>g x B H1 D.nx
def XW {tg e:Expr}{te:TE}{g:TG}(he:PE X e te) (hg:PG X tg g) (hs:swapsWithSole [tg] e pos.line X.env=pure false:=by rfl) (hw:swappedStores [tg] e X.env=pure none:=by rfl)
  (h1:(assignEach [tg] X.env).map (·.2)=[assign tg X.env]:=by rfl):PS X (.Assign [tg] e pos) (nH te g):=by
 intro EN s B H D I h;exact wpAny_Assign_stores (zx (he EN s B H _ I h) λ v s1 #[x,H1,I1,r1,q1]=>?_) hs hw;rw[h1];show zx (hg EN s1 B H1 x v _ I1 r1 q1) λ _ s2 q=>q
def XN {i:Nat}{x:Str}{e:Expr}{te:TE}{pos':Pos}(hN:X.N.Nodup) (hi:X.N[i]?=↑x) (hx:Loc X.env.scope x) (he:PE X e te) (hs:swapsWith e ↑(.Name x pos') pos.line X.env=pure false:=by rfl) (hf:X.fn x=true\/X.env.scope.names.lookup x=↑.local:=by first | show .inl rfl | show .inr rfl | assumption):
  PS X (.Assign [.Name x pos'] e pos) (nH te (qK i)):=by
 intro EN s B H D I h;exact wpAny_Assign_Name (zx (he EN s B H _ I h) λ v s1 #[y,H1,I1,r1,q1]=>?_) hs;show k8 I1 hN hi hx r1 (λ s2 I2=>#[_,H1,I2,q1]) hf
def Y8 (c:TT) (tb:TS):TS:=λ D B H=>∃ W:Nat->St->Hp->Prop,(∃ m,W m B H)/\∀ m B H,W m B H->
 c B H λ b H1=>if b=true then ∃ N:St->Hp->Prop,(∀ B' H',N B' H'->∃ m',m'<m/\W m' B' H')/\tb { D with nx:=N,ct:=N,bk:=D.nx } B H1 else D.nx B H1
def XJ {c:Expr}{body:List Stmt}{tc:TT}{tb:TS}(hp:PassesOwn (model X.prog X.w) X.A X.env X.xe) (hc:PT X c tc) (hb:xM X body tb):PS X (.While c body [] pos) (Y8 tc tb):=by
 intro EN s B H D I h;let#[W,#[m0,w0],turn]:=h;exact wpAny_While (codeAny_whileLoop (λ n s'=>∃ B' H',Inv X EN B' H' s'/\W n B' H') ?_ m0 #[B,H,I,w0]);rintro n s1 ⟨B1,H1,I1,w1⟩;exact JR hp (zx (hc EN s1 B1 H1 _ I1 (turn n B1 H1 w1)) λ b s2 #[H2,I2,q2]=>?_);cases b with
 | true=>
  let#[N,hN,q2]:=q2;rw[if_pos rfl];exact JR hp (zx (hb EN s2 B1 H2 _ I2 q2) λ f s3 q3=>?_);cases f with
  | next=>
   let#[B3,H3,I3,n3]:=q3;let#[m',hm,w3]:=hN B3 H3 n3;show#[m',hm,B3,H3,I3,w3]
  | cont=>
   let#[B3,H3,I3,n3]:=q3;let#[m',hm,w3]:=hN B3 H3 n3;show#[m',hm,B3,H3,I3,w3]
  | brk=>show q3
  | ret v=>show q3
 | false=>
  rw[if_neg BI];show wpAny_execs_nil #[B1,H2,I2,q2]
end
structure It where
 go:Nat->Hp->Prop
 qc:Nat->Hp->V->Hp->Prop
 stop:Nat->Hp->Prop
def vG (X:Cx) (EN:Ai) (H:Hp) (b:Addr):Prop:=
 H b=none/\b≠X.env.locals/\b∉X.fs/\(b∈X.ex\/X.s₀.heap.objs.size<=b)/\(∀ x c,X.env.cells.lookup x=↑c->c≠b)/\∀ p∈X.pn++EN,p.1≠b
theorem Inv.mJ {X:Cx}{EN:Ai}{B:St}{H H':Hp}{s:Shared}{b:Addr}(I:Inv X EN B H s) (hb:s.heap.objs.size<=b) (hn:H' b=none):vG X EN H' b:=by
 exact#[hn,BH (Bi I.lt hb),I.eI hb,.inr (Be I.sz hb),λ x c e z=>?_,λ p hp z=>?_]
 .let#[v,q]:=I.cell x c e;show absurd (Bi q.lt (by rw[z];show hb)) (BQ _)
 .show absurd (Bi (Au (I.pin p hp).1) (by rw[z];show hb)) (BQ _)
structure Turn (P:Program) (w:World) (K:Ac) (tg:Expr) (J:It) (fp:List Addr) (it:Addr) (tn:Nat->Heap->Prop):Prop where
 mem:it∈fp
 obj:∀ i h,tn i h->∀ b∈fp,∃ o,h.get? b=↑o/\∀ v,o.data≠.cell v
 keep:∀ i h h',tn i h->(∀ b∈fp,∀ o,h.get? b=↑o->h'.get? b=↑o)->tn i h'
 item:∀ (X:Cx),X.prog=P->X.w=w->X.K=K->X.calm=true->∀ (i:Nat) (EN:Ai) (s:Shared) (B:St) (H:Hp) (E:Af),Inv X EN B H s->(∀ b∈fp,vG X EN H b)->tn i s.heap->J.go i H->
  wpAny (model P w) X.A (pyNext (.ref it)) (λ r s1=>∃ u,r=↑u/\
   wpAny (model P w) X.A (letOwnedTupleGo tg (.ref it) u) (λ _ s2=>∃ x H',Inv X EN B H' s2/\RelV x u/\J.qc i H x H'/\tn (i+1) s2.heap/\∀ b∈fp,H' b=none) E s1) E s
 done:∀ (X:Cx),X.prog=P->X.w=w->X.K=K->X.calm=true->∀ (i:Nat) (EN:Ai) (s:Shared) (B:St) (H:Hp) (E:Af),Inv X EN B H s->(∀ b∈fp,vG X EN H b)->tn i s.heap->J.stop i H->
  wpAny (model P w) X.A (pyNext (.ref it)) (λ r s1=>r=none/\Inv X EN B H s1) E s
 self:∀ (A:Around) (i:Nat) (s:Shared) (Q:Af) (E:Af),tn i s.heap->Q (.ref it) s->wpAny (model P w) A (pyIter (.ref it)) Q E s
abbrev TI:=St->Hp->(It->Hp->Prop)->Prop
def aI (X:Cx) (EN:Ai) (B:St) (tg:Expr) (R:It->Hp->Prop) (Ij:Value) (s2:Shared):Prop:=
 ∃ (it:Addr) (fp:List Addr) (tn:Nat->Heap->Prop) (J:It) (H':Hp),Ij=.ref it/\Inv X EN B H' s2/\Turn X.prog X.w X.K tg J fp it tn/\tn 0 s2.heap/\(∀ b∈fp,vG X EN H' b)/\R J H'
def PI (X:Cx) (tg iter:Expr) (wi:TI):Prop:=
 ∀ (EN:Ai) (s:Shared) (B:St) (H:Hp) (R:It->Hp->Prop),Inv X EN B H s->wi B H R->
  wpAny (model X.prog X.w) X.A (eval iter X.env) (λ v s1=>wpAny (model X.prog X.w) X.A (pyIter v) (aI X EN B tg R) X.xe s1) X.xe s
def jM {M:Model}{A:Around}{E:Af}{s:Shared}{tg:Expr}{it:Addr}{u:Value}{o:Obj}{n:String}{vs:Ax}{Q:Unit->Shared->Prop}(ho:s.heap.get? it=↑o) (hc:o.cls=.type n) (hd:o.data=.fields vs)
  (hn:["enumerate","zip","dict_itemiterator","dict_reverseitemiterator","odict_iterator","itertools.zip_longest","itertools.pairwise"].contains n=false) (hQ:Q Unit.unit s):wpAny M A (letOwnedTupleGo tg (.ref it) u) Q E s:=by
 unfold letOwnedTupleGo;cases tg <;> first
  | show Ad hQ
  | (cases u <;> first
    | show Ad hQ
    | (exact IE (wpAny_load ho ?_)
       rw[hc,hd];change wpAny M A (if (["enumerate","zip","dict_itemiterator","dict_reverseitemiterator","odict_iterator","itertools.zip_longest","itertools.pairwise"].contains n&&vs[0]? == ↑(rawInt _))=true then _ else _) Q E s;rw[if_neg (by intro h;rw[hn,Bool.false_and] at h;cases h)];show Ad hQ))
def aO (K:Ac) (a:Addr):It:=
 #[λ i H=>∃ xs x,zC K H a xs/\xs[i]?=↑x,λ i H x H'=>H'=H/\∀ xs,zC K H a xs->xs[i]?=↑x,λ i H=>∃ xs,zC K H a xs/\xs.length<=i]
def aN (K:Ac) (a:Addr):It:=
 #[λ i H=>∃ xs x,zN K H a xs/\xs[i]?=↑x,λ i H x H'=>H'=H/\∀ xs,zN K H a xs->xs[i]?=↑x,λ i H=>∃ xs,zN K H a xs/\xs.length<=i]
def lR (lo:Int) (n:Nat):It:=#[λ i _=>i<n,λ i H x H'=>H'=H/\x=.int (lo+i),λ i _=>n<=i]
def Yy {P:Program}{w:World}{K:Ac}{tg:Expr}(a it:Addr):Turn P w K tg (aO K a) [it] it (λ i h=>h.IsListIter it a i) where
 mem:=#[]
 obj:=λ i h st b hb=>by
  have e:b=it:=by exists hb
  subst e;let#[o,e,c,d]:=st;show#[o,e,λ v z=>by rw[d] at z;cases z]
 keep:=λ i h h' st k=>st.at λ o e=>k it #[] o e
 item:=by
  intro X hP hw hK hc i EN s B H E I hf st hg;subst hP hw hK;let#[xs,x,hq,hx]:=hg;let#[Aa,rv,p,hz]:=I.list hq;let#[u,hu,ru]:=rv.get hx;let#[f0,f1,f2,f3,f4,f5]:=hf it #[];exact wpAny_pyNext_list_item st p.isList (x:=u) (by exists hu) λ h' Gn sb=>?_;have I1:Inv X EN B H { s with heap:=h' }:=I.turned (t':=s.toks) (λ b o hb e=>(sb.2 b hb).trans e) f0 f1 f3 f4 f5;let#[o,e,c,d]:=id Gn;show#[u,rfl,jM (s:={ s with heap:=h' }) e c d () #[x,H,I1,ru,#[rfl,λ ys hy=>by rw[I.jx hy hq];show hx],Gn,λ b hb=>(hf b hb).1]]
 done:=by
  intro X hP hw hK hc i EN s B H E I hf st hg;subst hP hw hK;let#[xs,hq,hx]:=hg;let#[Aa,rv,p,hz]:=I.list hq;let#[f0,f1,f2,f3,f4,f5]:=hf it #[];have hl:=rv.length;show wpAny_pyNext_list_end (I.ok.hd hc) st p.isList (by simp;lia) λ h' eb=>#[rfl,I.turned (t':=s.toks) (λ b o hb e=>eb b o hb e) f0 f1 f3 f4 f5]
 self:=λ _ _ _ _ _ st h=>wpAny_pyIter_listiter st h
def Yw {P:Program}{w:World}{K:Ac}{tg:Expr}(a it:Addr):Turn P w K tg (aN K a) [it] it (λ i h=>h.IsTupleIter it a i) where
 mem:=#[]
 obj:=λ i h st b hb=>by
  have e:b=it:=by exists hb
  subst e;let#[o,e,c,d]:=st;show#[o,e,λ v z=>by rw[d] at z;cases z]
 keep:=λ i h h' st k=>st.at λ o e=>k it #[] o e
 item:=by
  intro X hP hw hK hc i EN s B H E I hf st hg;subst hP hw hK;let#[xs,x,hq,hx]:=hg;let#[Aa,rv,p,hz]:=I.tuple hq;let#[u,hu,ru]:=rv.get hx;let#[f0,f1,f2,f3,f4,f5]:=hf it #[];exact wpAny_pyNext_tuple_item st (show s.heap.IsTuple a Aa.toArray from p) (x:=u) (by exists hu) λ h' Gn sb=>?_;have I1:Inv X EN B H { s with heap:=h' }:=I.turned (t':=s.toks) (λ b o hb e=>(sb.2 b hb).trans e) f0 f1 f3 f4 f5;let#[o,e,c,d]:=id Gn;show#[u,rfl,jM (s:={ s with heap:=h' }) e c d () #[x,H,I1,ru,#[rfl,λ ys hy=>by rw[I.kq hy hq];show hx],Gn,λ b hb=>(hf b hb).1]]
 done:=by
  intro X hP hw hK hc i EN s B H E I hf st hg;subst hP hw hK;let#[xs,hq,hx]:=hg;let#[Aa,rv,p,hz]:=I.tuple hq;let#[f0,f1,f2,f3,f4,f5]:=hf it #[];have hl:=rv.length;show wpAny_pyNext_tuple_end (I.ok.hd hc) st (show s.heap.IsTuple a Aa.toArray from p) (by simp;lia) λ h' eb=>#[rfl,I.turned (t':=s.toks) (λ b o hb e=>eb b o hb e) f0 f1 f3 f4 f5]
 self:=λ _ _ _ _ _ st h=>wpAny_pyIter_tupleiter st h
def Yx {P:Program}{w:World}{K:Ac}{tg:Expr}(it:Addr) (lo:Int) (n:Nat):Turn P w K tg (lR lo n) [it] it (λ i h=>IsRangeIter h it (lo+(i:Nat)*1) ((n:Int)-(i:Nat)) 1) where
 mem:=#[]
 obj:=λ i h st b hb=>by
  have e:b=it:=by exists hb
  subst e;show#[_,st,λ v z=>by
   have z':Data.fields _=Data.cell v:=z;cases z']
 keep:=λ i h h' st k=>k it #[] _ st
 item:=by
  intro X hP hw hK hc i EN s B H E I hf st hg;subst hP hw hK;let#[f0,f1,f2,f3,f4,f5]:=hf it #[];have W:=Walks.range (prog:=X.prog) (w:=X.w) (I.ok.hd hc) it lo 1 n;exact W.item i s _ _ hg st λ v h' tk hv Gn kk=>?_;let#[t,rfl]:=hv;have I1:Inv X EN B H { s with heap:=h',toks:=tk }:=I.turned (λ b o hb e=>kk b o (by exists hb) e) f0 f1 f3 f4 f5;exact#[_,rfl,jM (s:={ s with heap:=h',toks:=tk }) (n:="range_iterator") Gn rfl rfl () #[.int (lo+i),H,I1,#[t,?_],#[rfl,rfl],Gn,λ b hb=>(hf b hb).1]];rw[Int.mul_one]
 done:=by
  intro X hP hw hK hc i EN s B H E I hf st hg;subst hP hw hK;let#[f0,f1,f2,f3,f4,f5]:=hf it #[];show wpAny_pyNext_range_end (I.ok.hd hc) st (by have:n<=i:=hg;lia) λ h' eb=>#[rfl,I.turned (t':=s.toks) (λ b o hb e=>eb b o hb e) f0 f1 f3 f4 f5]
 self:=λ _ _ _ _ _ st h=>wpAny_pyIter_rangeiter st h
section
variable {X:Cx}{tg:Expr}
def Xy {EN:Ai}{B:St}{H:Hp}{s:Shared}{R:It->Hp->Prop}{E:Af}{lo hi:Int}{t u v:Tok}{tk:Nat}(I:Inv X EN B H s) (h1:-(2 ^ 62)<=lo) (h2:lo<2 ^ 62) (h3:-(2 ^ 62)<=hi) (h4:hi<2 ^ 62)
  (q:R (lR lo (hi-lo).toNat) H):wpAny (model X.prog X.w) X.A (pyIter (.ref s.heap.objs.size)) (aI X EN B tg R) E { s with heap:=s.heap.push { cls:=.type "range",data:=.fields [.int lo t,.int hi u,.int 1 v].toArray },toks:=tk }:=by
 exact wpAny_pyIter_range (IsRange.new ..) (small_one h1 h2 h3 h4) ?_;have I1:Inv X EN B H { s with heap:=s.heap.push { cls:=.type "range",data:=.fields [.int lo t,.int hi u,.int 1 v].toArray },toks:=tk }:=I.kept λ b o e=>JD _ e;exact#[(s.heap.push { cls:=.type "range",data:=.fields [.int lo t,.int hi u,.int 1 v].toArray }).objs.size,[(s.heap.push { cls:=.type "range",data:=.fields [.int lo t,.int hi u,.int 1 v].toArray }).objs.size],_,_,H,rfl,
  I1.kept (t':=tk) λ b o e=>JD _ e,Yx _ lo (hi-lo).toNat,?_,λ b hb=>?_,q]
 .have e1:lo+((0:Nat):Int)*1=lo:=#[];have e2:(((hi-lo).toNat:Nat):Int)-((0:Nat):Int)=Builtin.Range.rangeSize lo hi 1:=by rw[rangeSize_one];split <;> lia
  change IsRangeIter _ _ (lo+((0:Nat):Int)*1) ((((hi-lo).toNat:Nat):Int)-((0:Nat):Int)) 1;rw[e1,e2];show AJ _ rfl
 .have e:b=(s.heap.push { cls:=.type "range",data:=.fields [.int lo t,.int hi u,.int 1 v].toArray }).objs.size:=by exists hb
  subst e;show I1.mJ (Aj _) (I1.zu.fresh (Aj _))
def cA (ta:TA):TI:=fun B H R=>ta B H λ vs H1=>∃ j:Int,vs=[.int j]/\-(2 ^ 62)<=j/\j<2 ^ 62/\R (lR 0 j.toNat) H1
theorem Wc {a:Expr}{ta:TA}{p pos:Pos}(hg:Gl X "range") (hm:X.mg "range"=none) (ha:PA X [a] ta) (hs:starEach [a] X.env=[(false,eval a X.env)]:=by rfl):PI X tg (.Call (.Name "range" p) [a] [] pos) (cA ta):=by
 intro EN s B H R I h;exact Call_ (qA I hg hm boot_range (PyProof.Rows.callWith_type1 (zx (ha pos EN s B H _ I h) λ us s1 #[vs,H1,I1,r1,q1]=>?_) hs rfl));let#[j,e,q1,q2,q]:=q1;subst e;cases r1 with
 | cons r rr=>
  cases rr;let#[t,rfl]:=r;show call_range_1 (Xy I1 ⋯ ⋯ q1 q2 (by exists q))
def YN (wi:TI) (g:TG) (tb:TS):TS:=λ D B H=>wi B H λ J H1=>∃ W:Nat->Nat->St->Hp->Prop,(∃ m,W 0 m B H1)/\∀ i m B H,W i m B H->
 (J.stop i H/\D.nx B H)\/(J.go i H/\∃ N:St->Hp->Prop,(∀ B' H',N B' H'->∃ m',m'<m/\W (i+1) m' B' H')/\∀ x H',J.qc i H x H'->g x B H' fun B2 H2=>tb { D with nx:=N,ct:=N,bk:=D.nx } B2 H2)
def pF (fp:List Addr) (h:Heap):Ai:=fp.filterMap λ b=>(h.get? b).map λ o=>(b,o)
def mq {fp:List Addr}{h:Heap}{b:Addr}{o:Obj}(hb:b∈fp) (e:h.get? b=↑o):(b,o)∈pF fp h:=D8.mpr #[b,hb,by rw[e];rfl]
def Rj {fp:List Addr}{h:Heap}{p:Addr×Obj}(hp:p∈pF fp h):p.1∈fp/\h.get? p.1=↑p.2:=by
 let#[b,hb,e]:=D8.mp hp;cases q:h.get? b with
 | none=>rw[q] at e;cases e
 | some o=>
  rw[q] at e;have e':(b,o)=p:=A1 e;subst e';show#[hb,q]
def Inv.pinned {EN:Ai}{B:St}{H:Hp}{s:Shared}{fp:List Addr}(I:Inv X EN B H s) (hf:∀ b∈fp,vG X EN H b) (ho:∀ b∈fp,∃ o,s.heap.get? b=↑o/\∀ v,o.data≠.cell v):Inv X (EN++pF fp s.heap) B H s:=
 I.kR λ p hp=>(A2.mp hp).elim (λ z=>I.pin p (A6 _ z)) λ z=>by
  let#[hb,e]:=Rj z;let#[f0,f1,f2,_]:=hf p.1 hb;let#[o,e',d]:=ho p.1 hb;rw[e] at e';cases e';show#[e,f0,f1,f2,d]
def Inv.px {EN pl:Ai}{B:St}{H:Hp}{s:Shared}(I:Inv X (EN++pl) B H s):Inv X EN B H s:=I.kR λ p hp=>I.pin p (A6 _ (Cp _ hp))
def XS {iter:Expr}{body:List Stmt}{wi:TI}{g:TG}{tb:TS}{pos:Pos}(hp:PassesOwn (model X.prog X.w) X.A X.env X.xe) (hc:X.calm=true) (hi:PI X tg iter wi) (hg:PG X tg g) (hb:xM X body tb)
  (hs:∀ x,foldedSetIterable iter X.env x=pure x:=by intro _;rfl):PS X (.For tg iter body [] pos) (YN wi g tb):=by
 intro EN s B H D I h;exact wpAny_For (zx (hi EN s B H _ I h) λ v s1 h1=>zx h1 λ Ij s2 h2=>?_) hs;let#[it,fp,tn,J,H2,e,I2,T,HE,f2,W,#[m0,w0],turn]:=h2;subst e;have Gj:∀ {H':Hp},(∀ b∈fp,H' b=none)->∀ b∈fp,vG X EN H' b:=λ hn b hb=>#[hn b hb,(f2 b hb).2];exact codeAny_forLoop_any (λ n s'=>∃ i B' H',Inv X EN B' H' s'/\tn i s'.heap/\(∀ b∈fp,H' b=none)/\W i n B' H') ?_ m0 #[0,B,H2,I2,HE,λ b hb=>(f2 b hb).1,w0];rintro n s3 ⟨i,B3,H3,I3,HD,H_,w3⟩;rcases turn i n B3 H3 w3 with ⟨stop,qn⟩ | ⟨go,N,hN,step⟩
 .exact JR hp (zx (T.done X rfl rfl rfl hc i EN s3 B3 H3 X.xe I3 (Gj H_) HD stop) λ r s4 #[hr,I4]=>?_);subst hr;show wpAny_execs_nil #[B3,H3,I4,qn]
 .exact JR hp (zx (T.item X rfl rfl rfl hc i EN s3 B3 H3 X.xe I3 (Gj H_) HD go) λ r s4 #[u,hr,h4]=>?_);subst hr;exact JR hp (zx h4 λ _ s5 #[x,H5,I5,r5,y5,Hb,Jt]=>?_);have JC:=I5.pinned (Gj Jt) (T.obj _ _ Hb);exact JR hp (zx (hg _ s5 B3 H5 x u _ JC r5 (step x H5 y5)) λ _ s6 #[B6,H6,I6,q6]=>?_);exact JR hp (zx (hb _ s6 B6 H6 _ I6 q6) λ f s7 q7=>?_);have again:∀ {B7:St}{H7:Hp},Inv X (EN++pF fp s5.heap) B7 H7 s7->N B7 H7->∃ m,m<n/\∃ i B' H',Inv X EN B' H' s7/\tn i s7.heap/\(∀ b∈fp,H' b=none)/\W i m B' H':=λ{B7 H7} I7 n7=>by
   let#[m',hm,w7]:=hN B7 H7 n7;exact#[m',hm,i+1,B7,H7,I7.px,T.keep _ _ _ Hb λ b hb o e=>(I7.pin (b,o) (A6 _ (A6 _ (mq hb e)))).1,λ b hb=>?_,w7];let#[o,e,d]:=T.obj _ _ Hb b hb;show (I7.pin (b,o) (A6 _ (A6 _ (mq hb e)))).2.1
  cases f with
  | brk=>let#[B7,H7,I7,q7]:=q7;show#[B7,H7,I7.px,q7]
  | ret v=>let#[x7,B7,H7,I7,r7,q7]:=q7;show#[x7,B7,H7,I7.px,r7,q7]
  | _=>let#[B7,H7,I7,n7]:=q7;show again I7 n7
end
abbrev R2:=V->V->Hp->VK->Prop
def ya (X:Cx) (f:Value->Value->Sem Value) (r:R2):Prop:=
 ∀ (EN:Ai) (s:Shared) (B:St) (H:Hp) (x y:V) (v u:Value) (Q:VK),Inv X EN B H s->RelV x v->RelV y u->r x y H Q->
  wpAny (model X.prog X.w) X.A (f v u) (EP X EN B Q) X.xe s
def iP (X:Cx) (f:Value->Sem Value) (r:V->Hp->VK->Prop):Prop:=
 ∀ (EN:Ai) (s:Shared) (B:St) (H:Hp) (x:V) (v:Value) (Q:VK),Inv X EN B H s->RelV x v->r x H Q->
  wpAny (model X.prog X.w) X.A (f v) (EP X EN B Q) X.xe s
def y9 (X:Cx) (f:Value) (r:List V->Hp->VK->Prop):Prop:=
 ∀ (EN:Ai) (s:Shared) (B:St) (H:Hp) (xs:List V) (us:Ae) (Q:VK),Inv X EN B H s->Vals xs us->r xs H Q->
  wpAny (model X.prog X.w) X.A (call f us) (EP X EN B Q) X.xe s
def N7 (X:Cx) (r:V->Hp->(Bool->Hp->Prop)->Prop):Prop:=
 ∀ (EN:Ai) (s:Shared) (B:St) (H:Hp) (x:V) (v:Value) (Q:Bool->Hp->Prop),Inv X EN B H s->RelV x v->r x H Q->
  wpAny (model X.prog X.w) X.A (truthy v) (TP X EN B Q) X.xe s
def pz (r:R2) (ta tb:TE):TE:=fun B H Q=>ta B H λ x H1=>tb B H1 λ y H2=>r x y H2 Q
def Y9 (r:V->Hp->VK->Prop) (ta:TE):TE:=fun B H Q=>ta B H λ x H1=>r x H1 Q
def rI (C:Int->Int->Prop) (g:Int->Int->V):R2:=λ x y H Q=>∃ i j,x=.int i/\y=.int j/\C i j/\Q (g i j) H
def wH (g:Int->Int->V):R2:=λ x y H Q=>∃ i j,x=.int i/\y=.int j/\Q (g i j) H
def rU (g:Int->V):V->Hp->VK->Prop:=λ x H Q=>∃ i,x=.int i/\Q (g i) H
section
variable {X:Cx}{a b:Expr}{ta tb:TE}{pos:Pos}
def i8 (ha:PE X a ta) (hb:PE X b tb) {EN:Ai}{s:Shared}{B:St}{H:Hp}{R:V->V->Hp->Prop}(I:Inv X EN B H s)
  (h:ta B H λ x H1=>tb B H1 λ y H2=>R x y H2) {Q:Af}{f:Value->Value->Sem Value}
  (hf:∀ v u s2 x y H2,Inv X EN B H2 s2->RelV x v->RelV y u->R x y H2->wpAny (model X.prog X.w) X.A (f v u) Q X.xe s2):
  wpAny (model X.prog X.w) X.A (eval a X.env) (λ v s₁=>wpAny (model X.prog X.w) X.A (eval b X.env) (λ u s₂=>wpAny (model X.prog X.w) X.A (f v u) Q X.xe s₂) X.xe s₁) X.xe s:=by
 exact zx (ha EN s B H _ I h) λ v s1 #[x,H1,I1,r1,q1]=>?_;exact zx (hb EN s1 B H1 _ I1 q1) λ u s2 #[y,H2,I2,r2,q2]=>?_;show hf v u s2 x y H2 I2 r1 r2 q2
def Wu {op:Operator}{r:R2}(ho:ya X (binaryOp op) r) (ha:PE X a ta) (hb:PE X b tb):PE X (.BinOp a op b pos) (pz r ta tb):=by
 intro EN s B H Q I h;show wpAny_BinOp (i8 ha hb I h λ v u s2 x y H2 I2 rx ry q=>ho EN s2 B H2 x y v u Q I2 rx ry q)
def Wr {op:UnaryOp}{r:V->Hp->VK->Prop}(ho:iP X (unaryOp op) r) (ha:PE X a ta):PE X (.UnaryOp op a pos) (Y9 r ta):=by
 intro EN s B H Q I h;show UnaryOp_ (zx (ha EN s B H _ I h) λ v s1 #[x,H1,I1,r1,q1]=>ho EN s1 B H1 x v Q I1 r1 q1)
def nZ {f:Value->Value->Sem Value}{C:Int->Int->Prop}{g:Int->Int->Int}
  (rule:∀ (i j:Int) (t u:Tok) (s:Shared) (Q:Af) (E:Af),C i j->Q (.int (g i j) s.toks) { s with toks:=s.toks+1 }->wpAny (model X.prog X.w) X.A (f (.int i t) (.int j u)) Q E s):
  ya X f (rI C λ i j=>.int (g i j)):=by
 intro EN s B H x y v u Q I rx ry h;let#[i,j,rfl,rfl,hc,q]:=h;let#[t,rfl]:=rx;let#[t',rfl]:=ry;show rule i j t t' s _ _ hc #[.int (g i j),H,I.tok _,#[_,rfl],q]
def ej {f:Value->Value->Sem Value}{g:Int->Int->Int}
  (rule:∀ (i j:Int) (t u:Tok) (s:Shared) (Q:Af) (E:Af),Q (.int (g i j) s.toks) { s with toks:=s.toks+1 }->wpAny (model X.prog X.w) X.A (f (.int i t) (.int j u)) Q E s):
  ya X f (wH λ i j=>.int (g i j)):=by
 intro EN s B H x y v u Q I rx ry h;let#[i,j,rfl,rfl,q]:=h;let#[t,rfl]:=rx;let#[t',rfl]:=ry;show rule i j t t' s _ _ #[.int (g i j),H,I.tok _,#[_,rfl],q]
def n_ {f:Value->Value->Sem Value}{g:Int->Int->Bool}
  (rule:∀ (i j:Int) (t u:Tok) (s:Shared) (Q:Af) (E:Af),Q (.bool (g i j)) s->wpAny (model X.prog X.w) X.A (f (.int i t) (.int j u)) Q E s):
  ya X f (wH λ i j=>.bl (g i j)):=by
 intro EN s B H x y v u Q I rx ry h;let#[i,j,rfl,rfl,q]:=h;let#[t,rfl]:=rx;let#[t',rfl]:=ry;show rule i j t t' s _ _ #[.bl (g i j),H,I,rfl,q]
def xt (i j:Int):Prop:=0<j/\j<1073741824
def qb (i j:Int):Prop:=0<=j/\j<=1000000/\i.natAbs<2 ^ 64
def xV (i j:Int):Prop:=(-(2 ^ 64)<i/\i<2 ^ 64)\/(-(2 ^ 64)<j/\j<2 ^ 64)
def xV.ok {i j:Int}(h:xV i j):IntMulOk i j:=by
 rcases h with ⟨h1,h2⟩ | ⟨h1,h2⟩
 .show .of_left (intBits_le_64 h1 h2)
 .show .of_right (intBits_le_64 h1 h2)
def UI:ya X (binaryOp .Add) (wH λ i j=>.int (i+j)):=ej λ _ _ _ _ _ _ _ q=>add_int q
def U0:ya X (binaryOp .Sub) (wH λ i j=>.int (i-j)):=ej λ _ _ _ _ _ _ _ q=>sub_int q
def U6:ya X (binaryOp .Mult) (rI xV λ i j=>.int (i*j)):=nZ λ _ _ _ _ _ _ _ hc q=>mul_int q hc.ok
def UC:ya X (binaryOp .FloorDiv) (rI xt λ i j=>.int (i/j)):=nZ λ i j _ _ _ _ _ hc q=>by
 have h1:(0:Int)<j:=hc.1;have h2:j<1073741824:=hc.2;show floordiv_int ⋯ (by rw[Int.fdiv_eq_ediv_of_nonneg i ⋯];show q) (.inl (PyProof.noPylong_small ⋯))
def U7:ya X (binaryOp .Mod) (rI (λ _ j=>0<j) λ i j=>.int (i%j)):=nZ λ i j _ _ _ _ _ hc q=>by
 have h1:(0:Int)<j:=hc;show mod_int' ⋯ (by rw[Int.fmod_eq_emod_of_nonneg i ⋯];show q)
def U1:ya X (binaryOp .Pow) (rI qb λ i j=>.int (i ^ j.toNat)):=nZ λ _ _ _ _ _ _ _ hc q=>pow_int_small hc.1 hc.2.1 hc.2.2 q
def Yr {f:Value->Sem Value}{g:Int->Int}
  (rule:∀ (i:Int) (t:Tok) (s:Shared) (Q:Af) (E:Af),Q (.int (g i) s.toks) { s with toks:=s.toks+1 }->wpAny (model X.prog X.w) X.A (f (.int i t)) Q E s):
  iP X f (rU λ i=>.int (g i)):=by
 intro EN s B H x v Q I rx h;let#[i,rfl,q]:=h;let#[t,rfl]:=rx;show rule i t s _ _ #[.int (g i),H,I.tok _,#[_,rfl],q]
def Yq:iP X (unaryOp .USub) (rU λ i=>.int (-i)):=Yr λ _ _ _ _ _ q=>neg_int q
end
section
variable {X:Cx}{a b c:Expr}{ta tb tc:TE}{pos:Pos}
def Pq {EN:Ai}{B:St}{H:Hp}{s:Shared}{Q:VK}{k k':Bool}(I:Inv X EN B H s) (q:Q (.bl k) H) (e:k=k'):EP X EN B Q (.bool k') s:=by
 subst e;show#[.bl k,H,I,rfl,q]
def U9:ya X (compareOp .Lt) (wH λ i j=>.bl (decide (i<j))):=n_ λ _ _ _ _ _ _ _ q=>lt_int q
def k_:ya X (compareOp .LtE) (wH λ i j=>.bl (decide (i<=j))):=n_ λ _ _ _ _ _ _ _ q=>le_int q
def UB:ya X (compareOp .Gt) (wH λ i j=>.bl (decide (j<i))):=n_ λ _ _ _ _ _ _ _ q=>gt_int q
def eg:ya X (compareOp .GtE) (wH λ i j=>.bl (decide (j<=i))):=n_ λ _ _ _ _ _ _ _ q=>ge_int q
def f_:ya X (compareOp .Is) (λ x y H Q=>y=.zp/\Q (.bl (decide (x=.zp))) H):=by
 intro EN s B H x y v u Q I rx ry h;let#[rfl,q]:=h;cases ry;exact is_none_gen (Pq I q ?_);cases x <;> first
  | (cases rx;rfl)
  | (let#[t,rfl]:=rx;rfl)
def ya.or {f:Value->Value->Sem Value}{r r':R2}(h:ya X f r) (h':ya X f r'):ya X f (λ x y H Q=>r x y H Q\/r' x y H Q):=by
 intro EN s B H x y v u Q I rx ry q;rcases q with q | q
 .show h EN s B H x y v u Q I rx ry q
 .show h' EN s B H x y v u Q I rx ry q
def uk (b:Expr) {op:CmpOp}(h:op≠.In:=by decide) (h2:op≠.NotIn:=by decide):behindInMarks op b=false:=by
 have e1:(op == CmpOp.In)=false:=by cases op <;> first | rfl | show absurd rfl h
 have e2:(op == CmpOp.NotIn)=false:=by cases op <;> first | rfl | show absurd rfl h2
 cases b <;> simp[behindInMarks,e1,e2]
def WB {op:CmpOp}{r:R2}(ho:ya X (compareOp op) r) (ha:PE X a ta) (hb:PE X b tb) (hm:behindInMarks op b=false):PE X (.Compare a [op] [b] pos) (pz r ta tb):=by
 intro EN s B H Q I h;show wpAny_Compare1 (i8 ha hb I h λ v u s2 x y H2 I2 rx ry q=>ho EN s2 B H2 x y v u Q I2 rx ry q) hm
def YB (t:TE):TT:=fun B H Q=>t B H λ x H'=>∃ k,x=.bl k/\Q k H'
def XF {op:CmpOp}{r:R2}(ho:ya X (compareOp op) r) (ha:PE X a ta) (hb:PE X b tb) (hm:behindInMarks op b=false):PT X (.Compare a [op] [b] pos) (YB (pz r ta tb)):=by
 intro EN s B H Q I h;exact wpAny_isTrue_Compare1 (zx (ha EN s B H _ I h) λ v s1 #[x,H1,I1,r1,q1]=>zx (hb EN s1 B H1 _ I1 q1) λ u s2 #[y,H2,I2,r2,q2]=>
  zx (ho EN s2 B H2 x y v u _ I2 r1 r2 q2) λ c s3 #[z,H3,I3,r3,k,e,q3]=>?_) hm
 subst e;cases r3;show JN #[H3,I3,q3]
def gN (r r':R2) (ta tb tc:TE):TE:=fun B H Q=>ta B H λ x H1=>tb B H1 λ y H2=>r x y H2 λ z H3=>∃ k,z=.bl k/\
 (if k=true then tc B H3 λ w' H4=>r' y w' H4 Q else Q (.bl false) H3)
def WC {op Hd:CmpOp}{r r':R2}(ho:ya X (compareOp op) r) (Fq:ya X (compareOp Hd) r') (ha:PE X a ta) (hb:PE X b tb) (hc:PE X c tc)
  (hm:lastMarks [op,Hd] [b,c]=false:=by with_unfolding_all rfl):PE X (.Compare a [op,Hd] [b,c] pos) (gN r r' ta tb tc):=by
 intro EN s B H Q I h;exact Compare_chain (zx (ha EN s B H _ I h) λ v s1 #[x,H1,I1,r1,q1]=>chain_link (zx (hb EN s1 B H1 _ I1 q1) λ u s2 #[y,H2,I2,r2,q2]=>
  zx (ho EN s2 B H2 x y v u _ I2 r1 r2 q2) λ d s3 #[z,H3,I3,r3,k,e,q3]=>?_)) hm
 subst e;cases r3;exact JN ?_;cases k with
 | false=>show ite_ff #[.bl false,H3,I3,rfl,q3]
 | true=>show ite_tt (chain_last (zx (hc EN s3 B H3 _ I3 q3) λ w' s4 #[z',H4,I4,r4,q4]=>Fq EN s4 B H4 y z' u w' Q I4 r2 r4 q4))
def iQ (K:Ac) (x:V) (H:Hp) (k:Bool):Prop:=
 match x with
 | .zp=>k=false
 | .bl b=>k=b
 | .int i=>k=(i != 0)
 | .str y=>y.length<=sizeLine/\k=((y.length:Int) != 0)
 | .lp y=>y.size<=sizeLine/\k=((y.size:Int) != 0)
 | .ref p=>(∃ xs,zC K H p xs/\k=!xs.isEmpty)\/(∃ xs,zN K H p xs/\k=!xs.isEmpty)\/∃ Ab,H p=↑(.dK Ab)/\k=!Ab.isEmpty
 | _=>False
def Qx {κ:Type}{Ab:List (κ × V)}{vs:List (κ × Value)}(r:KV Ab vs):(!vs.isEmpty)=!Ab.isEmpty:=by
 cases r <;> rfl
def dX {xs:List V}{Aa:Ae}(r:Vals xs Aa):(!Aa.toArray.isEmpty)=!xs.isEmpty:=by
 cases r <;> simp
def rm:(sizeLine:Nat)<2 ^ 63:=by rw[sizeLine_eq];decide
theorem Y2:N7 X (λ x H Q=>∃ k,iQ X.K x H k/\Q k H):=by
 intro EN s B H x v Q I rx h;let#[k,e,q]:=h;have hl:=rm;have hs:sizeLine=16777216:=sizeLine_eq;cases x with
 | zp=>
  cases rx;have e':k=false:=e;subst e';show truthy_none #[H,I,q]
 | bl b=>
  cases rx;have e':k=b:=e;subst e';show JN #[H,I,q]
 | int i=>
  let#[t,rfl]:=rx;have e':k=(i != 0):=e;subst e';show PySem.P.truthy_int #[H,I,q]
 | str y=>
  let#[t,rfl]:=rx;obtain⟨hy,e'⟩:y.length<=sizeLine/\k=((y.length:Int) != 0):=e;subst e';show PySem.P.truthy_str ⋯ #[H,I.tok _,q]
 | lp y=>
  let#[t,rfl]:=rx;obtain⟨hy,e'⟩:y.size<=sizeLine/\k=((y.size:Int) != 0):=e;subst e';show PySem.W.truthy_bytes ⋯ #[H,I.tok _,q]
 | ref p=>
  cases rx;have e':(∃ xs,zC X.K H p xs/\k=!xs.isEmpty)\/(∃ xs,zN X.K H p xs/\k=!xs.isEmpty)\/∃ Ab,H p=↑(.dK Ab)/\k=!Ab.isEmpty:=e;rcases e' with ⟨xs,hx,e'⟩ | ⟨xs,hx,e'⟩ | ⟨Ab,hx,e'⟩
  .subst e';let#[Aa,r,pl,hz]:=I.list hx;have hlen:=r.length;show wpAny_truthy_list pl.isList (by simp![AB];lia) #[H,I.tok _,by rw[dX r];show q]
  .subst e';let#[Aa,r,pl,hz]:=I.tuple hx;have hlen:=r.length;show truthy_tuple pl (by simp![AB];lia) #[H,I.tok _,by rw[dX r];show q]
  .subst e';obtain⟨hz,hS,vs,r,m⟩:Ab.length<=sizeLine/\(p == sysModules)=false/\∃ vs,KV Ab vs/\s.heap.DictOf (wu X.prog X.w) p vs:=I.zu p _ hx;have hlen:Ab.length=vs.length:=Paired.length r;show wpAny_truthy_dict hS m ⋯ #[H,I.tok _,by rw[Qx r];show q]
 | _=>show (show False from e).elim
def XD (ha:PE X a ta) (he:∀ whole,isTrue a X.env whole=(do let v <- whole;standAt a.pos;holding [v] (truthy v))):
  PT X a (fun B H Q=>ta B H λ x H'=>∃ k,iQ X.K x H' k/\Q k H'):=by
 intro EN s B H Q I h;show isTrue_plain (zx (ha EN s B H _ I h) λ v s1 #[x,H1,I1,r1,q1]=>Y2 EN s1 B H1 x v Q I1 r1 q1) (he _)
def UH:ya X (binaryOp .Add) (λ x y H Q=>∃ i j,x=.str i/\y=.str j/\i.length+j.length<=sizeLine/\Q (.str (i++j)) H):=by
 intro EN s B H x y v u Q I rx ry h;let#[i,j,rfl,rfl,hz,q]:=h;let#[t,rfl]:=rx;let#[t',rfl]:=ry;show add_str (λ t' tk=>#[.str (i++j),H,I.tok _,#[_,rfl],q]) hz
def vals1 {x:V}{us:Ae}(r:Vals [x] us):∃ u,us=[u]/\RelV x u:=by
 cases r with
 | cons r1 r2=>cases r2;show#[_,rfl,r1]
def vals2 {x y:V}{us:Ae}(r:Vals [x,y] us):∃ u w',us=[u,w']/\RelV x u/\RelV y w':=by
 cases r with
 | cons r1 r2=>
  cases r2 with
  | cons r3 r4=>cases r4;show#[_,_,rfl,r1,r3]
def OQ (hc:X.calm=true):y9 X (.builtin "max") (λ xs H Q=>∃ i j,xs=[.int i,.int j]/\Q (.int (if j>i then j else i)) H):=by
 intro EN s B H xs us Q I r h;let#[i,j,rfl,q]:=h;let#[u,w',rfl,#[t,rfl],#[t',rfl]]:=vals2 r;exact max_two_ints (I.ok.hd hc) λ h' tk k=>#[_,H,I.kept k,?_,q];by_cases hj:j>i
 .rw[if_pos hj,if_pos hj];show#[_,rfl]
 .rw[if_neg hj,if_neg hj];show#[_,rfl]
def OO (hc:X.calm=true):y9 X (.builtin "min") (λ xs H Q=>∃ i j,xs=[.int i,.int j]/\Q (.int (if j<i then j else i)) H):=by
 intro EN s B H xs us Q I r h;let#[i,j,rfl,q]:=h;let#[u,w',rfl,#[t,rfl],#[t',rfl]]:=vals2 r;exact min_two_ints (I.ok.hd hc) λ h' tk k=>#[_,H,I.kept k,?_,q];by_cases hj:j<i
 .rw[if_pos hj,if_pos hj];show#[_,rfl]
 .rw[if_neg hj,if_neg hj];show#[_,rfl]
def OX:y9 X (.type "int") (λ xs H Q=>(∃ i,xs=[.int i]/\Q (.int i) H)\/∃ k,xs=[.bl k]/\Q (.int (if k then 1 else 0)) H):=by
 intro EN s B H xs us Q I r h;rcases h with ⟨i,rfl,q⟩ | ⟨k,rfl,q⟩
 .let#[u,rfl,t,rfl]:=vals1 r;show call_int_int #[.int i,H,I,#[_,rfl],q]
 .let#[u,rfl,r1]:=vals1 r;cases r1;show call_int_bool #[.int (if k then 1 else 0),H,I.tok _,#[_,rfl],q]
end
def uc.some_of {v:V}{o:Option Value}(r:uc ↑v o):∃ u,o=↑u/\RelV v u:=by
 cases o with
 | none=>show (show False from r).elim
 | some u=>show#[u,rfl,r]
structure z_ (k:Nat) (A:Around):Prop where
 hd:A.handled=none
 dp:A.depth+3*k+5<recursionLimit
 un:A.units+16*k+200<cLine
def z_.mono {j k:Nat}{A:Around}(r:z_ k A) (h:j<=k):z_ j A:=#[r.hd,by have:=r.dp;lia,by have:=r.un;lia]
theorem z_.deeper {k:Nat}{A:Around}(r:z_ (k+1) A) (env:Env):z_ k (A.deeper env):=
 #[r.hd,by have:=r.dp;change A.depth+1+3*k+5<_;lia,by have:=r.un;change A.units+3+16*k+200<_;lia]
theorem z_.depth {k:Nat}{A:Around}(r:z_ k A):A.depth<recursionLimit:=by have:=r.dp;lia
theorem z_.units {k:Nat}{A:Around}(r:z_ k A):A.units+64<cLine:=by have:=r.un;lia
def ky:TA:=λ _ H Q=>Q [] H
def k6 (ta:TE) (tr:TA):TA:=fun B H Q=>ta B H λ x H1=>tr B H1 λ xs H2=>Q (x::xs) H2
section
variable {X:Cx}{e:Expr}{es:List Expr}{te:TE}{t:TA}{pos:Pos}
def qv:PA X [] ky:=λ _ _ _ _ H Q I h=>Calls.spliced_nil #[[],H,I,.nil,h]
def ra (ha:PE X e te) (hr:PA X es t) (hs:AG X e es:=by rfl):PA X (e::es) (k6 te t):=by
 intro pos EN s B H Q I h;rw[hs];change wpAny _ _ (spliced ((false,eval e X.env)::backTo pos (starEach es X.env))) _ _ s;exact Calls.spliced_cons (zx (ha EN s B H _ I h) λ u s1 #[x,H1,I1,r1,q1]=>?_);show zx (hr pos EN s1 B H1 _ I1 q1) λ us s2 #[xs,H2,I2,r2,q2]=>#[x::xs,H2,I2,.cons r1 r2,q2]
def YA (t:TA):TE:=fun B H Q=>t B H λ xs H1=>xs.length<=sizeLine/\∀ p,H1 p=none->Q (.ref p) (upd H1 p (.tup xs))
def YK (t:TA):TE:=fun B H Q=>t B H λ xs H1=>xs.length<=sizeLine/\∀ p,H1 p=none->Q (.ref p) (upd H1 p (.lst xs))
def Ws {x1} (h:PA X es t):PE X (.Tuple es x1 pos) (YA t):=by
 intro EN s B H Q I hq;exact wpAny_Tuple_spliced (zx (h pos EN s B H _ I hq) λ us s1 #[xs,H1,I1,r,z,q]=>#[by rw[<- r.length];show z,?_]);have hf:H1 s1.heap.objs.size=none:=I1.zu.fresh (Aj _);exact#[.ref s1.heap.objs.size,upd H1 s1.heap.objs.size (.tup xs),I1.laid (t':=s1.toks) (λ b u e=>JD _ e) (Aj _) ?_,rfl,q _ hf];show#[#[z,.new _],us,r,#[_,AJ _ rfl,rfl,_,rfl]]
def W2 (h:PA X es t):PE X (.List es pos) (YK t):=by
 intro EN s B H Q I hq;exact wpAny_List_spliced (zx (h pos EN s B H _ I hq) λ us s1 #[xs,H1,I1,r,z,q]=>#[by rw[<- r.length];show z,?_]);have hf:H1 s1.heap.objs.size=none:=I1.zu.fresh (Aj _);exact#[.ref s1.heap.objs.size,upd H1 s1.heap.objs.size (.lst xs),I1.laid (t':=s1.toks) (λ b u e=>JD _ e) (Aj _) ?_,rfl,q _ hf];show#[z,us,0,r,AJ _ rfl]
end
abbrev Sp:=List V->Hp->VK->XK->Prop
abbrev u6:=List Env->Hp->Shared->XK->Value->Shared->Prop
structure kd (P:Program) (w:World) (K:Ac) (mg:AI) (base:Heap) (A:Around) (outer:List Env) (s:Shared) (H:Hp):Prop where
 frames:A.frames=↑outer
 mod:Mod K mg base
 bs:∀ b o,base.get? b=↑o->s.heap.get? b=↑o/\H b=none
 rM:base.objs.size<=s.heap.objs.size
 uv:s.heap.FunFrames base outer
 qM:∀ b∈v8 outer,H b=none
 zu:yM P w H s.heap
 bare:AllBare s.gens
def CE (outer:List Env) (P:Program) (w:World) (H:Hp) (s:Shared) (Q:VK) (u:Value) (s':Shared):Prop:=
 ∃ v H',s'.os=s.os/\AllBare s'.gens/\Un (v8 outer) [] H H' s.heap s'.heap/\yM P w H' s'.heap/\RelV v u/\Q v H'
def CR (CX:u6) (outer:List Env) (P:Program) (w:World) (H:Hp) (s:Shared) (Q:VK) (E:XK) (r:Result) (s':Shared):Prop:=
 match r with
 | .ok (.ret u)=>CE outer P w H s Q u s'
 | .ok _=>False
 | .error e=>CX outer H s E e s'
structure vH (P:Program) (w:World) (K:Ac) (mg:AI) (base:Heap) (CX:u6) (k:Nat) (f:Addr) (fd:FuncData) (ps:List Str) (sp:Sp):Prop where
 len:∀ vs H Q E,sp vs H Q E->vs.length=ps.length
 run:∀ (A:Around) (outer:List Env) (s:Shared) (H:Hp) (args:Args) (us:Ae) (vs:List V) (Q:VK) (E:XK),z_ k A->kd P w K mg base A outer s H->BindsTo s fd args (ps.zip us)->Vals vs us->sp vs H Q E->
  codeAny (model P w) A (.call (.ref f) args) (CR CX outer P w H s Q E) s
section
variable {X:Cx}{EN:Ai}{B:St}{H:Hp}{s s':Shared}
def Inv.PH (I:Inv X EN B H s):kd X.prog X.w X.K X.mg X.base X.A X.stack s H:=
 #[I.ok.frames,I.ok.mod,I.bs,Be I.ok.rM I.sz,I.stack,I.gQ,I.zu,I.bare]
theorem Inv.after {Q:VK}{u:Value}(I:Inv X EN B H s) (h:CE X.stack X.prog X.w H s Q u s'):EP X EN B Q u s':=by
 let#[v,H',os,bare,un,zu,r,q]:=h;let#[hh,g,d,t,HF]:=s';obtain rfl:HF=s.os:=os;show#[v,H',I.call (h':=hh) (g':=g) (d':=d) (t':=t) (ch:=[]) un zu bare (λ b z=>absurd z #[]),r,q]
end
def gO (sp:Sp) (G_:List V) (E:XK) (t:TA):TE:=fun B H Q=>t B H λ vs H1=>sp (vs++G_) H1 Q E
def Binds (K:Ac) (fd:FuncData) (ps:List Str) (ds:Ae):Prop:=
 ∀ (s:Shared) (us:Ae),K.In s.heap->(us++ds).length=ps.length->BindsTo s fd #[us,[]] (ps.zip (us++ds))
def Binds.all {K:Ac}{fd:FuncData}{ps:List Str}(h:∀ us:List Value,us.length=ps.length->bindArgs fd #[us,[]]=pure (ps.zip us)):Binds K fd ps []:=λ s us _ hl=>by
 rw[BE] at hl ⊢;show .of_eq (h us hl)
def Passes (CX:u6) (X:Cx) (E:XK):Prop:=∀ (EN:Ai) (B:St) (H:Hp) (s:Shared) (e:Value) (s':Shared),Inv X EN B H s->CX X.stack H s E e s'->X.xe e s'
section
variable {X:Cx}{CX:u6}{k:Nat}{f:Addr}{fd:FuncData}{ps:List Str}{sp:Sp}{G_:List V}{ds:Ae}{E:XK}{x:Str}{p pos:Pos}{e:Expr}{es:List Expr}{t:TA}
def Xo {EN:Ai}{B:St}{H:Hp}{s:Shared}{Q:VK}{us:Ae}{vs:List V}(F:vH X.prog X.w X.K X.mg X.base CX k f fd ps sp) (hr:z_ k X.A) (hb:Binds X.K fd ps ds) (hd:Vals G_ ds) (hx:Passes CX X E)
  (I:Inv X EN B H s) (r:Vals vs us) (h:sp (vs++G_) H Q E):wpAny (model X.prog X.w) X.A (call (.ref f) us) (EP X EN B Q) X.xe s:=by
 have r2:Vals (vs++G_) (us++ds):=r.append hd;have hl:(us++ds).length=ps.length:=by rw[<- r2.length];show F.len _ _ _ _ h
 exact wpAny_call (codeAny_mono (F.run X.A X.stack s H #[us,[]] (us++ds) (vs++G_) Q E hr I.PH (hb s us I.vz hl) r2 h) λ r s' hq=>?_);cases r with
 | error e=>show hx EN B H s e s' I hq
 | ok fl=>
  cases fl with
  | ret u=>show I.after hq
  | _=>show False.elim hq
def WD (F:vH X.prog X.w X.K X.mg X.base CX k f fd ps sp) (hr:z_ k X.A) (hg:Gl X x) (hm:X.mg x=↑(.ref f)) (hk:PySem.W.keepIn X.K (.ref f)=true) (hb:Binds X.K fd ps ds) (hd:Vals G_ ds) (hx:Passes CX X E)
  (ha:PA X (e::es) t) (BL:(x == ("__debug__":Str))=false:=by decide) (he:AG X e es:=by rfl) (Ar:AN X pos es:=by rfl):
  PE X (.Call (.Name x p) (e::es) [] pos) (gO sp G_ E t):=by
 intro EN s B H Q I h;exact wpAny_Call_Name_kw (dE I hg hm ?_ BL);exact PySem.W.callWith_K (h₀:=X.base) I.ok.mod.j4 hk (zx (ha pos EN s B H _ I h) λ us s1 #[vs,H1,I1,r,q]=>#[I1.vz,?_]) he Ar;show Xo F hr hb hd hx I1 r q
end
structure uU (N P:List Str) (sc:Scope):Prop where
 kind:sc.kind=.function
 co:sc.isCoroutine=false
 gen:sc.isGenerator=false
 nd:N.Nodup
 pre:N.take P.length=P
 par:∀ x∈P,sc.names.lookup x=↑.local\/sc.names.lookup x=↑.cell
 Rp:∀ y∈sc.names,y.2≠.free
theorem ak {kindOf:Str->Option NameKind}{x:Str}:∀ {binds:List (Str×Value)}{m:AI},(∀ v,(x,v)∉binds)->bindL kindOf binds m x=m x
 | [],_,_=>rfl
 | (n,v)::r,m,h=>by
  unfold bindL;rw[ak λ w hw=>h w (Aw _ hw)];split
  .have:x≠n:=by rintro rfl;show h v Ap
   simp[this]
  .rfl
theorem aq {kindOf:Str->Option NameKind}{x:Str}:∀ {binds:List (Str×Value)}{m:AI},(∀ v,(x,v)∉binds)->bindC kindOf binds m x=m x
 | [],_,_=>rfl
 | (n,v)::r,m,h=>by
  unfold bindC;rw[aq λ w hw=>h w (Aw _ hw)];split
  .rfl
  .have:x≠n:=by rintro rfl;show h v Ap
   simp[this]
theorem ao {kindOf:Str->Option NameKind}{x:Str}{v:Value}:∀ {P:List Str}{vs:Ae}{i:Nat}{m:AI},P.Nodup->P[i]?=↑x->vs[i]?=↑v->kindOf x=↑.local->
  bindL kindOf (P.zip vs) m x=↑v
 | [],_,_,_,_,h,_,_=>by simp at h
 | _::_,[],_,_,_,_,h,_=>by simp at h
 | p::P,w::vs,0,m,nd,h1,h2,hk=>by
  simp at h1 h2;subst h1;subst h2;change bindL kindOf ((p,w)::P.zip vs) m p=_;unfold bindL;rw[ak λ v hv=>(Bn.mp nd).1 (DP hv).1,if_pos hk];simp
 | p::P,w::vs,i+1,m,nd,h1,h2,hk=>by
  change bindL kindOf ((p,w)::P.zip vs) m x=_;unfold bindL;show ao (i:=i) (Bn.mp nd).2 (by exists h1) (by exists h2) hk
theorem ar {kindOf:Str->Option NameKind}{x:Str}{v:Value}:∀ {P:List Str}{vs:Ae}{i:Nat}{m:AI},P.Nodup->P[i]?=↑x->vs[i]?=↑v->kindOf x≠↑.local->
  bindC kindOf (P.zip vs) m x=↑v
 | [],_,_,_,_,h,_,_=>by simp at h
 | _::_,[],_,_,_,_,h,_=>by simp at h
 | p::P,w::vs,0,m,nd,h1,h2,hk=>by
  simp at h1 h2;subst h1;subst h2;change bindC kindOf ((p,w)::P.zip vs) m p=_;unfold bindC;rw[aq λ v hv=>(Bn.mp nd).1 (DP hv).1,if_neg hk];simp
 | p::P,w::vs,i+1,m,nd,h1,h2,hk=>by
  change bindC kindOf ((p,w)::P.zip vs) m x=_;unfold bindC;show ar (i:=i) (Bn.mp nd).2 (by exists h1) (by exists h2) hk
def start (N:List Str) (vs:List V):St:=vs.map some++List.replicate (N.length-vs.length) none
def w6 (CX:u6) (P:Program) (w:World) (K:Ac) (mg:AI) (base:Heap) (N:List Str) (qual:Str) (scope:Scope) (f:Addr) (cd:Value) (A:Around) (outer:List Env) (s:Shared) (H:Hp) (E:XK):Cx where
 prog:=P
 w:=w
 K:=K
 mg:=mg
 base:=base
 A:=A.deeper (envOfC qual scope s.heap.objs.size f cd)
 N:=N
 s₀:=s
 H₀:=H
 env:=envOfC qual scope s.heap.objs.size f cd
 outer:=outer
 stack:=envOfC qual scope s.heap.objs.size f cd::outer
 ex:=[]
 calm:=true
 fn:=λ _=>true
 pn:=[]
 xe:=λ e s'=>wpAny (model P w) (A.deeper (envOfC qual scope s.heap.objs.size f cd)) (leaving (envOfC qual scope s.heap.objs.size f cd) e) (λ _ GW=>CX outer H s E e GW) (λ e' GW=>CX outer H s E e' GW) s'
def bW {sc:Scope}{n:Nat}{x:Str}(h:sc.names.lookup x=↑.cell):∃ c,(cellsFrom n sc.names []).lookup x=↑c:=by
 have q:=PySem.W.cellsFrom_some sc.names n [] (.inl h);show DN.mp q
def Q0 {CX:u6}{P:Program}{w:World}{K:Ac}{mg:AI}{base:Heap}{N ps:List Str}{qual:Str}{scope:Scope}{f:Addr}{cd:Value}{A:Around}{outer:List Env}{s s1:Shared}{H:Hp}{E:XK}{us:Ae}{vs:List V}
  (S:uU N ps scope) (hd:A.handled=none) (e0:kd P w K mg base A outer s H) (hl:vs.length=ps.length) (r:Vals vs us)
  (x:InCallC s s.heap.objs.size (bindL (envOfC qual scope s.heap.objs.size f cd).kindOf (ps.zip us) λ _=>none) (cellsFrom (s.heap.objs.size+1) scope.names []) (bindC (envOfC qual scope s.heap.objs.size f cd).kindOf (ps.zip us) λ _=>none) s1):
  Inv (w6 CX P w K mg base N qual scope f cd A outer s H E) [] (start N vs) H s1:=by
 have Ar:ps.length<=N.length:=by have:=congrArg List.length S.pre;rw[D7] at this;lia
 let#[h1,tk,rfl,hk]:=x.done;have HI:∀ b:Addr,b∉(w6 CX P w K mg base N qual scope f cd A outer s H E).ex:=λ b z=>absurd (show b∈([]:List Addr) from z) #[];exact#[#[e0.mod,S.kind,rfl,rfl,Aj _,λ y z c h1 h2=>?_,λ y hy=>?_,λ y c _ h=>?_,λ _=>hd,Around.frames_deeper e0.frames,.inr #[rfl,rfl],λ b z=>absurd z (HI b),e0.bs,e0.rM,λ b _ _=>HI b,λ b z=>absurd z (HI b),e0.uv,e0.qM],
  rfl,e0.bare,Un.kept hk,#[_,x.toInCall.ns,λ i y v h1 h2 h3=>?_],λ y c h=>#[_,x.cell y c h],e0.zu.fresh (Aj _),λ y c h=>?_,λ p hp=>absurd (show p∈([]:Ai) from hp) #[],e0.zu.kept hk,?_]
 .show name_of_addr x.apart (PySem.mem_of_lookup h1) (PySem.mem_of_lookup h2)
 .have hy:scope.names.lookup y=↑.cell\/scope.names.lookup y=↑.free:=hy;rcases hy with hy | hy
  .show bW hy
  .show absurd rfl (S.Rp _ (PySem.mem_of_lookup hy))
 .show Bo (x.above y c (PySem.mem_of_lookup h))
 .have hi:i<vs.length:=by
   unfold start at h2;by_cases hi:i<vs.length
   .show hi
   .rw[C8 (by exists hi)] at h2;rw[CL] at h2;split at h2 <;> cases h2
  have ha:vs[i]?=↑v:=by
   unfold start at h2;rw[Co (by exists hi),AH] at h2;cases e:vs[i]? with
   | none=>rw[e] at h2;cases h2
   | some a=>rw[e] at h2;cases h2;rfl
  let#[u,hu,rv]:=r.get ha;have hp:ps[i]?=↑y:=by
   rw[<- S.pre,List.getElem?_take_of_lt ⋯];show h1
  have ndP:ps.Nodup:=by rw[<- S.pre];show S.nd.sublist (List.take_sublist _ _)
  exact#[u,rv,?_];rcases S.par y (BG hp) with k | k
  .show .inl #[k,ao ndP hp hu k]
  .let#[c,e]:=bW (n:=s.heap.objs.size+1) k;exact .inr #[.inl k,c,e,?_];have q:=x.cell y c e;rw[ar ndP hp hu (by change scope.names.lookup y≠_;rw[k];decide)] at q;show q
 .show e0.zu.fresh (Bo (x.above y c (PySem.mem_of_lookup h)))
 .unfold start;change _=N.length;rw[Bp,AA,List.length_replicate];lia
def Ph {CX:u6}{P:Program}{w:World}{K:Ac}{mg:AI}{base:Heap}{k:Nat}{f:Addr}{name qual:Str}{params:Arguments}{body:List Stmt}{scope:Scope}{dV kV doc pm Al ct oc:Value}{an od:Option Addr}
  {G2:Array (Option Value)}{N ps:List Str}{sp:Sp}(lk:K.lookup f=↑#[oc,od,.func (PySem.W.fnOf name qual params body scope dV kV doc pm an Al ct),G2]) (BD:PySem.W.codeIn K Al qual=true) (S:uU N ps scope)
  (len:∀ vs H Q E,sp vs H Q E->vs.length=ps.length)
  (E9:∀ (A:Around) (outer:List Env) (s:Shared) (H:Hp) (vs:List V) (Q:VK) (E:XK),z_ k (A.deeper (envOfC qual scope s.heap.objs.size f Al))->sp vs H Q E->
   ∃ t,xM (w6 CX P w K mg base N qual scope f Al A outer s H E) body t/\t { nx:=λ _ H'=>Q .zp H',rt:=Q } (start N vs) H):
  vH P w K mg base CX (k+1) f (PySem.W.fnOf name qual params body scope dV kV doc pm an Al ct) ps sp:=by
 exact#[len,λ A outer s H args us vs Q E hr e0 hb r A8=>?_];have hl:=len _ _ _ _ A8;have KX:K.In s.heap:=e0.mod.j4.keeps λ b o e=>(e0.bs b o e).1;have lim:s.heap.NoLimit:=e0.mod.nolimit.keeps λ b o e=>(e0.bs b o e).1;have HV:∀ y∈ps.zip us,scope.names.lookup y.1=↑.local\/(scope.names.lookup y.1=↑.cell/\((cellsFrom (s.heap.objs.size+1) scope.names []).lookup y.1).isSome=true):=λ#[n,v] hy=>by
  rcases S.par n (DP hy).1 with q | q
  .show .inl q
  .show .inr #[q,PySem.W.cellsFrom_some _ _ _ (.inl q)]
 exact codeAny_call_function hr.depth (KX _ _ lk) rfl S.co S.gen rfl (PySem.W.codeRec_of KX BD) (hb _ _ _ _ ?_);exact wpAny_newFunctionEnv_cells S.kind HV λ env he s1 x=>?_;subst he;exact#[lim.keeps x.toInCall.keep,codeAny_func ?_];let#[t,ht,hq]:=E9 A outer s H vs Q E (hr.deeper _) A8;have I:Inv (w6 CX P w K mg base N qual scope f Al A outer s H E) [] (start N vs) H s1:=Q0 S hr.hd e0 hl r x;exact JG (ht [] s1 (start N vs) H _ I hq) (λ fl s' hs=>?_) λ e s' hs=>hs;have fin:∀ {B':St}{H':Hp}{v:V}{u:Value},Inv (w6 CX P w K mg base N qual scope f Al A outer s H E) [] B' H' s'->RelV v u->Q v H'->CE outer P w H s Q u s':=
  λ{B' H' v u} J rv q=>#[v,H',J.os,J.bare,J.base,J.zu,rv,q]
 cases fl with
 | ret u=>
  let#[v,B',H',J,rv,q]:=hs;show fin J rv q
 | next=>
  let#[B',H',J,q]:=hs;show fin (v:=V.zp) (u:=Value.none) J rfl q
 | brk=>
  let#[_,_,_,q]:=hs;show False.elim q
 | cont=>
  let#[_,_,_,q]:=hs;show False.elim q
section
variable {X:Cx}{x:Str}{p pos:Pos}{e:Expr}{es:List Expr}{t:TA}{id T:String}{r:List V->Hp->VK->Prop}
def nG (r:List V->Hp->VK->Prop) (t:TA):TE:=fun B H Q=>t B H λ vs H1=>r vs H1 Q
def ui (hc:y9 X (.builtin id) r) (hg:Gl X x) (hm:X.mg x=none) (hv:bootBuiltins x=↑(.builtin id)) (ha:PA X (e::es) t) (hn:x≠"__name__":=by decide) (BL:(x == ("__debug__":Str))=false:=by decide)
  (he:AG X e es:=by rfl) (Ar:AN X pos es:=by rfl):PE X (.Call (.Name x p) (e::es) [] pos) (nG r t):=by
 intro EN s B H Q I h;exact wpAny_Call_Name_kw (qA I hg hm hv ?_ hn BL);show PyProof.Rows.callWith_builtin1 (zx (ha pos EN s B H _ I h) λ us s1 #[vs,H1,I1,r1,q1]=>hc EN s1 B H1 vs us Q I1 r1 q1) he Ar
def qt (hc:y9 X (.type T) r) (hg:Gl X x) (hm:X.mg x=none) (hv:bootBuiltins x=↑(.type T)) (ha:PA X (e::es) t) (hn:x≠"__name__":=by decide) (BL:(x == ("__debug__":Str))=false:=by decide)
  (he:AG X e es:=by rfl) (Ar:AN X pos es:=by rfl):PE X (.Call (.Name x p) (e::es) [] pos) (nG r t):=by
 intro EN s B H Q I h;exact wpAny_Call_Name_kw (qA I hg hm hv ?_ hn BL);show PyProof.Rows.callWith_type1 (zx (ha pos EN s B H _ I h) λ us s1 #[vs,H1,I1,r1,q1]=>hc EN s1 B H1 vs us Q I1 r1 q1) he Ar
end
end L2
namespace HT
open PySem PyProof.Rows
def lexLt:List Int->List Int->Bool
 | [],[]=>false
 | [],_::_=>true
 | _::_,[]=>false
 | x::xs,y::ys=>if x=y then lexLt xs ys else decide (x<y)
def sg (x y:Int) (xs ys:List Int):lexLt (x::xs) (y::ys)=if x=y then lexLt xs ys else decide (x<y):=rfl
def RP:lexLt [] []=false:=rfl
def RQ (y:Int) (ys:List Int):lexLt [] (y::ys)=true:=rfl
def RS (x:Int) (xs:List Int):lexLt (x::xs) []=false:=rfl
def PC (A:Around) (s:Shared) (a:Int) (t:Tok) (c:Int) (u:Tok):∃ e,SeqAt.EqAt A s (.int a t) (.int c u) e/\(e=true↔a=c):=
 #[(a == c),SeqAt.EqAt.int_int a t c u,#[]]
def Xx (A:Around) (s:Shared) (a:Int) (t:Tok) (c:Int) (u:Tok) (prog:Program) (w:World) (E:Af) (Q:Af) (h:Q (.bool (decide (a<c))) s):
  wpAny (model prog w) A (richCompare .Lt (.int a t) (.int c u)) Q E s:=
 (PyProof.Rows.lt_int h:wpAny (model prog w) A (compareOp .Lt (.int a t) (.int c u)) Q E s)
section
open PySem.SeqAt
open PySem.AutoSeq1 (wpAny_loadPart')
open PySem.MeetsSeq PySem.MeetsSeq2 PySem.MeetsSeq3
def Y0 (l b:Addr) (items Fc:Ax) (n n2:Nat) (dd GV:Option Addr) (sl GS:Array (Option Value)) (ns ms:List Int) (hi:IntsAre items.toList ns) (hj:IntsAre Fc.toList ms):
  Meets (Builtin.«tuple.__lt__» #[[.ref l,.ref b],[]])
   (λ _ R s=>s.heap.get? l=↑{ cls:=.type "tuple",dict:=dd,data:=.seq items n,slots:=sl }/\s.heap.get? b=↑{ cls:=.type "tuple",dict:=GV,data:=.seq Fc n2,slots:=GS }/\
    R (.ok (.ret (.bool (lexLt ns ms)))) s):=
 .of_wp λ prog w A R s h=>by
  let#[hp,g,d,tk,os]:=s;let#[hl,hb,h]:=h
  have f2:=AutoSeq1.sub_tuple_tuple;have z1:items.size=ns.length:=by rw[<- hi.length];simp
  have z2:Fc.size=ms.length:=by rw[<- hj.length];simp
  wp_walk using wpAny_loadPart' hl,wpAny_loadPart' hb,JQ _ (λ EU b s'=>b.1=none/\s'=#[hp,g,d,tk,os]/\∃ (vs ws:Ae) (F0 F4:List Int),EU=vs.zip ws/\
   IntsAre vs F0/\IntsAre ws F4/\F0.length+Fc.size=F4.length+items.size/\R (.ok (.ret (.bool (lexLt F0 F4)))) #[hp,g,d,tk,os]) _
  case turn=>
   rintro⟨y,x⟩ EU b s' ⟨Hi,rfl,vs,ws,F0,F4,hz,Ef,CN,hlen,hR⟩;cases Ef with
   | nil=>rw[List.zip_nil_left] at hz;cases hz
   | cons a t Ee=>
    cases CN with
    | nil=>rw[List.zip_nil_right] at hz;cases hz
    | cons c u Eb=>
     rw[D6] at hz
     injection hz with hyx HN
     injection hyx with hy hx
     subst hy hx;rw[sg] at hR;simp![A5] at hlen;let#[e,he,Dk]:=PC A.in1 #[hp,g,d,tk,os] a t c u;exact IE (he prog w _ _ ?_);cases e with
     | true=>
      rw[if_pos (Dk.mp rfl)] at hR
      wp_walk
      show#[rfl,rfl,_,_,_,_,HN,Ee,Eb,⋯,hR]
     | false=>
      rw[if_neg (λ q=>absurd (Dk.mpr q) BI)] at hR;have hri:=Xx A.in1 #[hp,g,d,tk,os] a t c u prog w
      wp_walk using hri
      show#[_,rfl,by exists hR]
  case fin=>
   rintro⟨b1,b2⟩ s' ⟨Hi,rfl,vs,ws,F0,F4,hz,Ef,CN,hlen,hR⟩;simp only at Hi;subst Hi;have hv:lexLt F0 F4=decide (items.size<Fc.size):=by
    cases Ef with
    | nil=>
     cases CN with
     | nil=>
      simp![C7] at hlen;rw[RP];show (JE ⋯).symm
     | cons c u hw=>
      simp![C7,A5] at hlen;rw[RQ];show (JF ⋯).symm
    | cons a t hv=>
     cases CN with
     | nil=>
      simp![C7,A5] at hlen;rw[RS];show (JE ⋯).symm
     | cons c u hw=>
      rw[D6] at hz;cases hz
   rw[hv] at hR
   wp_walk
   show#[_,rfl,by simpa [Builtin.Tuple.tupleCompareSizes] using hR]
  case h=>
   show#[rfl,rfl,items.toList,Fc.toList,ns,ms,rfl,hi,hj,⋯,h]
end
section
variable {prog:Program}{w:World}{A:Around}{E:Af}{s:Shared}
def RG {l b:Addr}{items Fc:Ax}{ns ms:List Int}{Q:Af}(hl:IsTup s.heap l items) (hb:IsTup s.heap b Fc) (hi:IntsAre items.toList ns) (hj:IntsAre Fc.toList ms)
  (hu:A.units<cLine) (h:Q (.bool (lexLt ns ms)) s):wpAny (model prog w) A (compareOp .Lt (.ref l) (.ref b)) Q E s:=by
 let#[#[cls,dd,data,sl],ho,hc,n,hd]:=id hl;let#[#[Hl,GV,data2,GS],GA,F_,n2,hd2]:=id hb;simp only at hc hd F_ hd2;subst hc hd F_ hd2;show richCompare_meets_room (op:=.Lt) #[_,ho,rfl] #[_,GA,rfl] PySem.F.slot_tuple_lt PySem.F.entry_tuple_lt (PySem.F.args_tuple_lt_2 _ _) (Y0 l b items Fc n n2 dd GV sl GS ns ms hi hj)
  #[ho,GA,show Value.bool (lexLt ns ms)≠Value.notImplemented/\Q (.bool (lexLt ns ms)) s from #[(λ x=>nomatch x),h]] hu
def OB {t b:Addr}{vs ws:Ae}{Q:Af}(ht:IsTup s.heap t vs.toArray) (hb:IsTup s.heap b ws.toArray) (hv:vs≠[])
  (h1:ws=[]->Q (.ref t) s) (h2:ws≠[]->Q (.ref s.heap.objs.size) { s with heap:=s.heap.push { cls:=.type "tuple",data:=.seq (vs++ws).toArray } })
  (hsz:vs.length+ws.length<=sizeLine):wpAny (model prog w) A (binaryOp .Add (.ref t) (.ref b)) Q E s:=by
 let#[#[cls,dd,data,sl],ho,hc,n,hd]:=id ht;let#[#[Hl,GV,data2,GS],GA,F_,n2,hd2]:=id hb;simp only at hc hd F_ hd2;subst hc hd F_ hd2;have e:vs.toArray++ws.toArray=(vs++ws).toArray:=#[];by_cases hw:ws=[]
 .show concat_meets #[_,ho,rfl] #[_,GA,rfl] noFill_tuple_add seq_tuple_add PySem.F.slot_tuple_add PySem.F.entry_tuple_add (PySem.F.args_tuple_add_2 _ _)
   (tuple_addW1 t b vs.toArray ws.toArray n n2 dd GV sl GS (by exists hv) (by simp[hw])) #[ho,GA,h1 hw]
 .exact concat_meets #[_,ho,rfl] #[_,GA,rfl] noFill_tuple_add seq_tuple_add PySem.F.slot_tuple_add PySem.F.entry_tuple_add (PySem.F.args_tuple_add_2 _ _)
   (tuple_addW2 t b vs.toArray ws.toArray n n2 dd GV sl GS (by exists hv) (by exists hw) (by rw[AB,AB];show hsz)) #[ho,GA,?_]
  rw[e];show h2 hw
end
end HT
namespace L2
open PySem PySem.Spec PyProof.Rows
def intsAre_of {ns:List Int}:∀ {us:Ae},Vals (ns.map V.int) us->IntsAre us ns:=by
 induction ns with
 | nil=>intro us r;rw[Ba] at r;cases r;show .nil
 | cons n ns ih=>
  intro us r;rw[Av] at r;cases r with
  | cons r1 r2=>
   let#[t,e]:=r1;subst e;show .cons n t (ih r2)
section
variable {X:Cx}{p2:Pos}
def kO (K:Ac):R2:=λ x y H Q=>∃ a b ns ms,x=.ref a/\y=.ref b/\zN K H a (ns.map V.int)/\zN K H b (ms.map V.int)/\Q (.bl (HT.lexLt ns ms)) H
def U8 (hu:X.A.units<cLine):ya X (compareOp .Lt) (kO X.K):=by
 intro EN s B H x y v u Q I rx ry h;let#[a,b,ns,ms,rfl,rfl,ha,hb,q]:=h;cases rx;cases ry;let#[Aa,r1,p1,_]:=I.tuple ha;let#[Fm,r2,p2,_]:=I.tuple hb;have i1:IntsAre Aa.toArray.toList ns:=intsAre_of r1;have i2:IntsAre Fm.toArray.toList ms:=intsAre_of r2;show HT.RG p1 p2 i1 i2 hu #[.bl (HT.lexLt ns ms),H,I,rfl,q]
def fJ (K:Ac):R2:=λ x y H Q=>∃ a b xs ys,x=.ref a/\y=.ref b/\zN K H a xs/\zN K H b ys/\xs≠[]/\xs.length+ys.length<=sizeLine/\
 (ys=[]->Q (.ref a) H)/\(ys≠[]->∀ p,H p=none->Q (.ref p) (upd H p (.tup (xs++ys))))
def Vals.pO {xs:List V}{us:Ae}(r:Vals xs us):us=[]↔xs=[]:=by
 cases r with
 | _=>simp
theorem UE:ya X (binaryOp .Add) (fJ X.K):=by
 intro EN s B H x y v u Q I rx ry h;let#[a,b,xs,ys,rfl,rfl,ha,hb,hx,hz,q1,q2]:=h;cases rx;cases ry;let#[Aa,r1,p1,_]:=I.tuple ha;let#[Fm,r2,p2,_]:=I.tuple hb;exact HT.OB p1 p2 (λ z=>hx (r1.pO.mp z)) (λ z=>#[.ref a,H,I,rfl,q1 (r2.pO.mp z)]) (λ z=>?_) (by rw[<- r1.length,<- r2.length];show hz);exact#[.ref s.heap.objs.size,_,I.laid (t':=s.toks) (o:=.tup (xs++ys)) (λ b ob q=>JD _ q) (Aj _) ?_,rfl,q2 (λ w=>z (r2.pO.mpr w)) _ (I.zu.fresh (Aj _))];show#[#[by rw[Bp];show hz,.new _],_,r1.append r2,IsTup.new _ _]
end
def xZ (n:Nat) (i:Int):Option Nat:=if 0<=i then (if i<n then ↑i.toNat else none) else if -(n:Int)<=i then ↑(i+n).toNat else none
def zT {α:Type}(xs:List α) (i:Int):Option α:=(xZ xs.length i).bind λ j=>xs[j]?
theorem dP {n:Nat}{i:Int}{j:Nat}(h:xZ n i=↑j):seqIndex? i n=↑j/\j<n/\-(n:Int)<=i/\i<n:=by
 unfold xZ at h;by_cases h0:0<=i
 .rw[if_pos h0] at h;by_cases h1:i<n
  .rw[if_pos h1] at h;have e:i.toNat=j:=A1 h;show#[by rw[seqIndex_of h0 h1,e],⋯,⋯,h1]
  .rw[if_neg h1] at h;cases h
 .rw[if_neg h0] at h;by_cases h1:-(n:Int)<=i
  .rw[if_pos h1] at h;have e:(i+n).toNat=j:=A1 h;show#[by rw[seqIndex_neg ⋯ h1,e],⋯,h1,⋯]
  .rw[if_neg h1] at h;cases h
def iH {α:Type}{xs:List α}{i:Int}{v:α}(h:zT xs i=↑v):∃ j,seqIndex? i xs.length=↑j/\xs[j]?=↑v/\j<xs.length/\-(xs.length:Int)<=i/\i<xs.length:=by
 unfold zT at h;cases e:xZ xs.length i with
 | none=>rw[e] at h;cases h
 | some j=>
  rw[e] at h;let#[h1,h2,h3,h4]:=dP e;show#[j,h1,h,h2,h3,h4]
theorem lC {α:Type}(xs:List α) (v:α):zT (xs++[v]) (-1)=↑v:=by
 have hl:(xs++[v]).length=xs.length+1:=#[];have e:xZ (xs++[v]).length (-1)=↑xs.length:=by
  unfold xZ;rw[hl,if_neg (),if_pos ⋯];congr 1;lia
 unfold zT;rw[e];change (xs++[v])[xs.length]?=↑v;simp
def aG (b:Expr):Prop:=∀ o i,subscripted b false o i=operate [o,i] (getItem o i)
def tL (X:Cx) (r:R2):Prop:=
 ∀ (value slice:Expr) (EN:Ai) (s:Shared) (B:St) (H:Hp) (x y:V) (v u:Value) (Q:VK),Inv X EN B H s->RelV x v->RelV y u->r x y H Q->
  subscripted slice false v u=operate [v,u] (getItem v u)->wpAny (model X.prog X.w) X.A (subscriptTail value slice v u) (EP X EN B Q) X.xe s
def NB (X:Cx) (id:String) (r:V->List V->Hp->VK->Prop):Prop:=
 ∀ (EN:Ai) (s:Shared) (B:St) (H:Hp) (x:V) (xs:List V) (v:Value) (us:Ae) (Q:VK),Inv X EN B H s->RelV x v->Vals xs us->r x xs H Q->
  wpAny (model X.prog X.w) X.A (call (.builtin id) (v::us)) (EP X EN B Q) X.xe s
section
variable {X:Cx}{a b:Expr}{ta tb:TE}{pos:Pos}
def tL.or {r r':R2}(h:tL X r) (h':tL X r'):tL X (λ x y H Q=>r x y H Q\/r' x y H Q):=by
 intro value slice EN s B H x y v u Q I rx ry q hs;rcases q with q | q
 .show h value slice EN s B H x y v u Q I rx ry q hs
 .show h' value slice EN s B H x y v u Q I rx ry q hs
def W4 {r:R2}(hr:tL X r) (ha:PE X a ta) (hb:PE X b tb) (hs:aG b):PE X (.Subscript a b pos) (pz r ta tb):=by
 intro EN s B H Q I h;show Subscript_ (i8 ha hb I h λ v u s2 x y H2 I2 rx ry q=>hr a b EN s2 B H2 x y v u Q I2 rx ry q (hs _ _))
def fD (K:Ac):R2:=λ x y H Q=>∃ p xs i v,x=.ref p/\y=.int i/\zC K H p xs/\zT xs i=↑v/\Q v H
def fB (K:Ac):R2:=λ x y H Q=>∃ p xs i v,x=.ref p/\y=.int i/\zN K H p xs/\zT xs i=↑v/\Q v H
def fC:R2:=λ x y H Q=>∃ z i c,x=.str z/\y=.int i/\z.length<=sizeLine/\zT z.cps.toList i=↑c/\Q (.str #[[c].toArray]) H
theorem Qs:tL X (fD X.K):=by
 intro value slice EN s B H x y v u Q I rx ry h hs;let#[p,xs,i,z,rfl,rfl,hq,he,q]:=h;cases rx;let#[t,rfl]:=ry;let#[Aa,r,pl,hz]:=I.list hq;let#[j,h1,h2,h3,h4,h5]:=iH he;let#[w,ew,GH]:=r.get h2;have hl:=r.length;have hn:=rm;have fin:EP X EN B Q w s:=#[z,H,I,GH,q];by_cases h0:0<=i
 .have hj:i.toNat=j:=by
   rw[seqIndex_of h0 h5] at h1;show A1 h1
  show item_listR pl.isList h0 ⋯ (by rw[hj];exists ew) fin hs
 .have hj:(i+(Aa.toArray.size:Int)).toNat=j:=by
   rw[seqIndex_neg ⋯ h4] at h1;rw[AB,<- hl];show A1 h1
  show subscriptTail_builtinR (x:=w) pl.isList.typeIs slot_list_getitem.lookup
   (wpAny_getItem_list_neg (Q:=λ r s'=>r=w/\EP X EN B Q r s') pl.isList ⋯ (by rw[AB] <;> lia) ⋯ (by rw[hj];exists ew) #[rfl,fin]) hs
theorem Qp:tL X (fB X.K):=by
 intro value slice EN s B H x y v u Q I rx ry h hs;let#[p,xs,i,z,rfl,rfl,hq,he,q]:=h;cases rx;let#[t,rfl]:=ry;let#[Aa,r,pl,hz]:=I.tuple hq;let#[j,h1,h2,h3,h4,h5]:=iH he;let#[w,ew,GH]:=r.get h2;have hl:=r.length;have hn:=rm;have fin:EP X EN B Q w s:=#[z,H,I,GH,q];show subscriptTail_builtinR (x:=w) pl.typeIs slot_tuple_getitem.lookup
  (getItem_tuple (j:=j) (Q:=λ r s'=>r=w/\EP X EN B Q r s') pl ⋯ ⋯ (by rw[AB,<- hl];show h1) (by exists ew) #[rfl,fin]) hs
theorem Qq:tL X fC:=by
 intro value slice EN s B H x y v u Q I rx ry h hs;let#[z,i,c,rfl,rfl,hz,he,q]:=h;let#[t,rfl]:=rx;let#[t',rfl]:=ry;let#[j,h1,h2,h3,h4,h5]:=iH he;have hl:z.cps.toList.length=z.length:=by simp[Str.length]
 rw[hl] at h1 h4 h5;have hn:=rm;show tail_any (typeIs_str s z t) slot_str_getitem.lookup (getItem_str (c:=c) (by
  have e1:decide (i < -(2 ^ 63:Int))=false:=JE ⋯;have e2:decide (i≥2 ^ 63)=false:=JE ⋯;rw[e1,e2,Bool.or_false]) (by rw[h1];exists h2) #[.str #[[c].toArray],H,I.tok _,#[_,rfl],q]) hs
def fE (K:Ac):R2:=λ x y H Q=>fD K x y H Q\/fB K x y H Q\/fC x y H Q
def Qr:tL X (fE X.K):=Qs.or (Qp.or Qq)
def RF (Aa:Ae) (n j:Nat) (u:Value):Obj.mapSeq (·.setIfInBounds j u) { cls:=.type "list",data:=.seq Aa.toArray n }={ cls:=.type "list",data:=.seq (Aa.set j u).toArray n }:=by
 simp[Obj.mapSeq]
theorem Inv.lst {EN:Ai}{B:St}{H:Hp}{s:Shared}{p:Addr}{xs:List V}(I:Inv X EN B H s) (h:H p=↑(.lst xs)):
  ∃ (Aa:Ae) (n:Nat),Vals xs Aa/\s.heap.get? p=↑{ cls:=.type "list",data:=.seq Aa.toArray n }/\xs.length<=sizeLine:=by
 let#[z,Aa,n,r,e]:=I.zu p _ h;show#[Aa,n,r,e,z]
def Inv.RH {EN:Ai}{B:St}{H:Hp}{s:Shared}{p:Addr}{xs ys:List V}{Aa AK:Ae}{n n':Nat}{f:Obj->Obj}(I:Inv X EN B H s) (h:H p=↑(.lst xs))
  (ho:s.heap.get? p=↑{ cls:=.type "list",data:=.seq Aa.toArray n }) (hf:f { cls:=.type "list",data:=.seq Aa.toArray n }={ cls:=.type "list",data:=.seq AK.toArray n' }) (r:Vals ys AK) (hz:ys.length<=sizeLine) (t:Nat):
  Inv X EN B (upd H p (.lst ys)) { s with heap:=s.heap.update p f,toks:=t }:=by
 have e:(s.heap.update p f).get? p=↑{ cls:=.type "list",data:=.seq AK.toArray n' }:=by
  rw[JP f ho (by rw[hf] <;> rfl),hf]
 exact I.write (x:=p) (e:=p) (by rw[h];trivial) (.inl rfl) (λ b u hb q=>(JZ _ _ (Ne.symm hb)).trans q) #[_,e] ?_;show#[hz,AK,n',r,e]
def X2:V->V->V->Hp->(Hp->Prop)->Prop:=λ o i v H Q=>∃ p xs k j,o=.ref p/\i=.int k/\H p=↑(.lst xs)/\xZ xs.length k=↑j/\Q (upd H p (.lst (xs.set j v)))
theorem set_list:aH X X2:=by
 intro EN s B H o i v ov iv u Q I ro ri rv h;let#[p,xs,k,j,rfl,rfl,hp,hj,q]:=h;cases ro;let#[t,rfl]:=ri;let#[Aa,n,r,ho,hz]:=I.lst hp;let#[h1,h2,h3,h4]:=dP hj;have hl:=r.length;have hn:=rm;have I':Inv X EN B (upd H p (.lst (xs.set j v))) { s with heap:=s.heap.update p (Obj.mapSeq (·.setIfInBounds j u)) }:=
  I.RH hp ho (RF Aa n j u) (r.set rv j) (by rw[DM];show hz) s.toks
 by_cases h0:0<=k
 .have hk:k.toNat=j:=by
   rw[seqIndex_of h0 h4] at h1;show A1 h1
  show PySem.W.ki_setAt ho h0 ⋯ (by rw[AB,<- hl];show h4) (by rw[hk];show#[_,I',q])
 .have hk:(k+(Aa.toArray.size:Int)).toNat=j:=by
   rw[seqIndex_neg ⋯ h3] at h1;rw[AB,<- hl];show A1 h1
  show PySem.W.ki_setBack ho ⋯ (by rw[AB,<- hl];show h3) ⋯ (by rw[hk];show#[_,I',q])
theorem OV:y9 X (.builtin "len") (λ xs H Q=>∃ p ys,xs=[.ref p]/\(zC X.K H p ys\/zN X.K H p ys)/\Q (.int ys.length) H):=by
 intro EN s B H xs us Q I r h;let#[p,ys,rfl,hq,q]:=h;let#[u,rfl,rx]:=vals1 r;cases rx;have hn:=rm;rcases hq with hq | hq
 .let#[Aa,r',pl,hz]:=I.list hq;have hlen:=r'.length;show Calls.call_len_list pl.isList (by simp![AB] <;> lia) #[.int ys.length,H,I.tok _,#[s.toks+1,by rw[AB,hlen]],q]
 .let#[Aa,r',pl,hz]:=I.tuple hq;have hlen:=r'.length;show len_tuple pl (by simp![AB] <;> lia) #[.int ys.length,H,I.tok _,#[s.toks+1,by rw[AB,hlen]],q]
theorem OU:y9 X (.builtin "len") (λ xs H Q=>∃ z,xs=[.str z]/\z.length<=sizeLine/\Q (.int z.length) H):=by
 intro EN s B H xs us Q I r h;let#[z,rfl,hz,q]:=h;let#[u,rfl,t,rfl]:=vals1 r;have hn:=rm;show len_str ⋯ #[.int z.length,H,I.tok _,#[_,rfl],q]
def y9.or {f:Value}{r r':List V->Hp->VK->Prop}(h:y9 X f r) (h':y9 X f r'):y9 X f (λ xs H Q=>r xs H Q\/r' xs H Q):=by
 intro EN s B H xs us Q I rs q;rcases q with q | q
 .show h EN s B H xs us Q I rs q
 .show h' EN s B H xs us Q I rs q
theorem OS:y9 X (.type "list") (λ xs H Q=>∃ p ys,xs=[.ref p]/\(zC X.K H p ys\/zN X.K H p ys)/\∀ l,H l=none->Q (.ref l) (upd H l (.lst ys))):=by
 intro EN s B H xs us Q I r h;let#[p,ys,rfl,hq,q]:=h;let#[u,rfl,rx]:=vals1 r;cases rx;have fin:∀ (Aa:Ae),Vals ys Aa->ys.length<=sizeLine->∀ (h':Heap) (c':Nat),(∀ b o',s.heap.get? b=↑o'->h'.get? b=↑o')->
   h'.get? s.heap.objs.size=↑{ cls:=.type "list",dict:=none,data:=.seq Aa.toArray c',slots:=[].toArray }->EP X EN B Q (.ref s.heap.objs.size) { s with heap:=h' }:=λ Aa r' hz h' c' kp e=>
  #[.ref s.heap.objs.size,_,I.laid (t':=s.toks) kp (Aj _) (show yL X.prog X.w _ h' _ (.lst ys) from #[hz,Aa,c',r',e]),rfl,q _ (I.zu.fresh (Aj _))]
 rcases hq with hq | hq
 .let#[Aa,r',pl,hz]:=I.list hq;have hlen:=r'.length;let#[o,ho,hc,n,hd]:=pl.isList;show call_list_seq p (.inl rfl) ho hc hd (λ h' c' kp e=>fin Aa r' hz h' c' kp e) (by simp![AB] <;> lia)
 .let#[Aa,r',pl,hz]:=I.tuple hq;have hlen:=r'.length;let#[o,ho,hc,n,hd]:=pl;show call_list_seq p (.inr rfl) ho hc hd (λ h' c' kp e=>fin Aa r' hz h' c' kp e) (by simp![AB] <;> lia)
theorem OC:y9 X (.type "tuple") (λ xs H Q=>∃ p ys,xs=[.ref p]/\((zC X.K H p ys/\∀ l,H l=none->Q (.ref l) (upd H l (.tup ys)))\/(zN X.K H p ys/\Q (.ref p) H))):=by
 intro EN s B H xs us Q I r h;let#[p,ys,rfl,h]:=h;let#[u,rfl,rx]:=vals1 r;cases rx;rcases h with ⟨hq,q⟩ | ⟨hq,q⟩
 .let#[Aa,r',pl,hz]:=I.list hq;have hlen:=r'.length;exact call_tuple_list pl.isList (λ h' kp=>?_) (by simp![AB] <;> lia);have I1:Inv X EN B H { s with heap:=h' }:=I.kept (t':=s.toks) kp;have I2:Inv X EN B (upd H h'.objs.size (.tup ys)) { s with heap:=h'.push { cls:=.type "tuple",data:=.seq Aa.toArray } }:=
   I1.laid (t':=s.toks) (λ b o e=>JD _ e) (Aj _) (show yL X.prog X.w _ _ _ (.tup ys) from #[#[hz,.new _],Aa,r',IsTup.new _ _])
  show#[.ref h'.objs.size,_,I2,rfl,q _ (I1.zu.fresh (Aj _))]
 .let#[Aa,r',pl,hz]:=I.tuple hq;show call_tuple_same pl #[.ref p,H,I,rfl,q]
def gH (K:Ac) (T:String) (x:V) (H:Hp):Prop:=match x with
 | .str _=>T="str"
 | .int _=>T="int"
 | .ref p=>(T="list"/\∃ xs,zC K H p xs)\/(T="tuple"/\∃ o,K.lookup p=↑o/\o.cls=.type "tuple"/\o.dict=none)\/
   (T="dict"/\((∃ Ab,H p=↑(.dK Ab))\/∃ Ab,H p=↑(.dT Ab)))\/(T="set"/\∃ S n,H p=↑(.set S n))
 | _=>False
def Ys {EN:Ai}{B:St}{H:Hp}{s:Shared}{T:String}{x:V}{v:Value}(I:Inv X EN B H s) (r:RelV x v) (ty:gH X.K T x H):
  s.TypeIs v T/\∀ a,v=.ref a->∃ ob,s.heap.get? a=↑ob/\ob.dict=none:=by
 cases x with
 | str z=>
  let#[t,rfl]:=r;cases (show T="str" from ty);show#[typeIs_str s z t,λ _ e=>nomatch e]
 | int i=>
  let#[t,rfl]:=r;cases (show T="int" from ty);show#[typeIs_int s i t,λ _ e=>nomatch e]
 | ref p=>
  cases r;rcases ty with ⟨rfl,xs,hq⟩ | ⟨rfl,o,hk,hc,hd⟩ | ⟨rfl,hk⟩ | ⟨rfl,S,n,hk⟩
  .let#[Aa,_,pl,_]:=I.list hq;exact#[pl.isList.typeIs,λ a e=>?_];cases e;let#[o,n,e,c,hd,_]:=pl;show#[o,e,hd]
  .exact#[#[o,I.vz p o hk,hc],λ a e=>?_];cases e;show#[o,I.vz _ o hk,hd]
  .have z:∃ o,s.heap.get? p=↑o/\o.ExactDict:=by
    rcases hk with ⟨Ab,hk⟩ | ⟨Ab,hk⟩
    .let#[_,_,_,_,o,_,_,e,ex,_]:=I.zu p _ hk;show#[o,e,ex]
    .let#[_,_,_,_,o,_,_,e,ex,_]:=I.zu p _ hk;show#[o,e,ex]
   let#[o,e,ex]:=z;exact#[#[o,e,ex.1],λ a e2=>?_];cases e2;show#[o,e,ex.2.1]
  .let#[o,_,_,_,e,ex,_]:=I.zu p _ hk;exact#[#[o,e,ex.1],λ a e2=>?_];cases e2;show#[o,e,ex.2.1]
 | _=>show False.elim ty
def k7 (K:Ac) (T:String) (r:V->List V->Hp->VK->Prop) (to:TE) (t:TA):TE:=fun B H Q=>to B H λ x H1=>gH K T x H1/\t B H1 λ xs H2=>r x xs H2 Q
variable {o e:Expr}{es:List Expr}{to:TE}{t:TA}{name:Str}{apos Am:Pos}{T id:String}{r:V->List V->Hp->VK->Prop}
def fU (pa:PlainAttrs T) (slot:Slot T name id) (hty:typeOf (.builtin id)=pure (.type "method_descriptor")) (hm:NB X id r) (ho:PE X o to) (ha:PA X (e::es) t)
  (Ge:attributeBase o name X.env (eval o X.env)=eval o X.env:=by rfl)
  (AQ:((backTo Am (starEach (e::es) X.env)).all (λ x=>!x.1)&&(backToKw Am (keywordEach [] X.env)).all (λ x=>x.1.isSome)
   && decide ((e::es).length+([]:List Keyword).length+(if ([]:List Keyword).isEmpty then 0 else 1)<30))=true:=by rfl)
  (Ga:(apos.endLine == Am.line)=true:=by rfl) (hs:AG X e es:=by rfl) (FO:AN X Am es:=by rfl):
  PE X (.Call (.Attribute o name apos) (e::es) [] Am) (k7 X.K T r to t):=by
 intro EN s B H Q I h;exact wpAny_Call_method_late Ge AQ Ga rfl (zx (ho EN s B H _ I h) λ v s1 #[x,H1,I1,r1,ty,q1]=>?_);let#[h1,h2]:=Ys I1 r1 ty;exact#[T,id,pa,slot,hty,h1,h2,?_];have hA:=ha Am EN s1 B H1 _ I1 q1;rw[hs] at hA ⊢;exact Calls.callWith_builtin (by change (false||(backTo Am (starEach es X.env)).any (·.1))=false;rw[FO] <;> rfl) (Calls.evalArgs_plain ?_);show zx hA λ us s2 #[vs,H2,I2,r2,q2]=>hm EN s2 B H2 x vs v us Q I2 r1 r2 q2
end
def aK (X:Cx) (id:String) (r:V->List V->Hp->VK->Prop):Prop:=
 ∀ (EN:Ai) (s:Shared) (B:St) (H:Hp) (x:V) (xs:List V) (v:Value) (us:Ae) (Q:VK),Inv X EN B H s->RelV x v->Vals xs us->r x xs H Q->
  wpAny (model X.prog X.w) X.A (call (.builtin id) (v::us)) (EP X EN B Q) X.xe s
theorem Vals.one:∀ {x:V}{us:Ae},Vals [x] us->∃ u,us=[u]/\RelV x u
 | _,_,.cons r .nil=>#[_,rfl,r]
theorem Vals.rep {xs:List V}{us:Ae}(h:Vals xs us):∀ k:Nat,Vals (List.replicate k xs).flatten (List.replicate k us).flatten
 | 0=>.nil
 | k+1=>by
  rw[BO,BO,Cd,Cd];show Vals.append h (Vals.rep h k)
section
variable {X:Cx}{EN:Ai}{B:St}{H:Hp}{s:Shared}{l:Addr}{xs ys:List V}
def Inv.dg {Aa AK:Ae}{n:Nat}{f:Array Value->Array Value}{t':Nat}(I:Inv X EN B H s) (hH:H l=↑(.lst xs))
  (e:s.heap.get? l=↑{ cls:=.type "list",data:=.seq Aa.toArray n }) (hf:f Aa.toArray=AK.toArray) (hv:Vals ys AK) (hz:ys.length<=sizeLine):
  Inv X EN B (upd H l (.lst ys)) { s with heap:=s.heap.update l (Obj.mapSeq f),toks:=t' }:=by
 have q:=PySem.IsL.update e f;rw[hf] at q;exact I.write (x:=l) (e:=l) (by rw[hH];show trivial) (.inl rfl) (λ b' u hb hu=>(JZ s.heap (Obj.mapSeq f) (Ne.symm hb)).trans hu) #[_,q] ?_;show#[hz,AK,_,hv,q]
def Inv.RI {Aa:Ae}{t':Nat}(I:Inv X EN B H s) (hv:Vals ys Aa) (hz:ys.length<=sizeLine):
  Inv X EN B (upd H s.heap.objs.size (.lst ys)) { s with heap:=s.heap.push { cls:=.type "list",data:=.seq Aa.toArray },toks:=t' }:=
 I.laid (λ _ _ q=>JD _ q) (Aj _) #[hz,Aa,0,hv,AJ _ rfl]
theorem Inv.fresh (I:Inv X EN B H s):H s.heap.objs.size=none:=I.zu.fresh (Aj _)
def Inv.ju (I:Inv X EN B H s) (hH:H l=↑(.lst xs)):xs.length<=sizeLine/\∃ (Aa:Ae) (n:Nat),Vals xs Aa/\xs.length=Aa.length/\s.heap.get? l=↑{ cls:=.type "list",data:=.seq Aa.toArray n }:=by
 let#[z,Aa,n,r,e]:=I.zu l _ hH;show#[z,Aa,n,r,r.length,e]
theorem Rn {n:Nat}(h:n<=sizeLine):Builtin.List.listTooLong n=false:=by
 unfold Builtin.List.listTooLong;show JE ⋯
def fL:V->List V->Hp->VK->Prop:=λ x vs H Q=>∃ l xs y,x=.ref l/\vs=[y]/\H l=↑(.lst xs)/\xs.length<sizeLine/\Q .zp (upd H l (.lst (xs++[y])))
theorem eX:aK X "list.append" fL:=by
 intro EN s B H x vs v us Q I rx rv h;let#[l,xs,y,rfl,rfl,hH,hz,q]:=h;cases rx;let#[u,rfl,ru]:=rv.one;let#[z,Aa,n,r,hl,e]:=I.ju hH;exact call_meets F.slot_list_append #[_,e,rfl] F.entry_list_append (F.args_list_append_2 _ _) (PySem.list_append l Aa.toArray n u (by rw[AB];lia)) #[e,?_];exact#[.zp,_,I.dg (AK:=Aa++[u]) hH e #[] (r.append (.cons ru .nil)) ?_,rfl,q];rw[Bp,List.length_singleton];lia
def fG:V->List V->Hp->VK->Prop:=λ x vs H Q=>∃ l b xs zs,x=.ref l/\vs=[.ref b]/\H l=↑(.lst xs)/\H b=↑(.lst zs)/\xs.length+zs.length<=sizeLine/\Q .zp (upd H l (.lst (xs++zs)))
theorem R8:aK X "list.extend" fG:=by
 intro EN s B H x vs v us Q I rx rv h;let#[l,b,xs,zs,rfl,rfl,hH,hB,hz,q]:=h;cases rx;let#[u,rfl,ru]:=rv.one;cases ru;let#[z,Aa,n,r,hl,e]:=I.ju hH;let#[z2,Fm,n2,r2,Hu,e2]:=I.ju hB;have hsz:Aa.toArray.size+Fm.toArray.size<=sizeLine:=by rw[AB,AB];lia
 have HS:¬ (!Aa.toArray.isEmpty&&Builtin.List.listTooLong (Aa.toArray.size+Fm.toArray.size))=true:=by
  rw[Rn hsz,CK];show BI
 exact call_meets F.slot_list_extend #[_,e,rfl] F.entry_list_extend (F.args_list_extend_2 _ _)
  (AutoSeq1.list_extend_list_list_0 l Aa.toArray n b Fm.toArray n2 HS (by rw[AB];lia) ⋯) #[e,e2,?_]
 exact#[.zp,_,I.dg (AK:=Aa++Fm) hH e #[] (r.append r2) ?_,rfl,q];rw[Bp];lia
end
end L2
namespace Yb
open PySem PySem.W PySem.Calls PyProof.Rows
def Q3 {P:Params}{h:Heap}:∀ (ns:List Int) (vs:Ae),WellAll P h vs (ns.map WData.int)->IntsAre vs ns:=by
 intro ns
 induction ns with
 | nil=>
  intro vs w;rw[Ba] at w;cases w;show .nil
 | cons n ns ih=>
  intro vs w;rw[Av] at w;cases w with
  | cons a b=>
   cases a;show .cons _ _ (ih _ b)
def Xl {l:OpenLaw}{n:Nat}(hn:l.most=↑n) {P:Params}{h:Heap}{args:List WData}{vals:Ae}
  (B8:l.row.toRowW.claim.pre args=true) (Ea:WellAll P h vals args):
  ∃ a vs ns,vals=[Value.ref a]/\args=[WData.list (ns.map WData.int)]/\h.get? a=↑{ cls:=.type "list",data:=.seq vs.toArray }/\IntsAre vs ns/\ns.length<=n:=by
 have DR:WShape.hasAll [] args [.list .int]=true:=(pre_splitW B8).1;have hc:l.pre.holds [] { args:=args }=true:=(pre_splitW B8).2;let#[d,r,rfl,h1,h2]:=hasAllW_cons DR;obtain rfl:=hasAllW_nil h2;let#[xs,rfl,h3]:=hasW_list h1;let#[ns,rfl]:=items_int h3;have hlen:ns.length<=n:=by
  unfold OpenLaw.pre at hc;have h4:(WTm.not (.lt (.lit (.int (n:Int))) (.len (.arg 0)))).holds [] { args:=[.list (ns.map .int)] }=true:=by
   have h4:=(holds_andW hc).1;rw[hn] at h4;show h4
  have h5:=condW_of h4 (w_not (w_lt w_lit (w_len_list (w_arg rfl))));rw[AA] at h5;exact Nat.le_of_not_lt λ q=>?_;have q':(n:Int)<((ns.length:Nat):Int):=⋯
  first
   | (rw[JF q'] at h5;show absurd h5 ())
   | (simp at h5;lia)
 cases Ea with
 | cons w1 w2=>
  cases w2;cases w1 with
  | list ho Az=>show#[_,_,ns,rfl,rfl,ho,Q3 ns _ Az,hlen]
def XY (l:OpenLaw) (args:List WData):l.row.toRowW.claim.post args (.bool true) args=true:=
 postW_of (r:=l.row.toRowW) (X:=(true == true))
  (show WShape.has [] (.bool true) .bool=true by first | rfl | decide | simp[WShape.has,WShape.arms,WShape.armsAll])
  (show (WTm.eq .res (.lit (.bool true))).value [] { args:=args,res:=↑(.bool true),after:=args }=↑(.bool (true == true)) from w_eq_bool (w_res rfl) w_lit) rfl
def Nr {l:OpenLaw}{n:Nat}{q:Program}{loose:List Str}{XP:(Str->Option Value)->Heap->Prop}{YP:World->Heap->Prop}{d:DefRec}
  (hn:l.most=↑n) (Dp:d.params.defaults=[])
  (call:∀ (w:World) (s₀ s₁:Shared) (mg mb:AI) (fa:Addr) (o:Obj) (pm cd doc:Value) (a:Addr) (vs:Ae) (ns:List Int),
   Ground q loose [] XP w s₀ mg mb s₁.heap->YP w s₁.heap->
   s₁.heap.get? fa=↑o->o.data=.func (docDef d.name d.params d.body d.scope pm cd doc)->s₁.heap.CodeRec cd d.name->mg d.name=↑(.ref fa)->
   s₁.heap.get? a=↑{ cls:=.type "list",data:=.seq vs.toArray }->IntsAre vs ns->ns.length<=n->s₁.gens=[].toArray->
   codeAny (model l.prog w) callerA (.call (.ref fa) #[[.ref a],[]]) (λ r s'=>r=.ok (.ret (.bool true))/\OldK s₁.heap s'.heap/\s'.os=s₁.os/\AllBare s'.gens) s₁):
  WalkO q loose XP YP l.row.toRowW d [] (λ f vs=>PySem.call f vs):=by
 intro w s₀ s₁ mg mb G Y fa o pm cd doc dV kV ho hd BD hD Dg hg args vals as B8 Di hrd Ea hlo;obtain rfl:dV=.none:=Dflts.none hD Dp;obtain rfl:kV=.none:=Dflts.noKw hD;let#[a,vs,ns,rfl,rfl,Cy,hints,hlen]:=Xl hn B8 Ea;exact enter_call (codeAny_mono (call w s₀ s₁ mg mb fa o pm cd doc a vs ns G Y ho (fd_plain hd) BD Dg Cy hints hlen hg) λ r s' hq=>?_);let#[rfl,h2,h3,h4]:=hq;show#[.inl #[.bool true,.bool true,[],rfl,λ _=>rfl,.bool true,XY l _,λ _=>#[List.Pairwise.nil,λ _ hm=>(nomatch hm)]],h2,h3,h4]
end Yb
namespace L2
open PySem PySem.Spec PyProof.Rows
theorem gu:∀ {vs:Ae}{ns:List Int},IntsAre vs ns->Vals (ns.map V.int) vs
 | _,_,.nil=>.nil
 | _,_,.cons n t h=>.cons #[t,rfl] (gu h)
def lK (H:Hp):Prop:=∀ b,H b=none\/∃ o xs,H b=↑(.xT o (.lst xs))
def Qa {P:Program}{w:World}{K:Ac}{mg mb:AI}{CX:u6}{k:Nat}{fa a:Addr}{fd:FuncData}{x:Str}{sp:Sp}{s₁:Shared}{vs:Ae}{ns:List Int}
  (KX:K.In s₁.heap) (CP:s₁.heap.Ns mainGlobals mg) (hb:s₁.heap.Ns builtinsNs mb) (CS:∀ x:Str,x≠"__name__"->mb x=bootBuiltins x) (Ey:s₁.heap.NoLimit) (hg:s₁.gens=[].toArray)
  (ha:s₁.heap.get? a=↑{ cls:=.type "list",data:=.seq vs.toArray }) (hi:IntsAre vs ns) (hl:ns.length<=sizeLine) (hr:z_ k callerA)
  (F:∀ base:Heap,K.In base->base.Ns mainGlobals mg->vH P w K mg base CX k fa fd [x] sp) (HY:∀ (s:Shared) (u:Value),BindsTo s fd #[[u],[]] [(x,u)])
  (A8:∀ H:Hp,lK H->zC K H a (ns.map V.int)->sp [.ref a] H (λ v _=>v=.bl true) λ _ _ _=>False)
  (Jq:∀ H e s',CX [] H s₁ (λ _ _ _=>False) e s'->False):
  codeAny (model P w) callerA (.call (.ref fa) #[[.ref a],[]]) (λ r s'=>r=.ok (.ret (.bool true))/\OldK s₁.heap s'.heap/\s'.os=s₁.os/\AllBare s'.gens) s₁:=by
 have rv:=gu hi;have IU:=hi.length;have core:∀ H:Hp,lK H->zC K H a (ns.map V.int)->yM P w H s₁.heap->(∀ b,H b≠none->b=a)->(H a≠none->K.lookup a=none)->
   codeAny (model P w) callerA (.call (.ref fa) #[[.ref a],[]]) (λ r s'=>r=.ok (.ret (.bool true))/\OldK s₁.heap s'.heap/\s'.os=s₁.os/\AllBare s'.gens) s₁:=by
  intro H hO hS zu hA hK;have Gw:∀ {b:Addr}{o:Obj},s₁.heap.get? b=↑o->H b=none->(t5 s₁.heap H).get? b=↑o:=λ e n=>QE e n;have HI:∀ {b:Addr}{o:Obj}{es:Array DictEntry}{ep:Nat},s₁.heap.get? b=↑o->o.data=.dict es ep->H b=none:=λ{b o es ep} e d=>by
   cases q:H b with
   | none=>rfl
   | some u=>
    have e':b=a:=hA b (by rw[q];simp);subst e';rw[ha] at e;cases e;have d':Data.seq vs.toArray _=Data.dict es ep:=d;cases d'
  have Ig:∀ {b:Addr}{m:AI},s₁.heap.Ns b m->(t5 s₁.heap H).Ns b m:=λ{b m} #[o,es,ep,e,d,r]=>#[o,es,ep,Gw e (HI e d),d,r];have hKb:K.In (t5 s₁.heap H):=λ b o e=>Gw (KX b o e) (by
   cases q:H b with
   | none=>rfl
   | some u=>
    have e':b=a:=hA b (by rw[q];simp);subst e';rw[hK (by rw[q];simp)] at e;cases e)
  have hM:Mod K mg (t5 s₁.heap H):=#[hKb,Ig CP,#[mb,Ig hb,CS],let #[mc,h1,h2]:=Ey;#[mc,Ig h1,h2]];have e0:kd P w K mg (t5 s₁.heap H) callerA [] s₁ H:=#[rfl,hM,λ b o e=>Rl e,Nat.le_of_eq (QD _ _),trivial,λ b hb=>absurd (show b∈([]:List Addr) from hb) #[],zu,.of_eq hg];exact codeAny_mono ((F _ hKb (Ig CP)).run callerA [] s₁ H #[[.ref a],[]] [.ref a] [.ref a] _ _ hr e0 (HY s₁ (.ref a)) (.cons rfl .nil) (A8 H hO hS)) λ r s' h=>?_;cases r with
  | error e=>show (Jq H e s' h).elim
  | ok fl=>
   cases fl with
   | ret u=>
    let#[v,H',os,bare,un,Et,r',q]:=h;have q':v=.bl true:=q;subst q';obtain rfl:u=Value.bool true:=r';exact#[rfl,OldK.of_keep λ b o e=>?_,os,bare];cases q:H b with
    | none=>show un.keep b o e q (by intro z;show absurd (show b∈([]:List Addr) from z) #[]) #[]
    | some u=>
     rcases hO b with z | ⟨ob,xs,z⟩
     .rw[q] at z;cases z
     .have z2:=un.t7 b ob _ z;let#[e1,_]:=zu b _ z;let#[e2,_]:=Et b _ z2;rw[e] at e1;cases e1;show e2
   | _=>show False.elim h
 cases hk:K.lookup a with
 | some o=>
  have e:=KX a o hk;rw[ha] at e;cases e;exact core (λ _=>none) (λ _=>.inl rfl) (.inr #[_,vs.toArray,_,hk,rfl,rfl,rfl,by rw[AB,IU];show hl,by exists rv]) (λ b u z=>by have z':(none:Option HO)=↑u:=z;cases z') (λ b z=>absurd rfl z) λ z=>absurd rfl z
 | none=>
  exact core (λ b=>if b=a then ↑(.xT { cls:=.type "list",data:=.seq vs.toArray } (.lst (ns.map V.int))) else none) (λ b=>?_) (.inl (.inr #[{ cls:=.type "list",data:=.seq vs.toArray },if_pos rfl])) (λ b u z=>?_) (λ b z=>?_) λ _=>hk
  .by_cases hb:b=a
   .show .inr #[_,_,if_pos hb]
   .show .inl (if_neg hb)
  .by_cases hb:b=a
   .have z':=(if_pos hb).symm.trans z;cases z';subst hb;show#[ha,by rw[AA];show hl,vs,_,rv,ha]
   .have z':=(if_neg hb).symm.trans z;cases z'
  .by_cases hb:b=a
   .show hb
   .show absurd (if_neg hb) z
def Yl {l:PySem.W.OpenLaw}{n k:Nat}{q:Program}{loose:List Str}{XP:(Str->Option Value)->Heap->Prop}{YP:World->Heap->Prop}{d:DefRec}{K:Params->Ac}{CX:World->u6}{sp:World->Sp}{x:Str}
  (hn:l.most=↑n) (hn2:n<=sizeLine) (Dp:d.params.defaults=[]) (hr:z_ k callerA)
  (hY:∀ (w:World) (h:Heap),YP w h->(K w.params).In h)
  (F:∀ (w:World) (mg:AI) (fa:Addr) (h:Heap),(K w.params).In h->h.Ns mainGlobals mg->mg d.name=↑(.ref fa)->
   ∃ fd:FuncData,(∀ (s:Shared) (u:Value),BindsTo s fd #[[u],[]] [(x,u)])/\
    ∀ base:Heap,(K w.params).In base->base.Ns mainGlobals mg->vH l.prog w (K w.params) mg base (CX w) k fa fd [x] (sp w))
  (A8:∀ (w:World) (H:Hp) (a:Addr) (ns:List Int),ns.length<=n->lK H->zC (K w.params) H a (ns.map V.int)->sp w [.ref a] H (λ v _=>v=.bl true) λ _ _ _=>False)
  (Jq:∀ (w:World) (H:Hp) (s:Shared) (e:Value) (s':Shared),CX w [] H s (λ _ _ _=>False) e s'->False):
  PySem.W.WalkO q loose XP YP l.row.toRowW d [] (λ f vs=>PySem.call f vs):=by
 exact Yb.Nr hn Dp λ w s₀ s₁ mg mb fa o pm cd doc a vs ns G Y ho hd BD Dg Cy hints hlen hg=>?_;have KX:=hY w _ Y;let#[fd,hb,hF]:=F w mg fa _ KX G.T.g Dg;show Qa KX G.T.g G.T.b G.T.builtins G.T.nolimit hg Cy hints (Be hlen hn2) hr hF hb (λ H hO hS=>A8 w H a ns hlen hO hS) λ H e s'=>Jq w H s₁ e s'
def uO (s:Stmt):Arguments:=match s with
 | .FunctionDef _ a _ _ _ _ _ _ _ _=>a
 | _=>{ posonlyargs:=[],args:=[],vararg:=none,kwonlyargs:=[],kw_defaults:=[],kwarg:=none,defaults:=[] }
def wa (s:Stmt):List Stmt:=match s with
 | .FunctionDef _ _ b _ _ _ _ _ _ _=>b
 | _=>[]
def yh (s:Stmt):Scope:=match s with
 | .FunctionDef _ _ _ _ _ _ sc _ _ _=>sc
 | _=>{ kind:=.function,names:=[],isGenerator:=false,isCoroutine:=false }
abbrev xr:u6:=λ _ _ _ _ _ _=>False
abbrev E0:XK:=λ _ _ _=>False
def Uv {X:Cx}:Passes xr X E0:=λ _ _ _ _ _ _ _ h=>h.elim
structure ue (K:Ac) (x qual:Str) (st:Stmt) (f:Addr) (fd:FuncData):Prop where
 ex:∃ (oc:Value) (od:Option Addr) (kV doc pm:Value) (an:Option Addr) (Al ct:Value) (G2:Array (Option Value)),
  fd=PySem.W.fnOf x qual (uO st) (wa st) (yh st) .none kV doc pm an Al ct/\K.lookup f=↑#[oc,od,.func fd,G2]/\PySem.W.codeIn K Al qual=true
 kp:PySem.W.keepIn K (.ref f)=true
section
variable {P:Program}{w:World}{K:Ac}{mg:AI}{base:Heap}
def ue.ok {x qual:Str}{st:Stmt}{f:Addr}{fd:FuncData}{N ps:List Str}{k:Nat}{sp:Sp}(F:ue K x qual st f fd) (S:uU N ps (yh st)) (len:∀ vs H Q E,sp vs H Q E->vs.length=ps.length)
  (E9:∀ (Al:Value) (A:Around) (outer:List Env) (s:Shared) (H:Hp) (vs:List V) (Q:VK) (E:XK),z_ k (A.deeper (envOfC qual (yh st) s.heap.objs.size f Al))->sp vs H Q E->
   ∃ t,xM (w6 xr P w K mg base N qual (yh st) f Al A outer s H E).vb (wa st) t/\t { nx:=λ _ H'=>Q .zp H',rt:=Q } (start N vs) H):vH P w K mg base xr (k+1) f fd ps sp:=by
 let#[oc,od,kV,doc,pm,an,Al,ct,G2,rfl,lk,BD]:=F.ex;exact Ph lk BD S len λ A outer s H vs Q E hr A8=>?_;let#[t,h,q]:=E9 Al A outer s H vs Q E hr A8;show#[t,h.vb,q]
def ue.binds {x qual:Str}{st:Stmt}{f:Addr}{fd:FuncData}{ps:List Str}(F:ue K x qual st f fd)
  (h:∀ (kV doc pm:Value) (an:Option Addr) (Al ct:Value) (us:Ae),us.length=ps.length->bindArgs (PySem.W.fnOf x qual (uO st) (wa st) (yh st) .none kV doc pm an Al ct) #[us,[]]=pure (ps.zip us)):Binds K fd ps []:=by
 let#[oc,od,kV,doc,pm,an,Al,ct,G2,rfl,lk,BD]:=F.ex;show .all (h kV doc pm an Al ct)
def cL {x qual:Str}{st:Stmt}{f:Addr}{oc:Value}{od an:Option Addr}{G2:Array (Option Value)}{kV doc pm Al ct:Value}(l:K.lookup f=↑#[oc,od,.func (PySem.W.fnOf x qual (uO st) (wa st) (yh st) .none kV doc pm an Al ct),G2])
  (c:PySem.W.codeIn K Al qual=true) (k:PySem.W.keepIn K (.ref f)=true):ue K x qual st f (PySem.W.fnOf x qual (uO st) (wa st) (yh st) .none kV doc pm an Al ct):=#[#[oc,od,kV,doc,pm,an,Al,ct,G2,rfl,l,c],k]
end
def jB {A:Around}{k:Nat}(hr:z_ k A):A.units+1<cLine:=DL (Nat.add_le_add_left (by decide:1<=64) _) hr.units
section
variable {X:Cx}
def pv (i:Nat) {x:Str}{pos:Pos}(hN:X.N[i]?=↑x:=by rfl) (hv:lI X.env.scope x:=by first | show Or.inl rfl | show Or.inr (Or.inl rfl) | show Or.inr (Or.inr rfl)) (hd:(x == ("__debug__":Str))=false:=by decide)
  (BD:(x == ("__classdict__":Str))=false:=by decide):PE X (.Name x pos) (kx i):=Wq hN hv hd BD
end
end L2
namespace PySem
theorem iw {env:Env}:∀ (l:List (Str×NameKind)) (acc:List (Str×Addr)),(∀ y∈l,y.2=.free->∃ c,env.cells.lookup y.1=↑c)->
  ∃ cl,(forIn l acc (λ(x:Str×NameKind) r=>if (x.2 == NameKind.free)=true then do let a <- cellOf env x.1;pure (ForInStep.yield ((x.1,a)::r)) else pure (ForInStep.yield r)):Sem (List (Str×Addr)))=pure cl/\
   (∀ x c,cl.lookup x=↑c->acc.lookup x=↑c\/((x,NameKind.free)∈l/\env.cells.lookup x=↑c))/\(∀ x,(x,NameKind.free)∈l\/(acc.lookup x).isSome->(cl.lookup x).isSome)
 | [],acc,_=>#[acc,rfl,λ x c h=>.inl h,λ x h=>by exists h]
 | (n,k)::l,acc,h=>by
  by_cases hk:k=.free
  .subst hk;let#[c,hc]:=h (n,.free) Ap rfl;let#[cl,e1,e2,e3]:=iw l ((n,c)::acc) λ y hy=>h y (Aw _ hy);exact#[cl,?_,λ x d hx=>?_,λ x hx=>?_]
   .rw[DJ];simp![beq_self_eq_true,if_true,cellOf,hc];show e1
   .rcases e2 x d hx with q | ⟨q1,q2⟩
    .rw[Bx] at q;cases Dc:x == n with
     | true=>
      rw[Dc] at q;have:x=n:=by exists Dc
      subst this;exact .inr #[Ap,?_];rw[hc];show q
     | false=>rw[Dc] at q;show .inl q
    .show .inr #[Aw _ q1,q2]
   .exact e3 x ?_;rcases hx with hx | hx
    .rcases Ah.mp hx with q | q
     .have:x=n:=congrArg Prod.fst q;subst this;show .inr (by simp[Bx])
     .show .inl q
    .exact .inr ?_;rw[Bx];cases x == n <;> simp[hx]
  .have hb:(k == NameKind.free)=false:=by exists hk
   let#[cl,e1,e2,e3]:=iw l acc λ y hy=>h y (Aw _ hy);exact#[cl,?_,λ x d hx=>?_,λ x hx=>?_]
   .rw[DJ];simp![hb,A4,if_false];show e1
   .rcases e2 x d hx with q | ⟨q1,q2⟩
    .show .inl q
    .show .inr #[Aw _ q1,q2]
   .exact e3 x ?_;rcases hx with hx | hx
    .rcases Ah.mp hx with q | q
     .show absurd (congrArg Prod.snd q).symm hk
     .show .inl q
    .show .inr hx
def bK {scope:Scope}{env:Env}(h:∀ y∈scope.names,y.2=.free->∃ c,env.cells.lookup y.1=↑c):
  ∃ cl,closureFor scope env=pure cl/\(∀ x c,cl.lookup x=↑c->(x,NameKind.free)∈scope.names/\env.cells.lookup x=↑c)/\∀ x,(x,NameKind.free)∈scope.names->(cl.lookup x).isSome:=by
 let#[cl,e1,e2,e3]:=iw (env:=env) scope.names [] h;exact#[cl,?_,λ x c hx=>?_,λ x hx=>e3 x (.inl hx)]
 .simp![closureFor];rw[e1];rfl
 .rcases e2 x c hx with q | q
  .simp at q
  .show q
theorem dm {env:Env}:∀ {names:List (Str×NameKind)}{x:Str},names.lookup x=↑.free->
  (names.map λ(n,k)=>if (k == NameKind.free&&env.scope.kind == .function&&env.kindOf n == ↑.cell) then (n,NameKind.cell) else (n,k)).lookup x=↑.cell\/
  (names.map λ(n,k)=>if (k == NameKind.free&&env.scope.kind == .function&&env.kindOf n == ↑.cell) then (n,NameKind.cell) else (n,k)).lookup x=↑.free
 | [],_,h=>by simp at h
 | (n,k)::r,x,h=>by
  have ih:=@dm env r x;change List.lookup x ((if (k == NameKind.free&&env.scope.kind == .function&&env.kindOf n == ↑.cell)=true then (n,NameKind.cell) else (n,k))::_)=_\/List.lookup x ((if (k == NameKind.free&&env.scope.kind == .function&&env.kindOf n == ↑.cell)=true then (n,NameKind.cell) else (n,k))::_)=_;cases hx:x == n with
  | true=>
   simp![Bx,hx] at h;cases h;by_cases hc:(NameKind.free == NameKind.free&&env.scope.kind == .function&&env.kindOf n == ↑.cell)=true
   .rw[if_pos hc];simp[Bx,hx]
   .rw[if_neg hc];simp[Bx,hx]
  | false=>
   simp![Bx,hx] at h;by_cases hc:(k == NameKind.free&&env.scope.kind == .function&&env.kindOf n == ↑.cell)=true
   .rw[if_pos hc];simp![Bx,hx];show ih h
   .rw[if_neg hc];simp![Bx,hx];show ih h
theorem f9 {env:Env}:∀ {names:List (Str×NameKind)}{x:Str},
  ((names.map λ(n,k)=>if (k == NameKind.free&&env.scope.kind == .function&&env.kindOf n == ↑.cell) then (n,NameKind.cell) else (n,k)).lookup x=↑.cell\/
  (names.map λ(n,k)=>if (k == NameKind.free&&env.scope.kind == .function&&env.kindOf n == ↑.cell) then (n,NameKind.cell) else (n,k)).lookup x=↑.free)->(x,NameKind.free)∈names\/(x,NameKind.cell)∈names
 | [],_,h=>by simp at h
 | (n,k)::r,x,h=>by
  have ih:=@f9 env r x;have h':List.lookup x ((if (k == NameKind.free&&env.scope.kind == .function&&env.kindOf n == ↑.cell)=true then (n,NameKind.cell) else (n,k))::_)=↑.cell\/List.lookup x ((if (k == NameKind.free&&env.scope.kind == .function&&env.kindOf n == ↑.cell)=true then (n,NameKind.cell) else (n,k))::_)=↑.free:=h;cases hx:x == n with
  | true=>
   have Dc:x=n:=by exists hx
   subst Dc;by_cases hc:(k == NameKind.free&&env.scope.kind == .function&&env.kindOf x == ↑.cell)=true
   .simp![Cr] at hc;have:k=.free:=by exists hc.1.1
    subst this;show .inl Ap
   .rw[if_neg hc] at h';simp![Bx,beq_self_eq_true] at h';rcases h' with q | q
    .cases A1 q;show .inr Ap
    .cases A1 q;show .inl Ap
  | false=>
   exact (ih ?_).imp (Aw _) (Aw _);by_cases hc:(k == NameKind.free&&env.scope.kind == .function&&env.kindOf n == ↑.cell)=true
   .rw[if_pos hc] at h';simp![Bx,hx] at h';show h'
   .rw[if_neg hc] at h';simp![Bx,hx] at h';show h'
theorem iz:∀ (names:List (Str×NameKind)) (h:Heap) (acc:List (Str×Addr)),∃ own,cellsFrom h.objs.size names acc=own++acc/\(∀ p∈own,(p.1,NameKind.cell)∈names/\h.objs.size<=p.2/\(pushCells h names).IsCell p.2 none)/\
  (own.Pairwise λ x y=>x.2≠y.2)/\∀ x,(x,NameKind.cell)∈names->(own.lookup x).isSome
 | [],h,acc=>#[[],rfl,λ _ hp=>(by cases hp),.nil,λ _ hx=>(by cases hx)]
 | (n,k)::r,h,acc=>by
  unfold cellsFrom pushCells;split
  .rename_i hk;have Gb:k=.cell:=by exists hk
   subst Gb;let#[own,e1,e2,e3,e4]:=iz r (h.push { cls:=.type "cell",data:=.cell none }) ((n,h.objs.size)::acc);rw[Heap.size_push] at e1 e2;exact#[own++[(n,h.objs.size)],by rw[e1,CM];rfl,λ p hp=>?_,?_,λ x hx=>?_]
   .rcases A2.mp hp with q | q
    .let#[f1,f2,f3]:=e2 p q;show#[Aw _ f1,⋯,f3]
    .cases AO.mp q;show#[Ap,Aj _,_,pushCells_keeps _ _ _ _ (AJ _ rfl),rfl]
   .exact C6.mpr #[e3,DI _ _,λ a ha b hb=>?_];cases AO.mp hb;show BH (e2 a ha).2.1
   .rw[DH,Option.isSome_or];rcases Ah.mp hx with q | q
    .cases q;simp[Bx]
    .rw[e4 x q];rfl
  .rename_i hk;let#[own,e1,e2,e3,e4]:=iz r h acc;exact#[own,e1,λ p hp=>#[Aw _ (e2 p hp).1,(e2 p hp).2],e3,λ x hx=>?_];rcases Ah.mp hx with q | q
   .cases q;simp at hk
   .show e4 x q
def Rv {M:Model}{A:Around}{E:Af}{s:Shared}{scope:Scope}{globals:Addr}{closure:List (Str×Addr)}{qual:Str}{env:Env}{Q:Env->Shared->Prop}
  (hQ:∀ h',h'=pushCells (s.heap.push { cls:=.type "dict",data:=.dict [].toArray }) scope.names->Q (newEnv scope s.heap.objs.size globals (cellsFrom (s.heap.objs.size+1) scope.names closure) qual none .none ↑env builtinsNs) { s with heap:=h' }):
  wpAny M A (newFunctionEnv scope globals closure [] qual none .none ↑env) Q E s:=by
 simp![newFunctionEnv,Option.isSome_some,if_true];exact IE (wpAny_alloc ?_);exact IE (wpAny_layCells _ (λ name kind cells=>by cases hkc:kind == NameKind.cell <;> simp[hkc]) _ _ _ _ ?_);rw[show ({ s with heap:=s.heap.push { cls:=.type "dict",data:=.dict [].toArray } }:Shared).heap.objs.size=s.heap.objs.size+1 from Heap.size_push ..];simp![List.forIn_nil];show IE (Ad (Ad (hQ _ rfl)))
end PySem
namespace L2
open PySem PySem.Spec PyProof.Rows
def vM (pick:List (Option Nat)) (B:St):St:=pick.map λ o=>o.bind λ i=>(B[i]?).join
def yq (X:Cx) (N':List Str) (scope:Scope) (cl:List (Str×Addr)) (C:Addr) (s:Shared) (H:Hp) (ex:List Addr):Cx:=
 { X with N:=N',s₀:=s,H₀:=H,env:=compEnvC scope cl C X.env,outer:=X.stack,stack:=X.stack,ex:=ex,fn:=λ x=>decide (scope.names.lookup x=↑.cell),pn:=[],xe:=λ _ _=>False }
def qq (N N':List Str) (pick:List (Option Nat)) (scope:Scope):Bool:=(N'.zip pick).all λ p=>match p.2 with
 | none=>true
 | some j=>decide (N[j]?=↑p.1)&&decide (scope.names.lookup p.1=↑.free)
structure tR (X:Cx) (N':List Str) (pick:List (Option Nat)) (scope:Scope):Prop where
 kind:scope.kind=.function
 uniq:∀ y∈scope.names,scope.names.lookup y.1=↑y.2
 free:∀ y∈scope.names,y.2=.free->X.env.scope.names.lookup y.1=↑.cell\/X.env.scope.names.lookup y.1=↑.free
 len:pick.length=N'.length
 ok:qq X.N N' pick scope=true
def qq.get {N N':List Str}{pick:List (Option Nat)}{scope:Scope}(h:qq N N' pick scope=true) {i j:Nat}{x:Str}(h1:N'[i]?=↑x) (h2:pick[i]?=↑↑j):N[j]?=↑x/\scope.names.lookup x=↑.free:=by
 unfold qq at h;have hm:(x,↑j)∈N'.zip pick:=by
  exact BG (i:=i) ?_;rw[List.getElem?_zip_eq_some];show#[h1,h2]
 have q:=BP.mp h _ hm;simp![Cr,decide_eq_true_eq] at q;show q
def vM.get {pick:List (Option Nat)}{B:St}{i:Nat}{v:V}(h:(vM pick B)[i]?=↑↑v):∃ j,pick[i]?=↑↑j/\B[j]?=↑↑v:=by
 unfold vM at h;rw[AH] at h;cases e:pick[i]? with
 | none=>rw[e] at h;cases h
 | some o=>
  rw[e] at h;cases o with
  | none=>simp at h
  | some j=>
   exact#[j,rfl,?_];simp![Option.map_some,Option.some.injEq,AW] at h;cases q:B[j]? with
   | none=>rw[q] at h;simp at h
   | some w=>rw[q] at h;simp at h;rw[h]
def PF (X:Cx) (ifs:List Expr) (t:TT):Prop:=∀ (EN:Ai) (s:Shared) (B:St) (H:Hp) (Q:Bool->Hp->Prop),Inv X EN B H s->t B H Q->
 wpAny (model X.prog X.w) X.A (forIn ifs true λ c r=>if r=true then do let ok <- isTrue c X.env (eval c X.env);pure (ForInStep.yield ok) else pure (ForInStep.yield r)) (TP X EN B Q) X.xe s
def Wn {X:Cx}:PF X [] (λ _ H Q=>Q true H):=λ _ _ _ H _ I h=>wpAny_tests_nil #[H,I,h]
def Wm {X:Cx}{c:Expr}{t:TT}(h:PT X c t):PF X [c] t:=λ EN s B H Q I q=>wpAny_tests_one (h EN s B H Q I q)
def kz (pick:List (Option Nat)) (wi:TI) (g:TG) (tc:TT) (te:TE):TE:=fun B H Q=>wi B H λ J H1=>∀ D,H1 D=none->∃ W:Nat->Nat->St->Hp->Prop,(∃ m,W 0 m (vM pick B) (upd H1 D (.lst [])))/\
 ∀ i m B H,W i m B H->(J.stop i H/\Q (.ref D) H)\/(J.go i H/\∀ x H',J.qc i H x H'->g x B H' fun B2 H2=>tc B2 H2 λ b H3=>
  if b=true then te B2 H3 λ y H4=>∃ ys m',H4 D=↑(.lst ys)/\ys.length<sizeLine/\m'<m/\W (i+1) m' B2 (upd H4 D (.lst (ys++[y]))) else ∃ m',m'<m/\W (i+1) m' B2 H3)
section
variable {X:Cx}{EN:Ai}{B:St}{H:Hp}{s:Shared}{N':List Str}{pick:List (Option Nat)}{scope:Scope}{cl:List (Str×Addr)}{C:Addr}{fp:List Addr}
def Q2 (S:tR X N' pick scope) (I:Inv X EN B H s) (Bk:∀ b∈fp,vG X EN H b) (Ay:∀ b∈fp,b<s.heap.objs.size)
  {h1:Heap}(c1:∀ x c,cl.lookup x=↑c->((x,NameKind.free)∈scope.names/\X.env.cells.lookup x=↑c)\/((x,NameKind.cell)∈scope.names/\C<c/\h1.IsCell c none)) (c2:∀ x,(x,NameKind.free)∈scope.names\/(x,NameKind.cell)∈scope.names->(cl.lookup x).isSome) (c3:∀ x y c,cl.lookup x=↑c->cl.lookup y=↑c->x=y)
  {m1:AI}{t':Nat}(hC:s.heap.objs.size<C) (old:∀ b o,s.heap.get? b=↑o->h1.get? b=↑o) (CP:h1.Ns C m1)
  (hD:h1.get? s.heap.objs.size=↑{ cls:=.type "list",data:=.seq [].toArray 0 }):
  Inv (yq X N' scope cl C s H fp) [] (vM pick B) (upd H s.heap.objs.size (.lst [])) { s with heap:=h1,toks:=t' }:=by
 have Jp:H s.heap.objs.size=none:=I.zu.fresh (Aj _);have hCn:H C=none:=I.zu.fresh (Bo hC);have cf:∀ x c,cl.lookup x=↑c->(∃ v,h1.IsCell c v)/\(c<s.heap.objs.size\/C<c)/\upd H s.heap.objs.size (.lst []) c=none:=λ x c e=>by
  rcases c1 x c e with ⟨_,q⟩ | ⟨_,q1,q2⟩
  .let#[v,o,z1,z2]:=I.cell x c q;have hl:=Au z1;show#[#[v,o,old _ _ z1,z2],.inl hl,by rw[zW (AF hl)];show I.uH x c q]
  .show#[#[_,q2],.inr q1,by rw[zW (BH (BN hC q1))];show I.zu.fresh (Bo (BN hC q1))]
 exact#[#[I.ok.mod,S.kind,I.ok.glob,I.ok.blt,Bo hC,c3,λ x hx=>?_,λ x c hf e=>?_,I.ok.hd,I.ok.frames,.inl rfl,
  λ b hb=>#[AF (BN (Ay b hb) hC),λ x c e=>?_],I.bs,Be I.ok.rM I.sz,λ b o e hb=>?_,λ b hb z=>?_,I.stack,I.gQ],
  rfl,I.bare,Un.laid old (Aj _) Jp,#[m1,CP,λ i x v e1 e2 e3=>?_],λ x c e=>?_,?_,λ x c e=>?_,λ p hp=>absurd (show p∈([]:Ai) from hp) #[],I.zu.laid old (Aj _) ?_,?_]
 .show DN.mp (c2 x (f9 hx))
 .have Gh:=of_decide_eq_true (show decide (scope.names.lookup x=↑.cell)=true from hf);rcases c1 x c e with ⟨q,_⟩ | ⟨_,q,_⟩
  .rw[S.uniq _ q] at Gh;cases Gh
  .show Bo (BN hC q)
 .rcases c1 x c e with ⟨_,q⟩ | ⟨_,q,_⟩
  .show (Bk b hb).2.2.2.2.1 x c q
  .show BH (BN (BN (Ay b hb) hC) q)
 .rcases (Bk b hb).2.2.2.1 with z | z
  .show I.ok.pM b o e z
  .show absurd (Bi (Au (I.ok.bs b o e).1) z) (BQ _)
 .rcases Ah.mp (I.k9 b z) with q | q
  .show (Bk b hb).2.1 q
  .show (Bk b hb).2.2.1 q
 .let#[j,p1,p2]:=vM.get e2;let#[q1,q2]:=qq.get S.ok e1 p1;let#[m0,n0,l0]:=I.loc;have hm:(x,NameKind.free)∈scope.names:=PySem.mem_of_lookup q2;have hk:X.env.scope.names.lookup x=↑.cell\/X.env.scope.names.lookup x=↑.free:=S.free _ hm rfl;let#[u,r,l]:=l0 j x v q1 p2 (.inr hk);exact#[u,r,.inr #[dm q2,?_]];rcases l with ⟨k,_⟩ | ⟨_,c,e,z⟩
  .have k':X.env.scope.names.lookup x=↑.local:=k;rcases hk with hk | hk <;> (rw[k'] at hk;cases hk)
  .let#[c',e']:=DN.mp (c2 x (.inl hm));have e'':X.env.cells.lookup x=↑c':=by
    rcases c1 x c' e' with ⟨_,q⟩ | ⟨q,_⟩
    .show q
    .have:=S.uniq _ q;rw[q2] at this;cases this
   rw[e] at e'';cases e'';let#[o,z1,z2]:=z;show#[c,e',o,old _ _ z1,z2]
 .show (cf x c e).1
 .change upd H s.heap.objs.size (.lst []) C=none;rw[zW (BH hC)];show hCn
 .show (cf x c e).2.2
 .show#[AR _,[],0,.nil,hD]
 .change (vM pick B).length=N'.length;unfold vM;rw[AA];show S.len
def Qz {B':St}{H':Hp}{s':Shared}{oC:Obj}(I:Inv X EN B H s) (Bk:∀ b∈fp,vG X EN H b) (hC:s.heap.objs.size<C)
  (I':Inv (yq X N' scope cl C s H fp) [] B' H' s') (hoC:s'.heap.get? C=↑oC):Inv X (EN++[(C,oC)]) B H' s':=by
 have J:Inv X EN B H' s':=I.Na (ch:=fp) I'.os I'.base I'.zu I'.bare λ b hb=>#[(Bk b hb).2.2.2.1,(Bk b hb).2.1,(Bk b hb).2.2.2.2.1,(Bk b hb).2.2.2.2.2];exact J.kR λ p hp=>(A2.mp hp).elim (λ z=>J.pin p (A6 _ z)) λ z=>?_;obtain rfl:p=(C,oC):=AO.mp z;exact#[hoC,I'.free,BH (BN I.lt hC),I.eI (Bo hC),λ v hv=>?_];let#[m,#[o,es,ep,ho,hd,_],_]:=I'.loc;have Fq:s'.heap.get? C=↑o:=ho;rw[hoC] at Fq;cases Fq;rw[hd] at hv;cases hv
def cn {B':St}{H':Hp}{s':Shared}{oC:Obj}{h':Heap}(I:Inv X EN B H s) (hC:s.heap.objs.size<C) (J:Inv X (EN++[(C,oC)]) B' H' s') (hs:Heap.SameBut C s'.heap h'):Inv X EN B' H' { s' with heap:=h' }:=by
 have J':=J.px;have hp:=J.pin (C,oC) (A6 _ (A6 _ (AO.mpr rfl)));have lt:∀ c,c<s.heap.objs.size->c≠C:=λ c h=>AF (BN h hC);exact J'.turned (t':=s'.toks) (it:=C) (λ b o hb e=>hs.extBut b o hb e) hp.2.1 hp.2.2.1 (.inr (Be I.sz (Bo hC))) (λ x c e z=>?_) (λ p hq z=>?_)
 .let#[v,q]:=I.cell x c e;show lt c q.lt z
 .show lt p.1 (Au (I.pin p hq).1) z
end
section
variable {X:Cx}{N':List Str}{pick:List (Option Nat)}{scope:Scope}{elt iter tg:Expr}{ifs:List Expr}{pos:Pos}{wi:TI}{g:TG}{tc:TT}{te:TE}
def RX {EN:Ai}{B:St}{H:Hp}{s:Shared}{it C:Addr}{fp:List Addr}{tn:Nat->Heap->Prop}{J:It}{cl:List (Str×Addr)}{W:Nat->Nat->St->Hp->Prop}{Q:V->Hp->Prop}{R:Result->Shared->Prop}{D:Addr}
  (hc:X.calm=true) (hg:PG (yq X N' scope cl C s H fp) tg g) (hf:PF (yq X N' scope cl C s H fp) ifs tc) (he:PE (yq X N' scope cl C s H fp) elt te)
  (T:Turn X.prog X.w X.K tg J fp it tn) (Bk:∀ b∈fp,vG X EN H b) (GL:∀ b∈fp,b≠C/\b∉v8 X.stack/\∀ x c,cl.lookup x=↑c->c≠b)
  (turn:∀ i m B H,W i m B H->(J.stop i H/\Q (.ref D) H)\/(J.go i H/\∀ x H',J.qc i H x H'->g x B H' fun B2 H2=>tc B2 H2 λ b H3=>
   if b=true then te B2 H3 λ y H4=>∃ ys m',H4 D=↑(.lst ys)/\ys.length<sizeLine/\m'<m/\W (i+1) m' B2 (upd H4 D (.lst (ys++[y]))) else ∃ m',m'<m/\W (i+1) m' B2 H3))
  (fin:∀ B' H' s',Inv (yq X N' scope cl C s H fp) [] B' H' s'->Q (.ref D) H'->R (.ok .next) s')
  {m0:Nat}{B0:St}{H0:Hp}{s0:Shared}(I0:Inv (yq X N' scope cl C s H fp) [] B0 H0 s0) (t0:tn 0 s0.heap) (f0:∀ b∈fp,H0 b=none) (w0:W 0 m0 B0 H0):
  codeAny (model X.prog X.w) X.A (.compLoop (.ListComp elt [#[tg,iter,ifs,0]] scope pos) 0 (.ref it) (.ref D) (compEnvC scope cl C X.env)) R s0:=by
 have Gj:∀ {H':Hp},(∀ b∈fp,H' b=none)->∀ b∈fp,vG (yq X N' scope cl C s H fp) [] H' b:=λ hn b hb=>#[hn b hb,(GL b hb).1,(GL b hb).2.1,.inl hb,(GL b hb).2.2,λ p hp=>absurd (show p∈([]:Ai) from hp) #[]];exact codeAny_loop rfl (λ n s'=>∃ i B' H',Inv (yq X N' scope cl C s H fp) [] B' H' s'/\tn i s'.heap/\(∀ b∈fp,H' b=none)/\W i n B' H') (λ n s3 hI=>?_) m0 #[0,B0,H0,I0,t0,f0,w0];let#[i,B3,H3,I3,HD,H_,w3]:=hI;change wpAny _ X.A ((compTurn (.ListComp elt [#[tg,iter,ifs,0]] scope pos) 0 (.ref it) (.ref D) (compEnvC scope cl C X.env)).onRaise (λ x=>do noteFrame x (compEnvC scope cl C X.env);theTreesLotGoes x)) _ _ s3;exact wpAny_noted ?_;rw[compTurn_list];exact IE (wpAny_standAt (IE ?_));rcases turn i n B3 H3 w3 with ⟨stop,qn⟩ | ⟨go,step⟩
 .exact zx (T.done (yq X N' scope cl C s H fp) rfl rfl rfl hc i [] s3 B3 H3 _ I3 (Gj H_) HD stop) λ r s4 #[hr,I4]=>?_;subst hr;show Ad (fin B3 H3 s4 I4 qn)
 .exact zx (T.item (yq X N' scope cl C s H fp) rfl rfl rfl hc i [] s3 B3 H3 _ I3 (Gj H_) HD go) λ r s4 #[u,hr,h4]=>?_;subst hr;exact IE (zx h4 λ _ s5 #[x,H5,I5,r5,y5,Hb,Jt]=>?_);have JC:=I5.pinned (Gj Jt) (T.obj _ _ Hb);exact IE (JG (hg _ s5 B3 H5 x u _ JC r5 (step x H5 y5)) (λ _ s6 #[B6,H6,I6,q6]=>?_) λ _ _ z=>False.elim z);exact IE (JG (hf _ s6 B6 H6 _ I6 q6) (λ ok s7 #[H7,I7,q7]=>?_) λ _ _ z=>False.elim z);have back:∀ {H8:Hp}{s8:Shared},Inv (yq X N' scope cl C s H fp) ([]++pF fp s5.heap) B6 H8 s8->(∃ m',m'<n/\W (i+1) m' B6 H8)->∃ m,m<n/\∃ i B' H',Inv (yq X N' scope cl C s H fp) [] B' H' s8/\tn i s8.heap/\(∀ b∈fp,H' b=none)/\W i m B' H':=λ{H8 s8} I8 #[m',hm,w8]=>by
   exact#[m',hm,i+1,B6,H8,I8.px,T.keep _ _ _ Hb λ b hb o e=>(I8.pin (b,o) (A6 _ (A6 _ (mq hb e)))).1,λ b hb=>?_,w8];let#[o,e,d]:=T.obj _ _ Hb b hb;show (I8.pin (b,o) (A6 _ (A6 _ (mq hb e)))).2.1
  cases ok with
  | false=>
   rw[if_neg BI] at q7;show Ad #[rfl,back I7 q7]
  | true=>
   rw[if_pos rfl] at q7;exact IE (IE (JG (he _ s7 B6 H7 _ I7 q7) (λ uy s8 #[y,H8,I8,r8,ys,m',e8,z8,hm,w8]=>?_) λ _ _ z=>False.elim z));exact IE (JG (eX (X:=yq X N' scope cl C s H fp) _ s8 B6 H8 (.ref D) [y] (.ref D) [uy] (λ _ H9=>W (i+1) m' B6 H9) I8 rfl (.cons r8 .nil) #[D,ys,y,rfl,rfl,e8,z8,w8]) (λ _ s9 #[_,H9,I9,_,q9]=>?_) λ _ _ z=>False.elim z);show Ad (Ad #[rfl,back I9 #[m',hm,q9]])
def dF {EN:Ai}{B:St}{H:Hp}{s:Shared}{it:Addr}{fp:List Addr}{tn:Nat->Heap->Prop}{J:It}{cl:List (Str×Addr)}{Q:V->Hp->Prop}{E:Af}{RR:Value->Addr->Result->Shared->Prop}
  (S:tR X N' pick scope) (hc:X.calm=true) (hg:∀ cl C s H fp,PG (yq X N' scope cl C s H fp) tg g) (hf:∀ cl C s H fp,PF (yq X N' scope cl C s H fp) ifs tc) (he:∀ cl C s H fp,PE (yq X N' scope cl C s H fp) elt te)
  (c1:∀ x c,cl.lookup x=↑c->(x,NameKind.free)∈scope.names/\X.env.cells.lookup x=↑c) (c2:∀ x,(x,NameKind.free)∈scope.names->(cl.lookup x).isSome)
  (I:Inv X EN B H s) (T:Turn X.prog X.w X.K tg J fp it tn) (t0:tn 0 s.heap) (Bk:∀ b∈fp,vG X EN H b)
  (rd:∀ D,H D=none->∃ W:Nat->Nat->St->Hp->Prop,(∃ m,W 0 m (vM pick B) (upd H D (.lst [])))/\
   ∀ i m B H,W i m B H->(J.stop i H/\Q (.ref D) H)\/(J.go i H/\∀ x H',J.qc i H x H'->g x B H' fun B2 H2=>tc B2 H2 λ b H3=>
    if b=true then te B2 H3 λ y H4=>∃ ys m',H4 D=↑(.lst ys)/\ys.length<sizeLine/\m'<m/\W (i+1) m' B2 (upd H4 D (.lst (ys++[y]))) else ∃ m',m'<m/\W (i+1) m' B2 H3))
  (fin:∀ C D oC H' s',s.heap.objs.size<C->Inv X (EN++[(C,oC)]) B H' s'->s'.heap.get? C=↑oC->(∃ m,s'.heap.Ns C m)->Q (.ref D) H'->RR (.ref D) C (.ok .next) s'):
  wpAny (model X.prog X.w) X.A (newList []) (λ acc s₃=>wpAny (model X.prog X.w) X.A (newFunctionEnv scope X.env.globals cl [] X.env.qual none .none ↑X.env) (λ Ib s₄=>
   codeAny (model X.prog X.w) X.A (.compStart (.ListComp elt [#[tg,iter,ifs,0]] scope pos) 0 (.ref it) acc { Ib with scope:=relabel scope X.env }) (RR acc Ib.locals) s₄) E s₃) E s:=by
 exact JM (Rv λ h₁ eh=>?_);dsimp only at eh ⊢;generalize Jo:s.heap.push { cls:=.type "list",dict:=none,data:=.seq ([]:Ae).toArray }=H2 at eh ⊢;have hC:H2.objs.size=s.heap.objs.size+1:=by rw[<- Jo,Heap.size_push]
 have Ay:s.heap.objs.size<H2.objs.size:=by rw[hC];show Cs _
 have up:∀ b o,H2.get? b=↑o->h₁.get? b=↑o:=λ b o e=>by rw[eh];show pushCells_keeps _ _ _ _ (JD _ e)
 have old:∀ b o,s.heap.get? b=↑o->h₁.get? b=↑o:=λ b o e=>up b o (Jo▸JD _ e);have AV:h₁.get? s.heap.objs.size=↑{ cls:=.type "list",data:=.seq [].toArray 0 }:=up _ _ (Jo▸AJ _ rfl);have Jh:h₁.Ns H2.objs.size λ _=>none:=by rw[eh];show (Heap.Ns.new H2 (.type "dict")).keeps (pushCells_keeps _ _)
 let#[own,o1,o2,o3,o4]:=iz scope.names (H2.push { cls:=.type "dict",data:=.dict [].toArray }) cl;rw[Heap.size_push] at o1 o2;rw[<- eh] at o2;rw[o1];have d1:∀ x c,(own++cl).lookup x=↑c->((x,NameKind.free)∈scope.names/\X.env.cells.lookup x=↑c)\/((x,NameKind.cell)∈scope.names/\H2.objs.size<c/\h₁.IsCell c none):=λ x c e=>by
  rw[DH] at e;cases q:own.lookup x with
  | some c'=>
   rw[q] at e;cases e;show .inr (o2 _ (PySem.mem_of_lookup q))
  | none=>rw[q] at e;show .inl (c1 x c e)
 have d2:∀ x,(x,NameKind.free)∈scope.names\/(x,NameKind.cell)∈scope.names->((own++cl).lookup x).isSome:=λ x hx=>by
  rw[DH,Option.isSome_or];rcases hx with hx | hx
  .rw[c2 x hx,Bool.or_true]
  .rw[o4 x hx];rfl
 have d3:∀ x y c,(own++cl).lookup x=↑c->(own++cl).lookup y=↑c->x=y:=λ x y c e1 e2=>by
  rw[DH] at e1 e2;have low:∀ x c,cl.lookup x=↑c->c<H2.objs.size:=λ x c e=>by
   let#[v,q]:=I.cell x c (c1 x c e).2;show BN q.lt Ay
  have hi:∀ x c,own.lookup x=↑c->H2.objs.size<c:=λ x c e=>(o2 _ (PySem.mem_of_lookup e)).2.1;cases q1:own.lookup x with
  | some c1'=>
   rw[q1] at e1;cases e1;cases q2:own.lookup y with
   | some c2'=>rw[q2] at e2;cases e2;show PySem.name_of_addr o3 (PySem.mem_of_lookup q1) (PySem.mem_of_lookup q2)
   | none=>rw[q2] at e2;show absurd (low y _ e2) (Nat.lt_asymm (hi x _ q1))
  | none=>
   rw[q1] at e1;cases q2:own.lookup y with
   | some c2'=>rw[q2] at e2;cases e2;show absurd (low x _ e1) (Nat.lt_asymm (hi y _ q2))
   | none=>rw[q2] at e2;show I.ok.inj x y c (c1 x c e1).2 (c1 y c e2).2
 have Dm:∀ b∈fp,b<s.heap.objs.size:=λ b hb=>by
  let#[o,e,_]:=T.obj _ _ t0 b hb;show Au e
 have Jp:H s.heap.objs.size=none:=I.zu.fresh (Aj _);let#[W,#[m0,w0],turn]:=rd s.heap.objs.size Jp;have I0:=Q2 (t':=s.toks) S I Bk Dm d1 d2 d3 Ay old Jh AV;have t1:tn 0 h₁:=T.keep _ _ _ t0 λ b _ o e=>old b o e;have AZ:∀ b∈fp,b≠H2.objs.size/\b∉v8 X.stack/\∀ x c,(own++cl).lookup x=↑c->c≠b:=λ b hb=>I0.ok.jZ b hb |> λ q=>#[q.1,I0.ok.og b hb,q.2]
 have loop:codeAny (model X.prog X.w) X.A (.compLoop (.ListComp elt [#[tg,iter,ifs,0]] scope pos) 0 (.ref it) (.ref s.heap.objs.size) (compEnvC scope (own++cl) H2.objs.size X.env)) (RR (.ref s.heap.objs.size) H2.objs.size) { s with heap:=h₁ }:=by
  exact RX (B:=B) hc (hg _ _ _ _ _) (hf _ _ _ _ _) (he _ _ _ _ _) T Bk AZ turn (fun B' H' s' I' q=>?_) I0 t1 (λ b hb=>?_) w0
  .let#[m,hn,_]:=I'.loc;have Iq:s'.heap.Ns H2.objs.size m:=hn;let#[oC,es,ep,ho,hr]:=id Iq;show fin _ _ oC H' s' Ay (Qz I Bk Ay I' ho) ho #[m,Iq] q
  .change upd H s.heap.objs.size (.lst []) b=none;rw[zW (AF (Dm b hb))];show (Bk b hb).1
 show codeAny_compStart_list loop (T.self _ 0 _ _ _ t1 loop)
def W3 (S:tR X N' pick scope) (hc:X.calm=true) (hi:PI X tg iter wi) (hg:∀ cl C s H fp,PG (yq X N' scope cl C s H fp) tg g) (hf:∀ cl C s H fp,PF (yq X N' scope cl C s H fp) ifs tc) (he:∀ cl C s H fp,PE (yq X N' scope cl C s H fp) elt te)
  (hs:∀ x,foldedSetIterable iter X.env x=pure x:=by intro _;rfl):PE X (.ListComp elt [#[tg,iter,ifs,0]] scope pos) (kz pick wi g tc te):=by
 intro EN s B H Q I h;let#[cl,GQ,c1,c2]:=bK (scope:=scope) (env:=X.env) λ y hy hk=>I.ok.has y.1 (S.free y hy hk);rw[eval_ListComp];exact wpAny_comprehension_free (use:=none) rfl hs GQ S.kind (λ y hy e=>e▸S.uniq y hy) (zx (hi EN s B H _ I h) λ v s1 h1=>zx h1 λ Ij s2 h2=>?_);let#[it,fp,tn,J,H2,e,I2,T,HE,f2,rd]:=h2;subst e;exact dF (RR:=λ acc C=>compPost (model X.prog X.w) X.A X.xe none (EP X EN B Q) acc C) S hc hg hf he c1 c2 I2 T HE f2 rd λ C D oC H' s' hC J' ho hn q=>?_;let#[m,hn]:=hn;show#[m,hn,λ h' FY=>#[.ref D,H',cn I2 hC J' FY,rfl,q]]
def XM {i:Nat}{y:Str}{py Bf:Pos}(S:tR X N' pick scope) (hc:X.calm=true) (hi:PI X tg iter wi) (hg:∀ cl C s H fp,PG (yq X N' scope cl C s H fp) tg g) (hf:∀ cl C s H fp,PF (yq X N' scope cl C s H fp) ifs tc) (he:∀ cl C s H fp,PE (yq X N' scope cl C s H fp) elt te)
  (hN:X.N.Nodup) (hy:X.N[i]?=↑y) (hx:Loc X.env.scope y)
  (BX:swapsWith (.ListComp elt [#[tg,iter,ifs,0]] scope pos) ↑(.Name y py) Bf.line X.env=pure true:=by rfl)
  (Ca:X.fn y=true\/X.env.scope.names.lookup y=↑.local:=by first | show .inl rfl | show .inr rfl | assumption)
  (hs:∀ x,foldedSetIterable iter X.env x=pure x:=by intro _;rfl):PS X (.Assign [.Name y py] (.ListComp elt [#[tg,iter,ifs,0]] scope pos) Bf) (nH (kz pick wi g tc te) (qK i)):=by
 intro EN s B H Q I h;let#[cl,GQ,c1,c2]:=bK (scope:=scope) (env:=X.env) λ y hy hk=>I.ok.has y.1 (S.free y hy hk);rw[exec_Assign_Name_used _ _ _ _ BX];exact IE (wpAny_standAt (IE ?_));change wpAny _ X.A (do let _ <- comprehension (.ListComp elt [#[tg,iter,ifs,0]] scope pos) scope X.env _ (newList []) false (eval iter X.env) ↑(assign (.Name y py) X.env)) _ _ s;exact IE (JG (wpAny_comprehension_free (use:=↑(assign (.Name y py) X.env)) (Q:=λ _ s'=>SP X EN Q .next s') rfl hs GQ S.kind (λ y hy e=>e▸S.uniq y hy)
  (zx (hi EN s B H _ I h) λ v s1 h1=>zx h1 λ Ij s2 h2=>?_)) (λ _ s' hq=>Ad (Ad hq)) λ _ _ e=>e)
 let#[it,fp,tn,J,H2,e,I2,T,HE,f2,rd]:=h2;subst e;exact dF (Q:=λ x H1=>qK i x B H1 Q.nx) (RR:=λ acc C=>compPost (model X.prog X.w) X.A X.xe ↑(assign (.Name y py) X.env) (λ _ s'=>SP X EN Q .next s') acc C) S hc hg hf he c1 c2 I2 T HE f2 rd λ C D oC H' s' hC J' ho hn q=>?_;change wpAny _ X.A (assign (.Name y py) X.env (.ref D)) _ _ _;exact wpAny_assign_Name (k8 J' hN hy hx (v:=.ref D) rfl (λ s3 J3=>?_) Ca);have hp:=(J3.pin (C,oC) (A6 _ (A6 _ (AO.mpr rfl)))).1;let#[m,o,es,ep,Fq,hr]:=hn;have:o=oC:=A1 (Fq.symm.trans ho);subst this;show#[m,#[o,es,ep,hp,hr],λ h' FY=>#[_,H',cn I2 hC J3 FY,q]]
end
end L2
namespace L3
open PySem PySem.Spec L2
open PyProof.Rows hiding St
inductive D where
 | zp | bl (b:Bool) | int (i:Int) | str (x:Str) | tup (ds:List D) | xw (ds:List D) | ref (a:Addr) | err (c f:Str) (d:D)
def qY (K:Ac) (H:Hp) (a:Addr) (xs:List V):Prop:=
 (∃ o,H a=↑(.xT o (.lst xs)))\/
  ∃ (o:Obj) (Aa:Ax) (n:Nat),K.lookup a=↑o/\o.cls=.type "list"/\o.dict=none/\o.data=.seq Aa n/\Aa.size<=sizeLine/\Vals xs Aa.toList
def qY.sq {K:Ac}{H:Hp}{a:Addr}{xs:List V}(h:qY K H a xs):zC K H a xs:=by
 rcases h with h | h
 .show .inl (.inr h)
 .show .inr h
abbrev ah:List Value:=[.type "ValueError",.type "Exception",.type "BaseException",.type "object"]
abbrev eL:List Str:=["__getattribute__","__getattr__","__class__","__setattr__","place","pair","way","times","told","name","row"]
def aJ (K:Ac) (c:Str) (C:Addr) (bm:Ae) (N:Addr):Prop:=
 (∃ (q:Str) (bs:Ae) (sn:List Str) (sub:Ae) (ab:Bool) (col:Option Bool) (dd:Option Addr) (k0 k1 k2 k3 k5:Option Value),K.lookup C=↑(excClassObj c q C N bs bm true sn sub ab col dd k0 k1 k2 k3 k5 "ValueError.__new__"))/\
 PySem.W.nsOkIn K N=true/\∀ n∈eL,PySem.W.nsIn K N n=↑none
structure Mj (K:Ac) (c:Str) (C P N NP:Addr):Prop where
 own:aJ K c C (.ref P::ah) N
 par:aJ K "PurseError" P ah NP
 top:PySem.W.nsIn K mainGlobals c=↑↑(.ref C)
 zad:PySem.W.nsIn K mainGlobals "PurseError"=↑↑(.ref P)
 zae:PySem.W.nsIn K NP "__init__"=↑none
def nc (K:Ac) (c:Str) (C:Addr):Prop:=∃ P N NP,Mj K c C P N NP
def ownIn (K:Ac) (c:Str) (C:Addr) (bm:Ae):Option Addr:=match K.lookup C with
 | some #[.type "type",_,.cls cd,sl]=>(match cd.mro,sl.toList with
  | .ref C'::bm',[_,_,_,_,↑(.builtin n),_]=>if C' == C&&n == "ValueError.__new__"&&!cd.hasDel&&bm' == bm&&cd.hasDict&&cd.name == c&&PySem.W.nsOkIn K cd.ns&&eL.all (λ n=>PySem.W.nsIn K cd.ns n == ↑none) then ↑cd.ns else none
  | _,_=>none)
 | _=>none
def tP (e C:Addr) (dx:Option Addr):HO:=.ext λ h=>∃ oe vs,h.get? e=↑oe/\oe.cls=.ref C/\oe.dict=dx/\oe.data=.fields vs
def Xd (H:Hp) (f:Str) (w:V):Option Addr->Prop
 | some x=>H x=↑(.xd [(f,w)])
 | none=>f=""/\w=.zp
mutual
def ze (K:Ac) (H:Hp):D->V->Prop
 | .zp,v=>v=.zp
 | .bl b,v=>v=.bl b
 | .int i,v=>v=.int i
 | .str x,v=>v=.str x
 | .tup ds,v=>∃ a xs,v=.ref a/\zN K H a xs/\zk K H ds xs
 | .xw ds,v=>∃ a xs,v=.ref a/\qY K H a xs/\zk K H ds xs
 | .ref a,v=>v=.ref a
 | .err c f d,v=>∃ e C dx w,v=.ref e/\(nc K c C/\H e=↑(tP e C dx)/\Xd H f w dx)/\ze K H d w
def zk (K:Ac) (H:Hp):List D->List V->Prop
 | [],xs=>xs=[]
 | d::ds,xs=>∃ x r,xs=x::r/\ze K H d x/\zk K H ds r
end
structure Ext (H H':Hp):Prop where
 tup:∀ b xs,H b=↑(.tup xs)->H' b=↑(.tup xs)
 xT:∀ b o u,H b=↑(.xT o u)->H' b=↑(.xT o u)
 ext:∀ b φ,H b=↑(.ext φ)->H' b=↑(.ext φ)
 xd:∀ b fs,H b=↑(.xd fs)->H' b=↑(.xd fs)
def Ext.refl (H:Hp):Ext H H:=#[λ _ _ h=>h,λ _ _ _ h=>h,λ _ _ h=>h,λ _ _ h=>h]
def Ext.trans {H H1 H2:Hp}(a:Ext H H1) (b:Ext H1 H2):Ext H H2:=#[λ c xs h=>b.tup c xs (a.tup c xs h),λ c o u h=>b.xT c o u (a.xT c o u h),λ c u h=>b.ext c u (a.ext c u h),λ c u h=>b.xd c u (a.xd c u h)]
def Ext.new {H:Hp}{p:Addr}(h:H p=none) (o:HO):Ext H (upd H p o):=
 #[λ b xs q=>by rw[zW (uE q h)];show q,λ b ob u q=>by rw[zW (uE q h)];show q,λ b u q=>by rw[zW (uE q h)];show q,λ b u q=>by rw[zW (uE q h)];show q]
theorem Ext.lst {H:Hp}{p:Addr}{xs:List V}(h:H p=↑(.lst xs)) (o:HO):Ext H (upd H p o):=
 #[λ b ys q=>by rw[zW (vx q h (by intro z;cases z))];show q,λ b ob u q=>by rw[zW (vx q h (by intro z;cases z))];show q,λ b u q=>by rw[zW (vx q h (by intro z;cases z))];show q,λ b u q=>by rw[zW (vx q h (by intro z;cases z))];show q]
def Ext.qg {K:Ac}{H H':Hp}{a:Addr}{xs:List V}(e:Ext H H') (h:zN K H a xs):zN K H' a xs:=by
 rcases h with (h | ⟨o,h⟩) | h
 .show .inl (.inl (e.tup _ _ h))
 .show .inl (.inr #[o,e.xT _ _ _ h])
 .show .inr h
def Ext.nL {K:Ac}{H H':Hp}{a:Addr}{xs:List V}(e:Ext H H') (h:qY K H a xs):qY K H' a xs:=by
 rcases h with ⟨o,h⟩ | h
 .show .inl #[o,e.xT _ _ _ h]
 .show .inr h
section
variable {K:Ac}{H H':Hp}
def Xd.ext {H H':Hp}{f:Str}{w:V}{dx:Option Addr}(h:Xd H f w dx) (e:Ext H H'):Xd H' f w dx:=by
 cases dx with
 | none=>show h
 | some x=>show e.xd _ _ h
mutual
theorem ze.ext (e:Ext H H'):∀ (d:D) {v:V},ze K H d v->ze K H' d v
 | .zp,v,h=>by simpa only [ze] using h
 | .bl b,v,h=>by simpa only [ze] using h
 | .int i,v,h=>by simpa only [ze] using h
 | .str x,v,h=>by simpa only [ze] using h
 | .ref a,v,h=>by simpa only [ze] using h
 | .err c f d,v,h=>by
  simp![ze] at h ⊢;let#[a,C,dx,w,h1,#[h2,h3,h4],h5]:=h;show#[a,C,dx,w,h1,#[h2,e.ext _ _ h3,h4.ext e],ze.ext e d h5]
 | .tup ds,v,h=>by
  simp![ze] at h ⊢;let#[a,xs,h1,h2,h3]:=h;show#[a,xs,h1,e.qg h2,zk.ext e ds h3]
 | .xw ds,v,h=>by
  simp![ze] at h ⊢;let#[a,xs,h1,h2,h3]:=h;show#[a,xs,h1,e.nL h2,zk.ext e ds h3]
theorem zk.ext (e:Ext H H'):∀ (ds:List D) {xs:List V},zk K H ds xs->zk K H' ds xs
 | [],xs,h=>by simpa only [zk] using h
 | d::ds,xs,h=>by
  simp![zk] at h ⊢;let#[x,r,h1,h2,h3]:=h;show#[x,r,h1,ze.ext e d h2,zk.ext e ds h3]
end
theorem zk.length:∀ {ds:List D}{xs:List V},zk K H ds xs->ds.length=xs.length
 | [],xs,h=>by simp![zk] at h;subst h;rfl
 | d::ds,xs,h=>by
  simp![zk] at h;let#[x,r,h1,_,h3]:=h;subst h1;simp[zk.length h3]
theorem zk.get:∀ {ds:List D}{xs:List V}{i:Nat}{d:D},zk K H ds xs->ds[i]?=↑d->∃ x,xs[i]?=↑x/\ze K H d x
 | [],_,i,d,_,e=>by simp at e
 | c::ds,xs,i,d,h,e=>by
  simp![zk] at h;let#[x,r,h1,h2,h3]:=h;subst h1;cases i with
  | zero=>simp at e;subst e;show#[x,rfl,h2]
  | succ i=>
   let#[y,e1,e2]:=zk.get (i:=i) h3 (by exists e);show#[y,by simpa using e1,e2]
theorem zk.append:∀ {ds es:List D}{xs ys:List V},zk K H ds xs->zk K H es ys->zk K H (ds++es) (xs++ys)
 | [],es,xs,ys,h,h'=>by simp![zk] at h;subst h;exists h'
 | d::ds,es,xs,ys,h,h'=>by
  simp![zk] at h;let#[x,r,h1,h2,h3]:=h;subst h1;change zk K H (d::(ds++es)) (x::(r++ys));simp![zk];show#[x,r++ys,rfl,h2,zk.append h3 h']
def zk.nil:zk K H [] []:=by simp![zk]
def zk.cons {d:D}{ds:List D}{x:V}{xs:List V}(h:ze K H d x) (h':zk K H ds xs):zk K H (d::ds) (x::xs):=by
 simp![zk];show#[x,xs,rfl,h,h']
def zk.snoc {d:D}{ds:List D}{x:V}{xs:List V}(h':zk K H ds xs) (h:ze K H d x):zk K H (ds++[d]) (xs++[x]):=h'.append (.cons h .nil)
theorem zk.ints:∀ {ns:List Int}{xs:List V},zk K H (ns.map D.int) xs->xs=ns.map V.int
 | [],xs,h=>by simpa only [Ba,zk] using h
 | n::ns,xs,h=>by
  rw[Av] at h;simp![zk,ze] at h;let#[x,r,h1,h2,h3]:=h;subst h1 h2;rw[Av,zk.ints h3]
theorem zk.jc:∀ (ns:List Int),zk K H (ns.map D.int) (ns.map V.int)
 | []=>.nil
 | n::ns=>.cons (by simp![ze]) (zk.jc ns)
theorem zk.bools:∀ {ns:List Bool}{xs:List V},zk K H (ns.map D.bl) xs->xs=ns.map V.bl
 | [],xs,h=>by simpa only [Ba,zk] using h
 | n::ns,xs,h=>by
  rw[Av] at h;simp![zk,ze] at h;let#[x,r,h1,h2,h3]:=h;subst h1 h2;rw[Av,zk.bools h3]
end
inductive O where
 | lst (ds:List D)
 | zU (Ab:List (Key×D))
 | obj (c:Str) (fs:List (Str×D))
 | zY (l:List ((Int×List Int)×Int))
abbrev SS:=Addr->Option O
def yS (K:Ac) (H:Hp):List (Key×D)->List (Key×V)->Prop:=Paired λ p q=>p.1=q.1/\ze K H p.2 q.2
def lJ (K:Ac) (H:Hp):List (Str×D)->List (Str×V)->Prop:=Paired λ p q=>p.1=q.1/\ze K H p.2 q.2
def Mk (K:Ac) (c:Str) (C:Addr):Prop:=PySem.W.nsIn K mainGlobals c=↑↑(.ref C)
def tJ (K:Ac) (H:Hp) (b:Addr) (k:Int×List Int):Prop:=∃ c,zN K H b [.int k.1,.ref c]/\zN K H c (k.2.map V.int)
abbrev vn (K:Ac) (H:Hp):List ((Int×List Int)×Int)->List ((Int×List Int)×Addr×Value)->Prop:=Paired λ p q=>p.1=q.1/\tJ K H q.2.1 p.1/\RelV (.int p.2) q.2.2
def rS (K:Ac) (H:Hp) (a:Addr):O->Prop
 | .lst ds=>∃ xs,H a=↑(.lst xs)/\zk K H ds xs
 | .zU Ab=>∃ vs,H a=↑(.dK vs)/\yS K H Ab vs
 | .obj c fs=>∃ C dx vs,Mk K c C/\H a=↑(.ins C dx vs)/\lJ K H fs vs
 | .zY l=>∃ xs,H a=↑(.dN xs)/\vn K H l xs
def zF (K:Ac) (H:Hp) (S:SS):Prop:=∀ a o,S a=↑o->rS K H a o
def ups (S:SS) (a:Addr) (o:O):SS:=λ b=>if b=a then ↑o else S b
def uW {S:SS}{a:Addr}{o:O}:ups S a o a=↑o:=by unfold ups;rw[if_pos rfl]
def uX {S:SS}{a b:Addr}{o:O}(h:b≠a):ups S a o b=S b:=by unfold ups;rw[if_neg h]
def Sx (S S':SS):Prop:=∀ b o,S b=↑o->S' b=↑o
def Sx.refl (S:SS):Sx S S:=λ _ _ h=>h
def Sx.trans {S S1 S2:SS}(a:Sx S S1) (b:Sx S1 S2):Sx S S2:=λ c o h=>b c o (a c o h)
def Sx.new {S:SS}{p:Addr}(h:S p=none) (o:O):Sx S (ups S p o):=λ b u q=>by
 rw[uX (by intro z;subst z;rw[h] at q;cases q)];show q
theorem Sx.none {S S':SS}(e:Sx S S') {p:Addr}(h:S' p=Option.none):S p=Option.none:=by
 cases q:S p with
 | none=>rfl
 | some o=>rw[e p o q] at h;cases h
section
variable {K:Ac}{H H':Hp}{S:SS}
def rS.has {a:Addr}{o:O}(h:rS K H a o):H a≠none:=by
 cases o with
 | lst ds=>let#[xs,h,_]:=h;rw[h];simp
 | zU Ab=>let#[xs,h,_]:=h;rw[h];simp
 | obj c fs=>let#[C,dx,vs,_,h,_]:=h;rw[h];simp
 | zY l=>let#[xs,h,_]:=h;rw[h];simp
theorem zF.none (r:zF K H S) {p:Addr}(h:H p=Option.none):S p=Option.none:=by
 cases q:S p with
 | none=>rfl
 | some o=>show absurd h (r p o q).has
theorem yS.ext (e:Ext H H') {Ab:List (Key×D)}{vs:List (Key×V)}(h:yS K H Ab vs):yS K H' Ab vs:=
 Paired.qx h λ p q z=>#[z.1,ze.ext e p.2 z.2]
theorem lJ.ext (e:Ext H H') {fs:List (Str×D)}{vs:List (Str×V)}(h:lJ K H fs vs):lJ K H' fs vs:=
 Paired.qx h λ p q z=>#[z.1,ze.ext e p.2 z.2]
def tJ.ext (e:Ext H H') {b:Addr}{k:Int×List Int}(h:tJ K H b k):tJ K H' b k:=let #[c,h1,h2]:=h;#[c,e.qg h1,e.qg h2]
theorem vn.ext (e:Ext H H') {l:List ((Int×List Int)×Int)}{xs:List ((Int×List Int)×Addr×Value)}(h:vn K H l xs):vn K H' l xs:=Paired.qx h λ p q z=>#[z.1,z.2.1.ext e,z.2.2]
def rS.keep {a:Addr}{o:O}(e:Ext H H') (k:∀ u,H a=↑u->H' a=↑u) (h:rS K H a o):rS K H' a o:=by
 cases o with
 | lst ds=>let#[xs,h1,h2]:=h;show#[xs,k _ h1,zk.ext e ds h2]
 | zU Ab=>let#[xs,h1,h2]:=h;show#[xs,k _ h1,h2.ext e]
 | obj c fs=>let#[C,dx,vs,h0,h1,h2]:=h;show#[C,dx,vs,h0,k _ h1,h2.ext e]
 | zY l=>let#[xs,h1,h2]:=h;show#[xs,k _ h1,h2.ext e]
theorem zF.keep (e:Ext H H') (k:∀ a u o,S a=↑o->H a=↑u->H' a=↑u) (r:zF K H S):zF K H' S:=λ a o h=>(r a o h).keep e λ u q=>k a u o h q
theorem zF.new {p:Addr}{u:HO}(hp:H p=Option.none) (r:zF K H S):zF K (upd H p u) S:=
 r.keep (Ext.new hp u) λ a v o _ q=>by rw[zW (uE q hp)];show q
theorem zF.ups {p:Addr}{u:HO}{o:O}(e:Ext H (upd H p u)) (hn:rS K (upd H p u) p o) (r:zF K H S):zF K (upd H p u) (ups S p o):=λ a o' h=>by
 by_cases ha:a=p
 .subst ha;rw[uW] at h;cases h;show hn
 .rw[uX ha] at h;show (r a o' h).keep e λ v q=>by rw[zW ha];show q
end
abbrev zX:=List (Option D)
def yK (K:Ac) (H:Hp) (L:zX) (B:St):Prop:=L.length=B.length/\∀ (i:Nat) (d:D),L[i]?=↑↑d->∃ v,B[i]?=↑↑v/\ze K H d v
theorem yK.ext {K:Ac}{H H':Hp}{L:zX}{B:St}(e:Ext H H') (r:yK K H L B):yK K H' L B:=#[r.1,λ i d h=>by
 let#[v,h1,h2]:=r.2 i d h;show#[v,h1,ze.ext e d h2]]
theorem yK.set {K:Ac}{H:Hp}{L:zX}{B:St}(i:Nat) {d:D}{v:V}(r:yK K H L B) (h:ze K H d v):yK K H (L.set i ↑d) (B.set i ↑v):=by
 exact#[by rw[DM,DM];show r.1,λ j c hc=>?_];rw[DG] at hc ⊢;by_cases hj:i=j
 .subst hj;rw[if_pos rfl] at hc ⊢;by_cases hl:i < L.length
  .rw[if_pos hl] at hc;rw[if_pos (by rw[<- r.1];show hl)];cases hc;show#[v,rfl,h]
  .rw[if_neg hl] at hc;cases hc
 .rw[if_neg hj] at hc ⊢;show r.2 j c hc
abbrev DK:=D->SS->Prop
abbrev zr:=zX->SS->DK->Prop
abbrev y4:=zX->SS->(Bool->SS->Prop)->Prop
abbrev yf:=zX->SS->(List D->SS->Prop)->Prop
def yc (t:zr):Prop:=∀ L S (Q Q':DK),(∀ d S',Q d S'->Q' d S')->t L S Q->t L S Q'
def wB (t:y4):Prop:=∀ L S (Q Q':Bool->SS->Prop),(∀ d S',Q d S'->Q' d S')->t L S Q->t L S Q'
def tK (t:yf):Prop:=∀ L S (Q Q':List D->SS->Prop),(∀ d S',Q d S'->Q' d S')->t L S Q->t L S Q'
def wz (K:Ac) (H:Hp) (Q:VK):DK:=λ d S'=>∀ v H',ze K H' d v->Ext H H'->zF K H' S'->Q v H'
def ot (K:Ac) (H:Hp) (Q:Bool->Hp->Prop):Bool->SS->Prop:=λ b S'=>∀ H',Ext H H'->zF K H' S'->Q b H'
def PZ (K:Ac) (H:Hp) (Q:List V->Hp->Prop):List D->SS->Prop:=λ ds S'=>∀ vs H',zk K H' ds vs->Ext H H'->zF K H' S'->Q vs H'
def vg (K:Ac) (H:Hp) (Q:St->Hp->Prop):zX->SS->Prop:=fun L S'=>∀ B H',yK K H' L B->Ext H H'->zF K H' S'->Q B H'
def wz.ext {K:Ac}{H H':Hp}{Q:VK}(e:Ext H H') {d:D}{S:SS}(h:wz K H Q d S):wz K H' Q d S:=λ v H2 r x q=>h v H2 r (e.trans x) q
def ot.ext {K:Ac}{H H':Hp}{Q:Bool->Hp->Prop}(e:Ext H H') {d:Bool}{S:SS}(h:ot K H Q d S):ot K H' Q d S:=λ H2 x q=>h H2 (e.trans x) q
def vg.ext {K:Ac}{H H':Hp}{Q:St->Hp->Prop}(e:Ext H H') {d:zX}{S:SS}(h:vg K H Q d S):vg K H' Q d S:=λ v H2 r x q=>h v H2 r (e.trans x) q
def zG (K:Ac) (t:zr):TE:=fun B H Q=>∃ L S,yK K H L B/\zF K H S/\t L S (wz K H Q)
def xX (K:Ac) (t:y4):TT:=fun B H Q=>∃ L S,yK K H L B/\zF K H S/\t L S (ot K H Q)
def wg (K:Ac) (t:yf):TA:=fun B H Q=>∃ L S,yK K H L B/\zF K H S/\t L S (PZ K H Q)
structure PD (X:Cx) (e:Expr) (t:zr):Prop where
 mo:yc t
 pe:PE X e (zG X.K t)
structure xg (X:Cx) (e:Expr) (t:y4):Prop where
 mo:wB t
 pt:PT X e (xX X.K t)
structure yX (X:Cx) (es:List Expr) (t:yf):Prop where
 mo:tK t
 pa:PA X es (wg X.K t)
def PE.imp {X:Cx}{e:Expr}{t t':TE}(h:PE X e t) (hi:∀ B H Q,t' B H Q->t B H Q):PE X e t':=λ EN s B H Q I q=>h EN s B H Q I (hi B H Q q)
def PT.imp {X:Cx}{e:Expr}{t t':TT}(h:PT X e t) (hi:∀ B H Q,t' B H Q->t B H Q):PT X e t':=λ EN s B H Q I q=>h EN s B H Q I (hi B H Q q)
def PA.imp {X:Cx}{e:List Expr}{t t':TA}(h:PA X e t) (hi:∀ B H Q,t' B H Q->t B H Q):PA X e t':=λ pos EN s B H Q I q=>h pos EN s B H Q I (hi B H Q q)
def PS.imp {X:Cx}{e:Stmt}{t t':TS}(h:PS X e t) (hi:∀ D B H,t' D B H->t D B H):PS X e t':=λ EN s B H Q I q=>h EN s B H Q I (hi Q B H q)
def xM.imp {X:Cx}{e:List Stmt}{t t':TS}(h:xM X e t) (hi:∀ D B H,t' D B H->t D B H):xM X e t':=λ EN s B H Q I q=>h EN s B H Q I (hi Q B H q)
section
variable {X:Cx}{K:Ac}
def zG.go {t:zr}{B:St}{H:Hp}{Q:VK}{L:zX}{S:SS}{R:DK}(mo:yc t) (r1:yK K H L B) (r2:zF K H S) (h:t L S R) (k:∀ d S' v H',R d S'->ze K H' d v->Ext H H'->zF K H' S'->Q v H'):zG K t B H Q:=
 #[L,S,r1,r2,mo L S _ _ (λ d S' q v H' a b c=>k d S' v H' q a b c) h]
def xX.go {t:y4}{B:St}{H:Hp}{Q:Bool->Hp->Prop}{L:zX}{S:SS}{R:Bool->SS->Prop}(mo:wB t) (r1:yK K H L B) (r2:zF K H S) (h:t L S R) (k:∀ d S' H',R d S'->Ext H H'->zF K H' S'->Q d H'):xX K t B H Q:=
 #[L,S,r1,r2,mo L S _ _ (λ d S' q H' b c=>k d S' H' q b c) h]
def wg.go {t:yf}{B:St}{H:Hp}{Q:List V->Hp->Prop}{L:zX}{S:SS}{R:List D->SS->Prop}(mo:tK t) (r1:yK K H L B) (r2:zF K H S) (h:t L S R) (k:∀ d S' v H',R d S'->zk K H' d v->Ext H H'->zF K H' S'->Q v H'):wg K t B H Q:=
 #[L,S,r1,r2,mo L S _ _ (λ d S' q v H' a b c=>k d S' v H' q a b c) h]
def ye (i:Nat):zr:=fun L S Q=>match L[i]? with
 | some ↑d=>Q d S
 | _=>False
def dC (d:D):zr:=λ _ S Q=>Q d S
def Vx (i:Nat) {x:Str}{pos:Pos}(h:PE X (.Name x pos) (kx i)):PD X (.Name x pos) (ye i):=by
 exact#[fun L S Q Q' hq h=>?_,PE.imp h fun B H Q hu=>?_]
 .unfold ye at h ⊢;split at h
  .show hq _ _ h
  .show h
 .let#[L,S,r1,r2,h]:=hu;unfold ye at h;split at h
  .rename_i d e;let#[v,h1,h2]:=r1.2 i d e;show#[v,h1,h v H h2 (Ext.refl H) r2]
  .show h.elim
def dC.mo (d:D):yc (dC d):=λ _ _ _ _ hq h=>hq _ _ h
def pJ {e:Expr}{d:D}{v:V}(h:PE X e (tC v)) (r:∀ H,ze X.K H d v):PD X e (dC d):=
 #[dC.mo d,PE.imp h λ _ H _ #[_,_,_,r2,h]=>h v H (r H) (Ext.refl H) r2]
def VX {i j pos}:PD X (.Constant (.int i) j pos) (dC (.int i)):=pJ W5 λ _=>by simp![ze]
def Uo {i j pos}:PD X (.Constant (.bool i) j pos) (dC (.bl i)):=pJ WG λ _=>by simp![ze]
def V7 {j pos}:PD X (.Constant .none j pos) (dC .zp):=pJ Wx λ _=>by simp![ze]
def V1 {x j pos}:PD X (.Constant (.str x) j pos) (dC (.str x)):=pJ Wt λ _=>by simp![ze]
abbrev yH:=D->D->SS->DK->Prop
def xq (f:yH):Prop:=∀ x y S (Q Q':DK),(∀ d S',Q d S'->Q' d S')->f x y S Q->f x y S Q'
def xm (K:Ac) (f:yH) (r:R2):Prop:=∀ x y d e H S Q,ze K H d x->ze K H e y->zF K H S->f d e S (wz K H Q)->r x y H Q
def yp (f:yH) (ta tb:zr):zr:=fun L S Q=>ta L S λ x S1=>tb L S1 λ y S2=>f x y S2 Q
def yp.mo {f:yH}{ta tb:zr}(hf:xq f) (ha:yc ta) (hb:yc tb):yc (yp f ta tb):=fun L S Q Q' hq h=>
 ha L S _ _ (λ x S1 h=>hb L S1 _ _ (λ y S2 h=>hf x y S2 _ _ hq h) h) h
def nv {f:yH}{r:R2}{ta tb:zr}(hr:xm K f r) (hf:xq f) (ha:yc ta) (hb:yc tb) {B:St}{H:Hp}{Q:VK}(h:zG K (yp f ta tb) B H Q):pz r (zG K ta) (zG K tb) B H Q:=by
 let#[L,S,r1,r2,h]:=h;exact zG.go ha r1 r2 h λ x S1 v H1 h1 q1 e1 p1=>?_;exact zG.go hb (r1.ext e1) p1 h1 λ y S2 w H2 h2 q2 e2 p2=>?_;show hr v w x y H2 S2 Q (ze.ext e2 x q1) q2 p2 (hf x y S2 _ _ (λ d S' z=>z.ext (e1.trans e2)) h2)
def qu {a b:Expr}{op:Operator}{pos:Pos}{f:yH}{r:R2}{ta tb:zr}(ho:ya X (binaryOp op) r) (hr:xm X.K f r) (hf:xq f) (ha:PD X a ta) (hb:PD X b tb):PD X (.BinOp a op b pos) (yp f ta tb):=
 #[yp.mo hf ha.mo hb.mo,PE.imp (Wu ho ha.pe hb.pe) λ _ _ _ h=>nv hr hf ha.mo hb.mo h]
def nW {a b:Expr}{op:CmpOp}{pos:Pos}{f:yH}{r:R2}{ta tb:zr}(ho:ya X (compareOp op) r) (hr:xm X.K f r) (hf:xq f) (ha:PD X a ta) (hb:PD X b tb) (hm:behindInMarks op b=false):PD X (.Compare a [op] [b] pos) (yp f ta tb):=
 #[yp.mo hf ha.mo hb.mo,PE.imp (WB ho ha.pe hb.pe hm) λ _ _ _ h=>nv hr hf ha.mo hb.mo h]
def vD (t:zr):y4:=fun L S Q=>t L S λ x S1=>match x with
 | .bl b=>Q b S1
 | _=>False
def vD.mo {t:zr}(h:yc t):wB (vD t):=fun L S Q Q' hq q=>h L S _ _ (λ d S' z=>by
 cases d <;> first
  | show hq _ _ z
  | show z) q
def t_ {a b:Expr}{op:CmpOp}{pos:Pos}{f:yH}{r:R2}{ta tb:zr}(ho:ya X (compareOp op) r) (hr:xm X.K f r) (hf:xq f) (ha:PD X a ta) (hb:PD X b tb) (hm:behindInMarks op b=false):xg X (.Compare a [op] [b] pos) (vD (yp f ta tb)):=by
 exact#[vD.mo (yp.mo hf ha.mo hb.mo),PT.imp (XF ho ha.pe hb.pe hm) fun B H Q h=>?_];let#[L,S,r1,r2,h]:=h;exact nv hr hf ha.mo hb.mo #[L,S,r1,r2,yp.mo hf ha.mo hb.mo L S _ _ (λ d S' z v H' a b c=>?_) h];cases d with
 | bl k=>simp![ze] at a;show#[k,a,z H' b c]
 | _=>show z.elim
def fI (C:Int->Int->Prop) (g:Int->Int->D):yH:=λ x y S Q=>match x,y with
 | .int i,.int j=>C i j/\Q (g i j) S
 | _,_=>False
def fI.mo {C:Int->Int->Prop}{g:Int->Int->D}:xq (fI C g):=λ x y S Q Q' hq h=>by
 unfold fI at h ⊢;split at h
 .show#[h.1,hq _ _ h.2]
 .show h.elim
def xb (g:Int->Int->D):yH:=λ x y S Q=>match x,y with
 | .int i,.int j=>Q (g i j) S
 | _,_=>False
def xb.mo {g:Int->Int->D}:xq (xb g):=λ x y S Q Q' hq h=>by
 unfold xb at h ⊢;split at h
 .show hq _ _ h
 .show h.elim
def fI.fits {C:Int->Int->Prop}{g:Int->Int->D}{g':Int->Int->V}(hg:∀ i j H,ze K H (g i j) (g' i j)):xm K (fI C g) (rI C g'):=λ x y d e H S Q h1 h2 h3 h=>by
 unfold fI at h;split at h
 .simp![ze] at h1 h2;show#[_,_,h1,h2,h.1,h.2 _ H (hg _ _ H) (Ext.refl H) h3]
 .show h.elim
def xb.fits {g:Int->Int->D}{g':Int->Int->V}(hg:∀ i j H,ze K H (g i j) (g' i j)):xm K (xb g) (wH g'):=λ x y d e H S Q h1 h2 h3 h=>by
 unfold xb at h;split at h
 .simp![ze] at h1 h2;show#[_,_,h1,h2,h _ H (hg _ _ H) (Ext.refl H) h3]
 .show h.elim
variable {a b:Expr}{ta tb:zr}{pos:Pos}
def V0 (ha:PD X a ta) (hb:PD X b tb):PD X (.BinOp a .Sub b pos) (yp (xb λ i j=>.int (i-j)) ta tb):=qu U0 (xb.fits λ _ _ _=>by simp![ze]) xb.mo ha hb
def VC (ha:PD X a ta) (hb:PD X b tb):PD X (.BinOp a .Mod b pos) (yp (fI (λ _ j=>0<j) λ i j=>.int (i%j)) ta tb):=qu U7 (fI.fits λ _ _ _=>by simp![ze]) fI.mo ha hb
def Ub (ha:PD X a ta) (hb:PD X b tb):PD X (.BinOp a .FloorDiv b pos) (yp (fI xt λ i j=>.int (i/j)) ta tb):=qu UC (fI.fits λ _ _ _=>by simp![ze]) fI.mo ha hb
def V4 (ha:PD X a ta) (hb:PD X b tb):PD X (.BinOp a .Pow b pos) (yp (fI qb λ i j=>.int (i ^ j.toNat)) ta tb):=qu U1 (fI.fits λ _ _ _=>by simp![ze]) fI.mo ha hb
abbrev jX:yH:=xb λ i j=>.bl (decide (i<=j))
abbrev jY:yH:=xb λ i j=>.bl (decide (j<i))
abbrev mN:yH:=xb λ i j=>.bl (decide (j<=i))
def fit_le:xm K jX (wH λ i j=>.bl (decide (i<=j))):=xb.fits λ _ _ _=>by simp![ze]
def Po:xm K jY (wH λ i j=>.bl (decide (j<i))):=xb.fits λ _ _ _=>by simp![ze]
def cQ:xm K mN (wH λ i j=>.bl (decide (j<=i))):=xb.fits λ _ _ _=>by simp![ze]
def Ua (ha:PD X a ta) (hb:PD X b tb):PD X (.Compare a [.GtE] [b] pos) (yp mN ta tb):=nW eg cQ xb.mo ha hb (uk _)
def WO (ha:PD X a ta) (hb:PD X b tb):xg X (.Compare a [.LtE] [b] pos) (vD (yp jX ta tb)):=t_ k_ fit_le xb.mo ha hb (uk _)
def WS (ha:PD X a ta) (hb:PD X b tb):xg X (.Compare a [.Gt] [b] pos) (vD (yp jY ta tb)):=t_ UB Po xb.mo ha hb (uk _)
def WT (ha:PD X a ta) (hb:PD X b tb):xg X (.Compare a [.GtE] [b] pos) (vD (yp mN ta tb)):=t_ eg cQ xb.mo ha hb (uk _)
end
section
variable {X:Cx}{K:Ac}{a b c:Expr}{ta tb:zr}{pos:Pos}
def o8 (ta tb:zr):zr:=fun L S Q=>ta L S λ x S1=>match x with
 | .bl k=>if k=true then tb L S1 Q else Q (.bl false) S1
 | _=>False
def oz (ta:zr):zr:=fun L S Q=>ta L S λ x S1=>match x with
 | .bl k=>Q (.bl (!k)) S1
 | _=>False
def wK {c:Prop} [Decidable c] {A B A' B':Prop}(h1:A->A') (h2:B->B') (h:if c then A else B):if c then A' else B':=by
 by_cases q:c
 .rw[if_pos q] at h ⊢;show h1 h
 .rw[if_neg q] at h ⊢;show h2 h
def o8.mo (ha:yc ta) (hb:yc tb):yc (o8 ta tb):=fun L S Q Q' hq h=>ha L S _ _ (λ x S1 z=>by
 cases x <;> first
  | show wK (hb L S1 _ _ hq) (hq _ _) z
  | show z) h
def oz.mo (ha:yc ta):yc (oz ta):=fun L S Q Q' hq h=>ha L S _ _ (λ x S1 z=>by
 cases x <;> first
  | show hq _ _ z
  | show z) h
def V5 {op} {t:zr}(h:PD X a t):PD X (.BoolOp op [a] pos) t:=#[h.mo,Wv h.pe]
variable {EU:List Expr}
theorem Us (ha:PD X a ta) (hb:PD X (.BoolOp .And (b::EU) pos) tb):PD X (.BoolOp .And (a::b::EU) pos) (o8 ta tb):=by
 exact#[o8.mo ha.mo hb.mo,PE.imp (WH ha.pe hb.pe) fun B H Q hu=>?_];let#[L,S,r1,r2,h]:=hu;exact zG.go ha.mo r1 r2 h λ x S1 v H1 h1 q1 e1 p1=>?_;cases x with
 | bl k=>
  simp![ze] at q1;exact#[k,q1,wK (λ z=>?_) (λ z=>?_) h1]
  .show zG.go hb.mo (r1.ext e1) p1 z λ y S2 w H2 h2 q2 e2 p2=>h2 w H2 q2 (e1.trans e2) p2
  .show z _ H1 (by simp![ze]) e1 p1
 | _=>show h1.elim
theorem V6 (ha:PD X a ta):PD X (.UnaryOp .Not a pos) (oz ta):=by
 exact#[oz.mo ha.mo,PE.imp (Ww ha.pe) fun B H Q hu=>?_];let#[L,S,r1,r2,h]:=hu;exact zG.go ha.mo r1 r2 h λ x S1 v H1 h1 q1 e1 p1=>?_;cases x with
 | bl k=>
  simp![ze] at q1;show#[k,q1,h1 _ H1 (by simp![ze]) e1 p1]
 | _=>show h1.elim
def oo (t u:y4):y4:=fun L S Q=>t L S λ k S1=>if k=true then u L S1 Q else Q false S1
def oj (t u:y4):y4:=fun L S Q=>t L S λ k S1=>if k=true then Q true S1 else u L S1 Q
def om (t:y4):y4:=fun L S Q=>t L S λ k S1=>Q (!k) S1
variable {t u:y4}
def oo.mo (h:wB t) (h':wB u):wB (oo t u):=fun L S _ _ hq z=>h L S _ _ (λ k S1 z=>wK (h' L S1 _ _ hq) (hq _ _) z) z
def oj.mo (h:wB t) (h':wB u):wB (oj t u):=fun L S _ _ hq z=>h L S _ _ (λ k S1 z=>wK (hq _ _) (h' L S1 _ _ hq) z) z
def om.mo (h:wB t):wB (om t):=fun L S _ _ hq z=>h L S _ _ (λ k S1 z=>hq _ _ z) z
structure tI (X:Cx) (e:Expr) (t:y4):Prop where
 mo:wB t
 pw:PW X e (xX X.K t)
def PW.imp {e:Expr}{t t':TT}(h:PW X e t) (hi:∀ B H Q,t' B H Q->t B H Q):PW X e t':=λ whole EN s B H Q I q=>h whole EN s B H Q I (hi B H Q q)
theorem tI.pt {e:Expr}{t:y4}(h:tI X e t):xg X e t:=#[h.mo,PW.pt h.pw]
def WJ (h:xg X a t):tI X (.BoolOp .And [a] pos) t:=#[h.mo,X9 h.pt]
def WI (h:xg X a t):tI X (.BoolOp .Or [a] pos) t:=#[h.mo,X7 h.pt]
def fW (ha:xg X a t) (hb:tI X (.BoolOp .And (b::EU) pos) u):tI X (.BoolOp .And (a::b::EU) pos) (oo t u):=by
 exact#[oo.mo ha.mo hb.mo,PW.imp (XA ha.pt hb.pw) fun B H Q hu=>?_];let#[L,S,r1,r2,h]:=hu;exact xX.go ha.mo r1 r2 h λ k S1 H1 h1 e1 p1=>wK (λ z=>?_) (λ z=>z H1 e1 p1) h1;show xX.go hb.mo (r1.ext e1) p1 z λ y S2 H2 h2 e2 p2=>h2 H2 (e1.trans e2) p2
def fV (ha:xg X a t) (hb:tI X (.BoolOp .Or (b::EU) pos) u):tI X (.BoolOp .Or (a::b::EU) pos) (oj t u):=by
 exact#[oj.mo ha.mo hb.mo,PW.imp (X8 ha.pt hb.pw) fun B H Q hu=>?_];let#[L,S,r1,r2,h]:=hu;exact xX.go ha.mo r1 r2 h λ k S1 H1 h1 e1 p1=>wK (λ z=>z H1 e1 p1) (λ z=>?_) h1;show xX.go hb.mo (r1.ext e1) p1 z λ y S2 H2 h2 e2 p2=>h2 H2 (e1.trans e2) p2
def WL (ha:xg X a t):xg X (.UnaryOp .Not a pos) (om t):=by
 exact#[om.mo ha.mo,PT.imp (XE ha.pt) fun B H Q hu=>?_];let#[L,S,r1,r2,h]:=hu;show xX.go ha.mo r1 r2 h λ k S1 H1 h1 e1 p1=>h1 H1 e1 p1
def o6 (t:y4) (ta tb:zr):zr:=fun L S Q=>t L S λ k S1=>if k=true then ta L S1 Q else tb L S1 Q
def o6.mo (h:wB t) (ha:yc ta) (hb:yc tb):yc (o6 t ta tb):=fun L S _ _ hq z=>h L S _ _ (λ k S1 z=>wK (ha L S1 _ _ hq) (hb L S1 _ _ hq) z) z
def VY (hc:xg X c t) (ha:PD X a ta) (hb:PD X b tb):PD X (.IfExp c a b pos) (o6 t ta tb):=by
 exact#[o6.mo hc.mo ha.mo hb.mo,PE.imp (W6 hc.pt ha.pe hb.pe) fun B H Q hu=>?_];let#[L,S,r1,r2,h]:=hu;exact xX.go hc.mo r1 r2 h λ k S1 H1 h1 e1 p1=>wK (λ z=>?_) (λ z=>?_) h1
 .show zG.go ha.mo (r1.ext e1) p1 z λ y S2 w H2 h2 q2 e2 p2=>h2 w H2 q2 (e1.trans e2) p2
 .show zG.go hb.mo (r1.ext e1) p1 z λ y S2 w H2 h2 q2 e2 p2=>h2 w H2 q2 (e1.trans e2) p2
def vt (d:D) (S:SS) (Q:Bool->SS->Prop):Prop:=match d with
 | .zp=>Q false S
 | .bl k=>Q k S
 | .int i=>Q (i != 0) S
 | .str x=>x.length<=sizeLine/\Q ((x.length:Int) != 0) S
 | .tup ds=>Q (!ds.isEmpty) S
 | .xw ds=>Q (!ds.isEmpty) S
 | .ref p=>match S p with
  | some (.lst ds)=>Q (!ds.isEmpty) S
  | some (.zU Ab)=>Q (!Ab.isEmpty) S
  | _=>False
 | .err _ _ _=>False
def bg (ta:zr):y4:=fun L S Q=>ta L S λ x S1=>vt x S1 Q
def vt.mo {d:D}{S:SS}{Q Q':Bool->SS->Prop}(hq:∀ k S',Q k S'->Q' k S') (h:vt d S Q):vt d S Q':=by
 cases d with
 | str x=>show#[h.1,hq _ _ h.2]
 | err _ _ _=>show h.elim
 | ref p=>
  unfold vt at h ⊢;dsimp only at h ⊢;split at h
  .show hq _ _ h
  .show hq _ _ h
  .show h
 | _=>show hq _ _ h
theorem zk.isEmpty {H:Hp}{ds:List D}{xs:List V}(h:zk K H ds xs):ds.isEmpty=xs.isEmpty:=by
 have:=h.length;cases ds <;> cases xs <;> simp_all
def N9 {α β:Type}{F:α->β->Prop}{xs:List α}{ys:List β}(h:Paired F xs ys):xs.isEmpty=ys.isEmpty:=by cases h <;> rfl
def vt.fits {H:Hp}{d:D}{v:V}{S:SS}{Q:Bool->Hp->Prop}(r:ze K H d v) (p:zF K H S) (h:vt d S (ot K H Q)):∃ k,iQ K v H k/\Q k H:=by
 cases d with
 | zp=>simp![ze] at r;subst r;show#[false,rfl,h H (.refl H) p]
 | bl k=>simp![ze] at r;subst r;show#[k,rfl,h H (.refl H) p]
 | int i=>simp![ze] at r;subst r;show#[_,rfl,h H (.refl H) p]
 | str x=>simp![ze] at r;subst r;show#[_,#[h.1,rfl],h.2 H (.refl H) p]
 | err _ _ _=>show h.elim
 | tup ds=>
  simp![ze] at r;let#[a,xs,rfl,r1,r2]:=r;show#[_,.inr (.inl #[xs,r1,by rw[r2.isEmpty]]),h H (.refl H) p]
 | xw ds=>
  simp![ze] at r;let#[a,xs,rfl,r1,r2]:=r;show#[_,.inl #[xs,r1.sq,by rw[r2.isEmpty]],h H (.refl H) p]
 | ref a=>
  simp![ze] at r;subst r;unfold vt at h;dsimp only at h;split at h
  .rename_i ds e;let#[xs,e1,r2]:=p a _ e;show#[_,.inl #[xs,zC.of e1,by rw[r2.isEmpty]],h H (.refl H) p]
  .rename_i Ab e;let#[xs,e1,r2]:=p a _ e;show#[_,.inr (.inr #[xs,e1,by rw[N9 r2]]),h H (.refl H) p]
  .show h.elim
def WK (ha:PD X a ta) (he:∀ whole,isTrue a X.env whole=(do let v <- whole;standAt a.pos;holding [v] (truthy v))):xg X a (bg ta):=by
 exact#[fun L S Q Q' hq h=>ha.mo L S _ _ (λ x S1 z=>vt.mo hq z) h,PT.imp (XD ha.pe he) fun B H Q hu=>?_];let#[L,S,r1,r2,h]:=hu;exact zG.go ha.mo r1 r2 h λ x S1 v H1 h1 q1 e1 p1=>?_;show vt.fits q1 p1 (vt.mo (λ k S' z=>z.ext e1) h1)
def mS:yf:=λ _ S Q=>Q [] S
def rH (te:zr) (tr:yf):yf:=fun L S Q=>te L S λ x S1=>tr L S1 λ xs S2=>Q (x::xs) S2
variable {e:Expr}{es:List Expr}{te:zr}{tA:yf}
def rH.mo (h:yc te) (h':tK tA):tK (rH te tA):=fun L S _ _ hq z=>h L S _ _ (λ x S1 z=>h' L S1 _ _ (λ xs S2 z=>hq _ _ z) z) z
def Vu:yX X [] mS:=#[λ _ _ _ _ hq h=>hq _ _ h,PA.imp qv fun B H Q #[_,_,_,r2,h]=>h [] H .nil (.refl H) r2]
def Vv (ha:PD X e te) (hr:yX X es tA) (hs:AG X e es):yX X (e::es) (rH te tA):=by
 exact#[rH.mo ha.mo hr.mo,PA.imp (ra ha.pe hr.pa hs) fun B H Q hu=>?_];let#[L,S,r1,r2,h]:=hu;exact zG.go ha.mo r1 r2 h λ x S1 v H1 h1 q1 e1 p1=>?_;exact wg.go hr.mo (r1.ext e1) p1 h1 λ xs S2 w H2 h2 q2 e2 p2=>?_;show h2 (v::w) H2 (.cons (ze.ext e2 x q1) q2) (e1.trans e2) p2
def bu (t:yf):zr:=fun L S Q=>t L S λ ds S1=>ds.length<=sizeLine/\Q (.tup ds) S1
def b9 (t:yf):zr:=fun L S Q=>t L S λ ds S1=>ds.length<=sizeLine/\∀ p,S1 p=none->Q (.ref p) (ups S1 p (.lst ds))
def Vz {k} (h:yX X es tA):PD X (.Tuple es k pos) (bu tA):=by
 exact#[fun L S _ _ hq z=>h.mo L S _ _ (λ ds S1 z=>#[z.1,hq _ _ z.2]) z,PE.imp (Ws h.pa) fun B H Q hu=>?_];let#[L,S,r1,r2,h']:=hu;exact wg.go h.mo r1 r2 h' λ ds S1 xs H1 h1 q1 e1 p1=>#[by rw[<- q1.length];show h1.1,λ p hp=>?_];exact h1.2 _ _ ?_ (e1.trans (.new hp _)) (p1.new hp);simp![ze];show#[p,xs,rfl,zN.of y6,zk.ext (.new hp _) ds q1]
theorem VM (h:yX X es tA):PD X (.List es pos) (b9 tA):=by
 exact#[fun L S _ _ hq z=>h.mo L S _ _ (λ ds S1 z=>#[z.1,λ p hp=>hq _ _ (z.2 p hp)]) z,PE.imp (W2 h.pa) fun B H Q hu=>?_];let#[L,S,r1,r2,h']:=hu;exact wg.go h.mo r1 r2 h' λ ds S1 xs H1 h1 q1 e1 p1=>#[by rw[<- q1.length];show h1.1,λ p hp=>?_];exact h1.2 p (p1.none hp) _ _ (by simp![ze]) (e1.trans (.new hp _)) ?_;show p1.ups (.new hp _) #[xs,y6,zk.ext (.new hp _) ds q1]
def x_:yH:=λ x y S Q=>match x,y with
 | .tup ds,.int i=>match zT ds i with
  | some d=>Q d S
  | none=>False
 | .xw ds,.int i=>match zT ds i with
  | some d=>Q d S
  | none=>False
 | .ref p,.int i=>match S p with
  | some (.lst ds)=>match zT ds i with
   | some d=>Q d S
   | none=>False
  | _=>False
 | _,_=>False
def x_.mo:xq x_:=λ x y S Q Q' hq h=>by
 unfold x_ at h ⊢;split at h
 .skip
  split at h
  .show hq _ _ h
  .show h
 .skip
  split at h
  .show hq _ _ h
  .show h
 .skip
  split at h
  .skip
   split at h
   .show hq _ _ h
   .show h
  .show h.elim
 .show h.elim
theorem zk.zT {H:Hp}{ds:List D}{xs:List V}{i:Int}{d:D}(h:zk K H ds xs) (e:L2.zT ds i=↑d):∃ x,L2.zT xs i=↑x/\ze K H d x:=by
 unfold L2.zT at e ⊢;rw[h.length] at e;cases q:xZ xs.length i with
 | none=>rw[q] at e;cases e
 | some j=>
  rw[q] at e;show h.get e
def x_.fits:xm K x_ (fE K):=λ x y d e H S Q h1 h2 h3 h=>by
 unfold x_ at h;split at h
 .split at h
  .rename_i q;simp![ze] at h1 h2;let#[a,xs,rfl,r1,r2]:=h1;let#[x',e1,e2]:=r2.zT q;show .inr (.inl #[a,xs,_,x',rfl,h2,r1,e1,h x' H e2 (.refl H) h3])
  .show h.elim
 .split at h
  .rename_i q;simp![ze] at h1 h2;let#[a,xs,rfl,r1,r2]:=h1;let#[x',e1,e2]:=r2.zT q;show .inl #[a,xs,_,x',rfl,h2,r1.sq,e1,h x' H e2 (.refl H) h3]
  .show h.elim
 .split at h
  .rename_i q0;split at h
   .rename_i q;simp![ze] at h1 h2;subst h1;let#[xs,r1,r2]:=h3 _ _ q0;let#[x',e1,e2]:=r2.zT q;show .inl #[_,xs,_,x',rfl,h2,zC.of r1,e1,h x' H e2 (.refl H) h3]
   .show h.elim
  .show h.elim
 .show h.elim
def VQ (ha:PD X a ta) (hb:PD X b tb) (hs:aG b):PD X (.Subscript a b pos) (yp x_ ta tb):=
 #[yp.mo x_.mo ha.mo hb.mo,PE.imp (W4 Qr ha.pe hb.pe hs) λ _ _ _ h=>nv x_.fits x_.mo ha.mo hb.mo h]
abbrev xf:=List D->SS->DK->Prop
def wV (f:xf):Prop:=∀ ds S (Q Q':DK),(∀ d S',Q d S'->Q' d S')->f ds S Q->f ds S Q'
def vI (K:Ac) (f:xf) (r:List V->Hp->VK->Prop):Prop:=∀ xs ds H S Q,zk K H ds xs->zF K H S->f ds S (wz K H Q)->r xs H Q
def xc (f:xf) (t:yf):zr:=fun L S Q=>t L S λ ds S1=>f ds S1 Q
def xc.mo {f:xf}(hf:wV f) (h:tK tA):yc (xc f tA):=fun L S _ _ hq z=>h L S _ _ (λ ds S1 z=>hf ds S1 _ _ hq z) z
def gG {f:xf}{r:List V->Hp->VK->Prop}(hf:wV f) (hr:vI K f r) (h:tK tA) {B:St}{H:Hp}{Q:VK}(hu:zG K (xc f tA) B H Q):nG r (wg K tA) B H Q:=by
 let#[L,S,r1,r2,h']:=hu;exact wg.go h r1 r2 h' λ ds S1 xs H1 h1 q1 e1 p1=>?_;show hr xs ds H1 S1 Q q1 p1 (hf ds S1 _ _ (λ d S' z=>z.ext e1) h1)
def vO {f:xf}{r:List V->Hp->VK->Prop}{e:Expr}(h:PE X e (nG r (wg X.K tA))) (hf:wV f) (hr:vI X.K f r) (ha:tK tA):PD X e (xc f tA):=
 #[xc.mo hf ha,PE.imp h λ _ _ _ hu=>gG hf hr ha hu]
def zH (d:D) (S:SS):Option (List D):=match d with
 | .tup ds=>↑ds
 | .xw ds=>↑ds
 | .ref p=>match S p with
  | some (.lst ds)=>↑ds
  | _=>none
 | _=>none
theorem zH.sq {H:Hp}{S:SS}{d:D}{v:V}{ds:List D}(r:ze K H d v) (p:zF K H S) (e:zH d S=↑ds):∃ a xs,v=.ref a/\(zC K H a xs\/zN K H a xs)/\zk K H ds xs:=by
 unfold zH at e;split at e
 .cases e;simp![ze] at r;let#[a,xs,h1,h2,h3]:=r;show#[a,xs,h1,.inr h2,h3]
 .cases e;simp![ze] at r;let#[a,xs,h1,h2,h3]:=r;show#[a,xs,h1,.inl h2.sq,h3]
 .split at e
  .rename_i q;cases e;simp![ze] at r;subst r;let#[xs,h1,h2]:=p _ _ q;show#[_,xs,rfl,.inl (zC.of h1),h2]
  .cases e
 .cases e
def zk.one {H:Hp}{d:D}{xs:List V}(h:zk K H [d] xs):∃ x,xs=[x]/\ze K H d x:=by
 simp![zk] at h;let#[x,r,rfl,h2,rfl]:=h;show#[x,rfl,h2]
def zk.two {H:Hp}{d d':D}{xs:List V}(h:zk K H [d,d'] xs):∃ x y,xs=[x,y]/\ze K H d x/\ze K H d' y:=by
 simp![zk] at h;let#[x,r,rfl,h2,y,r',rfl,h3,rfl]:=h;show#[x,y,rfl,h2,h3]
def vW:xf:=λ ds S Q=>match ds with
 | [d]=>match zH d S with
  | some ds=>Q (.int ds.length) S
  | none=>match d with
   | .str z=>z.length<=sizeLine/\Q (.int z.length) S
   | _=>False
 | _=>False
def vW.mo:wV vW:=λ ds S Q Q' hq h=>by
 unfold vW at h ⊢;split at h
 .skip
  split at h
  .show hq _ _ h
  .split at h
   .show#[h.1,hq _ _ h.2]
   .show h.elim
 .show h.elim
abbrev X5 (K:Ac):List V->Hp->VK->Prop:=λ xs H Q=>(∃ p ys,xs=[.ref p]/\(zC K H p ys\/zN K H p ys)/\Q (.int ys.length) H)\/(∃ z,xs=[.str z]/\z.length<=sizeLine/\Q (.int z.length) H)
def vW.fits:vI K vW (X5 K):=λ xs ds H S Q h0 h2 h=>by
 unfold vW at h;split at h
 .let#[x,hx,h1]:=h0.one;subst hx;split at h
  .rename_i e;let#[a,ys,rfl,q,r]:=zH.sq h1 h2 e;exact .inl #[a,ys,rfl,q,?_];rw[<- r.length];show h _ H (by simp![ze]) (.refl H) h2
  .split at h
   .simp![ze] at h1;subst h1;show .inr #[_,rfl,h.1,h.2 _ H (by simp![ze]) (.refl H) h2]
   .show h.elim
 .show h.elim
def vV:xf:=λ ds S Q=>match ds with
 | [d]=>match zH d S with
  | some ds=>∀ p,S p=none->Q (.ref p) (ups S p (.lst ds))
  | none=>False
 | _=>False
def vV.mo:wV vV:=λ ds S Q Q' hq h=>by
 unfold vV at h ⊢;split at h
 .skip
  split at h
  .show λ p hp=>hq _ _ (h p hp)
  .show h.elim
 .show h.elim
def vV.fits:vI K vV (λ xs H Q=>∃ p ys,xs=[.ref p]/\(zC K H p ys\/zN K H p ys)/\∀ l,H l=none->Q (.ref l) (upd H l (.lst ys))):=λ xs ds H S Q h0 h2 h=>by
 unfold vV at h;split at h
 .let#[x,hx,h1]:=h0.one;subst hx;split at h
  .rename_i e;let#[a,ys,rfl,q,r]:=zH.sq h1 h2 e;exact#[a,ys,rfl,q,λ l hl=>?_];show h l (h2.none hl) _ _ (by simp![ze]) (.new hl _) (h2.ups (.new hl _) #[ys,y6,zk.ext (.new hl _) _ r])
  .show h.elim
 .show h.elim
def vT:xf:=λ ds S Q=>match ds with
 | [.tup ds]=>Q (.tup ds) S
 | [.xw ds]=>Q (.tup ds) S
 | [.ref p]=>match S p with
  | some (.lst ds)=>Q (.tup ds) S
  | _=>False
 | _=>False
def vT.mo:wV vT:=λ ds S Q Q' hq h=>by
 unfold vT at h ⊢;split at h
 .show hq _ _ h
 .show hq _ _ h
 .skip
  split at h
  .show hq _ _ h
  .show h.elim
 .show h.elim
def vT.fits:vI K vT (λ xs H Q=>∃ p ys,xs=[.ref p]/\((zC K H p ys/\∀ l,H l=none->Q (.ref l) (upd H l (.tup ys)))\/(zN K H p ys/\Q (.ref p) H))):=λ xs ds H S Q h0 h2 h=>by
 unfold vT at h;split at h
 .let#[x,hx,h1]:=h0.one;subst hx;have GC:=h1;simp![ze] at h1;let#[a,xs,rfl,r1,r2]:=h1;show#[a,xs,rfl,.inr #[r1,h _ H GC (.refl H) h2]]
 .let#[x,hx,h1]:=h0.one;subst hx;simp![ze] at h1;let#[a,xs,rfl,r1,r2]:=h1;exact#[a,xs,rfl,.inl #[r1.sq,λ l hl=>h _ _ ?_ (.new hl _) (h2.new hl)]];simp![ze];show#[l,xs,rfl,zN.of y6,zk.ext (.new hl _) _ r2]
 .let#[x,hx,h1]:=h0.one;subst hx;split at h
  .rename_i e;simp![ze] at h1;subst h1;let#[xs,r1,r2]:=h2 _ _ e;exact#[_,xs,rfl,.inl #[zC.of r1,λ l hl=>h _ _ ?_ (.new hl _) (h2.new hl)]];simp![ze];show#[l,xs,rfl,zN.of y6,zk.ext (.new hl _) _ r2]
  .show h.elim
 .show h.elim
def vA (g:Int->Int->D):xf:=λ ds S Q=>match ds with
 | [.int i,.int j]=>Q (g i j) S
 | _=>False
def vA.mo {g:Int->Int->D}:wV (vA g):=λ ds S Q Q' hq h=>by
 unfold vA at h ⊢;split at h
 .show hq _ _ h
 .show h.elim
def vA.fits {g:Int->Int->D}{g':Int->Int->V}(hg:∀ i j H,ze K H (g i j) (g' i j)):vI K (vA g) (λ xs H Q=>∃ i j,xs=[.int i,.int j]/\Q (g' i j) H):=λ xs ds H S Q h0 h2 h=>by
 unfold vA at h;split at h
 .let#[x,y,hx,h1,h3]:=h0.two;subst hx;simp![ze] at h1 h3;subst h1 h3;show#[_,_,rfl,h _ H (hg _ _ H) (.refl H) h2]
 .show h.elim
def zaf:yH:=λ x y S Q=>match x,y with
 | .ref p,.ref q=>match S p,S q with
  | some (.lst ds),↑(.lst es)=>ds.length+es.length<=sizeLine/\∀ r,S r=none->Q (.ref r) (ups S r (.lst (ds++es)))
  | _,_=>False
 | _,_=>False
def sI (to te:zr):zr:=fun L S Q=>to L S λ x S1=>match x with
 | .ref p=>(∃ ds,S1 p=↑(.lst ds))/\te L S1 λ y S2=>match S2 p with
  | some (.lst ds)=>ds.length<sizeLine/\Q .zp (ups S2 p (.lst (ds++[y])))
  | _=>False
 | _=>False
def sI.mo {to te:zr}(h:yc to) (h':yc te):yc (sI to te):=fun L S Q Q' hq z=>h L S _ _ (λ x S1 z=>by
 cases x with
 | ref p=>
  exact#[z.1,h' L S1 _ _ (λ y S2 w=>?_) z.2];split at w
  .show#[w.1,hq _ _ w.2]
  .show w.elim
 | _=>show z) z
theorem Uq {o e:Expr}{to te:zr}{e0:Expr}(Ep:PE X e0 (k7 X.K "list" fL (zG X.K to) (k6 (zG X.K te) ky))) (h:yc to) (h':yc te):PD X e0 (sI to te):=by
 exact#[sI.mo h h',PE.imp Ep fun B H Q hu=>?_];let#[L,S,r1,r2,z]:=hu;exact zG.go h r1 r2 z λ x S1 v H1 h1 q1 e1 p1=>?_;cases x with
 | ref p=>
  let#[#[ds,hd],h1]:=h1;simp![ze] at q1;subst q1;let#[xs,g1,g2]:=p1 _ _ hd;exact#[.inl #[rfl,xs,zC.of g1],?_];exact zG.go h' (r1.ext e1) p1 h1 λ y S2 w H2 h2 q2 e2 p2=>?_;split at h2
  .rename_i GU e3;let#[E6,g3,g4]:=p2 _ _ e3;exact#[p,E6,w,rfl,rfl,g3,by rw[<- g4.length];show h2.1,?_];have e4:Ext H2 (upd H2 p (.lst (E6++[w]))):=.lst g3 _;show h2.2 _ _ (by simp![ze]) ((e1.trans e2).trans e4) (p2.ups e4 #[_,y6,zk.ext e4 _ (g4.snoc q2)])
  .show h2.elim
 | _=>show h1.elim
end
structure sT where
 nx:zX->SS->Prop
 rt:DK
 bk:zX->SS->Prop:=λ _ _=>False
 ct:zX->SS->Prop:=λ _ _=>False
abbrev y8:=sT->zX->SS->Prop
structure sT.Le (E E':sT):Prop where
 nx:∀ L S,E.nx L S->E'.nx L S
 rt:∀ d S,E.rt d S->E'.rt d S
 bk:∀ L S,E.bk L S->E'.bk L S
 ct:∀ L S,E.ct L S->E'.ct L S
def uT (t:y8):Prop:=∀ E E' L S,sT.Le E E'->t E L S->t E' L S
def uN (K:Ac) (H:Hp) (D:Ends):sT:=#[vg K H D.nx,wz K H D.rt,vg K H D.bk,vg K H D.ct]
theorem uN.ext {K:Ac}{H H':Hp}{D:Ends}(e:Ext H H'):(uN K H D).Le (uN K H' D):=#[λ _ _ h=>vg.ext e h,λ _ _ h=>wz.ext e h,λ _ _ h=>vg.ext e h,λ _ _ h=>vg.ext e h]
def gC (K:Ac) (t:y8):TS:=λ D B H=>∃ L S,yK K H L B/\zF K H S/\t (uN K H D) L S
structure xD (X:Cx) (st:Stmt) (t:y8):Prop where
 mo:uT t
 ps:PS X st (gC X.K t)
structure wQ (X:Cx) (st:List Stmt) (t:y8):Prop where
 mo:uT t
 ps:xM X st (gC X.K t)
section
variable {X:Cx}{K:Ac}{st:Stmt}{EU:List Stmt}{t u:y8}{pos:Pos}{e:Expr}{te:zr}
def bw:y8:=λ E L S=>E.nx L S
def oy (t u:y8):y8:=λ E L S=>t { E with nx:=u E } L S
def oy.mo (h:uT t) (h':uT u):uT (oy t u):=λ E E' L S hE z=>h { E with nx:=u E } { E' with nx:=u E' } L S #[fun L S q=>h' E E' L S hE q,hE.rt,hE.bk,hE.ct] z
def WW:wQ X [] bw:=#[λ _ _ _ _ hE h=>hE.nx _ _ h,xM.imp XH λ D B H #[L,S,r1,r2,h]=>h B H r1 (.refl H) r2]
def WV (h:xD X st t):wQ X [st] t:=#[h.mo,XG h.ps]
def WX (h:xD X st t) (h':wQ X EU u):wQ X (st::EU) (oy t u):=by
 exact#[oy.mo h.mo h'.mo,xM.imp (XI h.ps h'.ps) λ D B H hu=>?_];let#[L,S,r1,r2,z]:=hu;exact#[L,S,r1,r2,h.mo { uN X.K H D with nx:=u (uN X.K H D) } _ L S #[fun L' S' q B' H' q1 q2 q3=>?_,λ _ _ q=>q,λ _ _ q=>q,λ _ _ q=>q] z];show#[L',S',q1,q3,h'.mo _ _ L' S' (uN.ext q2) q]
def mT (te:zr):y8:=λ E L S=>te L S λ _ S1=>E.nx L S1
def Vg (he:PD X e te) (hs:swapsWith e none pos.line X.env=pure false):xD X (.Expr e pos) (mT te):=by
 exact#[λ E E' L S hE z=>he.mo L S _ _ (λ _ _ q=>hE.nx _ _ q) z,PS.imp (XT he.pe hs) λ D B H hu=>?_];let#[L,S,r1,r2,z]:=hu;show zG.go he.mo r1 r2 z λ x S1 v H1 h1 q1 e1 p1=>h1 B H1 (r1.ext e1) e1 p1
def iq (te:zr):y8:=λ E L S=>te L S E.rt
def W_ (he:PD X e te):xD X (.Return ↑e pos) (iq te):=by
 exact#[λ E E' L S hE z=>he.mo L S _ _ (λ _ _ q=>hE.rt _ _ q) z,PS.imp (XO he.pe) λ D B H hu=>?_];let#[L,S,r1,r2,z]:=hu;show zG.go he.mo r1 r2 z λ x S1 v H1 h1 q1 e1 p1=>h1 v H1 q1 e1 p1
def bB (c:y4) (t u:y8):y8:=λ E L S=>c L S λ k S1=>if k=true then t E L S1 else u E L S1
def Ve {c:Expr}{p q:List Stmt}{tc:y4}(hc:xg X c tc) (h:wQ X p t) (h':wQ X q u):xD X (.If c p q pos) (bB tc t u):=by
 exact#[λ E E' L S hE z=>hc.mo L S _ _ (λ k S1 z=>wK (h.mo _ _ L S1 hE) (h'.mo _ _ L S1 hE) z) z,PS.imp (XR hc.pt h.ps h'.ps) λ D B H hu=>?_];let#[L,S,r1,r2,z]:=hu;exact xX.go hc.mo r1 r2 z λ k S1 H1 h1 e1 p1=>wK (λ z=>?_) (λ z=>?_) h1
 .show#[L,S1,r1.ext e1,p1,h.mo _ _ L S1 (uN.ext e1) z]
 .show#[L,S1,r1.ext e1,p1,h'.mo _ _ L S1 (uN.ext e1) z]
abbrev xk:=D->zX->SS->(zX->SS->Prop)->Prop
abbrev xK:=List D->zX->SS->(zX->SS->Prop)->Prop
def lQ (t:xk):Prop:=∀ d L S (Q Q':zX->SS->Prop),(∀ L S,Q L S->Q' L S)->t d L S Q->t d L S Q'
def aL (t:xK):Prop:=∀ d L S (Q Q':zX->SS->Prop),(∀ L S,Q L S->Q' L S)->t d L S Q->t d L S Q'
def ny (K:Ac) (t:xk):TG:=λ v B H Q=>∃ d L S,ze K H d v/\yK K H L B/\zF K H S/\t d L S (vg K H Q)
def gF (K:Ac) (t:xK):tG:=λ v B H Q=>∃ d L S,zk K H d v/\yK K H L B/\zF K H S/\t d L S (vg K H Q)
structure vF (X:Cx) (e:Expr) (t:xk):Prop where
 mo:lQ t
 pg:PG X e (ny X.K t)
structure rV (X:Cx) (es:List Expr) (t:xK):Prop where
 mo:aL t
 pg:uS X es (gF X.K t)
def PG.imp {e:Expr}{t t':TG}(h:PG X e t) (hi:∀ v B H Q,t' v B H Q->t v B H Q):PG X e t':=λ EN s B H v w Q I r q=>h EN s B H v w Q I r (hi v B H Q q)
def uS.imp {e:List Expr}{t t':tG}(h:uS X e t) (hi:∀ v B H Q,t' v B H Q->t v B H Q):uS X e t':=λ EN s B H v w Q I r q=>h EN s B H v w Q I r (hi v B H Q q)
def hName (i:Nat):xk:=λ d L S Q=>Q (L.set i ↑d) S
def Vr {e:Expr}{i:Nat}(h:PG X e (qK i)):vF X e (hName i):=
 #[λ _ _ _ _ _ hq z=>hq _ _ z,PG.imp h λ v B H Q #[d,L,S,r1,r2,r3,z]=>z _ H (r2.set i r1) (.refl H) r3]
def jD:xK:=λ ds L S Q=>ds=[]/\Q L S
def jE (t:xk) (u:xK):xK:=λ ds L S Q=>match ds with
 | d::r=>t d L S fun L' S'=>u r L' S' Q
 | []=>False
def Vn:rV X [] jD:=by
 exact#[λ _ _ _ _ _ hq z=>#[z.1,hq _ _ z.2],uS.imp We λ v B H Q hu=>?_];let#[d,L,S,r1,r2,r3,z1,z2]:=hu;subst z1;simp![zk] at r1;show#[r1,z2 B H r2 (.refl H) r3]
def Vo {e:Expr}{es:List Expr}{t:xk}{u:xK}(h:vF X e t) (h':rV X es u) (hs:(assignEach (e::es) X.env).map (·.2)=assign e X.env::(assignEach es X.env).map (·.2)):rV X (e::es) (jE t u):=by
 exact#[λ ds L S Q Q' hq z=>?_,uS.imp (Wf h.pg h'.pg hs) λ v B H Q hu=>?_]
 .cases ds with
  | nil=>show z
  | cons d r=>show h.mo d L S _ _ (fun L' S' z=>h'.mo r L' S' _ _ hq z) z
 .let#[ds,L,S,r1,r2,r3,z]:=hu;cases ds with
  | nil=>show z.elim
  | cons d r=>
   simp![zk] at r1;let#[x,xs,rfl,q1,q2]:=r1;exact#[x,xs,rfl,d,L,S,q1,r2,r3,h.mo d L S _ _ (fun L' S' z B' H' g1 g2 g3=>?_) z];show#[r,L',S',zk.ext g2 r q2,g1,g3,h'.mo r L' S' _ _ (fun L2 S2 z2=>vg.ext g2 z2) z]
def rD (n:Nat) (t:xK):xk:=λ d L S Q=>match d with
 | .tup ds=>ds.length=n/\t ds L S Q
 | _=>False
def Vp {e:Expr}{n:Nat}{t:xK}(h:PG X e (cK X.K n (gF X.K t))) (hm:aL t):vF X e (rD n t):=by
 exact#[λ d L S Q Q' hq z=>?_,PG.imp h λ v B H Q hu=>?_]
 .cases d with
  | tup ds=>show#[z.1,hm ds L S _ _ hq z.2]
  | _=>show z
 .let#[d,L,S,r1,r2,r3,z]:=hu;cases d with
  | tup ds=>
   simp![ze] at r1;let#[a,xs,rfl,q1,q2]:=r1;show#[a,xs,rfl,q1,by rw[<- q2.length];show z.1,ds,L,S,q2,r2,r3,z.2]
  | _=>show z.elim
def v_ (te:zr) (g:xk):y8:=λ E L S=>te L S λ x S1=>g x L S1 E.nx
def v_.mo {g:xk}(h:yc te) (h':lQ g):uT (v_ te g):=λ E E' L S hE z=>h L S _ _ (λ x S1 q=>h' x L S1 _ _ (fun L S q=>hE.nx _ _ q) q) z
def WZ {e0:Stmt}{i:Nat}(h:PS X e0 (nH (zG X.K te) (qK i))) (hm:yc te):xD X e0 (v_ te (hName i)):=by
 exact#[v_.mo hm λ _ _ _ _ _ hq z=>hq _ _ z,PS.imp h λ D B H hu=>?_];let#[L,S,r1,r2,z]:=hu;exact zG.go hm r1 r2 z λ x S1 v H1 h1 q1 e1 p1=>?_;show h1 _ H1 ((r1.ext e1).set i q1) e1 p1
end
structure ni where
 items:List D
 keep:SS->Prop
abbrev wc:=zX->SS->(ni->SS->Prop)->Prop
def lP (t:wc):Prop:=∀ L S (Q Q':ni->SS->Prop),(∀ I S',Q I S'->Q' I S')->t L S Q->t L S Q'
def iW (K:Ac) (H1:Hp) (J:It) (I:ni):Prop:=∀ (i:Nat) (H:Hp) (S:SS),Ext H1 H->zF K H S->I.keep S->
 (∀ d,I.items[i]?=↑d->J.go i H/\∀ x H',J.qc i H x H'->Ext H H'/\zF K H' S/\ze K H' d x)/\(I.items.length<=i->J.stop i H)
def P_ (K:Ac) (H:Hp) (R:It->Hp->Prop):ni->SS->Prop:=λ I S1=>∀ J H1,Ext H H1->zF K H1 S1->iW K H1 J I->R J H1
def we (K:Ac) (t:wc):TI:=fun B H R=>∃ L S,yK K H L B/\zF K H S/\t L S (P_ K H R)
structure u5 (X:Cx) (tg iter:Expr) (t:wc):Prop where
 mo:lP t
 pi:PI X tg iter (we X.K t)
def PI.imp {X:Cx}{tg e:Expr}{t t':TI}(h:PI X tg e t) (hi:∀ B H Q,t' B H Q->t B H Q):PI X tg e t':=λ EN s B H Q I q=>h EN s B H Q I (hi B H Q q)
section
variable {X:Cx}{K:Ac}{tg e:Expr}{pos:Pos}
theorem zk.at {H:Hp}{ds:List D}{xs:List V}{i:Nat}{d:D}{x:V}(r:zk K H ds xs) (h1:ds[i]?=↑d) (h2:xs[i]?=↑x):ze K H d x:=by
 let#[y,e1,e2]:=r.get h1;rw[h2] at e1;cases e1;show e2
def vv (lo:Int) (n:Nat):List D:=(List.range n).map λ(k:Nat)=>D.int (lo+(k:Int))
def X0 {lo:Int}{n i:Nat}{d:D}(h:(vv lo n)[i]?=↑d):i<n/\d=.int (lo+(i:Int)):=by
 unfold vv at h;rw[AH] at h;cases q:(List.range n)[i]? with
 | none=>rw[q] at h;cases h
 | some j=>
  rw[q] at h;let#[h1,h2]:=AX.mp q;rw[BR] at h1;rw[D5] at h2;subst h2;cases h;show#[h1,rfl]
def Xz (lo:Int) (n:Nat):(vv lo n).length=n:=by unfold vv;rw[AA,BR]
def iW.range {H1:Hp}{lo:Int}{n:Nat}:iW K H1 (lR lo n) #[vv lo n,λ _=>True]:=λ i H S _ x2 _=>by
 exact#[λ d hd=>?_,λ hl=>by rw[show (ni.mk (vv lo n) λ _=>True).items=vv lo n from rfl,Xz] at hl;show hl];let#[h1,rfl]:=X0 hd;exact#[h1,λ x H' q=>?_];let#[rfl,rfl]:=q;show#[.refl _,x2,by simp![ze]]
def j7 (t:yf):wc:=fun L S R=>t L S λ ds S1=>match ds with
 | [.int j]=>(-(2 ^ 62)<=j/\j<2 ^ 62)/\R #[vv 0 j.toNat,λ _=>True] S1
 | _=>False
variable {tA:yf}
def Vl (h:PI X tg e (cA (wg X.K tA))) (hm:tK tA):u5 X tg e (j7 tA):=by
 exact#[fun L S Q Q' hq z=>hm L S _ _ (λ ds S1 z=>?_) z,PI.imp h fun B H R hu=>?_]
 .split at z
  .show#[z.1,hq _ _ z.2]
  .show z.elim
 .let#[L,S,r1,r2,z]:=hu;exact wg.go hm r1 r2 z λ ds S1 xs H1 h1 q1 e1 p1=>?_;split at h1
  .let#[x,rfl,q]:=q1.one;simp![ze] at q;subst q;show#[_,rfl,h1.1.1,h1.1.2,h1.2 _ H1 e1 p1 .range]
  .show h1.elim
def o7 (ti:wc) (g:xk) (tb:y8):y8:=λ E L S=>ti L S λ I S1=>∃ W:Nat->zX->SS->Prop,W 0 L S1/\(∀ i L S,W i L S->I.keep S)/\
 (∀ i d L S,I.items[i]?=↑d->W i L S->g d L S fun L2 S2=>tb { E with nx:=W (i+1),ct:=W (i+1),bk:=E.nx } L2 S2)/\∀ L S,W I.items.length L S->E.nx L S
def o7.mo {ti:wc}{g:xk}{tb:y8}(hi:lP ti) (hg:lQ g) (hb:uT tb):uT (o7 ti g tb):=λ E E' L S hE z=>hi L S _ _ (λ I S1 #[W,w0,wk,ws,wd]=>by
 exact#[W,w0,wk,λ i d L S hd hw=>hg d L S _ _ (fun L2 S2 z=>hb { E with nx:=W (i+1),ct:=W (i+1),bk:=E.nx } { E' with nx:=W (i+1),ct:=W (i+1),bk:=E'.nx } L2 S2 #[λ _ _ q=>q,hE.rt,hE.nx,λ _ _ q=>q] z) (ws i d L S hd hw),fun L S q=>hE.nx _ _ (wd L S q)]) z
def Vf {iter:Expr}{body:List Stmt}{ti:wc}{g:xk}{tb:y8}(hp:PassesOwn (model X.prog X.w) X.A X.env X.xe) (hc:X.calm=true) (hi:u5 X tg iter ti) (hg:vF X tg g) (hb:wQ X body tb)
  (hs:∀ x,foldedSetIterable iter X.env x=pure x):xD X (.For tg iter body [] pos) (o7 ti g tb):=by
 exact#[o7.mo hi.mo hg.mo hb.mo,PS.imp (XS hp hc hi.pi hg.pg hb.ps hs) λ D B H hu=>?_];let#[L,S,r1,r2,z]:=hu;exact#[L,S,r1,r2,hi.mo L S _ _ (λ I S1 hW J H1 e1 p1 rep=>?_) z];let#[W,w0,wk,ws,wd]:=hW;exact#[λ i m B H2=>m=I.items.length-i/\i<=I.items.length/\Ext H1 H2/\∃ L S,yK X.K H2 L B/\zF X.K H2 S/\W i L S,#[_,rfl,AR _,.refl _,L,S1,r1.ext e1,p1,w0],?_];rintro i m B2 H2 ⟨rfl,F9,x2,L2,S2,q1,q2,w2⟩;let#[g1,g2]:=rep i H2 S2 x2 q2 (wk i L2 S2 w2);by_cases hl:i<I.items.length
 .have hd:I.items[i]?=↑I.items[i]:=by simp[hl]
  let#[go,yl]:=g1 _ hd;exact .inr #[go,fun B' H'=>Ext H1 H'/\∃ L S,yK X.K H' L B'/\zF X.K H' S/\W (i+1) L S,fun B' H' q=>#[_,⋯,rfl,hl,q],λ x H3 hy=>?_];let#[x3,p3,d3]:=yl x H3 hy;exact#[_,L2,S2,d3,q1.ext x3,p3,hg.mo _ L2 S2 _ _ (fun L4 S4 z4 B4 H4 a1 a2 a3=>?_) (ws i _ L2 S2 hd w2)];exact#[L4,S4,a1,a3,hb.mo _ _ L4 S4 #[fun L5 S5 w5 B5 H5 b1 b2 b3=>#[((x2.trans x3).trans a2).trans b2,L5,S5,b1,b3,w5],λ _ _ q=>wz.ext (((e1.trans x2).trans x3).trans a2) q,λ _ _ q=>vg.ext (((e1.trans x2).trans x3).trans a2) q,fun L5 S5 w5 B5 H5 b1 b2 b3=>#[((x2.trans x3).trans a2).trans b2,L5,S5,b1,b3,w5]] z4]
 .have e:i=I.items.length:=⋯;subst e;show .inl #[g2 (Aj _),wd L2 S2 w2 B2 H2 q1 (e1.trans x2) q2]
abbrev tH:=List D->SS->DK->Prop
def iV (sp:tH):Prop:=∀ ds S (Q Q':DK),(∀ d S',Q d S'->Q' d S')->sp ds S Q->sp ds S Q'
def u9 (K:Ac) (sp:tH):Sp:=λ vs H Q _=>∃ ds S,zk K H ds vs/\zF K H S/\sp ds S (wz K H Q)
def mU (sp:tH) (t:yf):zr:=fun L S Q=>t L S λ ds S1=>sp ds S1 Q
def Um {sp:tH}{E:XK}{e:Expr}(h:PE X e (gO (u9 X.K sp) [] E (wg X.K tA))) (hs:iV sp) (hm:tK tA):PD X e (mU sp tA):=by
 exact#[fun L S Q Q' hq z=>hm L S _ _ (λ ds S1 z=>hs ds S1 _ _ hq z) z,PE.imp h fun B H Q hu=>?_];let#[L,S,r1,r2,z]:=hu;exact wg.go hm r1 r2 z λ ds S1 xs H1 h1 q1 e1 p1=>?_;rw[BE];show#[ds,S1,q1,p1,hs ds S1 _ _ (λ d S' q=>wz.ext e1 q) h1]
def uZ (N:List Str) (ds:List D):zX:=ds.map some++List.replicate (N.length-ds.length) none
theorem yK.init {H:Hp}{N:List Str}{ds:List D}{vs:List V}(r:zk K H ds vs):yK K H (uZ N ds) (start N vs):=by
 have hl:=r.length;exact#[by unfold uZ L2.start;simp[hl],λ i d h=>?_];unfold uZ at h;have hi:i<ds.length:=by
  rcases Bc i ds.length with q | q
  .show q
  .rw[C8 (by exists q),CL] at h;split at h <;> cases h
 rw[Co (by exists hi),AH] at h;cases q:ds[i]? with
 | none=>rw[q] at h;cases h
 | some d'=>
  rw[q] at h;cases h;let#[x,e1,e2]:=r.get q;exact#[x,?_,e2];unfold L2.start;rw[Co (by exists by lia),AH,e1];rfl
def Pb {P:Program}{w:World}{K:Ac}{mg:AI}{base:Heap}{x qual:Str}{st:Stmt}{f:Addr}{fd:FuncData}{N ps:List Str}{k:Nat}{sp:tH}(F:ue K x qual st f fd) (Sc:uU N ps (yh st))
  (len:∀ ds S Q,sp ds S Q->ds.length=ps.length)
  (E9:∀ (Al:Value) (A:Around) (outer:List Env) (s:Shared) (H:Hp) (E:XK),z_ k (A.deeper (envOfC qual (yh st) s.heap.objs.size f Al))->
   ∃ t,wQ (w6 xr P w K mg base N qual (yh st) f Al A outer s H E).vb (wa st) t/\∀ ds S Q,sp ds S Q->t { nx:=λ _ S'=>Q .zp S',rt:=Q } (uZ N ds) S):vH P w K mg base xr (k+1) f fd ps (u9 K sp):=by
 exact F.ok Sc (λ vs H Q E h=>?_) λ Al A outer s H vs Q E hr h=>?_
 .let#[ds,S,r1,_,z]:=h;rw[<- r1.length];show len _ _ _ z
 .let#[ds,S,r1,r2,z]:=h;let#[t,ht,hq]:=E9 Al A outer s H E hr;exact#[_,ht.ps,uZ N ds,S,.init r1,r2,ht.mo { nx:=λ _ S'=>wz K H Q .zp S',rt:=wz K H Q } _ _ _ #[fun L S' q B' H' _ b c=>q .zp H' (by simp![ze]) b c,λ _ _ q=>q,λ _ _ q=>False.elim q,λ _ _ q=>False.elim q] (hq ds S _ z)]
def vN (pick:List (Option Nat)) (L:zX):zX:=pick.map λ o=>o.bind λ i=>(L[i]?).join
theorem yK.pick {H:Hp}{L:zX}{B:St}(r:yK K H L B) (pick:List (Option Nat)):yK K H (vN pick L) (vM pick B):=by
 exact#[by unfold vN vM;simp,λ i d h=>?_];unfold vN at h;rw[AH] at h;cases q:pick[i]? with
 | none=>rw[q] at h;cases h
 | some o=>
  rw[q] at h;cases o with
  | none=>simp at h
  | some j=>
   simp![Option.map_some,AW,Option.some.injEq] at h;have hj:L[j]?=↑↑d:=by
    cases q2:L[j]? with
    | none=>rw[q2] at h;cases h
    | some o2=>rw[q2] at h;simp![Option.join_some] at h;rw[h]
   let#[v,e1,e2]:=r.2 j d hj;exact#[v,?_,e2];unfold vM;rw[AH,q];simp[e1]
def rO (L L':zX):Prop:=L.length=L'.length/\∀ (i:Nat) d,L[i]?=↑↑d->L'[i]?=↑↑d
def rO.rep {H:Hp}{L L':zX}{B:St}(h:rO L L') (r:yK K H L' B):yK K H L B:=#[h.1.trans r.1,λ i d q=>r.2 i d (h.2 i d q)]
structure qZ (X:Cx) (ifs:List Expr) (t:y4):Prop where
 mo:wB t
 pf:PF X ifs (xX X.K t)
def PF.imp {ifs:List Expr}{t t':TT}(h:PF X ifs t) (hi:∀ B H Q,t' B H Q->t B H Q):PF X ifs t':=λ EN s B H Q I q=>h EN s B H Q I (hi B H Q q)
def bf:y4:=λ _ S Q=>Q true S
def Vt:qZ X [] bf:=#[λ _ _ _ _ hq z=>hq _ _ z,PF.imp Wn λ _ H _ #[_,_,_,r2,z]=>z H (.refl H) r2]
def Vs {c:Expr}{t:y4}(h:xg X c t):qZ X [c] t:=#[h.mo,Wm h.pt]
end
end L3
namespace L2
open PySem PySem.Spec PyProof.Rows
def QA (K:Ac) (tl:TE):TI:=fun B H R=>tl B H λ x H1=>∃ a,x=.ref a/\(((∃ xs,zC K H1 a xs)/\R (aO K a) H1)\/((∃ xs,zN K H1 a xs)/\R (aN K a) H1))
def Wb {X:Cx}{tg l:Expr}{tl:TE}(hl:PE X l tl):PI X tg l (QA X.K tl):=by
 intro EN s B H R I h;exact zx (hl EN s B H _ I h) λ v s1 #[x,H1,I1,r1,a,hx,q1]=>?_;subst hx;cases r1;have new:∀ b∈[s1.heap.objs.size],vG X EN H1 b:=λ b hb=>by
  obtain rfl:b=s1.heap.objs.size:=AO.mp hb;show I1.mJ (Aj _) (I1.zu.fresh (Aj _))
 rcases q1 with ⟨⟨xs,hq⟩,q⟩ | ⟨⟨xs,hq⟩,q⟩
 .let#[Aa,_,pl,_]:=I1.list hq;show JX pl.isList #[_,_,_,_,H1,rfl,I1.kept (t':=s1.toks) λ b o eo=>JD _ eo,Yy a _,#[_,AJ _ rfl,rfl,rfl],new,q]
 .let#[Aa,_,pt,_]:=I1.tuple hq;show wpAny_pyIter_tuple (show s1.heap.IsTuple a Aa.toArray from pt) #[_,_,_,_,H1,rfl,I1.kept (t':=s1.toks) λ b o eo=>JD _ eo,Yw a _,#[_,AJ _ rfl,rfl,rfl],new,q]
def range_all (bs:List Bool):(List.range bs.length).all (λ i=>bs.getD i true)=bs.all id:=by
 rw[A7,BP,BP];constructor
 .intro h b hb;let#[i,hi,rfl]:=BW.mp hb;have:=h i (AD.mpr hi);simpa [hi] using this
 .intro h i hi;have F9:=AD.mp hi;have:=h bs[i] (BA F9);simpa [F9] using this
def range_any (bs:List Bool):(List.range bs.length).any (λ i=>bs.getD i true)=bs.any id:=by
 rw[A7,AY,AY];constructor
 .rintro⟨i,hi,h⟩;have F9:=AD.mp hi;show#[bs[i],BA F9,by simpa [F9] using h]
 .rintro⟨b,hb,h⟩;let#[i,hi,rfl]:=BW.mp hb;show#[i,AD.mpr hi,by simpa [hi] using h]
theorem ag {bs:List Bool}{Aa:Ae}(r:Vals (bs.map V.bl) Aa) {i:Nat}{v:Value}(h:Aa.toArray[i]?=↑v):v=.bool (bs.getD i true):=by
 have hl:=r.length;rw[AA] at hl;have h':Aa[i]?=↑v:=by exists h
 have hi:i<bs.length:=by
  rw[hl];rcases Bc i Aa.length with q | q
  .show q
  .rw[DF q] at h';cases h'
 let#[u,e1,e2]:=r.get (i:=i) (x:=.bl bs[i]) (by simp[hi]);rw[h'] at e1;cases e1;have:v=.bool bs[i]:=e2;rw[this];simp[hi]
section
variable {X:Cx}
theorem O_ (hc:X.calm=true):y9 X (.builtin "all") (λ xs H Q=>∃ p,∃ bs:List Bool,xs=[.ref p]/\zC X.K H p (bs.map V.bl)/\Q (.bl (bs.all id)) H):=by
 intro EN s B H xs us Q I r h;let#[p,bs,rfl,hq,q]:=h;let#[u,rfl,ru]:=vals1 r;cases ru;let#[Aa,rv,pl,hz]:=I.list hq;have hl:=rv.length;rw[AA] at hl;have Ay:p<s.heap.objs.size:=by let#[o,n,e,_]:=pl;show Au e
 exact call_all_walk (JX pl.isList ?_);exact#[s.heap.objs.size,_,_,_,_,_,λ i=>bs.getD i true,rfl,Walks.list (A:=X.A.in1) (I.ok.hd hc) s.heap.objs.size p (AF Ay) Aa.toArray,#[#[_,AJ _ rfl,rfl,rfl],pl.isList.push _],λ i v s' Q' E' hv Jf=>?_,λ h' tk hk=>?_]
 .rw[ag rv hv];show JN Jf
 .have e:(List.range Aa.toArray.size).all (λ i=>bs.getD i true)=bs.all id:=by rw[AB,<- hl,range_all]
  rw[e];show#[.bl _,H,I.kept (t':=tk) λ b o eo=>hk b o (by exists AF (Au eo)) (JD _ eo),rfl,q]
theorem OZ (hc:X.calm=true):y9 X (.builtin "any") (λ xs H Q=>∃ p,∃ bs:List Bool,xs=[.ref p]/\zC X.K H p (bs.map V.bl)/\Q (.bl (bs.any id)) H):=by
 intro EN s B H xs us Q I r h;let#[p,bs,rfl,hq,q]:=h;let#[u,rfl,ru]:=vals1 r;cases ru;let#[Aa,rv,pl,hz]:=I.list hq;have hl:=rv.length;rw[AA] at hl;have Ay:p<s.heap.objs.size:=by let#[o,n,e,_]:=pl;show Au e
 exact call_any_walk (JX pl.isList ?_);exact#[s.heap.objs.size,_,_,_,_,_,λ i=>bs.getD i true,rfl,Walks.list (A:=X.A.in1) (I.ok.hd hc) s.heap.objs.size p (AF Ay) Aa.toArray,#[#[_,AJ _ rfl,rfl,rfl],pl.isList.push _],λ i v s' Q' E' hv Jf=>?_,λ h' tk hk=>?_]
 .rw[ag rv hv];show JN Jf
 .have e:(List.range Aa.toArray.size).any (λ i=>bs.getD i true)=bs.any id:=by rw[AB,<- hl,range_any]
  rw[e];show#[.bl _,H,I.kept (t':=tk) λ b o eo=>hk b o (by exists AF (Au eo)) (JD _ eo),rfl,q]
end
end L2
namespace L3
open PySem PySem.Spec L2
open PyProof.Rows hiding St
structure Bt (mg:AI):Prop where
 len:mg "len"=none
 range:mg "range"=none
 any:mg "any"=none
 all:mg "all"=none
 sorted:mg "sorted"=none
 isinstance:mg "isinstance"=none
 bool:mg "bool"=none
 int:mg "int"=none
 str:mg "str"=none
 list:mg "list"=none
 tuple:mg "tuple"=none
 max:mg "max"=none
 min:mg "min"=none
section
variable {X:Cx}{a e:Expr}{es:List Expr}{te:zr}{pos p:Pos}
def mV {N':List Str}{pick:List (Option Nat)}{scope Hx:Scope}{N:List Str}(hE:X.env.scope=Hx:=by rfl) (hN:X.N=N:=by rfl) (h1:scope.kind=.function:=by rfl)
  (h2:scope.names.all (λ y=>decide (scope.names.lookup y.1=↑y.2))=true:=by decide +kernel)
  (h4:scope.names.all (λ y=>!decide (y.2=.free)||(decide (Hx.names.lookup y.1=↑.cell)||decide (Hx.names.lookup y.1=↑.free)))=true:=by decide +kernel)
  (h5:pick.length=N'.length:=by rfl) (h6:qq N N' pick scope=true:=by decide +kernel):tR X N' pick scope:=by
 exact#[h1,λ y hy=>of_decide_eq_true (BP.mp h2 y hy),λ y hy hf=>?_,h5,by rw[hN];show h6];have:=BP.mp h4 y hy;rw[JF hf] at this;rw[hE];exists this
def Vq (i:Nat) {x:Str}(hN:X.N.Nodup) (hi:X.N[i]?=↑x) (hx:Loc X.env.scope x) (hf:X.fn x=true\/X.env.scope.names.lookup x=↑.local):vF X (.Name x pos) (hName i):=
 Vr (Wi hN hi hx hf)
def kU {k:Nat}{t:xK}{n:Nat}(h:rV X es t) (hc:X.calm=true) (hn:(assignEach es X.env).length=n) (AZ:(assignEach es X.env).findIdx? (·.1)=none):vF X (.Tuple es k pos) (rD n t):=
 Vp (Wg hc h.pg hn AZ) h.mo
def fX (i:Nat) {x:Str}{pos':Pos}(hN:X.N.Nodup) (he:PD X e te) (hi:X.N[i]?=↑x) (hx:Loc X.env.scope x) (hs:swapsWith e ↑(.Name x pos') pos.line X.env=pure false)
  (hf:X.fn x=true\/X.env.scope.names.lookup x=↑.local):xD X (.Assign [.Name x pos'] e pos) (v_ te (hName i)):=
 WZ (XN hN hi hx he.pe hs hf) he.mo
def j6 (te:zr):wc:=fun L S R=>te L S λ x S1=>match x with
 | .tup ds=>R #[ds,λ _=>True] S1
 | .xw ds=>R #[ds,λ _=>True] S1
 | .ref p=>match S1 p with
  | some (.lst ds)=>R #[ds,λ S=>S p=↑(.lst ds)] S1
  | _=>False
 | _=>False
def Vj {tg:Expr}(h:PD X e te):u5 X tg e (j6 te):=by
 exact#[fun L S Q Q' hq z=>h.mo L S _ _ (λ x S1 z=>?_) z,?_]
 .cases x with
  | ref p=>
   dsimp only at z ⊢;split at z
   .show hq _ _ z
   .show z.elim
  | xw ds=>show hq _ _ z
  | tup ds=>show hq _ _ z
  | _=>show z
 .exact PI.imp (Wb h.pe) fun B H R hu=>?_
  let#[L,S,r1,r2,z]:=hu;exact zG.go h.mo r1 r2 z λ x S1 v H1 h1 q1 e1 p1=>?_;cases x with
  | tup ds=>
   simp![ze] at q1;let#[a,xs,rfl,g1,g2]:=q1;exact#[a,rfl,.inr #[#[xs,g1],h1 _ H1 e1 p1 λ i H2 S2 x1 x2 _=>#[λ d hd=>?_,λ hl=>#[xs,x1.qg g1,by rw[<- g2.length];show hl]]]];let#[y,hy,_]:=g2.get hd;exact#[#[xs,y,x1.qg g1,hy],λ x H' q=>?_];let#[rfl,q]:=q;show#[.refl _,x2,(zk.ext x1 ds g2).at hd (q xs (x1.qg g1))]
  | ref p=>
   dsimp only at h1;split at h1
   .rename_i ds e2;simp![ze] at q1;subst q1;let#[xs0,g1,_]:=p1 _ _ e2;exact#[p,rfl,.inl #[#[xs0,zC.of g1],h1 _ H1 e1 p1 λ i H2 S2 x1 x2 hk=>?_]];let#[xs,g3,g4]:=x2 _ _ hk;exact#[λ d hd=>?_,λ hl=>#[xs,zC.of g3,by rw[<- g4.length];show hl]];let#[y,hy,_]:=g4.get hd;exact#[#[xs,y,zC.of g3,hy],λ x H' q=>?_];let#[rfl,q]:=q;show#[.refl _,x2,g4.at hd (q xs (zC.of g3))]
   .show h1.elim
  | xw ds=>
   simp![ze] at q1;let#[a,xs,rfl,g1,g2]:=q1;exact#[a,rfl,.inl #[#[xs,g1.sq],h1 _ H1 e1 p1 λ i H2 S2 x1 x2 _=>#[λ d hd=>?_,λ hl=>#[xs,(x1.nL g1).sq,by rw[<- g2.length];show hl]]]];let#[y,hy,_]:=g2.get hd;exact#[#[xs,y,(x1.nL g1).sq,hy],λ x H' q=>?_];let#[rfl,q]:=q;show#[.refl _,x2,(zk.ext x1 ds g2).at hd (q xs (x1.nL g1).sq)]
  | _=>show h1.elim
end
end L3
namespace L4
open PySem PySem.W PyProof.Rows
def yw {α:Type}(n:Nat) (lt:Nat->Nat->Bool):KasT α->(α->Prop)->Prop
 | .ret a,Q=>Q a
 | .ask i j k,Q=>i<n/\j<n/\yw n lt (k (lt i j)) Q
theorem yw.mono {α:Type}{n:Nat}{lt:Nat->Nat->Bool}{Q Q':α->Prop}(hq:∀ a,Q a->Q' a):∀ {t:KasT α},yw n lt t Q->yw n lt t Q'
 | .ret _,h=>hq _ h
 | .ask _ _ _,h=>#[h.1,h.2.1,yw.mono hq h.2.2]
theorem yw.bind {α β:Type}{n:Nat}{lt:Nat->Nat->Bool}{f:α->KasT β}{Q:β->Prop}:∀ {t:KasT α},yw n lt t (λ a=>yw n lt (f a) Q)->yw n lt (t.bind f) Q
 | .ret _,h=>h
 | .ask _ _ _,h=>#[h.1,h.2.1,yw.bind h.2.2]
section
variable {n:Nat}{lt:Nat->Nat->Bool}
def Le (lt:Nat->Nat->Bool) (a b:Nat):Prop:=lt b a=false
structure Ord (lt:Nat->Nat->Bool):Prop where
 tr:∀ a b c,Le lt a b->Le lt b c->Le lt a c
 as:∀ a b,lt a b=true->Le lt a b
def Ord.refl (o:Ord lt) (a:Nat):Le lt a a:=by
 cases h:lt a a with
 | false=>show h
 | true=>show o.as a a h
def xh (n:Nat) (p:Array Nat):Prop:=p.Perm (List.range n).toArray
theorem xh.size {p:Array Nat}(h:xh n p):p.size=n:=by rw[Array.Perm.size_eq h];simp
theorem xh.below {p:Array Nat}(h:xh n p) {i:Nat}(hi:i<n):p.getD i 0<n:=by
 have hs:=h.size;have hm:p.getD i 0∈p:=by
  rw[DE,Bj ⋯];show Array.getElem_mem ⋯
 have:p.getD i 0∈(List.range n).toArray:=(Array.Perm.mem_iff h).mp hm;exists this
def pX {p q:Array Nat}{i j:Nat}(h:p[i]?=q[j]?):p.getD i 0=q.getD j 0:=by rw[DE,DE,h]
def vk (lt:Nat->Nat->Bool) (p:Array Nat) (k:Nat):Prop:=∀ i j,i<=j->j<k->Le lt (p.getD i 0) (p.getD j 0)
def uV (lt:Nat->Nat->Bool) (p:Array Nat) (k:Nat):Prop:=∀ i j,i<=j->j<k->Le lt (p.getD j 0) (p.getD i 0)
def vk.next (o:Ord lt) {p:Array Nat}{k:Nat}(h:vk lt p k) (hk:1<=k) (hl:Le lt (p.getD (k-1) 0) (p.getD k 0)):vk lt p (k+1):=λ i j Bg hj=>by
 by_cases EB:j<k
 .show h i j Bg EB
 .have e:j=k:=⋯;subst e;by_cases hi:i=j
  .subst hi;show o.refl _
  .show o.tr _ _ _ (h i (j-1) ⋯ ⋯) hl
def uV.next (o:Ord lt) {p:Array Nat}{k:Nat}(h:uV lt p k) (hk:1<=k) (hl:Le lt (p.getD k 0) (p.getD (k-1) 0)):uV lt p (k+1):=λ i j Bg hj=>by
 by_cases EB:j<k
 .show h i j Bg EB
 .have e:j=k:=⋯;subst e;by_cases hi:i=j
  .subst hi;show o.refl _
  .show o.tr _ _ _ hl (h i (j-1) ⋯ ⋯)
theorem iK (o:Ord lt) {p:Array Nat}(hp:xh n p):∀ (f a:Nat),1<=a->a+f<=n->vk lt p a->
  yw n lt (kas_asc p f a) λ m=>a<=m/\m<=a+f/\vk lt p m/\(m=a+f\/lt (p.getD m 0) (p.getD (m-1) 0)=true)
 | 0,a,_,_,hs=>#[Aj _,Aj _,hs,.inl rfl]
 | f+1,a,h1,h2,hs=>by
  exact#[hp.below ⋯,hp.below ⋯,?_];cases c:lt (p.getD a 0) (p.getD (a-1) 0) with
  | true=>show#[Aj _,⋯,hs,.inr c]
  | false=>
   exact yw.mono ?_ (iK o hp f (a+1) ⋯ ⋯ (hs.next o h1 c));rintro m ⟨g1,g2,g3,g4⟩;show#[⋯,⋯,g3,g4.imp (λ e=>⋯) id]
def pB {p:Array Nat}(hp:xh n p) (i j:Nat):xh n (kas_rev p i j):=Array.Perm.trans (mirror_perm _ _ _ _) hp
theorem pC {p:Array Nat}(hp:xh n p) {i j:Nat}(hj:j<=n) (k:Nat):(kas_rev p i j).getD k 0=if i<=k/\k<j then p.getD (i+j-1-k) 0 else p.getD k 0:=by
 have e:=getElem?_mirror_all (xs:=p) (i:=i) (j:=j) (by rw[hp.size];show hj) k;split
 .rename_i h;rw[if_pos h] at e;show pX e
 .rename_i h;rw[if_neg h] at e;show pX e
def rev_eq (o:Ord lt) {p:Array Nat}(hp:xh n p) {i j:Nat}(hj:j<=n) (he:∀ a b,i<=a->a<j->i<=b->b<j->Le lt (p.getD a 0) (p.getD b 0)) (k:Nat):
  Le lt ((kas_rev p i j).getD k 0) (p.getD k 0)/\Le lt (p.getD k 0) ((kas_rev p i j).getD k 0):=by
 rw[pC hp hj];split
 .rename_i h;show#[he _ _ ⋯ ⋯ h.1 h.2,he _ _ h.1 h.2 ⋯ ⋯]
 .show#[o.refl _,o.refl _]
def uV.of_eq (o:Ord lt) {p q:Array Nat}{k:Nat}(h:uV lt p k) (e:∀ k,Le lt (q.getD k 0) (p.getD k 0)/\Le lt (p.getD k 0) (q.getD k 0)):uV lt q k:=λ i j Bg hj=>
 o.tr _ _ _ (e j).1 (o.tr _ _ _ (h i j Bg hj) (e i).2)
def gi (lt:Nat->Nat->Bool) (p:Array Nat) (m q:Nat):Prop:=∀ a b,m-(q+1)<=a->a<m->m-(q+1)<=b->b<m->Le lt (p.getD a 0) (p.getD b 0)
theorem mQ (o:Ord lt):∀ (f:Nat) (p:Array Nat) (m q:Nat),xh n p->1<=m->m+f<=n->uV lt p m->q+1<=m->gi lt p m q->
  yw n lt (kas_desc f p m q) λ r=>xh n r.1/\m<=r.2.1/\r.2.1<=m+f/\uV lt r.1 r.2.1/\r.2.2+1<=r.2.1/\gi lt r.1 r.2.1 r.2.2
 | 0,p,m,q,hp,_,_,hd,hq,hb=>#[hp,Aj _,Aj _,hd,hq,hb]
 | f+1,p,m,q,hp,h1,h2,hd,hq,hb=>by
  have one:∀ p':Array Nat,gi lt p' (m+1) 0:=λ p' a b a1 a2 b1 b2=>by
   have:a=b:=⋯;subst this;show o.refl _
  exact#[hp.below ⋯,hp.below ⋯,?_];cases c:lt (p.getD m 0) (p.getD (m-1) 0) with
  | true=>
   dsimp only;rw[if_pos rfl];have hl:=o.as _ _ c;by_cases h0:q>0
   .rw[if_pos h0];have e:=rev_eq o hp (i:=m-(q+1)) (j:=m) ⋯ hb;have GD:=pB hp (m-(q+1)) m;exact yw.mono ?_ (mQ o f _ (m+1) 0 GD ⋯ ⋯ ((hd.of_eq o e).next o h1 (o.tr _ _ _ (e m).1 (o.tr _ _ _ hl (e (m-1)).2))) ⋯ (one _));rintro r ⟨a1,a2,a3,a4⟩;show#[a1,⋯,⋯,a4]
   .rw[if_neg h0];exact yw.mono ?_ (mQ o f _ (m+1) 0 hp ⋯ ⋯ (hd.next o h1 hl) ⋯ (one _));rintro r ⟨a1,a2,a3,a4⟩;show#[a1,⋯,⋯,a4]
  | false=>
   dsimp only;rw[if_neg BI];exact#[hp.below ⋯,hp.below ⋯,?_];cases d:lt (p.getD (m-1) 0) (p.getD m 0) with
   | true=>show#[hp,Aj _,(by change m<=m+(f+1);lia),hd,hq,hb]
   | false=>
    dsimp only;rw[if_neg BI];exact yw.mono ?_ (mQ o f _ (m+1) (q+1) hp ⋯ ⋯ (hd.next o h1 d) ⋯ λ a b a1 a2 b1 b2=>?_)
    .rintro r ⟨a1,a2,a3,a4⟩;show#[a1,⋯,⋯,a4]
    .by_cases ha:a=m
     .by_cases Hi:b=m
      .subst ha;subst Hi;show o.refl _
      .subst ha;show o.tr _ _ _ d (hb (a-1) b ⋯ ⋯ ⋯ ⋯)
     .by_cases Hi:b=m
      .subst Hi;show o.tr _ _ _ (hb a (b-1) ⋯ ⋯ ⋯ ⋯) c
      .show hb a b ⋯ ⋯ ⋯ ⋯
theorem gL (o:Ord lt) {p:Array Nat}{m:Nat}(hp:xh n p) (h1:1<=m) (h2:m<=n) (hd:uV lt p m):yw n lt (kas_tail3 m n p) λ r=>xh n r.2/\r.1<=n/\vk lt r.2 r.1:=by
 exact yw.bind (yw.mono ?_ (iK o (pB hp 0 m) (n-m) m h1 ⋯ λ i j Bg hj=>?_))
 .rintro k ⟨a1,a2,a3,_⟩;show#[pB hp 0 m,⋯,a3]
 .rw[pC hp h2,pC hp h2,if_pos #[AR _,⋯],if_pos #[AR _,hj]];show hd _ _ ⋯ ⋯
theorem bp (o:Ord lt) {p:Array Nat}{m:Nat}(hp:xh n p) (h1:1<=m) (h2:m<n) (hd:uV lt p m) (hl:lt (p.getD m 0) (p.getD (m-1) 0)=true):yw n lt (kas_descPart m n p) λ r=>xh n r.2/\r.1<=n/\vk lt r.2 r.1:=by
 exact yw.bind (yw.mono ?_ (mQ o (n-(m+1)) p (m+1) 0 hp ⋯ ⋯ (hd.next o h1 (o.as _ _ hl)) ⋯ λ a b a1 a2 b1 b2=>?_))
 .rintro⟨p',m',q'⟩ ⟨a1,a2,a3,a4,a5,a6⟩;dsimp only at a1 a2 a3 a4 a5 a6 ⊢;by_cases h0:q'>0
  .rw[if_pos h0];show gL o (pB a1 _ _) ⋯ ⋯ (a4.of_eq o (rev_eq o a1 (i:=m'-(q' + 1)) (j:=m') ⋯ a6))
  .rw[if_neg h0];show gL o a1 ⋯ ⋯ a4
 .have:a=b:=⋯;subst this;show o.refl _
theorem Ov (o:Ord lt) {p:Array Nat}(hp:xh n p) (h1:1<=n):yw n lt (kas_count n p) λ r=>xh n r.2/\r.1<=n/\vk lt r.2 r.1:=by
 exact yw.bind (yw.mono ?_ (iK o hp (n-1) 1 (Aj _) ⋯ λ i j Bg hj=>?_))
 .rintro m ⟨a1,a2,a3,a4⟩;by_cases hm:m=n
  .rw[if_pos (by simp[hm])];show#[hp,⋯,a3]
  .rw[if_neg (by simp[hm])];have hl:lt (p.getD m 0) (p.getD (m-1) 0)=true:=a4.resolve_left ⋯;by_cases h2:m>1
   .rw[if_pos h2];exact#[hp.below ⋯,hp.below ⋯,?_];cases c:lt (p.getD 0 0) (p.getD (m-1) 0) with
    | true=>show#[hp,⋯,a3]
    | false=>
     dsimp only;rw[if_neg BI];have all:∀ a b,0<=a->a<m->0<=b->b<m->Le lt (p.getD a 0) (p.getD b 0):=λ a b _ ha _ hb=>
      o.tr _ _ _ (a3 a (m-1) ⋯ ⋯) (o.tr _ _ _ c (a3 0 b ⋯ hb))
     have e:=rev_eq o hp (i:=0) (j:=m) ⋯ all;exact bp o (pB hp 0 m) ⋯ ⋯ (λ i j Bg hj=>o.tr _ _ _ (e j).1 (o.tr _ _ _ (all _ _ (AR _) hj (AR _) ⋯) (e i).2)) ?_;rw[pC hp ⋯,pC hp ⋯,if_neg ⋯,if_pos ⋯];cases q:lt (p.getD m 0) (p.getD (0+m-1-(m-1)) 0) with
     | true=>rfl
     | false=>
      have:=o.tr _ _ _ (all (m-1) (0+m-1-(m-1)) (AR _) ⋯ (AR _) ⋯) q;unfold Le at this;rw[this] at hl;cases hl
   .rw[if_neg h2];have e:m=1:=⋯;subst e;exact bp o hp (Aj _) ⋯ (λ i j Bg hj=>?_) hl;have:i=j:=⋯;subst this;show o.refl _
 .have:i=j:=⋯;subst this;show o.refl _
theorem kQ {p:Array Nat}{k:Nat}(hp:xh n p) (hk:k<n) (hs:vk lt p k) (o:Ord lt):∀ (f l r:Nat),r-l<=f->l<=r->r<=k->(∀ i,i<l->Le lt (p.getD i 0) (p.getD k 0))->(∀ i,r<=i->i<k->lt (p.getD k 0) (p.getD i 0)=true)->
  yw n lt (kas_place p k f l r) λ m=>m<=k/\(∀ i,i<m->Le lt (p.getD i 0) (p.getD k 0))/\(∀ i,m<=i->i<k->lt (p.getD k 0) (p.getD i 0)=true)
 | 0,l,r,h0,h1,h2,ha,hb=>by
  have:l=r:=⋯;subst this;show#[h2,ha,hb]
 | f+1,l,r,h0,h1,h2,ha,hb=>by
  unfold kas_place;by_cases Dh:l≥r
  .rw[if_pos Dh];have:l=r:=⋯;subst this;show#[h2,ha,hb]
  .rw[if_neg Dh];exact#[hp.below hk,hp.below ⋯,?_];cases c:lt (p.getD k 0) (p.getD ((l+r)/2) 0) with
   | true=>
    dsimp only;rw[if_pos rfl];exact kQ hp hk hs o f l ((l+r)/2) ⋯ ⋯ ⋯ ha λ i hi DS=>?_;cases q:lt (p.getD k 0) (p.getD i 0) with
    | true=>rfl
    | false=>
     have:=o.tr _ _ _ (hs ((l+r)/2) i hi DS) q;unfold Le at this;rw[this] at c;cases c
   | false=>
    dsimp only;rw[if_neg BI];exact kQ hp hk hs o f ((l+r)/2+1) r ⋯ ⋯ h2 (λ i hi=>?_) hb;show o.tr _ _ _ (hs i ((l+r)/2) ⋯ ⋯) c
theorem au (o:Ord lt):∀ (f:Nat) (p:Array Nat) (k:Nat),xh n p->k+f=n->vk lt p k->yw n lt (kas_bin f p k) λ r=>xh n r/\vk lt r n
 | 0,p,k,hp,h1,hs=>by
  have:k=n:=⋯;subst this;show#[hp,hs]
 | f+1,p,k,hp,h1,hs=>by
  exact yw.bind (yw.mono ?_ (kQ hp ⋯ hs o k 0 k ⋯ (AR _) (Aj _) (λ i hi=>absurd hi (Nat.not_lt_zero _)) λ i hi DS=>absurd DS ⋯));rintro l ⟨a1,a2,a3⟩;exact au o f _ (k+1) (Array.Perm.trans (bubble_perm _ _ _) hp) ⋯ λ i j Bg hj=>?_;have ev:∀ x,(bubble p k (k-l)).getD x 0=if x=l then p.getD k 0 else if l<x/\x<=k then p.getD (x-1) 0 else p.getD x 0:=λ x=>by
   have e:=getElem?_bubble (xs:=p) (src:=k) (by rw[hp.size];lia) (k-l) ⋯ x;rw[show k-(k-l)=l by lia] at e;split
   .rename_i h;rw[if_pos h] at e;show pX e
   .rename_i h;rw[if_neg h] at e;split
    .rename_i h';rw[if_pos h'] at e;show pX e
    .rename_i h';rw[if_neg h'] at e;show pX e
  rw[ev i,ev j];by_cases hi:i=l
  .rw[if_pos hi];by_cases Gv:j=l
   .rw[if_pos Gv];show o.refl _
   .rw[if_neg Gv,if_pos #[⋯,⋯]];show o.as _ _ (a3 (j-1) ⋯ ⋯)
  .rw[if_neg hi];by_cases Gv:j=l
   .rw[if_pos Gv,if_neg ⋯];show a2 i ⋯
   .rw[if_neg Gv];by_cases hi2:l<i/\i<=k
    .rw[if_pos hi2,if_pos #[⋯,⋯]];show hs _ _ ⋯ ⋯
    .rw[if_neg hi2];by_cases hj2:l<j/\j<=k
     .rw[if_pos hj2];show hs _ _ ⋯ ⋯
     .rw[if_neg hj2];show hs _ _ Bg ⋯
theorem Xc (o:Ord lt) (h1:1<=n):yw n lt (kas_sort n) λ r=>xh n r/\vk lt r n:=by
 have hp:xh n (List.range n).toArray:=Array.Perm.refl _;exact yw.bind (yw.mono ?_ (Ov o hp h1));rintro⟨m,p⟩ ⟨a1,a2,a3⟩;dsimp only at a1 a2 a3 ⊢;by_cases hm:m<n
 .rw[if_pos hm];exact au o _ p (max m 1) a1 ⋯ ?_;by_cases h0:m=0
  .subst h0;intro i j Bg hj;have:i=j:=⋯;subst this;show o.refl _
  .rw[show max m 1=m by lia];show a3
 .rw[if_neg hm];have:m=n:=⋯;subst this;show#[a1,a3]
end
end L4
namespace L4
open PySem PySem.W PySem.Calls PyProof.Rows
section
variable {prog:Program}{w:World}{A:Around}{E:Af}{s:Shared}
def Core (prog:Program) (w:World) (A:Around) (E:Af) (vs:Ae) (Out:Array Value->Prop) (s6:Shared):Prop:=
 wpAny (model prog w) A (keyKind' vs.toArray) (fun κ s'=>s'=s6/\wpAny (model prog w) A ((sortRuns').run (SortSt.mk' κ (vs.toArray.zip vs.toArray) [].toArray 7 none))
  (λ r GW=>GW=s6/\failedOf r.2=none/\Out ((arrOf r.2).map (·.2))/\(arrOf r.2).size=vs.length) E s') E s6
def RM {a:Addr}{vs:Ae}{n:Nat}{P:PySem.Fin->Shared->Prop}{Out:Array Value->Prop}(ho:s.heap.get? a=↑(seqObj "list" vs.toArray n)) (hz:vs.length<=sizeLine)
  (core:2<=vs.length->∀ s6:Shared,(∀ b o,b≠a->s.heap.get? b=↑o->s6.heap.get? b=↑o)->Core prog w A E vs Out s6) (short:vs.length<2->Out vs.toArray)
  (fin:∀ out:Array Value,Out out->out.size=vs.length->P (.done (.ret .none)) { s with heap:=sortedHeap s.heap a vs out }):
  wpAny (model prog w) A (Builtin.«list.sort» #[[.ref a],[]]) P E s:=by
 have ha:a<s.heap.objs.size:=Au ho;obtain⟨e1,g1⟩:∃ e1,(s.heap.update a (Obj.mapSeq λ _=>[].toArray)).get? a=↑(seqObj "list" [].toArray e1):=#[_,get?_update_seq ho (λ _=>[].toArray)];have Il:vs.toArray.size<=sizeLine:=by rw[AB];show hz
 have g6:(((s.heap.update a (Obj.mapSeq λ _=>[].toArray)).push (seqObj "tuple" vs.toArray 0)).push (seqObj "list" [].toArray 0)).get? a=↑(seqObj "list" [].toArray e1):=JD _ (JD _ g1);have keep:∀ b o,b≠a->s.heap.get? b=↑o->(((s.heap.update a (Obj.mapSeq λ _=>[].toArray)).push (seqObj "tuple" vs.toArray 0)).push (seqObj "list" [].toArray 0)).get? b=↑o:=
  λ b o hb e=>JD _ (JD _ (by rw[JY _ _ _ _ hb];show e))
 rw[list_sort_plain];exact IE (listItems_at ho rfl (IE (listUpdate_at ho rfl (IE (seqEpoch_at g1 rfl (IE (wpAny_newTuple (IE (wpAny_newList (JI ?_))) (by exists hz))))) Il (AR _))));by_cases h2:vs.toArray.size<2
 .rw[if_pos h2,if_pos h2];have e2:(arrOf (SortSt.mk' general' (vs.toArray.zip vs.toArray) [].toArray 7 none)).map (·.2)=vs.toArray:=by
   change (vs.toArray.zip vs.toArray).map (·.2)=vs.toArray;apply Array.ext #[];intro i h1 h2;simp
  exact IE (Ad ?_);dsimp only;rw[StateT.run_pure];exact IE (Ad ?_);dsimp only;exact IE (seqEpoch_at g6 rfl (IE (listUpdate_at g6 rfl ?_ (AR _) ?_)))
  .simp![bne_self_eq_false,A4,if_false];have q:=fin _ (e2▸short (by exists h2)) (by rw[e2];simp);show Ad q
  .change (((arrOf (SortSt.mk' general' (vs.toArray.zip vs.toArray) [].toArray 7 none)).map (·.2))).size<=sizeLine+1;rw[e2];lia
 .rw[if_neg h2,if_neg h2];have Jr:2<=vs.length:=by exists h2
  exact IE (JG (core Jr _ keep) (fun κ s7 #[hs,h7]=>?_) λ _ _ z=>z);subst hs;exact IE (JG h7 (λ r s8 #[hs,hf,Er,hsz]=>?_) λ _ _ z=>z);subst hs;obtain⟨⟨⟩,st⟩:=r;exact IE (seqEpoch_at g6 rfl (IE (listUpdate_at g6 rfl ?_ (AR _) ?_)))
  .have Gh:failedOf st=none:=hf;rw[Gh];simp![bne_self_eq_false,A4,if_false];show Ad (fin _ Er (by rw[C5];show hsz))
  .change ((arrOf st).map (·.2)).size<=sizeLine+1;rw[C5];have:(arrOf st).size=vs.length:=hsz;lia
def Xb {h:Heap}{vs:Ae}(out:Ax):∃ e,(sortedHeap (h.push (seqObj "list" vs.toArray 0)) h.objs.size vs out).get? h.objs.size=↑(seqObj "list" out e):=by
 have there:(h.push (seqObj "list" vs.toArray 0)).get? h.objs.size=↑(seqObj "list" vs.toArray 0):=AJ _ rfl;show#[_,get?_update_seq (JD _ (JD _ (get?_update_seq there λ _=>[].toArray))) λ _=>out]
def gR {a:Addr}{vs:Ae}{Q:Af}{Out:Array Value->Prop}{N:Addr->Prop}
  (C:∀ Q':List Value->Shared->Prop,(∀ h1 tk,(∀ b o,¬ N b->s.heap.get? b=↑o->h1.get? b=↑o)->s.heap.objs.size<=h1.objs.size->Q' vs { s with heap:=h1,toks:=tk })->wpAny (model prog w) A.in1 (collect (.ref a)) Q' E s) (hz:vs.length<=sizeLine)
  (core:2<=vs.length->∀ s6:Shared,(∀ b o,¬ N b->s.heap.get? b=↑o->s6.heap.get? b=↑o)->Core prog w A.in1.in1 E vs Out s6) (short:vs.length<2->Out vs.toArray)
  (fin:∀ (out:Ax) (h':Heap) (tk l:Nat),Out out->out.size=vs.length->s.heap.objs.size<=l->(∀ b o,¬ N b->s.heap.get? b=↑o->h'.get? b=↑o)->(∃ e,h'.get? l=↑(seqObj "list" out e))->Q (.ref l) { s with heap:=h',toks:=tk }):
  wpAny (model prog w) A (call (.builtin "sorted") [.ref a]) Q E s:=by
 exact Calls.call_function_entry kind_sorted plain_sorted entry_sorted (args_sorted1 _) ?_;unfold Builtin.«sorted»;exact IE (m:=checkCount "sorted" 1 1 _) (Ad (IE (C _ λ h1 tk k1 k2=>IE (wpAny_newList ?_ hz))));have Ip:(h1.push (seqObj "list" vs.toArray 0)).get? h1.objs.size=↑(seqObj "list" vs.toArray 0):=AJ _ rfl;change wpAny _ _ _ _ _ { s with heap:=h1.push (seqObj "list" vs.toArray 0),toks:=tk };exact IE (JI (JK slot_list_sort #[_,Ip,rfl] entry_list_sort (RM Ip hz (λ h2 s6 k=>core h2 s6 λ b o n q=>k b o (AF (Au (k1 b o n q))) (JD _ (k1 b o n q))) short λ out g1 g2=>#[_,rfl,?_]) (args_list_sort _)));exact Ad #[_,rfl,fin out _ tk h1.objs.size g1 g2 k2 (λ b o n q=>?_) (Xb out)];have q1:=k1 b o n q;have hb:=AF (Au q1);unfold sortedHeap;rw[JY _ _ _ _ hb];exact JD _ (JD _ ?_);rw[JY _ _ _ _ hb];show JD _ q1
end
end L4
namespace L4
open PySem PySem.W PySem.Calls PyProof.Rows L2
theorem jz:∀ a b:List Int,HT.lexLt a b=true->HT.lexLt b a=false
 | [],[],h=>by cases h
 | [],_::_,_=>rfl
 | _::_,[],h=>by cases h
 | x::a,y::b,h=>by
  rw[HT.sg] at h ⊢;by_cases e:x=y
  .subst e;rw[if_pos rfl] at h ⊢;show jz a b h
  .rw[if_neg e] at h;rw[if_neg (Ne.symm e)];have:=of_decide_eq_true h;show JE ⋯
theorem du:∀ a b:List Int,HT.lexLt a b=false->HT.lexLt b a=false->a=b
 | [],[],_,_=>rfl
 | [],_::_,h,_=>by cases h
 | _::_,[],_,h=>by cases h
 | x::a,y::b,h,h'=>by
  rw[HT.sg] at h h';by_cases e:x=y
  .subst e;rw[if_pos rfl] at h h';rw[du a b h h']
  .rw[if_neg e] at h;rw[if_neg (Ne.symm e)] at h';have h1:=of_decide_eq_false h;have h2:=of_decide_eq_false h';lia
theorem jy:∀ a b c:List Int,HT.lexLt b a=false->HT.lexLt c b=false->HT.lexLt c a=false
 | [],[],[],_,_=>rfl
 | [],[],_::_,_,h=>h
 | [],_::_,[],_,h=>by cases h
 | [],_::_,_::_,_,_=>rfl
 | _::_,[],_,h,_=>by cases h
 | _::_,_::_,[],_,h=>by cases h
 | x::a,y::b,z::c,h,h'=>by
  rw[HT.sg] at h h' ⊢;by_cases e1:y=x
  .subst e1;rw[if_pos rfl] at h;by_cases e2:z=y
   .subst e2;rw[if_pos rfl] at h' ⊢;show jy a b c h h'
   .rw[if_neg e2] at h' ⊢;show h'
  .rw[if_neg e1] at h;have h1:=of_decide_eq_false h;by_cases e2:z=y
   .subst e2;rw[if_neg e1];show h
   .rw[if_neg e2] at h';have h2:=of_decide_eq_false h';rw[if_neg ⋯];show JE ⋯
theorem kT {α:Type}{r:α->α->Prop}(an:∀ a b,r a b->r b a->a=b):∀ {l₁ l₂:List α},l₁.Perm l₂->l₁.Pairwise r->l₂.Pairwise r->l₁=l₂
 | [],l₂,h,_,_=>(List.nil_perm.mp h).symm
 | a::l₁,[],h,_,_=>absurd (List.perm_nil.mp h) #[]
 | a::l₁,b::l₂,h,h1,h2=>by
  have BV:a=b:=by
   have ha:a∈b::l₂:=h.mem_iff.mp Ap;have hb:b∈a::l₁:=h.mem_iff.mpr Ap;rcases Ah.mp ha with e | ha
   .show e
   .rcases Ah.mp hb with e | hb
    .show e.symm
    .show an _ _ (List.rel_of_pairwise_cons h1 hb) (List.rel_of_pairwise_cons h2 ha)
  subst BV;rw[kT an (List.Perm.cons_inv h) (Bw.mp h1).2 (Bw.mp h2).2]
def xn (rows:List (List Int)):List (List Int):=rows.mergeSort λ a b=>!HT.lexLt b a
def ug (rows:List (List Int)):(xn rows).Perm rows:=List.mergeSort_perm _ _
def kB (rows:List (List Int)):(xn rows).Pairwise λ a b=>HT.lexLt b a=false:=by
 have:=List.pairwise_mergeSort (le:=λ a b:List Int=>!HT.lexLt b a) (λ a b c h1 h2=>by simp at h1 h2 ⊢;show jy a b c h1 h2)
  (λ a b=>by
   cases h:HT.lexLt b a with
   | false=>simp
   | true=>simp[jz b a h]) rows
 show this.imp λ h=>by exists h
def gS {rows out:List (List Int)}(hp:out.Perm rows) (hs:out.Pairwise λ a b=>HT.lexLt b a=false):out=xn rows:=
 kT (λ a b h1 h2=>du a b h2 h1) (hp.trans (ug rows).symm) hs (kB rows)
def p9 (rows:List (List Int)) (i j:Nat):Bool:=HT.lexLt (rows.getD i []) (rows.getD j [])
def Xr (rows:List (List Int)):Ord (p9 rows):=#[λ _ _ _ h1 h2=>jy _ _ _ h1 h2,λ _ _ h=>jz _ _ h]
section
variable {prog:Program}{w:World}{A:Around}{E:Af}{s:Shared}{Q:Bool->Shared->Prop}
theorem dJ {b:Bool}:∀ (ns ms:List Int) (us ws:Ae) (i:Nat),IntsAre us ns->IntsAre ws ms->Q (HT.lexLt ns ms) s->KatLex prog w A b (decide (ns.length<ms.length)) Q (us.zip ws) i s
 | [],[],_,_,_,.nil,.nil,h=>kat_nil (by simpa [HT.lexLt] using h)
 | [],_::_,_,_,_,.nil,.cons _ _ _,h=>kat_nil (by simpa [HT.lexLt] using h)
 | _::_,[],_,_,_,.cons _ _ _,.nil,h=>kat_nil (by simpa [HT.lexLt] using h)
 | n::ns,m::ms,_,_,i,.cons _ t hu,.cons _ u hw,h=>by
  rw[HT.sg] at h;exact kat_cons (SeqAt.EqAt.int_int n t m u prog w _ _ (kat_go (λ e=>kat_yes ?_) λ e=>kat_no ?_))
  .have e':n=m:=by exists e
   rw[if_pos e'] at h;rw[show decide ((n::ns).length<(m::ms).length)=decide (ns.length<ms.length) by simp];show dJ ns ms _ _ (i+1) hu hw h
  .have e':¬ n=m:=by exists e
   rw[if_neg e'] at h;cases b&&i == 0 with
   | true=>show kat_lt_int h
   | false=>show kat_one _ _ (lt_int h)
def rR (h:Heap):List Value->List (List Int)->Prop:=Paired λ v r=>r≠[]/\∃ b o Aa n,v=.ref b/\h.get? b=↑o/\o.cls=.type "tuple"/\o.data=.seq Aa n/\IntsAre Aa.toList r
theorem rR.cR {h:Heap}:∀ {vs:Ae}{rows:List (List Int)},rR h vs rows->∃ fs,KatTups h vs fs/\fs.length=vs.length/\∀ v∈fs,∃ n t,v=Value.int n t
 | _,_,.nil=>#[[],KatTups.nil,rfl,λ _ hv=>absurd hv #[]]
 | _,_,.cons #[Aq,b,o,Aa,n,hv,ho,hc,hd,hi] r=>by
  let#[fs,h1,h2,h3]:=rR.cR r;subst hv;let#[Aa]:=Aa;cases hi with
  | nil=>show absurd rfl Aq
  | cons k t _=>show#[.int k t::fs,KatTups.cons ho hc hd rfl h1,by simp[h2],λ v hv=>(Ah.mp hv).elim (λ e=>#[k,t,e]) (h3 v)]
theorem Paired.at' {α β:Type}{F:α->β->Prop}:∀ {l₁:List α}{l₂:List β}{i:Nat},Paired F l₁ l₂->i<l₁.length->∀ (d:α) (e:β),F (l₁.getD i d) (l₂.getD i e)
 | _,_,_,.nil,h,_,_=>absurd h #[]
 | _,_,0,.cons r _,_,_,_=>r
 | _,_,i+1,.cons _ t,h,d,e=>by exists Paired.at' (i:=i) t (by exists h) d e
def rR.ask {vs:Ae}{rows:List (List Int)}{b:Bool}(r:rR s.heap vs rows) {i j:Nat}(hi:i<vs.length) (hj:j<vs.length) {C:Bool->Shared->Prop}(h:C (p9 rows i j) s):kas_ask prog w A (tuples' b) vs i j C s:=by
 let#[_,b1,o1,its1,n1,e1,g1,_,d1,q1]:=Paired.at' r hi Value.none [];let#[_,b2,o2,Fm,n2,e2,g2,_,d2,q2]:=Paired.at' r hj Value.none [];unfold kas_ask;rw[e1,e2];exact kat_lt g1 d1 g2 d2 ?_;have l1:=q1.length;have l2:=q2.length;rw[BB] at l1 l2;rw[l1,l2];show dJ _ _ _ _ 0 q1 q2 h
theorem gm {α:Type}{n:Nat}{lt:Nat->Nat->Bool}{cmp:Nat->Nat->(Bool->Shared->Prop)->Shared->Prop}{Q:α->Shared->Prop}(hc:∀ i j C,i<n->j<n->C (lt i j) s->cmp i j C s):∀ {t:KasT α},yw n lt t (λ a=>Q a s)->t.kasWp cmp Q s
 | .ret _,h=>h
 | .ask i j _,h=>hc i j _ h.1 h.2.1 (gm hc h.2.2)
def iT (vs:Ae) (rows:List (List Int)) (out:Ax):Prop:=
 ∃ ps:List (Value×List Int),ps.Perm (vs.zip rows)/\out.toList=ps.map (·.1)/\(ps.map (·.2)).Pairwise λ a b=>HT.lexLt b a=false
theorem Yc {α β:Type}{l:List α}{m:List β}(h:l.length=m.length) (a:α) (b:β):(List.range l.length).map (λ i=>(l.getD i a,m.getD i b))=l.zip m:=by
 exact C4 (by simp;lia) λ i h1 h2=>?_;have h3:i<l.length/\i<m.length:=by simp at h1;lia
 simp[h3.1,h3.2]
theorem Y_ {rows:List (List Int)}{p:Array Nat}{n:Nat}(hn:p.size=n) (h:vk (p9 rows) p n):(p.toList.map λ i=>rows.getD i []).Pairwise λ a b=>HT.lexLt b a=false:=by
 rw[CJ,C3];intro i j hi hj Bg;have:=h i j (Bo Bg) (by rw[<- hn];exists hj);simp![BB] at hi hj;unfold Le p9 at this;simpa [DE,hi,hj] using this
theorem Ow {vs:Ae}{rows:List (List Int)}(r:rR s.heap vs rows) (h2:2<=vs.length) (FZ:vs.length<64):Core prog w A E vs (iT vs rows) s:=by
 let#[fs,t,hl,hf]:=r.cR;unfold Core;exact kat_kind (T:=.type "int") t ⋯ (λ v hv=>?_) rfl #[rfl,?_]
 .let#[n,t,rfl]:=hf v hv;show Looks.of_pure rfl
 .exact kat_run (ks:=vs) (Q:=λ st GW=>GW=s/\failedOf st=none/\iT vs rows ((arrOf st).map (·.2))/\(arrOf st).size=vs.length) (G:=λ p GW=>GW=s/\xh vs.length p/\vk (p9 rows) p vs.length) rfl h2 FZ (λ p st s' hs ha EF hg=>?_) ?_
  .let#[h1,h3,h4]:=hg;exact#[h1,EF,#[p.toList.map λ i=>(vs.getD i Value.none,rows.getD i []),?_,?_,?_],by rw[ha,C5];show hs]
   .rw[<- Yc (Paired.length r) Value.none []];have:=Array.Perm.toList h3;show List.Perm.map _ (by exists this)
   .rw[kat_snds rfl ha,A0];rfl
   .rw[A0];show Y_ hs h4
  .show gm (λ i j C hi hj hC=>r.ask hi hj hC) (yw.mono (λ p hp=>#[rfl,hp]) (Xc (Xr rows) ⋯))
end
section
variable {X:Cx}
def Paired.perm {α β:Type}{F:α->β->Prop}{l l':List α}(p:l'.Perm l):∀ {m:List β},Paired F l m->∃ m',m'.Perm m/\Paired F l' m':=by
 induction p with
 | nil=>intro m h;show#[m,.refl _,h]
 | cons x _ ih=>
  intro m h;cases h with
  | cons a h=>
   let#[m',h1,h2]:=ih h;show#[_,h1.cons _,.cons a h2]
 | swap x y l=>
  intro m h;cases h with
  | cons a h=>
   cases h with
   | cons b h=>show#[_,.swap _ _ _,.cons b (.cons a h)]
 | trans _ _ IY IX=>
  intro m h;let#[m1,h1,h2]:=IX h;let#[m2,h3,h4]:=IY h2;show#[m2,h3.trans h1,h4]
abbrev aE (K:Ac) (H:Hp) (v:V) (r:List Int):Prop:=r≠[]/\∃ b,v=V.ref b/\zN K H b (r.map V.int)
abbrev sO (K:Ac) (H:Hp) (ys:List V) (rows:List (List Int)):Prop:=Paired (aE K H) ys rows
abbrev VR (K:Ac) (H:Hp):List Value->List (V×List Int)->Prop:=Paired λ u q=>RelV q.1 u/\aE K H q.1 q.2
theorem VR.of {K:Ac}{H:Hp}:∀ {ys:List V}{vs:Ae}{rows:List (List Int)},Vals ys vs->sO K H ys rows->VR K H vs (ys.zip rows)
 | _,_,_,.nil,.nil=>.nil
 | _,_,_,.cons r t,.cons r' t'=>.cons #[r,r'] (VR.of t t')
abbrev oI (qs:List (V×List Int)) (H:Hp) (Q:VK):Prop:=∀ p (ps:List (V×List Int)),H p=none->ps.Perm qs->(ps.map (·.2)).Pairwise (λ a b=>HT.lexLt b a=false)->Q (.ref p) (upd H p (.lst (ps.map (·.1))))
def kA {EN:Ai}{B:L2.St}{H:Hp}{s:Shared}{a:Addr}{vs:Ae}{qs:List (V×List Int)}{Q:VK}(I:Inv X EN B H s)
  (C:∀ Q':List Value->Shared->Prop,(∀ h1 tk,(∀ b o,¬ False->s.heap.get? b=↑o->h1.get? b=↑o)->s.heap.objs.size<=h1.objs.size->Q' vs { s with heap:=h1,toks:=tk })->wpAny (model X.prog X.w) X.A.in1 (collect (.ref a)) Q' X.xe s)
  (hv:VR X.K H vs qs) (FZ:qs.length<64) (q:oI qs H Q):wpAny (model X.prog X.w) X.A (call (.builtin "sorted") [.ref a]) (EP X EN B Q) X.xe s:=by
 have hl:vs.length=qs.length:=Paired.length hv;have hz:qs.length<=sizeLine:=Be (Bo FZ) ();have Gp:∀ h6:Heap,(∀ b o,¬ False->s.heap.get? b=↑o->h6.get? b=↑o)->rR h6 vs (qs.map (·.2)):=λ h6 k=>by
  clear q hl FZ hz C
  induction hv with
  | nil=>show .nil
  | cons g t ih=>
   exact .cons ?_ ih;let#[r1,Aq,b,e1,hb]:=g;rw[e1] at r1;cases r1;let#[Fm,Hc,#[o,e,hc,n,hd],_]:=I.tuple hb;show#[Aq,b,o,_,n,rfl,k _ _ id e,hc,hd,by exists intsAre_of Hc]
 exact gR (Out:=iT vs (qs.map (·.2))) C ⋯ (λ h2 s6 k=>Ow (Gp _ k) h2 ⋯) (λ h1=>#[vs.zip (qs.map (·.2)),.refl _,by rw[List.map_fst_zip (by simp;lia)],?_]) λ out h' tk p ho hs hp k Dr=>?_
 .rw[List.map_snd_zip (by simp;lia),C3];intro i j hi hj Bg;simp at hi hj;lia
 .let#[ps,g1,g2,g3]:=ho;let#[e,he]:=Dr;have z:Paired (λ p q=>RelV q.1 p.1/\p.2=q.2) (vs.zip (qs.map (·.2))) qs:=by
   clear g1 hs hl FZ hz C Gp q
   induction hv with
   | nil=>show .nil
   | cons a _ ih=>show .cons #[a.1,rfl] ih
  let#[GX,q1,q2]:=Paired.perm g1 z;have f:Vals (GX.map (·.1)) (ps.map (·.1))/\GX.map (·.2)=ps.map (·.2):=by
   clear q1 g1 g2 g3
   induction q2 with
   | nil=>show#[.nil,rfl]
   | cons a _ ih=>show#[.cons a.1 ih.1,by rw[Av,Av,ih.2,a.2]]
  exact#[.ref p,_,I.laid (t':=tk) (o:=.lst (GX.map (·.1))) (λ b o e=>k b o id e) hp #[?_,out.toList,e,by rw[g2];show f.1,by exists he],rfl,q p GX (I.zu.fresh hp) q1 (by rw[f.2];show g3)];rw[AA,q1.length_eq];show hz
end
end L4
namespace L2
open PySem PySem.Spec PyProof.Rows
def uG (ty T:String):Bool:=ty == T||(ty == "bool"&&T == "int")
def nB (ty T:String):Bool:=PySem.W.kitMeta T&&decide ((fastBuiltinMro ty).map (λ l=>l.contains (Value.type T))=↑(uG ty T))
def Yu:(["NoneType","bool","int","str","tuple","list","dict"].all λ ty=>["int","bool","tuple","list","str"].all λ T=>nB ty T)=true:=by decide +kernel
def Qe {K:Ac}{ty T:String}(h:nB ty T=true):PySem.W.kitOne K (.type ty) (.type T)=↑(uG ty T):=by
 unfold nB at h;rw[Cr] at h;unfold PySem.W.kitOne;split
 .rename_i e;have e':ty=T:=by have:=eq_of_beq e;injection this
  subst e';simp[uG]
 .change (if PySem.W.kitMeta T=true then PySem.W.subIn K (.type ty) (.type T) else none)=_;rw[if_pos h.1];show of_decide_eq_true h.2
def aD (K:Ac) (H:Hp):V->String->Prop
 | .zp,t=>t="NoneType"
 | .bl _,t=>t="bool"
 | .int _,t=>t="int"
 | .str _,t=>t="str"
 | .ref a,t=>(t="tuple"/\∃ xs,zN K H a xs)\/(t="list"/\∃ xs,zC K H a xs)\/(t="dict"/\∃ Ab,H a=↑(.dK Ab))
 | _,_=>False
def OY {X:Cx}:y9 X (.builtin "isinstance") (λ xs H Q=>∃ x T ty,xs=[x,.ty T]/\aD X.K H x ty/\nB ty T=true/\Q (.bl (uG ty T)) H):=by
 intro EN s B H xs us Q I r h;let#[x,T,ty,rfl,hx,hT,q]:=h;let#[u,c,rfl,ru,rc]:=vals2 r;cases (show c=Value.type T from rc);have e:PySem.W.kitOne X.K (.type ty) (.type T)=↑(uG ty T):=Qe hT;have fin:∀ tk,EP X EN B Q (.bool (uG ty T)) { s with toks:=tk }:=λ tk=>#[.bl _,H,I.tok tk,rfl,q];cases x with
 | zp=>cases (show u=Value.none from ru);cases (show ty=_ from hx);show PySem.W.kia_one PySem.W.kitx_none I.vz True.intro e (λ z=>nomatch z) fin
 | bl y=>cases (show u=Value.bool y from ru);cases (show ty=_ from hx);show PySem.W.kia_one PySem.W.kitx_bool I.vz True.intro e (λ z=>nomatch z) fin
 | int i=>let#[t,rfl]:=(show ∃ t,u=Value.int i t from ru);cases (show ty=_ from hx);show PySem.W.kia_one PySem.W.kitx_int I.vz True.intro e (λ z=>nomatch z) fin
 | str y=>let#[t,rfl]:=(show ∃ t,u=Value.str y t from ru);cases (show ty=_ from hx);show PySem.W.kia_one PySem.W.kitx_str I.vz True.intro e (λ z=>nomatch z) fin
 | ref a=>
  cases (show u=Value.ref a from ru);rcases hx with ⟨rfl,ys,hq⟩ | ⟨rfl,ys,hq⟩ | ⟨rfl,Ab,hq⟩
  .let#[Aa,_,#[o,h1,h2,_],_]:=I.tuple hq;show PySem.W.kia_one PySem.W.kitx_tuple I.vz #[o,h1,h2] e (λ z=>nomatch z) fin
  .let#[Aa,_,#[o,n,h1,h2,_],_]:=I.list hq;show PySem.W.kia_one PySem.W.kitx_list I.vz #[o,h1,h2] e (λ z=>nomatch z) fin
  .let#[_,_,vs,_,p]:=(show yL X.prog X.w H s.heap a (.dK Ab) from I.zu a _ hq)
   let#[o,es,ep,h1,h2,_]:=p;show PySem.W.kia_one PySem.W.kitx_dict I.vz #[o,h1,h2.1] e (λ z=>nomatch z) fin
 | _=>show hx.elim
end L2
namespace L3
open PySem PySem.Spec L2
open PyProof.Rows hiding St
section
variable {X:Cx}{K:Ac}{a e:Expr}{es:List Expr}{te:zr}{tA:yf}{pos p q:Pos}
def VP (hm:X.mg "len"=none) (ha:yX X (e::es) tA) (hg:Gl X "len") (he:AG X e es) (Ar:AN X pos es):PD X (.Call (.Name "len" p) (e::es) [] pos) (xc vW tA):=
 vO (ui (OV.or OU) hg hm PySem.boot_len ha.pa () () he Ar) vW.mo vW.fits ha.mo
def VO (hm:X.mg "list"=none) (ha:yX X (e::es) tA) (hg:Gl X "list") (he:AG X e es) (Ar:AN X pos es):PD X (.Call (.Name "list" p) (e::es) [] pos) (xc vV tA):=
 vO (qt OS hg hm PyProof.Rows.boot_list ha.pa () () he Ar) vV.mo vV.fits ha.mo
def Vy (hm:X.mg "tuple"=none) (ha:yX X (e::es) tA) (hg:Gl X "tuple") (he:AG X e es) (Ar:AN X pos es):PD X (.Call (.Name "tuple" p) (e::es) [] pos) (xc vT tA):=
 vO (qt OC hg hm PyProof.Rows.boot_tuple ha.pa () () he Ar) vT.mo vT.fits ha.mo
abbrev cU:xf:=vA λ i j=>.int (if j>i then j else i)
abbrev cT:xf:=vA λ i j=>.int (if j<i then j else i)
def VF (hm:X.mg "max"=none) (ha:yX X (e::es) tA) (hc:X.calm=true) (hg:Gl X "max") (he:AG X e es) (Ar:AN X pos es):PD X (.Call (.Name "max" p) (e::es) [] pos) (xc cU tA):=
 vO (ui (OQ hc) hg hm boot_max ha.pa () () he Ar) vA.mo (vA.fits λ _ _ _=>by simp![ze]) ha.mo
def VD (hm:X.mg "min"=none) (ha:yX X (e::es) tA) (hc:X.calm=true) (hg:Gl X "min") (he:AG X e es) (Ar:AN X pos es):PD X (.Call (.Name "min" p) (e::es) [] pos) (xc cT tA):=
 vO (ui (OO hc) hg hm boot_min ha.pa () () he Ar) vA.mo (vA.fits λ _ _ _=>by simp![ze]) ha.mo
def va (r:List Int):D:=.tup (r.map D.int)
theorem zk.nU {H:Hp}:∀ {ps:List (V×List Int)},(∀ q∈ps,ze K H (va q.2) q.1)->zk K H ((ps.map (·.2)).map va) (ps.map (·.1))
 | [],_=>.nil
 | q::ps,h=>.cons (h q Ap) (zk.nU λ q hq=>h q (Aw _ hq))
theorem zk.nk {H:Hp}:∀ {rows:List (List Int)}{ys:List V},zk K H (rows.map va) ys->∀ q∈ys.zip rows,ze K H (va q.2) q.1
 | [],ys,_,q,hq=>by simp at hq
 | r::rows,ys,h,q,hq=>by
  rw[Av] at h;simp![zk] at h;let#[x,GF,rfl,h1,h3]:=h;rcases Ah.mp hq with e | hq
  .subst e;show h1
  .show zk.nk h3 q hq
theorem nN {H:Hp}:∀ {rows:List (List Int)}{ys:List V},zk K H (rows.map va) ys->(∀ r∈rows,r≠[])->L4.sO K H ys rows
 | [],ys,h,_=>by simp![Ba,zk] at h;subst h;show .nil
 | r::rows,ys,h,hn=>by
  rw[Av] at h;simp![zk,va,ze] at h;let#[x,GF,rfl,#[a,xs,rfl,g1,g2],h3]:=h;rw[g2.ints] at g1;show .cons #[hn r Ap,a,rfl,g1] (nN h3 λ r' hr=>hn r' (Aw _ hr))
def Vk {tg:Expr}(hm:X.mg "range"=none) (ha:yX X [a] tA) (hg:Gl X "range") (hs:starEach [a] X.env=[(false,eval a X.env)]):u5 X tg (.Call (.Name "range" p) [a] [] pos) (j7 tA):=Vl (Wc hg hm ha.pa hs) ha.mo
def tU (d:D) (S:SS):Option String:=match d with
 | .zp=>↑"NoneType"
 | .bl _=>↑"bool"
 | .int _=>↑"int"
 | .str _=>↑"str"
 | .tup _=>↑"tuple"
 | .xw _=>↑"list"
 | .ref p=>match S p with
  | some (.lst _)=>↑"list"
  | some (.zU _)=>↑"dict"
  | _=>none
 | .err _ _ _=>none
def o5 (T:String) (te:zr):zr:=fun L S Q=>te L S λ x S1=>match tU x S1 with
 | some ty=>Q (.bl (uG ty T)) S1
 | _=>False
theorem tU.ok {H:Hp}{d:D}{v:V}{S:SS}{ty:String}(r:ze K H d v) (p:zF K H S) (h:tU d S=↑ty):aD K H v ty/\ty∈["NoneType","bool","int","str","tuple","list","dict"]:=by
 cases d with
 | err _ _ _=>cases h
 | tup ds=>
  simp![ze] at r;let#[a,xs,rfl,g1,_]:=r;cases h;show#[.inl #[rfl,xs,g1],#[]]
 | xw ds=>
  simp![ze] at r;let#[a,xs,rfl,g1,_]:=r;cases h;show#[.inr (.inl #[rfl,xs,g1.sq]),#[]]
 | ref a=>
  simp![ze] at r;subst r;unfold tU at h;dsimp only at h;split at h
  .rename_i e;cases h;let#[xs,g1,_]:=p _ _ e;show#[.inr (.inl #[rfl,xs,zC.of g1]),#[]]
  .rename_i e;cases h;let#[xs,g1,_]:=p _ _ e;show#[.inr (.inr #[rfl,xs,g1]),#[]]
  .cases h
 | _=>simp![ze] at r;subst r;cases h;show#[rfl,#[]]
def kW {T:String}{x:Str}(hT:T∈["int","bool","tuple","list","str"]) (hm:X.mg "isinstance"=none) (GY:X.mg x=none) (hv:bootBuiltins x=↑(.type T)) (GP:Gl X x) (hn:x≠"__name__") (hd:(x == ("__debug__":Str))=false) (he:PD X e te) (hg:Gl X "isinstance")
  (h1:AG X e [.Name x q]) (h2:AN X pos [.Name x q]) (h3:AG X (.Name x q) []):
  PD X (.Call (.Name "isinstance" p) [e,.Name x q] [] pos) (o5 T te):=by
 exact#[fun L S Q Q' hq z=>he.mo L S _ _ (λ y S1 z=>?_) z,PE.imp (ui OY hg hm boot_isinstance (ra he.pe (ra (WE (v:=.ty T) GP GY hv rfl hn hd) qv h3) h1) () () h1 h2) fun B H Q hu=>?_]
 .split at z
  .show hq _ _ z
  .show z
 .let#[L,S,r1,r2,z]:=hu;exact zG.go he.mo r1 r2 z λ y S1 v H1 z1 q1 e1 p1=>?_;split at z1
  .rename_i ty ht;let#[g1,g2]:=tU.ok q1 p1 ht;exact#[v,T,ty,rfl,g1,?_,z1 _ H1 (by simp![ze]) e1 p1];show BP.mp (BP.mp Yu ty g2) T hT
  .show z1.elim
def VU (T:Bt X.mg) (he:PD X e te) (hg:Gl X "isinstance") (GP:Gl X "bool") (h1:AG X e [.Name "bool" q]) (h2:AN X pos [.Name "bool" q]) (h3:AG X (.Name "bool" q) []):
  PD X (.Call (.Name "isinstance" p) [e,.Name "bool" q] [] pos) (o5 "bool" te):=kW #[] T.isinstance T.bool PyProof.Rows.boot_bool GP () () he hg h1 h2 h3
def VT (T:Bt X.mg) (he:PD X e te) (hg:Gl X "isinstance") (GP:Gl X "int") (h1:AG X e [.Name "int" q]) (h2:AN X pos [.Name "int" q]) (h3:AG X (.Name "int" q) []):
  PD X (.Call (.Name "isinstance" p) [e,.Name "int" q] [] pos) (o5 "int" te):=kW #[] T.isinstance T.int PyProof.Rows.boot_int GP () () he hg h1 h2 h3
def VS (T:Bt X.mg) (he:PD X e te) (hg:Gl X "isinstance") (GP:Gl X "tuple") (h1:AG X e [.Name "tuple" q]) (h2:AN X pos [.Name "tuple" q]) (h3:AG X (.Name "tuple" q) []):
  PD X (.Call (.Name "isinstance" p) [e,.Name "tuple" q] [] pos) (o5 "tuple" te):=kW #[] T.isinstance T.tuple PyProof.Rows.boot_tuple GP () () he hg h1 h2 h3
def VI {o:Expr}{to:zr}{apos Am:Pos}(ho:PD X o to) (he:PD X e te)
  (Ge:attributeBase o "append" X.env (eval o X.env)=eval o X.env)
  (AQ:((backTo Am (starEach [e] X.env)).all (λ x=>!x.1)&&(backToKw Am (keywordEach [] X.env)).all (λ x=>x.1.isSome)
   && decide ([e].length+([]:List Keyword).length+(if ([]:List Keyword).isEmpty then 0 else 1)<30))=true)
  (Ga:(apos.endLine == Am.line)=true) (hs:AG X e []) (FO:AN X Am []):
  PD X (.Call (.Attribute o "append" apos) [e] [] Am) (sI to te):=
 Uq (o:=o) (e:=e) (fU PySem.F.plainAttrs_list PySem.F.slot_list_append PySem.F.type_list_append eX ho.pe (ra he.pe qv hs) Ge AQ Ga hs FO) ho.mo he.mo
structure FD (P:Program) (w:World) (K:Ac) (mg:AI) (base:Heap) (x:Str) (k:Nat) (ps:List Str) (sp:tH):Prop where
 ex:∃ (f:Addr) (fd:FuncData),vH P w K mg base xr k f fd ps (u9 K sp)/\mg x=↑(.ref f)/\PySem.W.keepIn K (.ref f)=true/\Binds K fd ps []
 mo:iV sp
def Ul {x:Str}{k:Nat}{ps:List Str}{sp:tH}(F:FD X.prog X.w X.K X.mg X.base x k ps sp) (hr:z_ k X.A) (ha:yX X (e::es) tA) (hg:Gl X x) (BL:(x == ("__debug__":Str))=false)
  (he:AG X e es) (Ar:AN X pos es):PD X (.Call (.Name x p) (e::es) [] pos) (mU sp tA):=by
 let#[#[f,fd,h1,h2,h3,h4],hm]:=F;show Um (E:=E0) (WD h1 hr hg h2 h3 h4 .nil Uv ha.pa BL he Ar) hm ha.mo
end
def Pu {S:SS}{p:Addr}{ds:List D}{Q:DK}(e:S p=↑(.lst ds)) (h:Q (.tup ds) S):vT [.ref p] S Q:=by
 unfold vT;dsimp only;rw[e];show h
def Pw {S:SS}{d:D}{ds:List D}{Q:DK}(e:zH d S=↑ds) (h:∀ p,S p=none->Q (.ref p) (ups S p (.lst ds))):vV [d] S Q:=by
 unfold vV;dsimp only;rw[e];show h
def Px {S:SS}{d:D}{ds:List D}{Q:DK}(e:zH d S=↑ds) (h:Q (.int ds.length) S):vW [d] S Q:=by
 unfold vW;dsimp only;rw[e];show h
def Y1 {S:SS}{p:Addr}{ds:List D}{Q:Bool->SS->Prop}(e:S p=↑(.lst ds)) (h:Q (!ds.isEmpty) S):vt (.ref p) S Q:=by
 unfold vt;dsimp only;rw[e];show h
def P0 {S:SS}{p:Addr}{ds:List D}{i:Int}{d:D}{Q:DK}(e:S p=↑(.lst ds)) (e2:L2.zT ds i=↑d) (h:Q d S):x_ (.ref p) (.int i) S Q:=by
 unfold x_;dsimp only;rw[e];dsimp only;rw[e2];show h
def Py {S:SS}{ds:List D}{i:Int}{d:D}{Q:DK}(e2:L2.zT ds i=↑d) (h:Q d S):x_ (.tup ds) (.int i) S Q:=by
 unfold x_;dsimp only;rw[e2];show h
def Pz {S:SS}{ds:List D}{i:Int}{d:D}{Q:DK}(e2:L2.zT ds i=↑d) (h:Q d S):x_ (.xw ds) (.int i) S Q:=by
 unfold x_;dsimp only;rw[e2];show h
inductive T where
 | zp | bl (b:Bool) | int (i:Int) | str (x:Str) | tup (ts:List T) | lst (ts:List T) | yV | err (c f:Str) (t:T) | dn (l:List ((Int×List Int)×Int))
mutual
def eqT:T->T->Bool
 | .zp,.zp=>true
 | .bl a,.bl b=>a == b
 | .bl a,.int b=>(if a then 1 else 0) == b
 | .int a,.bl b=>a == (if b then 1 else 0)
 | .int a,.int b=>a == b
 | .str a,.str b=>a == b
 | .tup a,.tup b=>xj a b
 | .lst a,.lst b=>xj a b
 | .yV,.yV=>true
 | .dn a,.dn b=>decide (a=b)
 | .err a b t,.err c d u=>a == c&&(b == d&&eqT t u)
 | _,_=>false
def xj:List T->List T->Bool
 | [],[]=>true
 | a::as,b::bs=>eqT a b&&xj as bs
 | _,_=>false
end
mutual
def dep:T->Nat
 | .tup ts=>1+x9 ts
 | .lst ts=>1+x9 ts
 | .yV=>cLine
 | .dn _=>cLine
 | .err _ _ _=>cLine
 | _=>0
def x9:List T->Nat
 | []=>0
 | t::ts=>max (dep t) (x9 ts)
end
def ja:List T->Bool
 | []=>true
 | .int _::ts=>ja ts
 | _=>false
def UJ (ns:List Int):ja (ns.map T.int)=true:=by
 induction ns with
 | nil=>rfl
 | cons n ns ih=>show ih
mutual
def Sn (S:SS):T->D->Prop
 | .zp,d=>d=.zp
 | .bl b,d=>d=.bl b
 | .int i,d=>d=.int i
 | .str x,d=>d=.str x
 | .tup ts,d=>∃ ds,d=.tup ds/\zj S ts ds
 | .lst ts,d=>∃ ds,((d=.xw ds/\ja ts=true)\/∃ a,d=.ref a/\S a=↑(.lst ds))/\zj S ts ds
 | .yV,d=>∃ a Ab,(d=.ref a/\Ab=[])/\S a=↑(.zU Ab)
 | .err c f t,d=>∃ x,d=.err c f x/\Sn S t x
 | .dn l,d=>∃ a,d=.ref a/\S a=↑(.zY l)
def zj (S:SS):List T->List D->Prop
 | [],ds=>ds=[]
 | t::ts,ds=>∃ c cs,ds=c::cs/\Sn S t c/\zj S ts cs
end
mutual
theorem cX:∀ t:T,eqT t t=true
 | .zp=>by simp[eqT]
 | .bl b=>by simp[eqT]
 | .int i=>by simp[eqT]
 | .str x=>by simp[eqT]
 | .tup ts=>by simp![eqT];show mO ts
 | .lst ts=>by simp![eqT];show mO ts
 | .yV=>by simp[eqT]
 | .dn _=>by simp[eqT]
 | .err _ _ t=>by simp[eqT,cX t]
theorem mO:∀ ts:List T,xj ts ts=true
 | []=>by simp[xj]
 | t::ts=>by simp![xj,cX t,mO ts,DD]
end
theorem ia:∀ ts us:List T,xj ts us=((List.range (min ts.length us.length)).all (λ j=>eqT (ts.getD j .zp) (us.getD j .zp))&&ts.length == us.length)
 | [],[]=>by simp[xj]
 | [],_::_=>by simp[xj]
 | _::_,[]=>by simp[xj]
 | t::ts,u::us=>by
  simp![xj,ia ts us,A5];rw[show min (ts.length+1) (us.length+1)=min ts.length us.length+1 by lia,List.range_succ_eq_map,List.all_cons,List.all_map];have:(ts.length+1 == us.length+1)=(ts.length == us.length):=by rw[A7];simp
  rw[this,Bool.and_assoc];rfl
theorem zj.length {S:SS}:∀ {ts:List T}{ds:List D},zj S ts ds->ts.length=ds.length
 | [],ds,h=>by simp![zj] at h;subst h;rfl
 | t::ts,ds,h=>by
  simp![zj] at h;let#[c,cs,rfl,_,h2]:=h;simp[zj.length h2]
section
variable {X:Cx}{EN:Ai}{B:St}{H:Hp}{s:Shared}{S:SS}
theorem cg (I:Inv X EN B H s) {a:Addr}{xs ys:List V}(h1:zN X.K H a xs) (h2:zC X.K H a ys):False:=by
 let#[_,_,#[o,e,c,_],_]:=I.tuple h1;let#[_,_,#[o',n,e',c',_],_]:=I.list h2;rw[e] at e';cases e';rw[c] at c'
 injection c' with q
 show absurd q ()
def Sn.uo (p:zF X.K H S) {ts:List T}{d:D}{x:V}(h:Sn S (.lst ts) d) (r:ze X.K H d x):∃ a xs ds,x=.ref a/\zC X.K H a xs/\zk X.K H ds xs/\zj S ts ds:=by
 simp![Sn] at h;obtain⟨ds,⟨h,_⟩ | ⟨a,h,e⟩,h2⟩:=h
 .subst h;simp![ze] at r;let#[a,xs,rfl,g1,g2]:=r;show#[a,xs,ds,rfl,g1.sq,g2,h2]
 .subst h;simp![ze] at r;let#[xs,g1,g2]:=p _ _ e;show#[a,xs,ds,r,zC.of g1,g2,h2]
def Sn.uf {ts:List T}{d:D}{x:V}(h:Sn S (.tup ts) d) (r:ze X.K H d x):∃ a xs ds,x=.ref a/\zN X.K H a xs/\zk X.K H ds xs/\zj S ts ds:=by
 simp![Sn] at h;let#[ds,rfl,h2]:=h;simp![ze] at r;let#[a,xs,rfl,g1,g2]:=r;show#[a,xs,ds,rfl,g1,g2,h2]
def Sn.tD (p:zF X.K H S) {d:D}{x:V}(h:Sn S .yV d) (r:ze X.K H d x):∃ a vs,x=.ref a/\H a=↑(.dK vs):=by
 simp![Sn] at h;let#[a,Ab,#[rfl,_],e]:=h;simp![ze] at r;let#[xs,g1,g2]:=p _ _ e;show#[a,xs,r,g1]
def cv (I:Inv X EN B H s) {a:Addr}{vs:List (Key×V)}(h:H a=↑(.dK vs)):∃ o,s.heap.get? a=↑o/\o.cls=.type "dict":=by
 let#[_,_,_,_,o,_,_,e,c]:=(show yL X.prog X.w H s.heap a (.dK vs) from I.zu a _ h)
 show#[o,e,c.1.1]
theorem ck (I:Inv X EN B H s) {a:Addr}{xs:List V}{vs:List (Key×V)}(h1:zN X.K H a xs) (h2:H a=↑(.dK vs)):False:=by
 let#[_,_,#[o,e,c,_],_]:=I.tuple h1;let#[o',e',c']:=cv I h2;rw[e] at e';cases e';rw[c] at c'
 injection c' with q
 show absurd q ()
theorem cq (I:Inv X EN B H s) {a:Addr}{xs:List V}{vs:List (Key×V)}(h1:zC X.K H a xs) (h2:H a=↑(.dK vs)):False:=by
 let#[_,_,#[o,n,e,c,_],_]:=I.list h1;let#[o',e',c']:=cv I h2;rw[e] at e';cases e';rw[c] at c'
 injection c' with q
 show absurd q ()
theorem Sn.flat {t:T}{d:D}{x:V}(h:Sn S t d) (r:ze X.K H d x):match t with
  | .zp=>x=.zp
  | .bl b=>x=.bl b
  | .int i=>x=.int i
  | .str y=>x=.str y
  | _=>True:=by
 cases t <;> first
  | trivial
  | (simp![Sn] at h;subst h;simpa only [ze] using r)
def Sn.uK {c f:Str}{t:T}{d:D}{x:V}(h:Sn S (.err c f t) d) (r:ze X.K H d x):∃ e C dx w y,x=.ref e/\(nc X.K c C/\H e=↑(tP e C dx)/\Xd H f w dx)/\Sn S t y/\ze X.K H y w:=by
 simp![Sn] at h;let#[y,rfl,h]:=h;simp![ze] at r;let#[e,C,dx,w,r1,r2,r3]:=r;show#[e,C,dx,w,y,r1,r2,h,r3]
def mD (I:Inv X EN B H s) {e C:Addr}{dx:Option Addr}(h:H e=↑(tP e C dx)):∃ oe vs,s.heap.get? e=↑oe/\oe.cls=.ref C/\oe.dict=dx/\oe.data=.fields vs:=(show yL X.prog X.w H s.heap e (tP e C dx) from I.zu e _ h).1
def cj (I:Inv X EN B H s) {a C:Addr}{dx:Option Addr}{xs:List V}(h1:zN X.K H a xs) (h2:H a=↑(tP a C dx)):False:=by
 let#[_,_,#[o,e,c,_],_]:=I.tuple h1;let#[o',_,e',c',_]:=mD I h2;rw[e] at e';cases e';rw[c] at c';cases c'
def cp (I:Inv X EN B H s) {a C:Addr}{dx:Option Addr}{xs:List V}(h1:zC X.K H a xs) (h2:H a=↑(tP a C dx)):False:=by
 let#[_,_,#[o,n,e,c,_],_]:=I.list h1;let#[o',_,e',c',_]:=mD I h2;rw[e] at e';cases e';rw[c] at c';cases c'
def cw (I:Inv X EN B H s) {a C:Addr}{dx:Option Addr}{vs:List (Key×V)}(h1:H a=↑(.dK vs)) (h2:H a=↑(tP a C dx)):False:=by
 rw[h1] at h2;cases h2
def Q1 (I:Inv X EN B H s) {e C C':Addr}{dx Jw:Option Addr}(h1:H e=↑(tP e C dx)) (h2:H e=↑(tP e C' Jw)):C=C'/\dx=Jw:=by
 let#[o,_,e1,c1,d1,_]:=mD I h1;let#[o',_,e2,c2,d2,_]:=mD I h2;rw[e1] at e2;cases e2;rw[c1] at c2;rw[d1] at d2;cases c2;cases d2;show#[rfl,rfl]
def Xd.inj {H:Hp}{f f':Str}{w w':V}{dx:Option Addr}(h1:Xd H f w dx) (h2:Xd H f' w' dx):f=f'/\w=w':=by
 cases dx with
 | none=>show#[h1.1.trans h2.1.symm,h1.2.trans h2.2.symm]
 | some x=>have:=h1.symm.trans h2;cases this;show#[rfl,rfl]
def Sn.uM (p:zF X.K H S) {l:List ((Int×List Int)×Int)}{d:D}{x:V}(h:Sn S (.dn l) d) (r:ze X.K H d x):∃ a xs,x=.ref a/\H a=↑(.dN xs)/\vn X.K H l xs:=by
 simp![Sn] at h;let#[a,rfl,e]:=h;simp![ze] at r;let#[xs,g1,g2]:=p _ _ e;show#[a,xs,r,g1,g2]
def cu (I:Inv X EN B H s) {a:Addr}{vs:List ((Int×List Int)×Addr×Value)}(h:H a=↑(.dN vs)):∃ o,s.heap.get? a=↑o/\o.cls=.type "dict":=by
 let#[_,o,_,_,e,c,_]:=(show yL X.prog X.w H s.heap a (.dN vs) from I.zu a _ h)
 show#[o,e,c.1]
theorem d_ (I:Inv X EN B H s) {a:Addr}{xs:List V}{vs:List ((Int×List Int)×Addr×Value)}(h1:zN X.K H a xs) (h2:H a=↑(.dN vs)):False:=by
 let#[_,_,#[o,e,c,_],_]:=I.tuple h1;let#[o',e',c']:=cu I h2;rw[e] at e';cases e';rw[c] at c'
 injection c' with q
 show absurd q ()
theorem cm (I:Inv X EN B H s) {a:Addr}{xs:List V}{vs:List ((Int×List Int)×Addr×Value)}(h1:zC X.K H a xs) (h2:H a=↑(.dN vs)):False:=by
 let#[_,_,#[o,n,e,c,_],_]:=I.list h1;let#[o',e',c']:=cu I h2;rw[e] at e';cases e';rw[c] at c'
 injection c' with q
 show absurd q ()
def vn.inj {K:Ac}{xs:List ((Int×List Int)×Addr×Value)}:∀ {l l':List ((Int×List Int)×Int)},vn K H l xs->vn K H l' xs->l=l':=by
 induction xs with
 | nil=>intro l l' h1 h2;cases h1;cases h2;rfl
 | cons x xs ih=>
  intro l l' h1 h2;cases h1 with
  | cons a b=>
   cases h2 with
   | cons a' b'=>
    let#[a1,_,t,a2]:=a;let#[b1,_,u,b2]:=a';rw[a2] at b2
    injection b2 with b2
    rw[ih b b',Prod.ext (a1.trans b1.symm) b2]
def nc.inj {K:Ac}{c c':Str}{C:Addr}(h1:nc K c C) (h2:nc K c' C):c=c':=by
 let#[_,_,_,#[#[#[_,_,_,_,_,_,_,_,_,_,_,_,a],_],_,_,_,_]]:=h1;let#[_,_,_,#[#[#[_,_,_,_,_,_,_,_,_,_,_,_,b],_],_,_,_,_]]:=h2;rw[a] at b;cases b;rfl
mutual
theorem nA (I:Inv X EN B H s) (p:zF X.K H S):∀ (t u:T) {d e:D}{x:V},Sn S t d->Sn S u e->ze X.K H d x->ze X.K H e x->t=u
 | .tup ts,u,d,e,x,h1,h2,r1,r2=>by
  let#[a,xs,ds,rfl,g1,g2,g3]:=h1.uf r1;cases u with
  | dn _=>let#[_,_,q,g,_]:=h2.uM p r2;cases q;show (d_ I g1 g).elim
  | yV=>let#[_,_,q,g]:=h2.tD p r2;cases q;show (ck I g1 g).elim
  | err _ _ _=>let#[_,_,_,_,_,q,g,_]:=h2.uK r2;cases q;show (cj I g1 g.2.1).elim
  | tup us=>
   let#[a',E6,GU,q,k1,k2,k3]:=h2.uf r2;cases q;have:=I.kq g1 k1;subst this;rw[ko I p ts us g3 k3 g2 k2]
  | lst us=>
   let#[a',E6,GU,q,k1,k2,k3]:=h2.uo p r2;cases q;show (cg I g1 k1).elim
  | _=>show nomatch h2.flat r2
 | .lst ts,u,d,e,x,h1,h2,r1,r2=>by
  let#[a,xs,ds,rfl,g1,g2,g3]:=h1.uo p r1;cases u with
  | dn _=>let#[_,_,q,g,_]:=h2.uM p r2;cases q;show (cm I g1 g).elim
  | yV=>let#[_,_,q,g]:=h2.tD p r2;cases q;show (cq I g1 g).elim
  | err _ _ _=>let#[_,_,_,_,_,q,g,_]:=h2.uK r2;cases q;show (cp I g1 g.2.1).elim
  | lst us=>
   let#[a',E6,GU,q,k1,k2,k3]:=h2.uo p r2;cases q;have:=I.jx g1 k1;subst this;rw[ko I p ts us g3 k3 g2 k2]
  | tup us=>
   let#[a',E6,GU,q,k1,k2,k3]:=h2.uf r2;cases q;show (cg I k1 g1).elim
  | _=>show nomatch h2.flat r2
 | .zp,u,d,e,x,h1,h2,r1,r2=>by
  have q:=h1.flat r1;subst q;cases u with
  | dn _=>let#[_,_,q,_]:=h2.uM p r2;cases q
  | yV=>let#[_,_,q,g]:=h2.tD p r2;cases q
  | err _ _ _=>let#[_,_,_,_,_,q,_]:=h2.uK r2;cases q
  | zp=>rfl
  | tup us=>let#[_,_,_,q,_]:=h2.uf r2;cases q
  | lst us=>let#[_,_,_,q,_]:=h2.uo p r2;cases q
  | _=>show nomatch h2.flat r2
 | .bl b,u,d,e,x,h1,h2,r1,r2=>by
  have q:=h1.flat r1;subst q;cases u with
  | dn _=>let#[_,_,q,_]:=h2.uM p r2;cases q
  | yV=>let#[_,_,q,g]:=h2.tD p r2;cases q
  | err _ _ _=>let#[_,_,_,_,_,q,_]:=h2.uK r2;cases q
  | bl _=>have q:=h2.flat r2;cases q;rfl
  | tup us=>let#[_,_,_,q,_]:=h2.uf r2;cases q
  | lst us=>let#[_,_,_,q,_]:=h2.uo p r2;cases q
  | _=>show nomatch h2.flat r2
 | .int b,u,d,e,x,h1,h2,r1,r2=>by
  have q:=h1.flat r1;subst q;cases u with
  | dn _=>let#[_,_,q,_]:=h2.uM p r2;cases q
  | yV=>let#[_,_,q,g]:=h2.tD p r2;cases q
  | err _ _ _=>let#[_,_,_,_,_,q,_]:=h2.uK r2;cases q
  | int _=>have q:=h2.flat r2;cases q;rfl
  | tup us=>let#[_,_,_,q,_]:=h2.uf r2;cases q
  | lst us=>let#[_,_,_,q,_]:=h2.uo p r2;cases q
  | _=>show nomatch h2.flat r2
 | .str b,u,d,e,x,h1,h2,r1,r2=>by
  have q:=h1.flat r1;subst q;cases u with
  | dn _=>let#[_,_,q,_]:=h2.uM p r2;cases q
  | yV=>let#[_,_,q,g]:=h2.tD p r2;cases q
  | err _ _ _=>let#[_,_,_,_,_,q,_]:=h2.uK r2;cases q
  | str _=>have q:=h2.flat r2;cases q;rfl
  | tup us=>let#[_,_,_,q,_]:=h2.uf r2;cases q
  | lst us=>let#[_,_,_,q,_]:=h2.uo p r2;cases q
  | _=>show nomatch h2.flat r2
 | .err c f t,u,d,e,x,h1,h2,r1,r2=>by
  let#[a,C,dx,w,y,rfl,#[g1,g2,g3],g4,g5]:=h1.uK r1;cases u with
  | dn _=>let#[_,_,q,g,_]:=h2.uM p r2;cases q;rw[g2] at g;cases g
  | err c' f' t'=>
   let#[a',C',Jw,w',y',q,#[k1,k2,k3],k4,k5]:=h2.uK r2;cases q;let#[rfl,rfl]:=Q1 I g2 k2;let#[rfl,rfl]:=g3.inj k3;cases g1.inj k1;rw[nA I p t t' g4 k4 g5 k5]
  | yV=>let#[_,_,q,g]:=h2.tD p r2;cases q;show (cw I g g2).elim
  | tup us=>let#[_,_,_,q,k1,_]:=h2.uf r2;cases q;show (cj I k1 g2).elim
  | lst us=>let#[_,_,_,q,k1,_]:=h2.uo p r2;cases q;show (cp I k1 g2).elim
  | _=>show nomatch h2.flat r2
 | .yV,u,d,e,x,h1,h2,r1,r2=>by
  let#[a,vs,rfl,g]:=h1.tD p r1;cases u with
  | dn _=>let#[_,_,q,g',_]:=h2.uM p r2;cases q;rw[g] at g';cases g'
  | yV=>rfl
  | err _ _ _=>let#[_,_,_,_,_,q,g',_]:=h2.uK r2;cases q;show (cw I g g'.2.1).elim
  | tup us=>let#[_,_,_,q,g1,_]:=h2.uf r2;cases q;show (ck I g1 g).elim
  | lst us=>let#[_,_,_,q,g1,_]:=h2.uo p r2;cases q;show (cq I g1 g).elim
  | _=>show nomatch h2.flat r2
 | .dn l,u,d,e,x,h1,h2,r1,r2=>by
  let#[a,xs,rfl,g,gg]:=h1.uM p r1;cases u with
  | dn l'=>
   let#[_,E6,q,g',gg']:=h2.uM p r2;cases q;rw[g] at g';cases g';rw[gg.inj gg']
  | yV=>let#[_,_,q,g']:=h2.tD p r2;cases q;rw[g] at g';cases g'
  | err _ _ _=>let#[_,_,_,_,_,q,g',_]:=h2.uK r2;cases q;rw[g] at g';cases g'.2.1
  | tup us=>let#[_,_,_,q,g1,_]:=h2.uf r2;cases q;show (d_ I g1 g).elim
  | lst us=>let#[_,_,_,q,g1,_]:=h2.uo p r2;cases q;show (cm I g1 g).elim
  | _=>show nomatch h2.flat r2
theorem ko (I:Inv X EN B H s) (p:zF X.K H S):∀ (ts us:List T) {ds es:List D}{xs:List V},zj S ts ds->zj S us es->zk X.K H ds xs->zk X.K H es xs->ts=us
 | [],us,ds,es,xs,h1,h2,r1,r2=>by
  have e:=h1.length.trans (r1.length.trans (r2.length.symm.trans h2.length.symm));cases us with
  | nil=>rfl
  | cons _ _=>simp at e
 | t::ts,[],ds,es,xs,h1,h2,r1,r2=>by
  have e:=h1.length.trans (r1.length.trans (r2.length.symm.trans h2.length.symm));simp at e
 | t::ts,u::us,ds,es,xs,h1,h2,r1,r2=>by
  simp![zj] at h1 h2;let#[c,cs,rfl,a1,a2]:=h1;let#[c',cs',rfl,b1,b2]:=h2;simp![zk] at r1 r2;let#[y,ys,rfl,g1,g2]:=r1;let#[y',GF,q,k1,k2]:=r2;cases q;rw[nA I p t u a1 b1 g1 k1,ko I p ts us a2 b2 g2 k2]
end
theorem zj.get {ts:List T}{ds:List D}(h:zj S ts ds):∀ {j:Nat},j<ts.length->∃ c,ds[j]?=↑c/\Sn S (ts.getD j .zp) c:=by
 induction ts generalizing ds with
 | nil=>intro j hj;simp at hj
 | cons t ts ih=>
  intro j hj;simp![zj] at h;let#[c,cs,rfl,h1,h2]:=h;cases j with
  | zero=>show#[c,rfl,h1]
  | succ j=>
   let#[c',e,h3]:=ih h2 (j:=j) (by exists hj);show#[c',by simpa using e,by exists h3]
theorem mR:∀ {ts:List T}{j:Nat},j<ts.length->dep (ts.getD j .zp)<=x9 ts
 | [],j,h=>by simp at h
 | t::ts,0,_=>by simp![x9,List.getD_cons_zero];lia
 | t::ts,j+1,h=>by
  have:=mR (ts:=ts) (j:=j) (by exists h);simp![x9,List.getD_cons_succ];lia
inductive rP (K:Ac) (H:Hp) (S:SS) (s:Shared):T->Value->Prop
 | zp:rP K H S s .zp .none
 | bl {b:Bool}:rP K H S s (.bl b) (.bool b)
 | int {i:Int}{k:Tok}:rP K H S s (.int i) (.int i k)
 | str {i:Str}{k:Tok}:rP K H S s (.str i) (.str i k)
 | tup {ts:List T}{ds:List D}{xs:List V}{us:Ae}{l:Addr}(g:zj S ts ds) (r:zk K H ds xs) (v:Vals xs us) (h:s.heap.IsTuple l us.toArray):rP K H S s (.tup ts) (.ref l)
 | lst {ts:List T}{ds:List D}{xs:List V}{us:Ae}{l:Addr}(g:zj S ts ds) (r:zk K H ds xs) (v:Vals xs us) (h:s.heap.IsList l us.toArray):rP K H S s (.lst ts) (.ref l)
def fh (I:Inv X EN B H s) (p:zF X.K H S) {t:T}{d:D}{x:V}{a:Value}(h:Sn S t d) (r:ze X.K H d x) (v:RelV x a) (z:dep t<cLine):rP X.K H S s t a:=by
 cases t with
 | zp=>have q:=h.flat r;subst q;cases v;show .zp
 | bl _=>have q:=h.flat r;subst q;cases v;show .bl
 | int _=>have q:=h.flat r;subst q;let#[_,rfl]:=v;show .int
 | str _=>have q:=h.flat r;subst q;let#[_,rfl]:=v;show .str
 | tup _=>let#[l,xs,ds,rfl,g,r,q]:=h.uf r;cases v;let#[_,w,i,_]:=I.tuple g;show .tup q r w i
 | lst _=>let#[l,xs,ds,rfl,g,r,q]:=h.uo p r;cases v;let#[_,w,i,_]:=I.list g;show .lst q r w i.isList
 | _=>simp![dep] at z;lia
abbrev J3 (A:Around) (s:Shared) (a b:Value) (k:Bool):Prop:=SeqAt.EqAt A s a b k/\SeqAt.RcAt A s a b k/\SeqAt.RcNeAt A s a b (!k)
theorem N1 (I:Inv X EN B H s) (p:zF X.K H S):∀ (n:Nat) (t u:T) {A:Around}{d e:D}{x y:V}{a b:Value},dep t<n->A.units+dep t<cLine->A.units+dep u<cLine->Sn S t d->Sn S u e->ze X.K H d x->ze X.K H e y->RelV x a->RelV y b->J3 A s a b (eqT t u):=by
 intro n
 induction n with
 | zero=>intros;lia
 | succ n ih=>
  intro t u A d e x y a b hn hu G4 h1 h2 r1 r2 v1 v2;have hq:a=b->t=u:=λ z=>by subst z;have:=v1.inj v2;subst this;show nA I p t u h1 h2 r1 r2
  have c1:=fh I p h1 r1 v1 ⋯;have c2:=fh I p h2 r2 v2 ⋯;clear h1 h2 r1 r2 v1 v2;have hA:A.units<cLine:=⋯;have el:∀ {ts us:List T}{ds GU:List D}{xs E6:List V}{is Ho:Ae},1+x9 ts<n+1->A.units+(1+x9 ts)<cLine->A.units+(1+x9 us)<cLine->zj S ts ds->zj S us GU->zk X.K H ds xs->zk X.K H GU E6->Vals xs is->Vals E6 Ho->is.toArray.size=ts.length/\Ho.toArray.size=us.length/\
    ∀ (j:Nat) (h1:j<is.toArray.size) (h2:j<Ho.toArray.size),SeqAt.EqAt A.in1 s is.toArray[j] Ho.toArray[j] (eqT (ts.getD j .zp) (us.getD j .zp)):=by
   intro ts us ds GU xs E6 is Ho a1 a2 a3 g1 g2 r1 r2 v1 v2;have e1:is.toArray.size=ts.length:=by rw[AB,<- v1.length,<- r1.length,<- g1.length]
   have e2:Ho.toArray.size=us.length:=by rw[AB,<- v2.length,<- r2.length,<- g2.length]
   exact#[e1,e2,λ j h1 h2=>?_];let#[_,k1,s1]:=g1.get (e1▸h1);let#[_,k2,s2]:=g2.get (e2▸h2);let#[_,f1,q1]:=r1.get k1;let#[_,f2,q2]:=r2.get k2;let#[w1,o1,m1]:=v1.get f1;let#[w2,o2,m2]:=v2.get f2;have y1:=mR (e1▸h1);have y2:=mR (e2▸h2);let#[_,z1]:=AX.mp o1;let#[_,z2]:=AX.mp o2;rw[List.getElem_toArray,List.getElem_toArray,z1,z2];show (ih _ _ (A:=A.in1) ⋯ (by change A.units+1+_<_;lia) (by change A.units+1+_<_;lia) s1 s2 q1 q2 m1 m2).1
  have en:∀ {l l':Addr}{ts us:List T},(Value.ref l=.ref l'->ts=us)->SeqAt.RcAt A s (.ref l) (.ref l') (xj ts us)/\SeqAt.RcNeAt A s (.ref l) (.ref l') (!xj ts us)->J3 A s (.ref l) (.ref l') (xj ts us):=λ{l l' ts us} h q=>by
   exact#[?_,q];by_cases z:l=l'
   .subst z;rw[h rfl,mO];show .same _
   .show .of_refs z q.1
  cases c1 <;> cases c2 <;> simp![eqT,BS,Ct]
  .show#[.same _,.none_none,.none_none]
  .show#[.none_bool _,.none_bool _,.none_bool _]
  .show#[.none_int _ _,.none_int _ _,.none_int _ _]
  .show#[.none_str _ _,.none_str _ _,.none_str _ _]
  .show#[.none_tuple ‹_› hA,.none_tuple ‹_› hA,.none_tuple ‹_› hA]
  .show#[.none_list ‹_› hA,.none_list ‹_› hA,.none_list ‹_› hA]
  .show#[.bool_none _,.bool_none _,.bool_none _]
  .show#[.bool_bool _ _,.bool_bool _ _,.bool_bool _ _]
  .show#[.bool_int _ _ _,.bool_int _ _ _,.bool_int _ _ _]
  .show#[.bool_str _ _ _,.bool_str _ _ _,.bool_str _ _ _]
  .show#[.bool_tuple _ ‹_› hA,.bool_tuple _ ‹_› hA,.bool_tuple _ ‹_› hA]
  .show#[.bool_list _ ‹_› hA,.bool_list _ ‹_› hA,.bool_list _ ‹_› hA]
  .show#[.int_none _ _,.int_none _ _,.int_none _ _]
  .show#[.int_bool _ _ _,.int_bool _ _ _,.int_bool _ _ _]
  .show#[.int_int _ _ _ _,.int_int _ _ _ _,.int_int _ _ _ _]
  .show#[.int_str _ _ _ _,.int_str _ _ _ _,.int_str _ _ _ _]
  .show#[.int_tuple _ _ ‹_› hA,.int_tuple _ _ ‹_› hA,.int_tuple _ _ ‹_› hA]
  .show#[.int_list _ _ ‹_› hA,.int_list _ _ ‹_› hA,.int_list _ _ ‹_› hA]
  .show#[.str_none _ _,.str_none _ _,.str_none _ _]
  .show#[.str_bool _ _ _,.str_bool _ _ _,.str_bool _ _ _]
  .show#[.str_int _ _ _ _,.str_int _ _ _ _,.str_int _ _ _ _]
  .show#[.str_str _ _ _ _,.str_str _ _ _ _,.str_str _ _ _ _]
  .show#[.str_tuple _ _ ‹_› hA,.str_tuple _ _ ‹_› hA,.str_tuple _ _ ‹_› hA]
  .show#[.str_list _ _ ‹_› hA,.str_list _ _ ‹_› hA,.str_list _ _ ‹_› hA]
  .show#[.tuple_none ‹_› hA,.tuple_none ‹_› hA,.tuple_none ‹_› hA]
  .show#[.tuple_bool _ ‹_› hA,.tuple_bool _ ‹_› hA,.tuple_bool _ ‹_› hA]
  .show#[.tuple_int _ _ ‹_› hA,.tuple_int _ _ ‹_› hA,.tuple_int _ _ ‹_› hA]
  .show#[.tuple_str _ _ ‹_› hA,.tuple_str _ _ ‹_› hA,.tuple_str _ _ ‹_› hA]
  .rename_i g1 r1 v1 k1 _ _ _ _ _ g2 r2 v2 k2;simp![dep] at hn hu G4;let#[e1,e2,q]:=el hn hu G4 g1 g2 r1 r2 v1 v2;exact en (λ z=>by cases hq z;rfl) ?_;rw[ia,<- e1,<- e2];show#[.tuples k1 k2 hA q,.tuples k1 k2 hA q]
  .show#[.tuple_list ‹_› ‹_› hA,.tuple_list ‹_› ‹_› hA,.tuple_list ‹_› ‹_› hA]
  .show#[.list_none ‹_› hA,.list_none ‹_› hA,.list_none ‹_› hA]
  .show#[.list_bool _ ‹_› hA,.list_bool _ ‹_› hA,.list_bool _ ‹_› hA]
  .show#[.list_int _ _ ‹_› hA,.list_int _ _ ‹_› hA,.list_int _ _ ‹_› hA]
  .show#[.list_str _ _ ‹_› hA,.list_str _ _ ‹_› hA,.list_str _ _ ‹_› hA]
  .show#[.list_tuple ‹_› ‹_› hA,.list_tuple ‹_› ‹_› hA,.list_tuple ‹_› ‹_› hA]
  .rename_i i1 _ g1 r1 v1 k1 _ _ _ i2 _ g2 r2 v2 k2;simp![dep] at hn hu G4;let#[e1,e2,q]:=el hn hu G4 g1 g2 r1 r2 v1 v2;exact en (λ z=>by cases hq z;rfl) ?_;rw[ia,<- e1,<- e2];by_cases z:i1.toArray.size=i2.toArray.size
   .rw[<- z,Nat.min_self,beq_self_eq_true,Bool.and_true];show#[.lists k1 k2 z hA q,.lists k1 k2 z hA q]
   .rw[beq_eq_false_iff_ne.mpr z,CK];have z':=bne_iff_ne.mpr z;show#[.lists_lengths k1 k2 z' hA,.lists_lengths k1 k2 z' hA]
def iM (I:Inv X EN B H s) (p:zF X.K H S) (t u:T) {A:Around}{d e:D}{x y:V}{a b:Value}(hu:A.units+dep t<cLine) (G4:A.units+dep u<cLine) (h1:Sn S t d) (h2:Sn S u e) (r1:ze X.K H d x) (r2:ze X.K H e y) (v1:RelV x a) (v2:RelV y b):J3 A s a b (eqT t u):=N1 I p _ t u (Cs _) hu G4 h1 h2 r1 r2 v1 v2
end
def kP (K:Ac) (neg:Bool):R2:=λ x y H Q=>∃ S d e t u,ze K H d x/\ze K H e y/\zF K H S/\Sn S t d/\Sn S u e/\dep t<=60/\dep u<=60/\Q (.bl (cond neg (!eqT t u) (eqT t u))) H
def ve (neg:Bool):yH:=λ x y S Q=>∃ t u,Sn S t x/\Sn S u y/\dep t<=60/\dep u<=60/\Q (.bl (cond neg (!eqT t u) (eqT t u))) S
def ve.mo {neg:Bool}:xq (ve neg):=λ _ _ _ _ _ hq #[t,u,a,b,c,d,h]=>#[t,u,a,b,c,d,hq _ _ h]
def ve.fits {K:Ac}{neg:Bool}:xm K (ve neg) (kP K neg):=λ x y d e H S Q h1 h2 h3 #[t,u,a,b,c,c',h]=>#[S,d,e,t,u,h1,h2,h3,a,b,c,c',h _ H (by simp![ze]) (.refl H) h3]
section
variable {X:Cx}{a b:Expr}{ta tb:zr}{pos:Pos}
theorem ei (hu:X.A.units+64<cLine):ya X (compareOp .Eq) (kP X.K false):=by
 intro EN s B H x y v u Q I rx ry h;let#[S,d,e,t,u',a1,a2,a3,a4,a5,a6,a7,q]:=h;show (iM I a3 t u' (A:=X.A) ⋯ ⋯ a4 a5 a1 a2 rx ry).2.1 X.prog X.w X.xe _ #[.bl _,H,I,rfl,q]
theorem U3 (hu:X.A.units+64<cLine):ya X (compareOp .NotEq) (kP X.K true):=by
 intro EN s B H x y v u Q I rx ry h;let#[S,d,e,t,u',a1,a2,a3,a4,a5,a6,a7,q]:=h;show (iM I a3 t u' (A:=X.A) ⋯ ⋯ a4 a5 a1 a2 rx ry).2.2 X.prog X.w X.xe _ #[.bl _,H,I,rfl,q]
def Ud {k:Nat}(hr:z_ k X.A) (ha:PD X a ta) (hb:PD X b tb):PD X (.Compare a [.Eq] [b] pos) (yp (ve false) ta tb):=nW (ei hr.units) ve.fits ve.mo ha hb (uk _)
def WU {k:Nat}(hr:z_ k X.A) (ha:PD X a ta) (hb:PD X b tb):xg X (.Compare a [.Eq] [b] pos) (vD (yp (ve false) ta tb)):=t_ (ei hr.units) ve.fits ve.mo ha hb (uk _)
def WM {k:Nat}(hr:z_ k X.A) (ha:PD X a ta) (hb:PD X b tb):xg X (.Compare a [.NotEq] [b] pos) (vD (yp (ve true) ta tb)):=t_ (U3 hr.units) ve.fits ve.mo ha hb (uk _)
def fF (K:Ac) (neg:Bool):R2:=λ x y H Q=>∃ S d e u ts ds,ze K H d x/\ze K H e y/\zF K H S/\Sn S u d/\zH e S=↑ds/\zj S ts ds/\dep u<=60/\x9 ts<=60/\Q (.bl (cond neg (!(ts.any λ t=>eqT t u)) (ts.any λ t=>eqT t u))) H
def sF (neg:Bool):yH:=λ x y S Q=>∃ u ts ds,Sn S u x/\zH y S=↑ds/\zj S ts ds/\dep u<=60/\x9 ts<=60/\Q (.bl (cond neg (!(ts.any λ t=>eqT t u)) (ts.any λ t=>eqT t u))) S
def sF.mo {neg:Bool}:xq (sF neg):=λ _ _ _ _ _ hq #[u,ts,ds,a,b,c,d,e,h]=>#[u,ts,ds,a,b,c,d,e,hq _ _ h]
def sF.fits {K:Ac}{neg:Bool}:xm K (sF neg) (fF K neg):=λ x y d e H S Q h1 h2 h3 #[u,ts,ds,a,b,c,c',c2,h]=>#[S,d,e,u,ts,ds,h1,h2,h3,a,b,c,c',c2,h _ H (by simp![ze]) (.refl H) h3]
open Classical in
def uR (Aa:Ae) (ts:List T) (u:T) (v:Value):Bool:=if h:∃ j,Aa[j]?=↑v then eqT (ts.getD (Classical.choose h) .zp) u else false
def iL {EN:Ai}{B:St}{H:Hp}{s:Shared}{S:SS}(I:Inv X EN B H s) (p:zF X.K H S) {ts:List T}{ds:List D}{xs:List V}{Aa:Ae}(h1:zj S ts ds) (h2:zk X.K H ds xs) (h3:Vals xs Aa) (u:T) {j:Nat}{v:Value}(hj:Aa[j]?=↑v):
  uR Aa ts u v=eqT (ts.getD j .zp) u:=by
 have h:∃ j,Aa[j]?=↑v:=#[j,hj];unfold uR;rw[dif_pos h];have hc:=Classical.choose_spec h;have lt:∀ i,Aa[i]?=↑v->i<ts.length:=λ i hi=>by
  rw[h1.length,h2.length,h3.length];show (AX.mp hi).1
 let#[c1,e1,s1]:=h1.get (lt _ hc);let#[c2,e2,s2]:=h1.get (lt _ hj);let#[x1,f1,r1]:=h2.get e1;let#[x2,f2,r2]:=h2.get e2;let#[v1,g1,q1]:=h3.get f1;let#[v2,g2,q2]:=h3.get f2;rw[hc] at g1;cases g1;rw[hj] at g2;cases g2;have hx:=q1.inj q2;subst hx;rw[nA I p _ _ s1 s2 r1 r2]
theorem a9 {EN:Ai}{B:St}{H:Hp}{s:Shared}{S:SS}(I:Inv X EN B H s) (p:zF X.K H S) {ts:List T}{ds:List D}{xs:List V}{Aa:Ae}(h1:zj S ts ds) (h2:zk X.K H ds xs) (h3:Vals xs Aa) (u:T):Aa.any (uR Aa ts u)=ts.any λ t=>eqT t u:=by
 have hl:ts.length=Aa.length:=by rw[h1.length,h2.length,h3.length]
 rw[A7,AY,AY];constructor
 .rintro⟨v,hv,h⟩;let#[j,hj,rfl]:=BW.mp hv;rw[iL I p h1 h2 h3 u (j:=j) (by simp[hj])] at h;have Gv:j<ts.length:=⋯;show#[ts[j],BA Gv,by simpa [Gv] using h]
 .rintro⟨t,ht,h⟩;let#[j,hj,rfl]:=BW.mp ht;have Gv:j<Aa.length:=⋯;show#[Aa[j],BA Gv,by rw[iL I p h1 h2 h3 u (j:=j) (by simp[Gv])];simpa [hj] using h]
def aA {EN:Ai}{B:St}{H:Hp}{s:Shared}{S:SS}(I:Inv X EN B H s) (p:zF X.K H S) {ts:List T}{ds:List D}{xs:List V}{Aa:Ae}(h1:zj S ts ds) (h2:zk X.K H ds xs) (h3:Vals xs Aa) {u:T}{d:D}{x:V}{v:Value}(hu:Sn S u d) (hd:ze X.K H d x) (hx:RelV x v) {A:Around}(b1:A.units+x9 ts<cLine) (b2:A.units+dep u<cLine) {y:Value}(hy:y∈Aa):
  SeqAt.EqAt A s y v (uR Aa ts u y):=by
 let#[j,hj,rfl]:=BW.mp hy;have hjt:j<ts.length:=by rw[h1.length,h2.length,h3.length];show hj
 rw[iL I p h1 h2 h3 u (j:=j) (by simp[hj])];let#[c1,e1,s1]:=h1.get hjt;let#[x1,f1,r1]:=h2.get e1;let#[v1,g1,q1]:=h3.get f1;have:Aa[j]=v1:=by
  have:=AX.mp g1;show this.2
 rw[this];have:=mR hjt;show (iM I p _ u (A:=A) ⋯ b2 s1 hu r1 hd q1 hx).1
theorem UA (hu:X.A.units+64<cLine):ya X (compareOp .In) (fF X.K false):=by
 intro EN s B H x y v w Q I rx ry h;let#[S,d,e,u,ts,ds,a1,a2,a3,a4,a5,a6,a7,a8,q]:=h;let#[l,xs,rfl,g1,g2]:=zH.sq a2 a3 a5;cases ry;rcases g1 with g1 | g1
 .let#[Aa,w1,pl,_]:=I.list g1;exact SeqAt.in_listAt (uR Aa ts u) pl.isList (λ y hy=>aA I a3 a6 g2 w1 a4 a1 rx (A:=X.A.in1) (by change X.A.units+1+_<_;lia) (by change X.A.units+1+_<_;lia) (by exists hy)) #[.bl _,H,I,rfl,?_];rw[show Aa.toArray.any (uR Aa ts u)=Aa.any (uR Aa ts u) by simp,a9 I a3 a6 g2 w1];show q
 .let#[Aa,w1,pt,_]:=I.tuple g1;exact SeqAt.in_tupleAt (uR Aa ts u) pt (λ y hy=>aA I a3 a6 g2 w1 a4 a1 rx (A:=X.A.in1) (by change X.A.units+1+_<_;lia) (by change X.A.units+1+_<_;lia) (by exists hy)) #[.bl _,H,I,rfl,?_];rw[show Aa.toArray.any (uR Aa ts u)=Aa.any (uR Aa ts u) by simp,a9 I a3 a6 g2 w1];show q
def WR {k:Nat}(hr:z_ k X.A) (ha:PD X a ta) (hb:PD X b tb) (hm:behindInMarks .In b=false):xg X (.Compare a [.In] [b] pos) (vD (yp (sF false) ta tb)):=t_ (UA hr.units) sF.fits sF.mo ha hb hm
end
end L3
namespace L2
open PySem PySem.Spec PyProof.Rows
section
variable {κ:Type}[DecidableEq κ]
def xW (Ab:List (κ × V)) (k:κ):Option V:=(Ab.find? λ kv=>decide (kv.1=k)).map (·.2)
def putK (Ab:List (κ × V)) (k:κ) (v:V):List (κ × V):=
 if (Ab.any λ kv=>decide (kv.1=k))=true then Ab.map (λ kv=>if kv.1=k then (kv.1,v) else kv) else Ab++[(k,v)]
def kl {p:κ × V}{r:List (κ × V)}{k:κ}(e:p.1=k):xW (p::r) k=↑p.2:=by simp[xW,Bv,e]
def km {p:κ × V}{r:List (κ × V)}{k:κ}(e:¬ p.1=k):xW (p::r) k=xW r k:=by simp[xW,Bv,e]
theorem gz (k:κ):∀ Ab:List (κ × V),(Ab.any λ kv=>decide (kv.1=k))=(xW Ab k).isSome
 | []=>rfl
 | p::r=>by
  rw[Bu];by_cases e:p.1=k
  .simp![kl e,JF e,Bool.true_or,Option.isSome_some]
  .rw[km e,JE e,Bool.false_or];show gz k r
def dw (Ab:List (κ × V)) (k:κ) (v:V):(putK Ab k v).length<=Ab.length+1:=by
 unfold putK;split
 .rw[AA];lia
 .rw[Bp,A5,C7];lia
def uc.Qu {o:Option V}{u:Option Value}(r:uc o u):o.isSome=u.isSome:=by
 cases o with
 | none=>cases u with
  | none=>rfl
  | some _=>show (show False from r).elim
 | some _=>cases u with
  | none=>show (show False from r).elim
  | some _=>rfl
theorem uc.getD {o:Option V}{u:Option Value}{d:V}{d':Value}(r:uc o u) (rd:RelV d d'):RelV (o.getD d) (u.getD d'):=by
 cases o with
 | none=>cases u with
  | none=>show rd
  | some _=>show (show False from r).elim
 | some _=>cases u with
  | none=>show (show False from r).elim
  | some _=>show r
def KV.val {Ab:List (κ × V)}{vs:List (κ × Value)}(r:KV Ab vs) (k:κ):uc (xW Ab k) (valueAt vs k):=by
 unfold KV at r
 induction r with
 | nil=>show True.intro
 | @cons p q ps qs h t ih=>
  let#[h1,h2]:=h;by_cases e:p.1=k
  .have e':q.1=k:=h1.symm.trans e;have b:valueAt (q::qs) k=↑q.2:=by simp[valueAt,Bv,e']
   rw[kl e,b];show h2
  .have e':¬ q.1=k:=λ z=>e (h1.trans z);have b:valueAt (q::qs) k=valueAt qs k:=by simp[valueAt,Bv,e']
   rw[km e,b];show ih
theorem KV.any {Ab:List (κ × V)}{vs:List (κ × Value)}(r:KV Ab vs) (k:κ):(Ab.any λ kv=>decide (kv.1=k))=vs.any λ kv=>decide (kv.1=k):=by
 unfold KV at r
 induction r with
 | nil=>rfl
 | cons h t ih=>rw[Bu,Bu,ih,h.1]
def KV.uC {Ab:List (κ × V)}{vs:List (κ × Value)}(r:KV Ab vs) (k:κ) {y:V}{u:Value}(ry:RelV y u):
  KV (Ab.map λ kv=>if kv.1=k then (kv.1,y) else kv) (vs.map λ kv=>if kv.1=k then (kv.1,u) else kv):=by
 unfold KV at r ⊢
 induction r with
 | nil=>show .nil
 | @cons p q ps qs h t ih=>
  rw[Av,Av];exact .cons ?_ ih;let#[h1,h2]:=h;by_cases e:p.1=k
  .rw[if_pos e,if_pos (h1.symm.trans e)];show#[h1,ry]
  .rw[if_neg e,if_neg (λ z=>e (h1.trans z))];show#[h1,h2]
def KV.put {Ab:List (κ × V)}{vs:List (κ × Value)}(r:KV Ab vs) (k:κ) {y:V}{u:Value}(ry:RelV y u):KV (putK Ab k y) (stored vs k u):=by
 unfold putK stored;rw[r.any k];by_cases e:(vs.any λ kv=>decide (kv.1=k))=true
 .rw[if_pos e,if_pos e];show r.uC k ry
 .rw[if_neg e,if_neg e];show Paired.snoc r #[rfl,ry]
theorem KV.length {Ab:List (κ × V)}{vs:List (κ × Value)}(r:KV Ab vs):Ab.length=vs.length:=Paired.length r
end
def m9 {P:Program}{w:World}{k:Key}{u:Value}(r:RelV (kV k) u):(wu P w).is k u=true:=by
 cases k with
 | inl i=>let#[t,e]:=(show ∃ t,u=Value.int i t from r);subst e;show RB P w i t
 | inr x=>let#[t,e]:=(show ∃ t,u=Value.str x t from r);subst e;show RA P w x t
theorem dW {P:Program}{w:World}:∀ {ks:List Key}{us:Ae},Vals (ks.map kV) us->ItemsAre (wu P w) ks us
 | [],_,r=>by rw[Ba] at r;cases r;show .nil
 | k::ks,_,r=>by
  rw[Av] at r;cases r with
  | cons h t=>show .cons (m9 h) (dW t)
abbrev KT (H:Hp):List (List Key×V)->List (List Key×Addr×Value)->Prop:=Paired λ p q=>p.1=q.1/\H q.2.1=↑(.tup (p.1.map kV))/\RelV p.2 q.2.2
def KT.val {H:Hp}{Ab:List (List Key×V)}{xs:List (List Key×Addr×Value)}(r:KT H Ab xs) (k:List Key):uc (xW Ab k) ((atKey xs k).map (·.2)):=by
 induction r with
 | nil=>show True.intro
 | @cons p q ps qs h t ih=>
  let#[h1,_,h2]:=h;by_cases e:p.1=k
  .have e':q.1=k:=h1.symm.trans e;have b:atKey (q::qs) k=↑q.2:=by simp[atKey,Bv,e']
   rw[kl e,b];show h2
  .have e':¬ q.1=k:=λ z=>e (h1.trans z);have b:atKey (q::qs) k=atKey qs k:=by simp[atKey,Bv,e']
   rw[km e,b];show ih
def KT.uC {H:Hp}{Ab:List (List Key×V)}{xs:List (List Key×Addr×Value)}(r:KT H Ab xs) (k:List Key) {y:V}{u:Value}(ry:RelV y u):
  KT H (Ab.map λ kv=>if kv.1=k then (kv.1,y) else kv) (xs.map (putAt k u)):=by
 induction r with
 | nil=>show .nil
 | @cons p q ps qs h t ih=>
  rw[Av,Av];exact .cons ?_ ih;let#[h1,h2,h3]:=h;unfold putAt;by_cases e:p.1=k
  .rw[if_pos e,if_pos (h1.symm.trans e)];show#[h1,h2,ry]
  .rw[if_neg e,if_neg (λ z=>e (h1.trans z))];show#[h1,h2,h3]
def KT.put {H:Hp}{Ab:List (List Key×V)}{xs:List (List Key×Addr×Value)}(r:KT H Ab xs) (k:List Key) {b:Addr}{y:V}{u:Value}(hb:H b=↑(.tup (k.map kV))) (ry:RelV y u):
  KT H (putK Ab k y) (storedH xs k b u):=by
 have e:(Ab.any λ kv=>decide (kv.1=k))=(atKey xs k).isSome:=by
  rw[gz,(r.val k).Qu,Option.isSome_map]
 unfold putK storedH;rw[e];by_cases q:(atKey xs k).isSome=true
 .rw[if_pos q,if_pos q];show r.uC k ry
 .rw[if_neg q,if_neg q];show Paired.snoc r #[rfl,hb,ry]
def KT.keeps {H H':Hp}{Ab:List (List Key×V)}{xs:List (List Key×Addr×Value)}(r:KT H Ab xs) (ht:∀ b ys,H b=↑(.tup ys)->H' b=↑(.tup ys)):KT H' Ab xs:=
 Paired.qx r λ _ _ z=>#[z.1,ht _ _ z.2.1,z.2.2]
section
variable {P:Program}{w:World}{H:Hp}{h:Heap}{a:Addr}
def fA {u:HO}(ok:yM P w H h) (e:Rd H a u):yL P w H h a u:=e.ok ok
def qR {Ab:List (Key×V)}(ok:yM P w H h) (e:Rd H a (.dK Ab)):Ab.length<=sizeLine/\(a == sysModules)=false/\∃ vs,KV Ab vs/\h.DictOf (wu P w) a vs:=
 show yL P w H h a (.dK Ab) from fA ok e
def Oa {Ab:List (Key×V)}(ok:yM P w H h) (e:H a=↑(.dK Ab)):Ab.length<=sizeLine/\(a == sysModules)=false/\∃ vs,KV Ab vs/\h.DictOf (wu P w) a vs:=qR ok (.inl e)
def m5 {ks:List Key}(ok:yM P w H h) (e:H a=↑(.tup (ks.map kV))):(tupleKind (wu P w)).is h ks a:=by
 let#[_,Aa,r,o,h1,h2,n,h3]:=(show yL P w H h a (.tup (ks.map kV)) from ok a _ e)
 show#[o,Aa.toArray,n,h1,h2,h3,by exists dW r]
def oq {Ab:List (List Key×V)}(ok:yM P w H h) (e:Rd H a (.dT Ab)):Ab.length<=sizeLine/\(a == sysModules)=false/\
  ∃ xs,KT H Ab xs/\h.DictOfH (tupleKind (wu P w)) a xs:=by
 let#[z,y,xs,r,o,es,ep,h1,h2,h3,h4,h5]:=(show yL P w H h a (.dT Ab) from fA ok e)
 exact#[z,y,xs,r,o,es,ep,h1,h2,h3,h4,λ x hx=>?_,h5];have all:∀ {l:List (List Key×V)}{m:List (List Key×Addr×Value)},KT H l m->∀ x∈m,(tupleKind (wu P w)).is h x.1 x.2.1:=by
  intro l m q
  induction q with
  | nil=>intro x hx;show nomatch hx
  | @cons p q ps qs hq t ih=>
   intro x hx;rcases Ah.mp hx with e | hx
   .subst e;show m5 ok (by rw[<- hq.1];show hq.2.1)
   .show ih x hx
 show all r x hx
def PV {Ab:List (List Key×V)}(ok:yM P w H h) (e:H a=↑(.dT Ab)):Ab.length<=sizeLine/\(a == sysModules)=false/\
  ∃ xs,KT H Ab xs/\h.DictOfH (tupleKind (wu P w)) a xs:=oq ok (.inl e)
end
def tQ (H:Hp) (a:Addr) (y:V) (r:Option V):Prop:=
 (∃ Ab k,Rd H a (.dK Ab)/\y=kV k/\r=xW Ab k)\/∃ Ab k b,Rd H a (.dT Ab)/\y=.ref b/\H b=↑(.tup (k.map kV))/\r=xW Ab k
def nh (H:Hp) (a:Addr) (y v:V) (H':Hp):Prop:=
 (∃ Ab k,H a=↑(.dK Ab)/\y=kV k/\Ab.length<sizeLine/\H'=upd H a (.dK (putK Ab k v)))\/
 ∃ Ab k b,H a=↑(.dT Ab)/\y=.ref b/\H b=↑(.tup (k.map kV))/\Ab.length<sizeLine/\H'=upd H a (.dT (putK Ab k v))
theorem tQ.k {H:Hp}{a:Addr}{Ab:List (Key×V)}{k:Key}(e:H a=↑(.dK Ab)):tQ H a (kV k) (xW Ab k):=.inl #[Ab,k,.inl e,rfl,rfl]
theorem nh.k {H:Hp}{a:Addr}{Ab:List (Key×V)}{k:Key}{v:V}(e:H a=↑(.dK Ab)) (hl:Ab.length<sizeLine):nh H a (kV k) v (upd H a (.dK (putK Ab k v))):=.inl #[Ab,k,e,rfl,hl,rfl]
section
variable {X:Cx}{EN:Ai}{B:St}{H:Hp}{s:Shared}{a:Addr}{y v:V}{u r:Value}{o:Option V}{A:Around}{E:Af}
theorem Inv.big (I:Inv X EN B H s):sysModules<s.heap.objs.size:=by
 have h:mainGlobals<s.heap.objs.size:=(I.mod.glob.keeps I.bk).lt;show BN () h
def Ol {Q:Af}(hu:A.units+1<cLine) (I:Inv X EN B H s) (g:tQ H a y ↑v) (ry:RelV y u) (h:∀ w' s',Inv X EN B H s'->RelV v w'->Q w' s'):
  wpAny (model X.prog X.w) A (getItem (.ref a) u) Q E s:=by
 rcases g with ⟨Ab,k,e,ey,l⟩ | ⟨Ab,k,b,e,ey,eb,l⟩
 .subst ey;let#[z,hd,vs,rel,dd]:=qR I.zu e;let#[w',hw,GH]:=uc.some_of (v:=v) (o:=valueAt vs k) (by rw[l];show rel.val k);show wpAny_getItem_of (m9 ry) dd.mapOf hw (h w' _ (I.tok _) GH)
 .subst ey;cases (show u=Value.ref b from ry);let#[z,hd,xs,rel,dd]:=oq I.zu e;let#[w',hw,GH]:=uc.some_of (v:=v) (o:=(atKey xs k).map (·.2)) (by rw[l];show rel.val k);let#[p,hp,qG]:=AE.mp hw;exact wpAny_getItem_heap (tupleKind_room_in1 hu) (m5 I.zu eb) dd hp ?_;rw[qG];show h w' _ (I.tok _) GH
def br {h':Heap}{t':Nat}{ob:HO}(I:Inv X EN B H s) (mu:oK (H a)) (hs:Heap.SameBut a s.heap h') (he:∃ q,h'.get? a=↑q) (new:yL X.prog X.w (upd H a ob) h' a ob):
  Inv X EN B (upd H a ob) { s with heap:=h',toks:=t' }:=
 I.write (x:=a) (e:=a) mu (.inl rfl) (λ b q hb z=>(hs.2 b hb).trans z) he new
def Ob {P:Program}{w:World}{H':Hp}{h':Heap}{Ab:List (Key×V)}{vs:List (Key×Value)}(z:Ab.length<=sizeLine) (hd:(a == sysModules)=false) (rel:KV Ab vs) (dd:h'.DictOf (wu P w) a vs):
  yL P w H' h' a (.dK Ab):=#[z,hd,vs,rel,dd]
def Oi {H':Hp}{Q:Unit->Shared->Prop}(hu:A.units+1<cLine) (I:Inv X EN B H s) (g:nh H a y v H') (ry:RelV y u) (rv:RelV v r) (h:∀ s',Inv X EN B H' s'->Q Unit.unit s'):
  wpAny (model X.prog X.w) A (setItem (.ref a) u r) Q E s:=by
 rcases g with ⟨Ab,k,e,ey,l,eH⟩ | ⟨Ab,k,b,e,ey,eb,l,eH⟩
 .subst ey eH;let#[z,hd,vs,rel,dd]:=Oa I.zu e;have hz:vs.length<=sizeLine:=by rw[<- rel.length];show z
  have hl:(putK Ab k v).length<=sizeLine:=by have:=dw Ab k v;lia
  exact wpAny_setItem_pairs (hsz:=hz) (m9 ry) dd λ h' Hk hs=>h _ ?_;have he:∃ q,h'.get? a=↑q:=let #[q,_,_,hq,_]:=Hk;#[q,hq]
  show br I (by rw[e];show True.intro) hs he (Ob hl hd (rel.put k rv) Hk)
 .subst ey eH;cases (show u=Value.ref b from ry);let#[z,hd,xs,rel,dd]:=PV I.zu e;have hz:xs.length<=sizeLine:=by rw[<- Paired.length rel];show z
  have hl:(putK Ab k v).length<=sizeLine:=by have:=dw Ab k v;lia
  exact wpAny_setItem_heap (hsz:=hz) (tupleKind_room_in1 hu) (m5 I.zu eb) dd λ h' Hk hs=>h _ ?_;let#[q,es,ep,hq,h2,h3,h4,_,h5]:=Hk;exact br I (by rw[e];show True.intro) hs #[q,hq] #[hl,hd,_,(rel.put k eb rv).keeps λ c ys ec=>?_,q,es,ep,hq,h2,h3,h4,h5];rw[zW (vx ec e (λ z=>nomatch z))];show ec
end
section
variable {X:Cx}{EN:Ai}{B:St}{H:Hp}{s:Shared}{a:Addr}{Ab:List (Key×V)}{A:Around}{E:Af}
theorem Oj {Q:Af}(I:Inv X EN B H s) (e:Rd H a (.dK Ab)) (h:∀ t s',Inv X EN B H s'->Q (.int Ab.length t) s'):wpAny (model X.prog X.w) A (call (.builtin "len") [.ref a]) Q E s:=by
 let#[z,hd,vs,rel,dd]:=qR I.zu e;exact call_len_dict hd dd (by rw[<- rel.length];rw[sizeLine_eq] at z;lia) ?_;rw[<- rel.length];show h _ _ (I.tok _)
end
def oJ (i:Expr):Prop:=∀ ov iv,subscripted i false ov iv=operate [ov,iv] (getItem ov iv)
def gP {prog:Program}{w:World}{A:Around}{E:Af}{s:Shared}{env:Env}{value slice:Expr}{pos:Pos}{T id:String}{Q:Af}
  (hl:typeLookup (.type T) "__getitem__"=pure ↑(.builtin id)) (hs:oJ slice)
  (h:wpAny (model prog w) A (eval value env) (λ o s₁=>wpAny (model prog w) A (eval slice env) (λ i s₂=>s₂.TypeIs o T/\wpAny (model prog w) A (getItem o i) Q E s₂) E s₁) E s):
  wpAny (model prog w) A (eval (.Subscript value slice pos) env) Q E s:=by
 exact Subscript_ (JG h (λ o s₁ h₁=>JG h₁ (λ i s₂ h₂=>?_) λ _ _ x=>x) λ _ _ x=>x);let#[hT,h₂]:=h₂;unfold subscriptTail;exact IE ?_;rw[getitemInPython_of_ne hT.not_modules];exact IE (JU hT hl ?_);have fin:wpAny (model prog w) A (subscripted slice false o i) (λ r s₃=>wpAny (model prog w) A (letTemporaryGo value o r >>= λ _=>pure r) Q E s₃) E s₂:=by
  rw[hs o i];show wpAny_operating (JG h₂ (λ r s₃ h₃=>IE (wpAny_letTemporaryGo (Ad h₃))) λ _ _ x=>x)
 first
  | show Ad (IE fin)
  | show IE (Ad (IE fin))
  | show IE fin
def Oe {X:Cx}{EN:Ai}{B:St}{H:Hp}{s:Shared}{a:Addr}{y:V}{o:Option V}(I:Inv X EN B H s) (g:tQ H a y o):s.TypeIs (.ref a) "dict":=by
 rcases g with ⟨Ab,k,e,_,_⟩ | ⟨Ab,k,b,e,_,_,_⟩
 .let#[_,_,vs,_,dd]:=qR I.zu e;show dd.typeIs
 .let#[_,_,xs,_,dd]:=oq I.zu e;show dd.typeIs
def YS (td ty:TE):TE:=fun B H Q=>td B H λ x H1=>ty B H1 λ y H2=>∃ a v,x=.ref a/\tQ H2 a y ↑v/\Q v H2
def Xn (td ty tv:TE):TS:=λ D B H=>tv B H λ v H1=>td B H1 λ x H2=>ty B H2 λ y H3=>∃ a H4,x=.ref a/\nh H3 a y v H4/\D.nx B H4
section
variable {X:Cx}{o i value:Expr}{pos pos':Pos}{td ty tv:TE}
def WA (hu:X.A.units+1<cLine) (ho:PE X o td) (hi:PE X i ty) (hs:oJ i):PE X (.Subscript o i pos) (YS td ty):=by
 intro EN s B H Q I h;exact gP PySem.F.slot_dict_getitem.lookup hs (zx (ho EN s B H _ I h) λ u s1 #[x,H1,I1,rx,q1]=>zx (hi EN s1 B H1 _ I1 q1) λ iv s2 #[y,H2,I2,ry,a,v,ex,g,q2]=>?_);subst ex;obtain rfl:u=Value.ref a:=rx;show#[Oe I2 g,Ol hu I2 g ry λ w' s3 I3 GH=>#[v,H2,I3,GH,q2]]
def XU (hu:X.A.units+1<cLine) (ho:PE X o td) (hi:PE X i ty) (hv:PE X value tv) (hs:swapsWith value ↑(.Subscript o i pos') pos.line X.env=pure false):
  PS X (.Assign [.Subscript o i pos'] value pos) (Xn td ty tv):=by
 intro EN s B H D I h;exact wpAny_Assign_Subscript (zx (hv EN s B H _ I h) λ r s1 #[v,H1,I1,rv,q1]=>zx (ho EN s1 B H1 _ I1 q1) λ u s2 #[x,H2,I2,rx,q2]=>zx (hi EN s2 B H2 _ I2 q2) λ iv s3 #[y,H3,I3,ry,a,H4,ex,g,q3]=>?_) hs;subst ex;obtain rfl:u=Value.ref a:=rx;show Oi hu I3 g ry rv λ s4 I4=>#[B,H4,I4,q3]
end
def Oc {P:Program}{w:World}{H:Hp}(h:Heap) (hb:sysModules<h.objs.size):yL P w H (h.push { cls:=.type "dict",data:=.dict [].toArray }) h.objs.size (.dK []):=
 #[AR _,beq_eq_false_iff_ne.mpr (Ne.symm (AF hb)),[],.nil,Heap.DictOf.new h]
def YQ:TE:=λ _ H Q=>∀ p,H p=none->Q (.ref p) (upd H p (.dK []))
section
variable {X:Cx}{pos:Pos}
def W8:PE X (.Dict [] [] pos) YQ:=λ EN s B H Q I h=>
 wpAny_Dict_empty #[.ref s.heap.objs.size,_,I.laid (a:=s.heap.objs.size) (o:=.dK []) (t':=s.toks) (λ _ _ q=>JD _ q) (Aj _) (Oc s.heap I.big),rfl,h _ (I.zu.fresh (Aj _))]
end
structure M2 (X:Cx) (o:Expr) (m:Str) (apos:Pos) (e f:Expr) (Am:Pos):Prop where
 base:attributeBase o m X.env (eval o X.env)=eval o X.env
 pZ:((backTo Am (starEach [e,f] X.env)).all (λ x=>!x.1)&&(backToKw Am (keywordEach [] X.env)).all (λ x=>x.1.isSome)
  && decide (([e,f]:List Expr).length+([]:List Keyword).length+(if ([]:List Keyword).isEmpty then 0 else 1)<30))=true
 line:(apos.endLine == Am.line)=true
 trees:backTo Am (starEach [e,f] X.env)=[(false,eval e X.env),(false,eval f X.env)]
def aQ (H:Hp) (a:Addr):Prop:=(∃ Ab,Rd H a (.dK Ab))\/∃ Ab,Rd H a (.dT Ab)
def Qy {X:Cx}{EN:Ai}{B:St}{H:Hp}{s:Shared}{a:Addr}(I:Inv X EN B H s) (d:aQ H a):
  s.TypeIs (.ref a) "dict"/\(∀ b,Value.ref a=.ref b->∃ ob,s.heap.get? b=↑ob/\ob.dict=none)/\(a == sysModules)=false:=by
 rcases d with ⟨Ab,e⟩ | ⟨Ab,e⟩
 .let#[_,hd,vs,_,dd]:=qR I.zu e;exact#[dd.typeIs,λ b q=>?_,hd];cases q;let#[ob,_,_,h1,h2,_]:=dd;show#[ob,h1,h2.2.1]
 .let#[_,hd,xs,_,dd]:=oq I.zu e;exact#[dd.typeIs,λ b q=>?_,hd];cases q;let#[ob,_,_,h1,h2,_]:=dd;show#[ob,h1,h2.2.1]
section
variable {X:Cx}{EN:Ai}{B:St}{H:Hp}{s:Shared}{a:Addr}{y d:V}{u r:Value}{o:Option V}{A:Around}{E:Af}
def Om {Q:Af}(hu:A.units+1<cLine) (I:Inv X EN B H s) (g:tQ H a y o) (ry:RelV y u) (rd:RelV d r) (h:∀ w' s',Inv X EN B H s'->RelV (o.getD d) w'->Q w' s'):
  wpAny (model X.prog X.w) A (call (.builtin "dict.get") [.ref a,u,r]) Q E s:=by
 rcases g with ⟨Ab,k,e,ey,l⟩ | ⟨Ab,k,b,e,ey,eb,l⟩
 .subst ey;let#[z,hd,vs,rel,dd]:=qR I.zu e;exact call_meetsIn PySem.F.slot_dict_get dd.typeIs PySem.F.entry_dict_get (PySem.F.args_dict_get_3 _ _ _) (meets_dict_get_default (wu X.prog X.w) a (m9 ry) hd r) #[_,dd.mapOf,h _ _ (I.tok _) ?_];rw[l];show (rel.val k).getD rd
 .subst ey;cases (show u=Value.ref b from ry);let#[z,hd,xs,rel,dd]:=oq I.zu e;exact call_meetsIn PySem.F.slot_dict_get dd.typeIs PySem.F.entry_dict_get (PySem.F.args_dict_get_3 _ _ _) (meetsH_dict_get_default (tupleKind (wu X.prog X.w)) a b hd r) #[tupleKind_room_in1 hu,k,xs,m5 I.zu eb,dd,h _ _ (I.tok _) ?_];rw[l];show (rel.val k).getD rd
end
def YR (td ty tx:TE):TE:=fun B H Q=>td B H λ x H1=>∃ a,x=.ref a/\aQ H1 a/\ty B H1 λ y H2=>tx B H2 λ z H3=>∃ o,tQ H3 a y o/\Q (o.getD z) H3
section
variable {X:Cx}{o e f:Expr}{apos Am:Pos}{td ty tx:TE}
def W9 (hu:X.A.units+1<cLine) (ho:PE X o td) (he:PE X e ty) (hf:PE X f tx) (m:M2 X o "get" apos e f Am):PE X (.Call (.Attribute o "get" apos) [e,f] [] Am) (YR td ty tx):=by
 intro EN s B H Q I h;exact wpAny_Call_method m.base m.pZ m.line PySem.F.plainAttrs_dict PySem.F.slot_dict_get PySem.F.type_dict_get (zx (ho EN s B H _ I h) λ u s1 #[x,H1,I1,rx,a,ex,d,q1]=>?_);subst ex;obtain rfl:u=Value.ref a:=rx;let#[t1,t2,_]:=Qy I1 d;exact#[t1,t2,?_];rw[m.trees];exact Calls.callWith_builtin rfl (Calls.evalArgs_plain (Calls.spliced_cons (zx (he EN s1 B H1 _ I1 q1) λ iv s2 #[y,H2,I2,ry,q2]=>
  Calls.spliced_cons (zx (hf EN s2 B H2 _ I2 q2) λ fv s3 #[z,H3,I3,rz,ov,g,q3]=>Calls.spliced_nil ?_))))
 show Om hu I3 g ry rz λ w' s4 I4 GH=>#[_,H3,I4,GH,q3]
end
end L2
namespace L3
open PySem PySem.Spec L2
open PyProof.Rows hiding St
def vJ (Ab:List (Key×D)) (k:Key):Option D:=(Ab.find? λ kv=>decide (kv.1=k)).map (·.2)
def putD (Ab:List (Key×D)) (k:Key) (v:D):List (Key×D):=
 if (Ab.any λ kv=>decide (kv.1=k))=true then Ab.map (λ kv=>if kv.1=k then (kv.1,v) else kv) else Ab++[(k,v)]
section
variable {K:Ac}{H:Hp}
theorem yS.val:∀ {Ab:List (Key×D)}{vs:List (Key×V)},yS K H Ab vs->∀ k,(vJ Ab k=none/\xW vs k=none)\/∃ d v,vJ Ab k=↑d/\xW vs k=↑v/\ze K H d v
 | _,_,.nil,k=>.inl #[rfl,rfl]
 | (a,d)::Ab,(b,v)::vs,.cons #[e,r] t,k=>by
  have e':a=b:=e;subst e';by_cases h:a=k
  .subst h;show .inr #[d,v,by simp[vJ],by simp[xW],r]
  .rcases yS.val t k with ⟨h1,h2⟩ | ⟨d',v',h1,h2,h3⟩
   .show .inl #[by simpa [vJ,h] using h1,by simpa [xW,h] using h2]
   .show .inr #[d',v',by simpa [vJ,h] using h1,by simpa [xW,h] using h2,h3]
theorem yS.any {Ab:List (Key×D)}{vs:List (Key×V)}(h:yS K H Ab vs) (k:Key):(Ab.any λ kv=>decide (kv.1=k))=vs.any λ kv=>decide (kv.1=k):=by
 induction h with
 | nil=>rfl
 | cons r _ ih=>rw[Bu,Bu,ih,r.1]
def yS.len {Ab:List (Key×D)}{vs:List (Key×V)}(h:yS K H Ab vs):Ab.length=vs.length:=Paired.length h
theorem yS.uC {k:Key}{d:D}{v:V}(r:ze K H d v):∀ {Ab:List (Key×D)}{vs:List (Key×V)},yS K H Ab vs->yS K H (Ab.map λ kv=>if kv.1=k then (kv.1,d) else kv) (vs.map λ kv=>if kv.1=k then (kv.1,v) else kv)
 | _,_,.nil=>.nil
 | (a1,a2)::_,(b1,b2)::_,.cons #[e,q] t=>by
  have e':a1=b1:=e;subst e';exact .cons ?_ (yS.uC r t);by_cases hk:a1=k
  .simp[hk,r]
  .simpa [hk] using q
theorem yS.snoc {k:Key}{d:D}{v:V}(r:ze K H d v):∀ {Ab:List (Key×D)}{vs:List (Key×V)},yS K H Ab vs->yS K H (Ab++[(k,d)]) (vs++[(k,v)])
 | _,_,.nil=>.cons #[rfl,r] .nil
 | _,_,.cons q t=>.cons q (yS.snoc r t)
def yS.put {Ab:List (Key×D)}{vs:List (Key×V)}(h:yS K H Ab vs) (k:Key) {d:D}{v:V}(r:ze K H d v):yS K H (putD Ab k d) (putK vs k v):=by
 unfold putD putK;rw[h.any k];split
 .show yS.uC r h
 .show yS.snoc r h
end
section
variable {X:Cx}{o i e f v:Expr}{td ty tx tv:zr}{pos pos' apos Am:Pos}
def bC:zr:=λ _ S Q=>∀ p,S p=none->Q (.ref p) (ups S p (.zU []))
theorem Uh:PD X (.Dict [] [] pos) bC:=by
 exact#[λ _ _ _ _ hq z p hp=>hq _ _ (z p hp),PE.imp W8 fun B H Q hu p hp=>?_];let#[L,S,r1,r2,z]:=hu;show z p (r2.none hp) _ _ (by simp![ze]) (.new hp _) (r2.ups (.new hp _) #[[],y6,.nil])
def bG (td ty:zr):zr:=fun L S Q=>td L S λ x S1=>ty L S1 λ y S2=>∃ p Ab k d,x=.ref p/\y=.int k/\S2 p=↑(.zU Ab)/\vJ Ab (.inl k)=↑d/\Q d S2
def Ug {k:Nat}(hr:z_ k X.A) (ho:PD X o td) (hi:PD X i ty) (hs:oJ i):PD X (.Subscript o i pos) (bG td ty):=by
 exact#[fun L S Q Q' hq z=>ho.mo L S _ _ (λ x S1 z=>hi.mo L S1 _ _ (λ y S2 #[p,Ab,k,d,a,b,c,e,h]=>#[p,Ab,k,d,a,b,c,e,hq _ _ h]) z) z,PE.imp (WA (jB hr) ho.pe hi.pe hs) fun B H Q hu=>?_];let#[L,S,r1,r2,z]:=hu;exact zG.go ho.mo r1 r2 z λ x S1 w H1 h1 q1 e1 p1=>?_;exact zG.go hi.mo (r1.ext e1) p1 h1 λ y S2 w2 H2 h2 q2 e2 p2=>?_;let#[p,Ab,k,d,rfl,rfl,c1,c2,h]:=h2;simp![ze] at q1 q2;subst q1 q2;let#[vs,g1,g2]:=p2 _ _ c1;rcases yS.val g2 (.inl k) with ⟨n1,_⟩ | ⟨d',v',n1,n2,n3⟩
 .rw[c2] at n1;cases n1
 .rw[c2] at n1;cases n1;show#[p,v',rfl,n2▸tQ.k (k:=Sum.inl k) g1,h v' H2 n3 (e1.trans e2) p2]
def bF (td ty tx:zr):zr:=fun L S Q=>td L S λ x S1=>∃ p,x=.ref p/\(∃ Ab,S1 p=↑(.zU Ab))/\ty L S1 λ y S2=>tx L S2 λ z S3=>∃ k Ab,y=.int k/\S3 p=↑(.zU Ab)/\Q ((vJ Ab (.inl k)).getD z) S3
def Ui {k:Nat}(hr:z_ k X.A) (ho:PD X o td) (he:PD X e ty) (hf:PD X f tx) (m:M2 X o "get" apos e f Am):PD X (.Call (.Attribute o "get" apos) [e,f] [] Am) (bF td ty tx):=by
 exact#[fun L S Q Q' hq z=>ho.mo L S _ _ (λ x S1 #[p,a,b,z]=>#[p,a,b,he.mo L S1 _ _ (λ y S2 z=>hf.mo L S2 _ _ (λ w S3 #[k,Ab,a,b,h]=>#[k,Ab,a,b,hq _ _ h]) z) z]) z,PE.imp (W9 (jB hr) ho.pe he.pe hf.pe m) fun B H Q hu=>?_];let#[L,S,r1,r2,z]:=hu;exact zG.go ho.mo r1 r2 z λ x S1 w H1 h1 q1 e1 p1=>?_;let#[p,rfl,#[kvs0,c0],h1]:=h1;simp![ze] at q1;subst q1;let#[vs0,g0,_]:=p1 _ _ c0;exact#[p,rfl,.inl #[vs0,.inl g0],?_];exact zG.go he.mo (r1.ext e1) p1 h1 λ y S2 w2 H2 h2 q2 e2 p2=>?_;exact zG.go hf.mo ((r1.ext e1).ext e2) p2 h2 λ y3 S3 w3 H3 h3 q3 e3 p3=>?_;let#[k,Ab,rfl,c1,h]:=h3;simp![ze] at q2;subst q2;let#[vs,g1,g2]:=p3 _ _ c1;exact#[xW vs (.inl k),tQ.k (k:=Sum.inl k) g1,?_];rcases yS.val g2 (.inl k) with ⟨n1,n2⟩ | ⟨d',v',n1,n2,n3⟩
 .rw[n1] at h;rw[n2];show h _ H3 q3 ((e1.trans e2).trans e3) p3
 .rw[n1] at h;rw[n2];show h _ H3 n3 ((e1.trans e2).trans e3) p3
def bD (td ty tv:zr):y8:=λ E L S=>tv L S λ v S1=>td L S1 λ x S2=>ty L S2 λ y S3=>∃ p Ab k,x=.ref p/\y=.int k/\S3 p=↑(.zU Ab)/\Ab.length<sizeLine/\E.nx L (ups S3 p (.zU (putD Ab (.inl k) v)))
theorem Ext.dK {H:Hp}{p:Addr}{Ab:List (Key×V)}(h:H p=↑(.dK Ab)) (o:HO):Ext H (upd H p o):=
 #[λ b ys q=>by rw[zW (vx q h (by intro z;cases z))];show q,λ b ob u q=>by rw[zW (vx q h (by intro z;cases z))];show q,λ b u q=>by rw[zW (vx q h (by intro z;cases z))];show q,λ b u q=>by rw[zW (vx q h (by intro z;cases z))];show q]
theorem Vh {k:Nat}(hr:z_ k X.A) (ho:PD X o td) (hi:PD X i ty) (hv:PD X v tv) (hs:swapsWith v ↑(.Subscript o i pos') pos.line X.env=pure false):xD X (.Assign [.Subscript o i pos'] v pos) (bD td ty tv):=by
 exact#[λ E E' L S hE z=>hv.mo L S _ _ (λ w S1 z=>ho.mo L S1 _ _ (λ x S2 z=>hi.mo L S2 _ _ (λ y S3 #[p,Ab,k,a,b,c,d,h]=>#[p,Ab,k,a,b,c,d,hE.nx _ _ h]) z) z) z,PS.imp (XU (jB hr) ho.pe hi.pe hv.pe hs) λ D B H hu=>?_];let#[L,S,r1,r2,z]:=hu;exact zG.go hv.mo r1 r2 z λ w S1 w1 H1 h1 q1 e1 p1=>?_;exact zG.go ho.mo (r1.ext e1) p1 h1 λ x S2 w2 H2 h2 q2 e2 p2=>?_;exact zG.go hi.mo ((r1.ext e1).ext e2) p2 h2 λ y S3 w3 H3 h3 q3 e3 p3=>?_;let#[p,Ab,k,rfl,rfl,c1,c2,h]:=h3;simp![ze] at q2 q3;subst q2 q3;let#[vs,g1,g2]:=p3 _ _ c1;have e4:Ext H3 (upd H3 p (.dK (putK vs (.inl k) w1))):=.dK g1 _;exact#[p,_,rfl,nh.k (k:=Sum.inl k) g1 (by rw[<- g2.len];show c2),?_];show h B _ ((((r1.ext e1).ext e2).ext e3).ext e4) (((e1.trans e2).trans e3).trans e4) (p3.ups e4 #[_,y6,(yS.put g2 _ (ze.ext (e2.trans e3) w q1)).ext e4])
def OW:y9 X (.builtin "len") (λ xs H Q=>∃ p Ab,xs=[.ref p]/\H p=↑(.dK Ab)/\Q (.int Ab.length) H):=by
 intro EN s B H xs us Q I r h;let#[p,Ab,rfl,e,q]:=h;let#[u,rfl,ru]:=vals1 r;cases ru;show Oj I (.inl e) λ t s' I'=>#[.int _,H,I',#[_,rfl],q]
def cV:xf:=λ ds S Q=>∃ p Ab,ds=[.ref p]/\S p=↑(.zU Ab)/\Q (.int Ab.length) S
def Ue {es:List Expr}{tA:yf}{p:Pos}(hm:X.mg "len"=none) (ha:yX X (e::es) tA) (hg:Gl X "len") (he:AG X e es) (Ar:AN X pos es):PD X (.Call (.Name "len" p) (e::es) [] pos) (xc cV tA):=
 vO (ui OW hg hm PySem.boot_len ha.pa () () he Ar) (λ _ _ _ _ hq #[p,Ab,a,b,h]=>#[p,Ab,a,b,hq _ _ h]) (λ xs ds H S Q h0 h2 #[p,Ab,a,b,h]=>by
  subst a;let#[x,rfl,h1]:=h0.one;simp![ze] at h1;subst h1;let#[vs,g1,g2]:=h2 _ _ b;exact#[p,vs,rfl,g1,?_];rw[<- g2.len];show h _ H (by simp![ze]) (.refl H) h2) ha.mo
end
end L3
namespace L3
open PySem L2
section
variable {S S':SS}
mutual
theorem Sn.sx (h:Sx S S'):∀ (t:T) {d:D},Sn S t d->Sn S' t d
 | .zp,d,q=>by simpa only [Sn] using q
 | .bl b,d,q=>by simpa only [Sn] using q
 | .int i,d,q=>by simpa only [Sn] using q
 | .str x,d,q=>by simpa only [Sn] using q
 | .tup ts,d,q=>by
  simp![Sn] at q ⊢;let#[ds,q1,q2]:=q;show#[ds,q1,zj.sx h ts q2]
 | .lst ts,d,q=>by
  simp![Sn] at q ⊢;let#[ds,q1,q2]:=q;exact#[ds,?_,zj.sx h ts q2];rcases q1 with q1 | ⟨a,q1,q3⟩
  .show .inl q1
  .show .inr #[a,q1,h _ _ q3]
 | .err _ _ t,d,q=>by
  simp![Sn] at q ⊢;let#[x,q1,q2]:=q;show#[x,q1,Sn.sx h t q2]
 | .dn _,d,q=>by
  simp![Sn] at q ⊢;let#[a,q1,q2]:=q;show#[a,q1,h _ _ q2]
 | .yV,d,q=>by
  simp![Sn] at q ⊢;let#[a,Ab,q1,q2]:=q;show#[a,Ab,q1,h _ _ q2]
theorem zj.sx (h:Sx S S'):∀ (ts:List T) {ds:List D},zj S ts ds->zj S' ts ds
 | [],ds,q=>by simpa only [zj] using q
 | t::ts,ds,q=>by
  simp![zj] at q ⊢;let#[c,cs,q1,q2,q3]:=q;show#[c,cs,q1,Sn.sx h t q2,zj.sx h ts q3]
end
def zj.nil:zj S [] []:=by simp![zj]
def zj.cons {t:T}{ts:List T}{d:D}{ds:List D}(h:Sn S t d) (h':zj S ts ds):zj S (t::ts) (d::ds):=by
 simp![zj];show#[d,ds,rfl,h,h']
theorem zj.append:∀ {ts us:List T}{ds es:List D},zj S ts ds->zj S us es->zj S (ts++us) (ds++es)
 | [],us,ds,es,h,h'=>by simp![zj] at h;subst h;exists h'
 | t::ts,us,ds,es,h,h'=>by
  simp![zj] at h;let#[c,cs,rfl,h1,h2]:=h;show zj.cons h1 (zj.append h2 h')
theorem zj.jN:∀ {ts:List T}{ds:List D}{i:Nat}{t:T},zj S ts ds->ts[i]?=↑t->∃ d,ds[i]?=↑d/\Sn S t d
 | [],_,i,t,_,e=>by simp at e
 | u::ts,ds,i,t,h,e=>by
  simp![zj] at h;let#[c,cs,rfl,h1,h2]:=h;cases i with
  | zero=>simp at e;subst e;show#[c,rfl,h1]
  | succ i=>
   let#[y,e1,e2]:=zj.jN (i:=i) h2 (by exists e);show#[y,by simpa using e1,e2]
theorem zj.jP:∀ {ts:List T}{ds:List D}{i:Nat}{d:D},zj S ts ds->ds[i]?=↑d->∃ t,ts[i]?=↑t/\Sn S t d
 | [],ds,i,t,h,e=>by simp![zj] at h;subst h;simp at e
 | u::ts,ds,i,t,h,e=>by
  simp![zj] at h;let#[c,cs,rfl,h1,h2]:=h;cases i with
  | zero=>simp at e;subst e;show#[u,rfl,h1]
  | succ i=>
   let#[y,e1,e2]:=zj.jP (i:=i) h2 (by exists e);show#[y,by simpa using e1,e2]
def zj.len {ts:List T}{ds:List D}(h:zj S ts ds):ds.length=ts.length:=(L3.zj.length h).symm
theorem zj.at {ts:List T}{ds:List D}{i:Int}{t:T}(h:zj S ts ds) (e:L2.zT ts i=↑t):∃ d,L2.zT ds i=↑d/\Sn S t d:=by
 unfold L2.zT at e ⊢;rw[h.len];cases q:L2.xZ ts.length i with
 | none=>rw[q] at e;cases e
 | some j=>
  rw[q] at e;show h.jN e
theorem zj.fj:∀ {ts:List T}{ds:List D}{t:T}{d:D}(i:Nat),zj S ts ds->Sn S t d->zj S (ts.set i t) (ds.set i d)
 | [],ds,t,d,i,h,_=>by simp![zj] at h;subst h;exists zj.nil
 | u::ts,ds,t,d,0,h,hd=>by
  simp![zj] at h;let#[c,cs,rfl,h1,h2]:=h;show zj.cons hd h2
 | u::ts,ds,t,d,i+1,h,hd=>by
  simp![zj] at h;let#[c,cs,rfl,h1,h2]:=h;show zj.cons h1 (zj.fj i h2 hd)
def zj.empty {ts:List T}{ds:List D}(h:zj S ts ds):ds.isEmpty=ts.isEmpty:=by
 have:=h.len;cases ds <;> cases ts <;> simp_all
theorem zj.aj:∀ {bs:List Bool}{ds:List D},zj S (bs.map T.bl) ds->ds=bs.map D.bl
 | [],ds,h=>by simpa only [Ba,zj] using h
 | b::bs,ds,h=>by
  rw[Av] at h;simp![zj,Sn] at h;let#[c,cs,rfl,rfl,h3]:=h;rw[zj.aj h3];rfl
end
end L3
namespace L5
open PySem L2 L3
def zE (S:SS) (Z:Addr->Prop):SS:=open Classical in λ a=>if Z a then none else S a
section
variable {S S':SS}{Z Z':Addr->Prop}{a p:Addr}
def v7 (h:¬ Z a):zE S Z a=S a:=if_neg h
def jC (h:Z a):zE S Z a=none:=if_pos h
def vR {o:O}(h:zE S Z a=↑o):¬ Z a/\S a=↑o:=by
 by_cases z:Z a
 .rw[jC z] at h;cases h
 .rw[v7 z] at h;show#[z,h]
def pV (S:SS) (Z:Addr->Prop):Sx (zE S Z) S:=λ _ _ h=>(vR h).2
def wy (h:Sx S S'):Sx (zE S Z) (zE S' Z):=λ b o q=>by
 let#[q1,q2]:=vR q;rw[v7 q1];show h _ _ q2
def vS (h:∀ a,Z' a->Z a):Sx (zE S Z) (zE S Z'):=λ b o q=>by
 let#[q1,q2]:=vR q;rw[v7 (λ z=>q1 (h _ z))];show q2
def qH (h:Sx S S') (hp:S p=none):Sx (zE S Z) (zE S' λ a=>Z a\/a=p):=λ b o q=>by
 let#[q1,q2]:=vR q;rw[v7]
 .show h _ _ q2
 .rintro (z | z)
  .show q1 z
  .subst z;rw[hp] at q2;cases q2
theorem QC {o:O}(h:Z p):zE (ups S p o) Z=zE S Z:=by
 funext b;by_cases z:Z b
 .rw[jC z,jC z]
 .rw[v7 z,v7 z,uX (λ e=>z (by rw[e];show h))]
end
inductive C where
 | lst (ts:List T) | zU (Ab:List (Key×T)) | obj (a:Option Addr) (c:Str) (fs:List (Str×T)) | zY (l:List ((Int×List Int)×Int))
def ym {κ:Type}(S:SS):List (κ × T)->List (κ × D)->Prop
 | [],l=>l=[]
 | (k,t)::r,l=>∃ d m,l=(k,d)::m/\Sn S t d/\ym S r m
theorem ym.sx {κ:Type}{S S':SS}(h:Sx S S'):∀ {a:List (κ × T)}{b:List (κ × D)},ym S a b->ym S' a b
 | [],_,q=>q
 | (k,t)::r,_,q=>by
  let#[d,m,q1,q2,q3]:=q;show#[d,m,q1,Sn.sx h t q2,ym.sx h q3]
def u0 (S:SS):C->O->Prop
 | .lst ts,.lst ds=>zj S ts ds
 | .zU a,.zU b=>ym S a b
 | .obj _ c a,.obj c' b=>c=c'/\ym S a b
 | .zY a,.zY b=>a=b
 | _,_=>False
theorem u0.sx {S S':SS}(h:Sx S S'):∀ {c:C}{o:O},u0 S c o->u0 S' c o
 | .lst ts,.lst ds,q=>zj.sx h ts q
 | .zU a,.zU b,q=>ym.sx h q
 | .obj _ _ _,.obj _ _,q=>#[q.1,ym.sx h q.2]
 | .zY _,.zY _,q=>q
def adr:C->Addr->Prop
 | .obj ↑q _ _,p=>q=p
 | _,_=>True
inductive W where
 | im (t:T) | own (c:C)
abbrev Ev:=List (Option W)
abbrev Ag:=Ev->Option T
abbrev An:=List T->Option T
structure ER (S:SS) (Z:Addr->Prop) (L:zX) (J:Ev):Prop where
 zd:∀ a,Z a->S a≠none
 im:∀ (i:Nat) t,J[i]?=↑↑(.im t)->∃ d,L[i]?=↑↑d/\Sn (zE S Z) t d
 ow:∀ (i:Nat) c,J[i]?=↑↑(.own c)->∃ p o,L[i]?=↑↑(.ref p)/\S p=↑o/\u0 (zE S Z) c o/\Z p
def Vw (S:SS) (Z:Addr->Prop) (y:T) (d:D):Prop:=Sn (zE S Z) y d\/∃ ts p ds,y=.lst ts/\d=.ref p/\S p=↑(.lst ds)/\zj (zE S Z) ts ds/\Z p
abbrev Rk:=SS->SS->(Addr->Prop)->T->D->Prop
def aF:Rk:=λ _ S' Z y d=>Vw S' Z y d
def xC:Rk:=λ _ S' Z y d=>Sn (zE S' Z) y d
def zA:Rk:=λ S S' Z y d=>Sn (zE S' Z) y d/\∀ ts,y=.lst ts->∃ p ds,d=.ref p/\S p=none/\S' p=↑(.lst ds)/\zj (zE S' λ a=>Z a\/a=p) ts ds
class Cl (R:Rk):Prop where
 cl:∀ {S S1 S':SS}{Z:Addr->Prop}{y:T}{d:D},Sx S S1->R S1 S' Z y d->R S S' Z y d
 of:∀ {S S':SS}{Z:Addr->Prop}{y:T}{d:D},(∀ ts,y≠.lst ts)->Sn (zE S' Z) y d->R S S' Z y d
instance:Cl aF:=#[λ _ h=>h,λ _ h=>.inl h]
instance:Cl xC:=#[λ _ h=>h,λ _ h=>h]
instance:Cl zA:=#[λ s h=>#[h.1,λ ts e=>by
 let#[p,ds,h1,h2,h3]:=h.2 ts e;show#[p,ds,h1,s.none h2,h3]],λ n h=>#[h,λ ts e=>absurd e (n ts)]]
section
variable {S S':SS}{Z:Addr->Prop}{L:zX}{J:Ev}{y:T}{d:D}
def ER.grow (h:ER S Z L J) (s:Sx S S'):ER S' Z L J:=
 #[λ a z q=>h.zd a z (s.none q),λ i t e=>by
  let#[d,h1,h2]:=h.im i t e;show#[d,h1,Sn.sx (wy s) t h2],λ i ts e=>by
  let#[p,ds,h1,h2,h3,h4]:=h.ow i ts e;show#[p,ds,h1,s _ _ h2,u0.sx (wy s) h3,h4]]
def Vw.grow (h:Vw S Z y d) (s:Sx S S'):Vw S' Z y d:=by
 rcases h with h | ⟨ts,p,ds,h1,h2,h3,h4,h5⟩
 .show .inl (Sn.sx (wy s) y h)
 .show .inr #[ts,p,ds,h1,h2,s _ _ h3,zj.sx (wy s) ts h4,h5]
def Vw.sn (h:Vw S Z y d):Sn S y d:=by
 rcases h with h | ⟨ts,p,ds,rfl,rfl,h3,h4,_⟩
 .show Sn.sx (pV S Z) y h
 .simp![Sn];show#[ds,.inr #[p,rfl,h3],zj.sx (pV S Z) ts h4]
theorem Vw.zp (h:Vw S Z .zp d):d=.zp:=by
 rcases h with h | ⟨_,_,_,h,_⟩
 .simpa only [Sn] using h
 .cases h
theorem Vw.bl {b:Bool}(h:Vw S Z (.bl b) d):d=.bl b:=by
 rcases h with h | ⟨_,_,_,h,_⟩
 .simpa only [Sn] using h
 .cases h
theorem Vw.int {b:Int}(h:Vw S Z (.int b) d):d=.int b:=by
 rcases h with h | ⟨_,_,_,h,_⟩
 .simpa only [Sn] using h
 .cases h
theorem Vw.str {b:Str}(h:Vw S Z (.str b) d):d=.str b:=by
 rcases h with h | ⟨_,_,_,h,_⟩
 .simpa only [Sn] using h
 .cases h
theorem Vw.tup {ts:List T}(h:Vw S Z (.tup ts) d):∃ ds,d=.tup ds/\zj (zE S Z) ts ds:=by
 rcases h with h | ⟨_,_,_,h,_⟩
 .simpa only [Sn] using h
 .cases h
theorem Vw.lst {ts:List T}(h:Vw S Z (.lst ts) d):∃ ds,(d=.xw ds\/∃ a,d=.ref a/\S a=↑(.lst ds))/\zj (zE S Z) ts ds:=by
 rcases h with h | ⟨us,p,ds,h1,h2,h3,h4,_⟩
 .simp![Sn] at h;let#[ds,h1,h2]:=h;exact#[ds,?_,h2];rcases h1 with h1 | ⟨a,h1,h3⟩
  .show .inl h1.1
  .show .inr #[a,h1,(vR h3).2]
 .cases h1;show#[ds,.inr #[p,h2,h3],h4]
def xv:T->Option (List T)
 | .tup ts=>↑ts
 | .lst ts=>↑ts
 | _=>none
@[simp] theorem zab (ts:List T):xv (.tup ts)=↑ts:=rfl
@[simp] theorem zac (ts:List T):xv (.lst ts)=↑ts:=rfl
def Vw.seq {ts:List T}(h:Vw S Z y d) (e:xv y=↑ts):∃ ds,zH d S=↑ds/\zj (zE S Z) ts ds:=by
 cases y with
 | tup us=>cases e;let#[ds,rfl,h2]:=h.tup;show#[ds,rfl,h2]
 | lst us=>
  cases e;obtain⟨ds,h1 | ⟨a,rfl,h1⟩,h2⟩:=h.lst
  .subst h1;show#[ds,rfl,h2]
  .show#[ds,by unfold zH;dsimp only;rw[h1],h2]
 | _=>cases e
theorem Vw.dn {l:List ((Int×List Int)×Int)}(h:Vw S Z (.dn l) d):∃ a,d=.ref a/\zE S Z a=↑(.zY l):=by
 rcases h with h | ⟨_,_,_,h,_⟩
 .simp![Sn] at h;show h
 .cases h
theorem Vw.yV (h:Vw S Z .yV d):∃ a Ab,(d=.ref a/\Ab=[])/\S a=↑(.zU Ab):=by
 rcases h with h | ⟨_,_,_,h,_⟩
 .simp![Sn] at h;let#[a,Ab,h1,h2]:=h;show#[a,Ab,h1,(vR h2).2]
 .cases h
def gZ:Sn S .zp .zp:=by simp![Sn]
def wF {b:Bool}:Sn S (.bl b) (.bl b):=by simp![Sn]
def xN {i:Int}:Sn S (.int i) (.int i):=by simp![Sn]
def gY {x:Str}:Sn S (.str x) (.str x):=by simp![Sn]
def qk {ts:List T}{ds:List D}(h:zj S ts ds):Sn S (.tup ts) (.tup ds):=by simp![Sn];show#[ds,rfl,h]
def tZ {ts:List T}{ds:List D}{p:Addr}(hz:∀ a,Z a->S a≠none) (hp:S p=none) (h:zj (zE S Z) ts ds):zA S (ups S p (.lst ds)) Z (.lst ts) (.ref p):=by
 have nz:¬ Z p:=λ z=>hz p z hp;have s:Sx S (ups S p (.lst ds)):=.new hp _;exact#[?_,λ us e=>?_]
 .simp![Sn];show#[ds,.inr #[p,rfl,by rw[v7 nz,uW]],zj.sx (wy s) ts h]
 .cases e;show#[p,ds,rfl,hp,uW,zj.sx (qH s hp) ts h]
end
def xl (R:Rk) (f:Ag) (t:zr):Prop:=∀ S Z L J y Q,ER S Z L J->f J=↑y->(∀ d S',Sx S S'->R S S' Z y d->Q d S')->t L S Q
abbrev vm:=xl xC
abbrev yC:=xl aF
abbrev xE:=xl zA
def xl.imp {R R':Rk}{f:Ag}{t:zr}(h:xl R f t) (i:∀ S S' Z y d,R S S' Z y d->R' S S' Z y d):xl R' f t:=λ S Z L J y Q hE e hq=>h S Z L J y Q hE e λ d S' s r=>hq d S' s (i _ _ _ _ _ r)
def xl.er {f:Ag}{t:zr}(h:vm f t):yC f t:=h.imp λ _ _ _ _ _ r=>.inl r
def xl.fe {f:Ag}{t:zr}(h:xE f t):vm f t:=h.imp λ _ _ _ _ _ r=>r.1
def xl.fr {f:Ag}{t:zr}(h:xE f t):yC f t:=h.fe.er
@[simp] def zi (i:Nat):Ag:=fun J=>match J[i]? with
 | some ↑(.im t)=>↑t
 | _=>none
@[simp] def zc (i:Nat):Ag:=fun J=>match J[i]? with
 | some ↑(.im t)=>↑t
 | some ↑(.own (.lst ts))=>↑(.lst ts)
 | _=>none
@[simp] def cS (t:T):Ag:=λ _=>↑t
@[simp] abbrev cI (i:Int):Ag:=cS (.int i)
def e9 (i:Nat):vm (zi i) (ye i):=λ S Z L J y Q hE e hq=>by
 unfold zi at e;split at e
 .rename_i t h;cases e;let#[d,h1,h2]:=hE.im i _ h;unfold ye;rw[h1];show hq d S (.refl S) h2
 .cases e
def T5 (i:Nat):yC (zc i) (ye i):=λ S Z L J y Q hE e hq=>by
 unfold zc at e;split at e
 .rename_i t h;cases e;let#[d,h1,h2]:=hE.im i _ h;unfold ye;rw[h1];show hq d S (.refl S) (.inl h2)
 .rename_i ts h;cases e;let#[p,o,h1,h2,h3,h4]:=hE.ow i _ h;unfold ye;rw[h1];cases o with
  | lst ds=>show hq _ S (.refl S) (.inr #[ts,p,ds,rfl,rfl,h2,h3,h4])
  | _=>show h3.elim
 .cases e
def SE (i:Int):xE (cS (.int i)) (dC (.int i)):=λ S Z L J y Q hE e hq=>by cases e;show hq _ S (.refl S) (Cl.of (λ _=>nofun) xN)
def Rg (i:Bool):xE (cS (.bl i)) (dC (.bl i)):=λ S Z L J y Q hE e hq=>by cases e;show hq _ S (.refl S) (Cl.of (λ _=>nofun) wF)
def TF (i:Str):xE (cS (.str i)) (dC (.str i)):=λ S Z L J y Q hE e hq=>by cases e;show hq _ S (.refl S) (Cl.of (λ _=>nofun) gY)
def TR:xE (cS .zp) (dC .zp):=λ S Z L J y Q hE e hq=>by cases e;show hq _ S (.refl S) (Cl.of (λ _=>nofun) gZ)
@[simp] def zb (f:T->T->Option T) (fa fb:Ag):Ag:=fun J=>(fa J).bind λ x=>(fb J).bind λ y=>f x y
def Good2 (R:Rk) (f:T->T->Option T) (g:yH):Prop:=∀ S Z x y z d e Q,(∀ a,Z a->S a≠none)->Vw S Z x d->Vw S Z y e->f x y=↑z->(∀ c S',Sx S S'->R S S' Z z c->Q c S')->g d e S Q
def rb {R:Rk} [Cl R] {f:T->T->Option T}{g:yH}{fa fb:Ag}{ta tb:zr}(hg:Good2 R f g) (ha:yC fa ta) (hb:yC fb tb):xl R (zb f fa fb) (yp g ta tb):=λ S Z L J y Q hE e hq=>by
 unfold zb at e;let#[x,e1,e]:=Ak.mp e;let#[z,e2,e]:=Ak.mp e;exact ha S Z L J x _ hE e1 λ d S1 s1 r1=>?_;exact hb S1 Z L J z _ (hE.grow s1) e2 λ d2 S2 s2 r2=>?_;show hg S2 Z x z y d d2 Q ((hE.grow (s1.trans s2)).zd) (Vw.grow r1 s2) r2 e λ c S' s r=>hq c S' ((s1.trans s2).trans s) (Cl.cl (s1.trans s2) r)
@[simp] def i2 (g:Int->Int->T):T->T->Option T
 | .int i,.int j=>↑(g i j)
 | _,_=>none
instance {i j:Int}:Decidable (xV i j):=by unfold xV;infer_instance
instance {i j:Int}:Decidable (xt i j):=by unfold xt;infer_instance
instance {i j:Int}:Decidable (qb i j):=by unfold qb;infer_instance
@[simp] def pU (C:Int->Int->Prop) [∀ i j,Decidable (C i j)] (g:Int->Int->T):T->T->Option T
 | .int i,.int j=>if C i j then ↑(g i j) else none
 | _,_=>none
def mI {g:Int->Int->T}{g':Int->Int->D}(h:∀ i j S,Sn S (g i j) (g' i j)) (n:∀ i j ts,g i j≠.lst ts):Good2 zA (i2 g) (xb g'):=λ S Z x y z d e Q hz hx hy ef hq=>by
 unfold i2 at ef;split at ef
 .cases ef;cases hx.int;cases hy.int;show hq _ S (.refl S) (Cl.of (n _ _) (h _ _ _))
 .cases ef
def jJ {C:Int->Int->Prop} [∀ i j,Decidable (C i j)] {g:Int->Int->T}{g':Int->Int->D}(h:∀ i j S,Sn S (g i j) (g' i j)) (n:∀ i j ts,g i j≠.lst ts):Good2 zA (pU C g) (fI C g'):=λ S Z x y z d e Q hz hx hy ef hq=>by
 unfold pU at ef;split at ef
 .split at ef
  .rename_i hh;cases ef;cases hx.int;cases hy.int;show#[hh,hq _ S (.refl S) (Cl.of (n _ _) (h _ _ _))]
  .cases ef
 .cases ef
@[simp] def vK:T->T->Option T:=i2 λ i j=>.int (i-j)
@[simp] def zL:T->T->Option T:=pU (λ _ j=>0<j) λ i j=>.int (i%j)
@[simp] def yz:T->T->Option T:=pU xt λ i j=>.int (i/j)
@[simp] def qp:T->T->Option T:=pU qb λ i j=>.int (i ^ j.toNat)
@[simp] def qz:T->T->Option T:=i2 λ i j=>.bl (decide (i<=j))
@[simp] def qI:T->T->Option T:=i2 λ i j=>.bl (decide (j<i))
@[simp] def uu:T->T->Option T:=i2 λ i j=>.bl (decide (j<=i))
section
variable {fa fb:Ag}{ta tb:zr}
def TC (ha:yC fa ta) (hb:yC fb tb):xE (zb vK fa fb) (yp (xb λ i j=>.int (i-j)) ta tb):=rb (mI (λ _ _ _=>xN) λ _ _ _=>nofun) ha hb
def TZ (ha:yC fa ta) (hb:yC fb tb):xE (zb zL fa fb) (yp (fI (λ _ j=>0<j) λ i j=>.int (i%j)) ta tb):=rb (jJ (λ _ _ _=>xN) λ _ _ _=>nofun) ha hb
def SK (ha:yC fa ta) (hb:yC fb tb):xE (zb yz fa fb) (yp (fI xt λ i j=>.int (i/j)) ta tb):=rb (jJ (λ _ _ _=>xN) λ _ _ _=>nofun) ha hb
def TK (ha:yC fa ta) (hb:yC fb tb):xE (zb qp fa fb) (yp (fI qb λ i j=>.int (i ^ j.toNat)) ta tb):=rb (jJ (λ _ _ _=>xN) λ _ _ _=>nofun) ha hb
end
def zD (neg:Bool):T->T->Option T:=λ x y=>if dep x<=60/\dep y<=60 then ↑(.bl (cond neg (!eqT x y) (eqT x y))) else none
def qD (neg:Bool):T->T->Option T:=λ x y=>match xv y with
 | some ts=>if dep x<=60/\x9 ts<=60 then ↑(.bl (cond neg (!(ts.any λ t=>eqT t x)) (ts.any λ t=>eqT t x))) else none
 | none=>none
def QW {neg:Bool}:Good2 zA (zD neg) (ve neg):=λ S Z x y z d e Q hz hx hy ef hq=>by
 unfold zD at ef;split at ef
 .rename_i h;cases ef;show#[x,y,hx.sn,hy.sn,h.1,h.2,hq _ S (.refl S) (Cl.of (λ _=>nofun) wF)]
 .cases ef
def QV {neg:Bool}:Good2 zA (qD neg) (sF neg):=λ S Z x y z d e Q hz hx hy ef hq=>by
 unfold qD at ef;split at ef
 .rename_i ts ht;split at ef
  .rename_i h;cases ef;let#[ds,h1,h2]:=hy.seq ht;show#[x,ts,ds,hx.sn,h1,zj.sx (pV S Z) ts h2,h.1,h.2,hq _ S (.refl S) (Cl.of (λ _=>nofun) wF)]
  .cases ef
 .cases ef
@[simp] def zh:T->T->Option T:=λ x y=>match xv x,y with
 | some ts,.int i=>L2.zT ts i
 | _,_=>none
def cE:Good2 xC zh x_:=λ S Z x y z d e Q hz hx hy ef hq=>by
 unfold zh at ef;split at ef
 .rename_i ts i ht;cases hy.int;let#[ds,h1,h2]:=hx.seq ht;let#[c,h3,h4]:=h2.at ef;unfold zH at h1;split at h1
  .cases h1;show Py h3 (hq c S (.refl S) h4)
  .cases h1;show Pz h3 (hq c S (.refl S) h4)
  .split at h1
   .rename_i q;cases h1;show P0 q h3 (hq c S (.refl S) h4)
   .cases h1
  .cases h1
 .cases ef
@[simp] def yr:T->T->Option T
 | .int i,.int j=>↑(.int (i+j))
 | .str i,.str j=>if i.length+j.length<=sizeLine then ↑(.str (i++j)) else none
 | .lst ts,.lst us=>if ts.length+us.length<=sizeLine then ↑(.lst (ts++us)) else none
 | .tup ts,.tup us=>if ts.length+us.length<=sizeLine then ↑(.tup (ts++us)) else none
 | _,_=>none
def vX:yH:=λ x y S Q=>match x,y with
 | .int i,.int j=>Q (.int (i+j)) S
 | .str i,.str j=>i.length+j.length<=sizeLine/\Q (.str (i++j)) S
 | .tup ds,.tup es=>ds.length+es.length<=sizeLine/\Q (.tup (ds++es)) S
 | .zp,_=>False
 | .bl _,_=>False
 | .int _,_=>False
 | .str _,_=>False
 | .tup _,_=>False
 | x,y=>match zH x S,zH y S with
  | some ds,↑es=>(∀ ts,y≠.tup ts)/\ds.length+es.length<=sizeLine/\∀ r,S r=none->Q (.ref r) (ups S r (.lst (ds++es)))
  | _,_=>False
def good_add:Good2 zA yr vX:=λ S Z x y z d e Q hz hx hy ef hq=>by
 unfold yr at ef;split at ef
 .cases ef;cases hx.int;cases hy.int;show hq _ S (.refl S) (Cl.of (λ _=>nofun) xN)
 .split at ef
  .rename_i h;cases ef;cases hx.str;cases hy.str;show#[h,hq _ S (.refl S) (Cl.of (λ _=>nofun) gY)]
  .cases ef
 .split at ef
  .rename_i h;cases ef;let#[ds,h1,h2]:=hx.seq rfl;let#[es,h3,h4]:=hy.seq rfl;have nt:∀ ts,e≠.tup ts:=by
    obtain⟨_,q | ⟨_,q,_⟩,_⟩:=hy.lst <;> subst q <;> show λ _=>nofun
   have key:(∀ ts,e≠.tup ts)/\ds.length+es.length<=sizeLine/\∀ r,S r=none->Q (.ref r) (ups S r (.lst (ds++es))):=
    #[nt,by rw[h2.len,h4.len];show h,λ r hr=>hq _ _ (.new hr _) (tZ hz hr (h2.append h4))]
   obtain⟨_,q | ⟨a,q,_⟩,_⟩:=hx.lst
   .subst q;unfold vX;dsimp only;rw[h1,h3];show key
   .subst q;unfold vX;dsimp only;rw[h1,h3];show key
  .cases ef
 .split at ef
  .rename_i h;cases ef;let#[ds,rfl,h2]:=hx.tup;let#[es,rfl,h4]:=hy.tup;show#[by rw[h2.len,h4.len];show h,hq _ S (.refl S) (Cl.of (λ _=>nofun) (qk (h2.append h4)))]
  .cases ef
 .cases ef
def wR (f:Ev->Option Bool) (t:y4):Prop:=∀ S Z L J y Q,ER S Z L J->f J=↑y->(∀ S',Sx S S'->Q y S')->t L S Q
@[simp] def zB (f:Ag):Ev->Option Bool:=fun J=>(f J).bind λ x=>match x with
 | .bl b=>↑b
 | _=>none
@[simp] def tW:T->Option Bool
 | .zp=>↑false
 | .bl b=>↑b
 | .int i=>↑(i != 0)
 | .str x=>if x.length<=sizeLine then ↑((x.length:Int) != 0) else none
 | .tup ts=>↑(!ts.isEmpty)
 | .lst ts=>↑(!ts.isEmpty)
 | .yV=>none
 | .dn _=>none
 | .err _ _ _=>none
@[simp] def xG (f:Ag):Ev->Option Bool:=fun J=>(f J).bind tW
@[simp] def vf (f g:Ev->Option Bool):Ev->Option Bool:=fun J=>(f J).bind λ b=>if b=true then g J else ↑false
@[simp] def qO (f g:Ev->Option Bool):Ev->Option Bool:=fun J=>(f J).bind λ b=>if b=true then ↑true else g J
@[simp] def rF (f:Ev->Option Bool):Ev->Option Bool:=fun J=>(f J).map (!·)
section
variable {f g:Ag}{t u:zr}{fb gb:Ev->Option Bool}{tb ub:y4}{R:Rk}
def T7 (h:yC f t):wR (zB f) (vD t):=λ S Z L J y Q hE e hq=>by
 let#[x,e1,e2]:=Ak.mp e;exact h S Z L J x _ hE e1 λ d S1 s1 r1=>?_;split at e2
 .cases e2;cases Vw.bl r1;show hq S1 s1
 .cases e2
def TB (h:yC f t):wR (xG f) (bg t):=λ S Z L J y Q hE e hq=>by
 let#[x,e1,e2]:=Ak.mp e;exact h S Z L J x _ hE e1 λ d S1 s1 r1=>?_;cases x with
 | zp=>cases Vw.zp r1;cases e2;show hq S1 s1
 | bl b=>cases Vw.bl r1;cases e2;show hq S1 s1
 | int b=>cases Vw.int r1;cases e2;show hq S1 s1
 | str b=>
  cases Vw.str r1;simp![tW] at e2;split at e2
  .rename_i hh;cases e2;show#[hh,hq S1 s1]
  .cases e2
 | tup ts=>
  let#[ds,rfl,h2]:=Vw.tup r1;cases e2;change Q (!ds.isEmpty) S1;rw[h2.empty];show hq S1 s1
 | lst ts=>
  obtain⟨ds,rfl | ⟨a,rfl,h1⟩,h2⟩:=Vw.lst r1
  .cases e2;change Q (!ds.isEmpty) S1;rw[h2.empty];show hq S1 s1
  .cases e2;exact Y1 h1 ?_;rw[h2.empty];show hq S1 s1
 | _=>cases e2
def SR (h:wR fb tb) (h':wR gb ub):wR (vf fb gb) (oo tb ub):=λ S Z L J y Q hE e hq=>by
 let#[b,e1,e2]:=Ak.mp e;exact h S Z L J b _ hE e1 λ S1 s1=>?_;split at e2
 .rename_i hb;rw[if_pos hb];show h' S1 Z L J y _ (hE.grow s1) e2 λ S2 s2=>hq S2 (s1.trans s2)
 .rename_i hb;rw[if_neg hb];cases e2;show hq S1 s1
def SM (h:wR fb tb) (h':wR gb ub):wR (qO fb gb) (oj tb ub):=λ S Z L J y Q hE e hq=>by
 let#[b,e1,e2]:=Ak.mp e;exact h S Z L J b _ hE e1 λ S1 s1=>?_;split at e2
 .rename_i hb;rw[if_pos hb];cases e2;show hq S1 s1
 .rename_i hb;rw[if_neg hb];show h' S1 Z L J y _ (hE.grow s1) e2 λ S2 s2=>hq S2 (s1.trans s2)
def SN (h:wR fb tb):wR (rF fb) (om tb):=λ S Z L J y Q hE e hq=>by
 unfold rF at e;let#[b,e1,rfl]:=AE.mp e;show h S Z L J b _ hE e1 λ S1 s1=>hq S1 s1
@[simp] def lG (f g:Ag):Ag:=fun J=>(f J).bind λ x=>match x with
 | .bl k=>if k=true then g J else ↑(.bl false)
 | _=>none
@[simp] def eG (f:Ag):Ag:=fun J=>(f J).bind λ x=>match x with
 | .bl k=>↑(.bl (!k))
 | _=>none
@[simp] def c9 (c:Ev->Option Bool) (f g:Ag):Ag:=fun J=>(c J).bind λ b=>if b=true then f J else g J
def Ri [Cl R] (h:yC f t) (h':xl R g u):xl R (lG f g) (o8 t u):=λ S Z L J y Q hE e hq=>by
 let#[x,e1,e2]:=Ak.mp e;exact h S Z L J x _ hE e1 λ d S1 s1 r1=>?_;split at e2
 .cases Vw.bl r1;split at e2
  .rename_i hb;dsimp only;rw[if_pos hb];show h' S1 Z L J y _ (hE.grow s1) e2 λ d S2 s2 r2=>hq d S2 (s1.trans s2) (Cl.cl s1 r2)
  .rename_i hb;dsimp only;rw[if_neg hb];cases e2;show hq _ S1 s1 (Cl.of (λ _=>nofun) wF)
 .cases e2
def TQ [Cl R] (h:yC f t):xl R (eG f) (oz t):=λ S Z L J y Q hE e hq=>by
 let#[x,e1,e2]:=Ak.mp e;exact h S Z L J x _ hE e1 λ d S1 s1 r1=>?_;split at e2
 .cases Vw.bl r1;cases e2;show hq _ S1 s1 (Cl.of (λ _=>nofun) wF)
 .cases e2
def SG [Cl R] (hc:wR fb tb) (h:xl R f t) (h':xl R g u):xl R (c9 fb f g) (o6 tb t u):=λ S Z L J y Q hE e hq=>by
 let#[b,e1,e2]:=Ak.mp e;exact hc S Z L J b _ hE e1 λ S1 s1=>?_;split at e2
 .rename_i hb;rw[if_pos hb];show h S1 Z L J y _ (hE.grow s1) e2 λ d S2 s2 r2=>hq d S2 (s1.trans s2) (Cl.cl s1 r2)
 .rename_i hb;rw[if_neg hb];show h' S1 Z L J y _ (hE.grow s1) e2 λ d S2 s2 r2=>hq d S2 (s1.trans s2) (Cl.cl s1 r2)
end
def oH (S:SS) (Z:Addr->Prop):List T->List D->Prop
 | [],ds=>ds=[]
 | t::ts,ds=>∃ c cs,ds=c::cs/\Vw S Z t c/\oH S Z ts cs
def rX (f:Ev->Option (List T)) (t:yf):Prop:=∀ S Z L J ys Q,ER S Z L J->f J=↑ys->(∀ ds S',Sx S S'->oH S' Z ys ds->Q ds S')->t L S Q
def rW (f:Ev->Option (List T)) (t:yf):Prop:=∀ S Z L J ys Q,ER S Z L J->f J=↑ys->(∀ ds S',Sx S S'->zj (zE S' Z) ys ds->Q ds S')->t L S Q
@[simp] def zf:Ev->Option (List T):=λ _=>↑[]
@[simp] def za (f:Ag) (g:Ev->Option (List T)):Ev->Option (List T):=fun J=>(f J).bind λ x=>(g J).bind λ xs=>↑(x::xs)
section
variable {f:Ag}{g:Ev->Option (List T)}{t:zr}{u:yf}
def T2:rX zf mS:=λ S Z L J y Q hE e hq=>by cases e;show hq [] S (.refl S) rfl
def Tx:rW zf mS:=λ S Z L J y Q hE e hq=>by cases e;show hq [] S (.refl S) .nil
def T3 (h:yC f t) (h':rX g u):rX (za f g) (rH t u):=λ S Z L J y Q hE e hq=>by
 let#[x,e1,e0]:=Ak.mp e;let#[xs,e2,e3]:=Ak.mp e0;cases e3;exact h S Z L J x _ hE e1 λ d S1 s1 r1=>?_;exact h' S1 Z L J xs _ (hE.grow s1) e2 λ ds S2 s2 r2=>?_;show hq _ S2 (s1.trans s2) #[d,ds,rfl,Vw.grow r1 s2,r2]
def Tz (h:vm f t) (h':rW g u):rW (za f g) (rH t u):=λ S Z L J y Q hE e hq=>by
 let#[x,e1,e0]:=Ak.mp e;let#[xs,e2,e3]:=Ak.mp e0;cases e3;exact h S Z L J x _ hE e1 λ d S1 s1 r1=>?_;exact h' S1 Z L J xs _ (hE.grow s1) e2 λ ds S2 s2 r2=>?_;show hq _ S2 (s1.trans s2) (.cons (Sn.sx (wy s2) x r1) r2)
@[simp] def tupS (g:Ev->Option (List T)):Ag:=fun J=>(g J).bind λ xs=>if xs.length<=sizeLine then ↑(.tup xs) else none
@[simp] def yT (g:Ev->Option (List T)):Ag:=fun J=>(g J).bind λ xs=>if xs.length<=sizeLine then ↑(.lst xs) else none
def T6 (h:rW g u):xE (tupS g) (bu u):=λ S Z L J y Q hE e hq=>by
 let#[xs,e1,e2]:=Ak.mp e;split at e2
 .rename_i hl;cases e2;exact h S Z L J xs _ hE e1 λ ds S1 s1 r1=>#[by rw[r1.len];show hl,hq _ S1 s1 (Cl.of (λ _=>nofun) (qk r1))]
 .cases e2
def T_ (h:rW g u):xE (yT g) (b9 u):=λ S Z L J y Q hE e hq=>by
 let#[xs,e1,e2]:=Ak.mp e;split at e2
 .rename_i hl;cases e2;exact h S Z L J xs _ hE e1 λ ds S1 s1 r1=>#[by rw[r1.len];show hl,λ p hp=>hq _ _ (s1.trans (.new hp _)) (Cl.cl s1 (tZ (hE.grow s1).zd hp r1))]
 .cases e2
end
@[simp] def zo (F:An) (g:Ev->Option (List T)):Ag:=fun J=>(g J).bind F
def wX (R:Rk) (F:An) (f:xf):Prop:=∀ S Z ys z ds Q,(∀ a,Z a->S a≠none)->oH S Z ys ds->F ys=↑z->(∀ c S',Sx S S'->R S S' Z z c->Q c S')->f ds S Q
def SY {R:Rk} [Cl R] {F:An}{f:xf}{g:Ev->Option (List T)}{u:yf}(hf:wX R F f) (h:rX g u):xl R (zo F g) (xc f u):=λ S Z L J y Q hE e hq=>by
 let#[xs,e1,e2]:=Ak.mp e;exact h S Z L J xs _ hE e1 λ ds S1 s1 r1=>?_;show hf S1 Z xs y ds Q (hE.grow s1).zd r1 e2 λ c S' s r=>hq c S' (s1.trans s) (Cl.cl s1 r)
@[simp] def yY:An
 | [.str z]=>if z.length<=sizeLine then ↑(.int z.length) else none
 | [y]=>(xv y).map λ ts=>.int ts.length
 | _=>none
def wC {S:SS}{Z:Addr->Prop}{y:T}{ds:List D}(h:oH S Z [y] ds):∃ d,ds=[d]/\Vw S Z y d:=by
 let#[c,cs,rfl,h1,h2]:=h;cases h2;show#[c,rfl,h1]
def gr {S:SS}{Z:Addr->Prop}{y z:T}{ds:List D}(h:oH S Z [y,z] ds):∃ d e,ds=[d,e]/\Vw S Z y d/\Vw S Z z e:=by
 let#[c,cs,rfl,h1,c2,cs2,rfl,h2,h3]:=h;cases h3;show#[c,c2,rfl,h1,h2]
def QT:wX zA yY vW:=λ S Z ys z ds Q hz hv e hq=>by
 unfold yY at e;split at e
 .let#[d,rfl,h1]:=wC hv;split at e
  .rename_i hl;cases e;cases h1.str;show#[hl,hq _ S (.refl S) (Cl.of (λ _=>nofun) xN)]
  .cases e
 .let#[d,rfl,h1]:=wC hv;let#[ts,e1,rfl]:=AE.mp e;let#[es,h2,h3]:=h1.seq e1;exact Px h2 ?_;rw[h3.len];show hq _ S (.refl S) (Cl.of (λ _=>nofun) xN)
 .cases e
@[simp] def listS:An
 | [y]=>(xv y).map .lst
 | _=>none
def QS:wX zA listS vV:=λ S Z ys z ds Q hz hv e hq=>by
 unfold listS at e;split at e
 .let#[d,rfl,h1]:=wC hv;let#[ts,e1,rfl]:=AE.mp e;let#[es,h2,h3]:=h1.seq e1;show Pw h2 λ p hp=>hq _ _ (.new hp _) (tZ hz hp h3)
 .cases e
@[simp] def tV:An
 | [y]=>(xv y).map .tup
 | _=>none
def QJ:wX zA tV vT:=λ S Z ys z ds Q hz hv e hq=>by
 unfold tV at e;split at e
 .rename_i y;let#[d,rfl,h1]:=wC hv;let#[ts,e1,rfl]:=AE.mp e;let#[es,h2,h3]:=h1.seq e1;have k:Q (.tup es) S:=hq _ S (.refl S) (Cl.of (λ _=>nofun) (qk h3));unfold zH at h2;split at h2
  .cases h2;show k
  .cases h2;show k
  .split at h2
   .rename_i q;cases h2;show Pu q k
   .cases h2
  .cases h2
 .cases e
@[simp] def rC (g:Int->Int->Int):An
 | [.int i,.int j]=>↑(.int (g i j))
 | _=>none
def cF {g:Int->Int->Int}:wX zA (rC g) (vA λ i j=>.int (g i j)):=λ S Z ys z ds Q hz hv e hq=>by
 unfold rC at e;split at e
 .let#[d,d',rfl,h1,h2]:=gr hv;cases e;cases h1.int;cases h2.int;show hq _ S (.refl S) (Cl.of (λ _=>nofun) xN)
 .cases e
@[simp] def rh:An:=rC λ i j=>if j>i then j else i
@[simp] def vP:An:=rC λ i j=>if j<i then j else i
def sJ:List T->Option (List Bool)
 | []=>↑[]
 | .bl b::ts=>(sJ ts).map (b::·)
 | _::_=>none
theorem ai:∀ {ts:List T}{bs:List Bool},sJ ts=↑bs->ts=bs.map T.bl
 | [],bs,h=>by cases h;rfl
 | .bl b::ts,bs,h=>by
  unfold sJ at h;let#[cs,h1,rfl]:=AE.mp h;rw[Av,<- ai h1]
 | .zp::ts,bs,h=>by cases h
 | .int _::ts,bs,h=>by cases h
 | .str _::ts,bs,h=>by cases h
 | .tup _::ts,bs,h=>by cases h
 | .lst _::ts,bs,h=>by cases h
def Nk (bs:List Bool):sJ (bs.map T.bl)=↑bs:=by
 induction bs with
 | nil=>rfl
 | cons b bs ih=>rw[Av];unfold sJ;rw[ih];rfl
@[simp] def lq (g:List Bool->Bool):An
 | [.lst ts]=>(sJ ts).map λ bs=>.bl (g bs)
 | _=>none
def vB (g:List Bool->Bool):xf:=λ ds S Q=>match ds with
 | [.tup _]=>False
 | [d]=>∃ bs:List Bool,zH d S=↑(bs.map D.bl)/\Q (.bl (g bs)) S
 | _=>False
def QX {g:List Bool->Bool}:wX zA (lq g) (vB g):=λ S Z ys z ds Q hz hv e hq=>by
 unfold lq at e;split at e
 .let#[d,rfl,h1]:=wC hv;let#[bs,e1,rfl]:=AE.mp e;cases ai e1;let#[es,h2,h3]:=h1.seq rfl;cases h3.aj;have key:∃ bs:List Bool,zH d S=↑(bs.map D.bl)/\Q (.bl (g bs)) S:=#[bs,h2,hq _ S (.refl S) (Cl.of (λ _=>nofun) wF)];obtain⟨_,q | ⟨a,q,_⟩,_⟩:=h1.lst
  .subst q;show key
  .subst q;show key
 .cases e
structure FR (S0:SS) (Z0:Addr->Prop) (S:SS) (Z:Addr->Prop) (L:zX) (J:Ev):Prop where
 er:ER S Z L J
 len:L.length=J.length
 sx:Sx S0 S
 z0:∀ a,Z0 a->S0 a≠none
 zz:∀ a,Z0 a->Z a
 zn:∀ a,Z a->Z0 a\/S0 a=none
 fr:∀ (i:Nat) ts p,J[i]?=↑↑(.own ts)->L[i]?=↑↑(.ref p)->S0 p=none/\adr ts p
 dj:∀ (i j:Nat) ts us p,i≠j->J[i]?=↑↑(.own ts)->J[j]?=↑↑(.own us)->L[i]?=↑↑(.ref p)->L[j]?=↑↑(.ref p)->False
def yt {α:Type}{l:List α}{i j:Nat}{a b:α}(h:(l.set i a)[j]?=↑b):(i=j/\i<l.length/\b=a)\/(i≠j/\l[j]?=↑b):=by
 rw[DG] at h;by_cases e:i=j
 .subst e;rw[if_pos rfl] at h;by_cases hl:i<l.length
  .rw[if_pos hl] at h;cases h;show .inl #[rfl,hl,rfl]
  .rw[if_neg hl] at h;cases h
 .rw[if_neg e] at h;show .inr #[e,h]
def wL {α:Type}{l:List α}{i j:Nat}{a:α}(h:i≠j):(l.set i a)[j]?=l[j]?:=by rw[DG,if_neg h]
def qJ {α:Type}{l:List α}{i:Nat}{a:α}(h:i<l.length):(l.set i a)[i]?=↑a:=by rw[DG,if_pos rfl,if_pos h]
section
variable {S0 S S':SS}{Z0 Z:Addr->Prop}{L:zX}{J:Ev}{y:T}{d:D}
theorem FR.grow (h:FR S0 Z0 S Z L J) (s:Sx S S'):FR S0 Z0 S' Z L J:=#[h.er.grow s,h.len,h.sx.trans s,h.z0,h.zz,h.zn,h.fr,h.dj]
theorem FR.p8 (h:FR S0 Z0 S Z L J) (i:Nat) (r:Sn (zE S Z) y d):FR S0 Z0 S Z (L.set i ↑d) (J.set i ↑(.im y)):=by
 exact#[#[h.er.zd,λ j t e=>?_,λ j ts e=>?_],by simp[h.len],h.sx,h.z0,h.zz,h.zn,λ j ts p e e'=>?_,λ j k ts us p n e1 e2 e3 e4=>?_]
 .rcases yt e with ⟨rfl,hl,e⟩ | ⟨n,e⟩
  .cases e;show#[d,qJ (by rw[h.len];show hl),r]
  .rw[wL n];show h.er.im j t e
 .rcases yt e with ⟨rfl,hl,e⟩ | ⟨n,e⟩
  .cases e
  .rw[wL n];show h.er.ow j ts e
 .rcases yt e with ⟨rfl,hl,e⟩ | ⟨n,e⟩
  .cases e
  .rw[wL n] at e';show h.fr j ts p e e'
 .rcases yt e1 with ⟨rfl,hl,e⟩ | ⟨n1,e1⟩
  .cases e
  rcases yt e2 with ⟨rfl,hl,e⟩ | ⟨n2,e2⟩
  .cases e
  rw[wL n1] at e3;rw[wL n2] at e4;show h.dj j k ts us p n e1 e2 e3 e4
theorem FR.kE {ts:C}{ds:O}{p:Addr}(h:FR S0 Z0 S Z L J) (s:Sx S S') (i:Nat) (hp:S p=none) (hd:S' p=↑ds) (r:u0 (zE S' λ a=>Z a\/a=p) ts ds) (ha:adr ts p:=by show trivial):
  FR S0 Z0 S' (λ a=>Z a\/a=p) (L.set i ↑(.ref p)) (J.set i ↑(.own ts)):=by
 have np:∀ (j:Nat) us q,J[j]?=↑↑(.own us)->L[j]?=↑↑(.ref q)->q≠p:=λ j us q e e' z=>by
  subst z;let#[p',GU,h1,h2,_]:=h.er.ow j us e;rw[e'] at h1;cases h1;rw[hp] at h2;cases h2
 exact#[#[λ a z=>?_,λ j t e=>?_,λ j us e=>?_],by simp[h.len],h.sx.trans s,h.z0,λ a z=>.inl (h.zz a z),λ a z=>z.elim (h.zn a) (λ q=>.inr (by subst q;show h.sx.none hp)),λ j us q e e'=>?_,λ j k us vs q n e1 e2 e3 e4=>?_]
 .rcases z with z | rfl
  .show λ q=>h.er.zd a z (s.none q)
  .rw[hd];nofun
 .rcases yt e with ⟨rfl,hl,e⟩ | ⟨n,e⟩
  .cases e
  .rw[wL n];let#[d,h1,h2]:=h.er.im j t e;show#[d,h1,Sn.sx (qH s hp) t h2]
 .rcases yt e with ⟨rfl,hl,e⟩ | ⟨n,e⟩
  .cases e;show#[p,ds,qJ (by rw[h.len];show hl),hd,r,.inr rfl]
  .rw[wL n];let#[q,es,h1,h2,h3,h4]:=h.er.ow j us e;show#[q,es,h1,s _ _ h2,u0.sx (qH s hp) h3,.inl h4]
 .rcases yt e with ⟨rfl,hl,e⟩ | ⟨n,e⟩
  .rw[qJ (by rw[h.len];show hl)] at e';cases e';cases e;show#[h.sx.none hp,ha]
  .rw[wL n] at e';show h.fr j us q e e'
 .rcases yt e1 with ⟨rfl,hl,e⟩ | ⟨n1,e1⟩
  .rcases yt e2 with ⟨rfl,_,_⟩ | ⟨n2,e2⟩
   .show n rfl
   .rw[qJ (by rw[h.len];show hl)] at e3;cases e3;rw[wL n2] at e4;show np k vs p e2 e4 rfl
  .rcases yt e2 with ⟨rfl,hl,_⟩ | ⟨n2,e2⟩
   .rw[qJ (by rw[h.len];show hl)] at e4;cases e4;rw[wL n1] at e3;show np j us p e1 e3 rfl
   .rw[wL n1] at e3;rw[wL n2] at e4;show h.dj j k us vs q n e1 e2 e3 e4
def FR.forget (h:FR S0 Z0 S Z L J) (i:Nat):FR S0 Z0 S Z L (J.set i none):=by
 exact#[#[h.er.zd,λ j t e=>?_,λ j ts e=>?_],by simp[h.len],h.sx,h.z0,h.zz,h.zn,λ j ts p e e'=>?_,λ j k ts us p n e1 e2 e3 e4=>?_]
 .rcases yt e with ⟨rfl,hl,e⟩ | ⟨n,e⟩
  .cases e
  .show h.er.im j t e
 .rcases yt e with ⟨rfl,hl,e⟩ | ⟨n,e⟩
  .cases e
  .show h.er.ow j ts e
 .rcases yt e with ⟨rfl,hl,e⟩ | ⟨n,e⟩
  .cases e
  .show h.fr j ts p e e'
 .rcases yt e1 with ⟨rfl,hl,e⟩ | ⟨n1,e1⟩
  .cases e
  rcases yt e2 with ⟨rfl,hl,e⟩ | ⟨n2,e2⟩
  .cases e
  show h.dj j k ts us p n e1 e2 e3 e4
@[simp] def yB (is:List Nat) (J:Ev):Ev:=is.foldl (fun J i=>J.set i none) J
theorem FR.yB:∀ (is:List Nat) {J:Ev},FR S0 Z0 S Z L J->FR S0 Z0 S Z L (yB is J)
 | [],_,h=>h
 | i::is,_,h=>FR.yB is (h.forget i)
def FR.freeze {ts:List T}{p:Addr}(h:FR S0 Z0 S Z L J) (i:Nat) (e:J[i]?=↑↑(.own (.lst ts))) (ed:L[i]?=↑↑(.ref p)):
  FR S0 Z0 S (λ a=>Z a/\a≠p) L (J.set i ↑(.im (.lst ts)))/\Sn (zE S λ a=>Z a/\a≠p) (.lst ts) (.ref p):=by
 let#[p',o,h1,h2,h3,h4]:=h.er.ow i _ e;rw[ed] at h1;cases h1;obtain⟨ds,rfl⟩:∃ ds,o=.lst ds:=by
  cases o with
  | lst ds=>show#[ds,rfl]
  | _=>show h3.elim
 replace h3:zj (zE S Z) ts ds:=h3;have hS:Sn (zE S λ a=>Z a/\a≠p) (.lst ts) (.ref p):=by
  simp![Sn];show#[ds,.inr #[p,rfl,by rw[v7 (λ z=>z.2 rfl)];show h2],zj.sx (vS λ a z=>z.1) ts h3]
 exact#[?_,hS];exact#[#[λ a z=>h.er.zd a z.1,λ j t e'=>?_,λ j us e'=>?_],by simp[h.len],h.sx,h.z0,λ a z=>#[h.zz a z,λ q=>?_],λ a z=>h.zn a z.1,λ j us q e' Hj=>?_,λ j k us vs q n e1 e2 e3 e4=>?_]
 .rcases yt e' with ⟨rfl,hl,e'⟩ | ⟨n,e'⟩
  .cases e';show#[_,ed,hS]
  .let#[d,g1,g2]:=h.er.im j t e';show#[d,g1,Sn.sx (vS λ a z=>z.1) t g2]
 .rcases yt e' with ⟨rfl,hl,e'⟩ | ⟨n,e'⟩
  .cases e'
  .let#[q,es,g1,g2,g3,g4]:=h.er.ow j us e';show#[q,es,g1,g2,u0.sx (vS λ a z=>z.1) g3,g4,λ z=>by subst z;show h.dj i j _ us q n e e' ed g1]
 .subst q;show h.z0 a z (h.fr i _ a e ed).1
 .rcases yt e' with ⟨rfl,hl,e'⟩ | ⟨n,e'⟩
  .cases e'
  .show h.fr j us q e' Hj
 .rcases yt e1 with ⟨rfl,hl,e⟩ | ⟨n1,e1⟩
  .cases e
  rcases yt e2 with ⟨rfl,hl,e⟩ | ⟨n2,e2⟩
  .cases e
  show h.dj j k us vs q n e1 e2 e3 e4
def FR.mut {ts us:C}{es:O}{p:Addr}(h:FR S0 Z0 S Z L J) (i:Nat) (e:J[i]?=↑↑(.own ts)) (ed:L[i]?=↑↑(.ref p)) (r:u0 (zE S Z) us es) (ha:adr ts p->adr us p:=by show λ _=>trivial):
  FR S0 Z0 (ups S p es) Z L (J.set i ↑(.own us)):=by
 let#[p',ds,h1,h2,h3,h4]:=h.er.ow i ts e;rw[ed] at h1;cases h1;have hh:zE (ups S p es) Z=zE S Z:=QC h4;let#[hpn,hpa]:=h.fr i ts p e ed;exact#[#[λ a z=>?_,λ j t e'=>?_,λ j vs e'=>?_],by simp[h.len],λ b o q=>?_,h.z0,h.zz,h.zn,λ j vs q e' Hj=>?_,λ j k vs ws q n e1 e2 e3 e4=>?_]
 .by_cases hp:a=p
  .subst hp;rw[uW];nofun
  .rw[uX hp];show h.er.zd a z
 .rw[hh];rcases yt e' with ⟨rfl,hl,e'⟩ | ⟨n,e'⟩
  .cases e'
  .show h.er.im j t e'
 .rw[hh];rcases yt e' with ⟨rfl,hl,e'⟩ | ⟨n,e'⟩
  .cases e';show#[p,es,ed,uW,r,h4]
  .let#[q,FC,g1,g2,g3,g4]:=h.er.ow j vs e';exact#[q,FC,g1,?_,g3,g4];rw[uX (λ z=>by subst z;show h.dj i j ts vs q n e e' ed g1)];show g2
 .rw[uX (λ z=>by subst z;rw[hpn] at q;cases q)];show h.sx b o q
 .rcases yt e' with ⟨rfl,hl,_⟩ | ⟨n,e'⟩
  .rw[ed] at Hj;cases Hj;rename_i e';cases e';show#[hpn,ha hpa]
  .show h.fr j vs q e' Hj
 .rcases yt e1 with ⟨rfl,hl,_⟩ | ⟨n1,e1⟩
  .rcases yt e2 with ⟨rfl,hl,_⟩ | ⟨n2,e2⟩
   .show n rfl
   .show h.dj _ k ts ws q n e e2 e3 e4
  .rcases yt e2 with ⟨rfl,hl,_⟩ | ⟨n2,e2⟩
   .show h.dj j _ vs ts q n e1 e e3 e4
   .show h.dj j k vs ws q n e1 e2 e3 e4
def kK (S0 S:SS) (Z:Addr->Prop):SS:=open Classical in λ a=>if S0 a=none/\Z a then none else S a
def nP {a:Addr}(h:¬ (S0 a=none/\Z a)):kK S0 S Z a=S a:=if_neg h
def kJ {a:Addr}(h:S0 a=none/\Z a):kK S0 S Z a=none:=if_pos h
def FR.rebase (h:FR S0 Z0 S Z L J):∃ S1,Sx S0 S1/\FR S1 Z0 S Z L J/\Sx (zE S Z) S1:=by
 exact#[kK S0 S Z,λ b o q=>?_,#[h.er,h.len,λ b o q=>?_,λ a z=>?_,h.zz,λ a z=>?_,λ i ts p e ed=>?_,h.dj],λ b o q=>?_]
 .rw[nP (λ z=>by rw[z.1] at q;cases q)];show h.sx _ _ q
 .by_cases w:S0 b=none/\Z b
  .rw[kJ w] at q;cases q
  .rw[nP w] at q;show q
 .rw[nP (λ q=>h.z0 a z q.1)];show h.er.zd a (h.zz a z)
 .rcases h.zn a z with w | w
  .show .inl w
  .show .inr (kJ #[w,z])
 .let#[p',ds,h1,h2,h3,h4]:=h.er.ow i ts e;rw[ed] at h1;cases h1;show#[kJ #[(h.fr i ts p e ed).1,h4],(h.fr i ts p e ed).2]
 .let#[q1,q2]:=vR q;rw[nP (λ z=>q1 z.2)];show q2
def FR.back {S1:SS}(h:FR S1 Z0 S Z L J) (s:Sx S0 S1) (z0:∀ a,Z0 a->S0 a≠none):FR S0 Z0 S Z L J:=#[h.er,h.len,s.trans h.sx,z0,h.zz,λ a z=>(h.zn a z).imp id s.none,λ i ts p e ed=>#[s.none (h.fr i ts p e ed).1,(h.fr i ts p e ed).2],h.dj]
def FR.Xk {S1:SS}{Z1:Addr->Prop}(h:FR S0 Z0 S Z L J) (b:Sx (zE S1 Z1) S0) (zz:∀ a,Z0 a->Z1 a):Sx (zE S1 Z1) (zE S Z):=λ a o q=>by
 have q0:=b _ _ q;let#[q1,q2]:=vR q;rw[v7]
 .show h.sx _ _ q0
 .intro z;rcases h.zn a z with w | w
  .show q1 (zz a w)
  .rw[w] at q0;cases q0
end
inductive Out where
 | nx (J:Ev) | rt (t:T) | bk (J:Ev) | ct (J:Ev)
abbrev Sm:=Ev->Option Out
def N8 (R:Rk) (S0:SS) (Z0:Addr->Prop) (o:Out) (E:sT):Prop:=match o with
 | .nx J=>∀ S Z L,FR S0 Z0 S Z L J->E.nx L S
 | .bk J=>∀ S Z L,FR S0 Z0 S Z L J->E.bk L S
 | .ct J=>∀ S Z L,FR S0 Z0 S Z L J->E.ct L S
 | .rt y=>∀ d S,Sx S0 S->R S0 S Z0 y d->E.rt d S
def yb (R:Rk) (g:Sm) (t:y8):Prop:=∀ S0 Z0 S Z L J o E,FR S0 Z0 S Z L J->g J=↑o->N8 R S0 Z0 o E->t E L S
class Lo (R:Rk):Prop extends Cl R where
 lo:∀ {S0 S S':SS}{Z0 Z:Addr->Prop}{y:T}{d:D},Sx S0 S->(∀ a,Z0 a->Z a)->R S S' Z y d->R S0 S' Z0 y d
instance:Lo xC:=#[λ _ z h=>Sn.sx (vS z) _ h]
instance:Lo zA:=#[λ s z h=>#[Sn.sx (vS z) _ h.1,λ ts e=>by
 let#[p,ds,h1,h2,h3,h4]:=h.2 ts e;show#[p,ds,h1,s.none h2,h3,zj.sx (vS λ a q=>q.imp (z a) id) ts h4]]]
@[simp] def zl (g h:Sm):Sm:=fun J=>(g J).bind λ o=>match o with
 | .nx J'=>h J'
 | o=>↑o
@[simp] def yE:Sm:=fun J=>↑(.nx J)
@[simp] def zy (i:Nat) (f:Ag):Sm:=fun J=>(f J).map λ y=>.nx (J.set i ↑(.im y))
@[simp] def vj (i:Nat) (f:Ag):Sm:=fun J=>(f J).bind λ y=>match y with
 | .lst ts=>↑(.nx (J.set i ↑(.own (.lst ts))))
 | y=>↑(.nx (J.set i ↑(.im y)))
@[simp] def qQ (f:Ag):Sm:=fun J=>(f J).map λ _=>.nx J
@[simp] def retS (f:Ag):Sm:=fun J=>(f J).map .rt
@[simp] def tf (i:Nat):Sm:=fun J=>match J[i]? with
 | some ↑(.own (.lst ts))=>↑(.rt (.lst ts))
 | _=>none
@[simp] def yu (c:Ev->Option Bool) (g h:Sm):Sm:=fun J=>(c J).bind λ b=>if b=true then g J else h J
@[simp] def jR (i:Nat) (J:Ev):Ev:=match J[i]? with
 | some ↑(.own (.lst ts))=>J.set i ↑(.im (.lst ts))
 | _=>J
@[simp] def jQ (i:Nat) (g:Sm):Sm:=fun J=>g (jR i J)
section
variable {R:Rk}{g h:Sm}{t u:y8}{f:Ag}{te:zr}
def UM (hg:yb R g t) (hh:yb R h u):yb R (zl g h) (oy t u):=λ S0 Z0 S Z L J o E F e P=>by
 let#[o1,e1,e2]:=Ak.mp e;exact hg S0 Z0 S Z L J o1 { E with nx:=u E } F e1 ?_;cases o1 with
 | nx J1=>show λ S1 Z1 L1 F1=>hh S0 Z0 S1 Z1 L1 J1 o E F1 e2 P
 | rt y=>cases e2;show P
 | bk y=>cases e2;show P
 | ct y=>cases e2;show P
def UL:yb R yE bw:=λ S0 Z0 S Z L J o E F e P=>by cases e;show P S Z L F
def Tc (i:Nat) (hf:vm f te):yb R (zy i f) (v_ te (hName i)):=λ S0 Z0 S Z L J o E F e P=>by
 let#[y,e1,rfl]:=AE.mp e;show hf S Z L J y _ F.er e1 λ d S1 s1 r1=>P S1 Z _ ((F.grow s1).p8 i r1)
def Ta (i:Nat) (hf:xE f te):yb R (vj i f) (v_ te (hName i)):=λ S0 Z0 S Z L J o E F e P=>by
 let#[y,e1,e2]:=Ak.mp e;exact hf S Z L J y _ F.er e1 λ d S1 s1 r1=>?_;cases y with
 | lst ts=>
  cases e2;let#[p,ds,rfl,h1,h2,h3]:=r1.2 ts rfl;show P S1 _ _ (F.kE (ts:=.lst ts) (ds:=.lst ds) s1 i h1 h2 h3)
 | _=>cases e2;show P S1 Z _ ((F.grow s1).p8 i r1.1)
def UY (hf:yC f te):yb R (qQ f) (mT te):=λ S0 Z0 S Z L J o E F e P=>by
 let#[y,e1,rfl]:=AE.mp e;show hf S Z L J y _ F.er e1 λ d S1 s1 r1=>P S1 Z _ (F.grow s1)
def UN [Lo R] (hf:xl R f te):yb R (retS f) (iq te):=λ S0 Z0 S Z L J o E F e P=>by
 let#[y,e1,rfl]:=AE.mp e;show hf S Z L J y _ F.er e1 λ d S1 s1 r1=>P d S1 (F.sx.trans s1) (Lo.lo F.sx F.zz r1)
def ez (i:Nat):yb zA (tf i) (iq (ye i)):=λ S0 Z0 S Z L J o E F e P=>by
 unfold tf at e;split at e
 .rename_i ts h;cases e;let#[p,ob,h1,h2,h3,h4]:=F.er.ow i _ h;obtain⟨ds,rfl⟩:∃ ds,ob=.lst ds:=by
   cases ob with
   | lst ds=>show#[ds,rfl]
   | _=>show h3.elim
  replace h3:zj (zE S Z) ts ds:=h3;have hn:=(F.fr i _ p h h1).1;have nz:¬ Z0 p:=λ z=>F.z0 p z hn;change ye i L S E.rt;unfold ye;rw[h1];exact P _ S F.sx #[?_,λ us e=>?_]
  .simp![Sn];show#[ds,.inr #[p,rfl,by rw[v7 nz];show h2],zj.sx (vS F.zz) ts h3]
  .cases e;show#[p,ds,rfl,hn,h2,zj.sx (vS λ a q=>q.elim (F.zz a) λ q=>q▸h4) ts h3]
 .cases e
def yb.fv (h:yb zA g t):yb xC g t:=λ S0 Z0 S Z L J o E F e P=>by
 exact h S0 Z0 S Z L J o E F e ?_;cases o with
 | rt y=>show λ d S s r=>P d S s r.1
 | _=>show P
def US {c:Ev->Option Bool}{tc:y4}(hc:wR c tc) (hg:yb R g t) (hh:yb R h u):yb R (yu c g h) (bB tc t u):=λ S0 Z0 S Z L J o E F e P=>by
 let#[b,e1,e2]:=Ak.mp e;exact hc S Z L J b _ F.er e1 λ S1 s1=>?_;split at e2
 .rename_i hb;rw[if_pos hb];show hg S0 Z0 S1 Z L J o E (F.grow s1) e2 P
 .rename_i hb;rw[if_neg hb];show hh S0 Z0 S1 Z L J o E (F.grow s1) e2 P
def FR.fz {S0 S:SS}{Z0 Z:Addr->Prop}{L:zX}{J:Ev}(F:FR S0 Z0 S Z L J) (i:Nat):∃ Z',FR S0 Z0 S Z' L (jR i J):=by
 unfold jR;split
 .rename_i ts h;let#[p,ds,h1,_]:=F.er.ow i _ h;show#[_,(F.freeze i h h1).1]
 .show#[Z,F]
def UT (i:Nat) (hg:yb R g t):yb R (jQ i g) t:=λ S0 Z0 S Z L J o E F e P=>by
 let#[Z',F']:=F.fz i;show hg S0 Z0 S Z' L _ o E F' e P
def lM (g:T->Ev->Option Ev) (t:xk):Prop:=∀ S0 Z0 S Z L J J' y d Q,FR S0 Z0 S Z L J->Sn (zE S Z) y d->g y J=↑J'->(∀ L',FR S0 Z0 S Z L' J'->Q L' S)->t d L S Q
def lL (g:List T->Ev->Option Ev) (t:xK):Prop:=∀ S0 Z0 S Z L J J' ys ds Q,FR S0 Z0 S Z L J->zj (zE S Z) ys ds->g ys J=↑J'->(∀ L',FR S0 Z0 S Z L' J'->Q L' S)->t ds L S Q
@[simp] def zt (i:Nat):T->Ev->Option Ev:=λ y J=>↑(J.set i ↑(.im y))
@[simp] def xY:List T->Ev->Option Ev
 | [],J=>↑J
 | _::_,_=>none
@[simp] def zZ (g:T->Ev->Option Ev) (h:List T->Ev->Option Ev):List T->Ev->Option Ev
 | y::ys,J=>(g y J).bind fun J'=>h ys J'
 | [],_=>none
@[simp] def xH (n:Nat) (g:List T->Ev->Option Ev):T->Ev->Option Ev
 | .tup ys,J=>if ys.length=n then g ys J else none
 | _,_=>none
def Ts (i:Nat):lM (zt i) (hName i):=λ S0 Z0 S Z L J J' y d Q F r e hq=>by cases e;show hq _ (F.p8 i r)
def Tn:lL xY jD:=λ S0 Z0 S Z L J J' ys ds Q F r e hq=>by
 cases ys with
 | nil=>simp![zj] at r;subst r;cases e;show#[rfl,hq _ F]
 | cons _ _=>cases e
def Tq {g:T->Ev->Option Ev}{h:List T->Ev->Option Ev}{t:xk}{u:xK}(hg:lM g t) (hh:lL h u):lL (zZ g h) (jE t u):=λ S0 Z0 S Z L J J' ys ds Q F r e hq=>by
 cases ys with
 | nil=>cases e
 | cons y ys=>
  simp![zj] at r;let#[c,cs,rfl,r1,r2]:=r;let#[J1,e1,e2]:=Ak.mp e;show hg S0 Z0 S Z L J J1 y c _ F r1 e1 fun L1 F1=>hh S0 Z0 S Z L1 J1 J' ys cs Q F1 r2 e2 hq
def Tr {n:Nat}{g:List T->Ev->Option Ev}{t:xK}(hg:lL g t):lM (xH n g) (rD n t):=λ S0 Z0 S Z L J J' y d Q F r e hq=>by
 cases y with
 | tup ys=>
  simp![Sn] at r;let#[ds,rfl,r]:=r;simp![xH] at e;split at e
  .rename_i hl;show#[by rw[r.len];show hl,hg S0 Z0 S Z L J J' ys ds Q F r e hq]
  .cases e
 | _=>cases e
def sP (free:Bool) (f:Ev->Option (List T)) (ti:wc):Prop:=∀ S Z L J ts Q,ER S Z L J->f J=↑ts->(∀ I S',Sx S S'->zj (zE S' Z) ts I.items->(∀ Ha,Sx (if free=true then zE S' Z else S') Ha->I.keep Ha)->Q I S')->ti L S Q
@[simp] def yA (f:Ag):Ev->Option (List T):=fun J=>(f J).bind xv
def Tf {f:Ag}{te:zr}(hf:yC f te):sP false (yA f) (j6 te):=λ S Z L J ts Q hE e hq=>by
 let#[y,e1,e2]:=Ak.mp e;exact hf S Z L J y _ hE e1 λ d S1 s1 r1=>?_;cases y with
 | tup us=>
  cases e2;let#[ds,rfl,h2]:=Vw.tup r1;show hq _ S1 s1 h2 λ _ _=>trivial
 | lst us=>
  cases e2;obtain⟨ds,rfl | ⟨a,rfl,h1⟩,h2⟩:=Vw.lst r1
  .show hq _ S1 s1 h2 λ _ _=>trivial
  .dsimp only;rw[h1];show hq #[ds,_] S1 s1 h2 λ Ha s=>s _ _ h1
 | _=>cases e2
def Tg {f:Ag}{te:zr}(hf:vm f te):sP true (yA f) (j6 te):=λ S Z L J ts Q hE e hq=>by
 let#[y,e1,e2]:=Ak.mp e;exact hf S Z L J y _ hE e1 λ d S1 s1 r1=>?_;cases y with
 | tup us=>
  cases e2;let#[ds,rfl,h2]:=Vw.tup (.inl r1);show hq _ S1 s1 h2 λ _ _=>trivial
 | lst us=>
  cases e2;have r2:=r1;unfold xC at r2;simp![Sn] at r2;obtain⟨ds,⟨rfl,_⟩ | ⟨a,rfl,h1⟩,h2⟩:=r2
  .show hq _ S1 s1 h2 λ _ _=>trivial
  .dsimp only;rw[(vR h1).2];show hq #[ds,_] S1 s1 h2 λ Ha s=>s _ _ h1
 | _=>cases e2
def rangeT (lo:Int) (n:Nat):List T:=(List.range n).map λ(k:Nat)=>T.int (lo+(k:Int))
def gX {S:SS}(lo:Int) (n:Nat):zj S (rangeT lo n) (vv lo n):=by
 unfold rangeT vv
 induction List.range n with
 | nil=>show .nil
 | cons k l ih=>show .cons xN ih
def inR (j:Int):Bool:=decide (-100000000<=j)&&decide (j<=100000000)
def c8 {j:Int}:inR j=true↔-100000000<=j/\j<=100000000:=by simp[inR]
def Q7 {j:Int}(h:inR j=true):-(2 ^ 62)<=j/\j<2 ^ 62:=by have:=c8.mp h;lia
def xO:List T->Option (List T)
 | [.int j]=>if inR j=true then ↑(rangeT 0 j.toNat) else none
 | _=>none
@[simp] def xx (F:List T->Option (List T)) (g:Ev->Option (List T)):Ev->Option (List T):=fun J=>(g J).bind F
def Th {b:Bool}{g:Ev->Option (List T)}{tA:yf}(h:rX g tA):sP b (xx xO g) (j7 tA):=λ S Z L J ts Q hE e hq=>by
 let#[ys,e1,e2]:=Ak.mp e;exact h S Z L J ys _ hE e1 λ ds S1 s1 r1=>?_;unfold xO at e2;split at e2
 .split at e2
  .rename_i hc;cases e2;let#[d,rfl,h1]:=wC r1;cases h1.int;show#[Q7 hc,hq _ S1 s1 (gX _ _) λ _ _=>trivial]
  .cases e2
 .cases e2
def xI (is:List Nat) (g:T->Ev->Option Ev) (b:Sm):List T->Ev->Option Out
 | [],J=>↑(.nx (yB is J))
 | y::ys,J=>(g y (yB is J)).bind fun J1=>(b J1).bind λ o=>match o with
  | .nx J2=>xI is g b ys J2
  | .ct J2=>xI is g b ys J2
  | .bk J2=>↑(.nx (yB is J2))
  | .rt t=>↑(.rt t)
@[simp] def yZ (is:List Nat) (f:Ev->Option (List T)) (g:T->Ev->Option Ev) (b:Sm):Sm:=fun J=>(f J).bind λ ts=>xI is g b ts J
def UU {is:List Nat}{fi:Ev->Option (List T)}{ti:wc}{g:T->Ev->Option Ev}{tg:xk}{b:Sm}{tb:y8} [Lo R] (hi:sP true fi ti) (hg:lM g tg) (hb:yb R b tb):yb R (yZ is fi g b) (o7 ti tg tb):=λ S0 Z0 S Z L J o E F e P=>by
 let#[ts,e1,e2]:=Ak.mp e;exact hi S Z L J ts _ F.er e1 λ I S1 s1 r1 hk=>?_;rw[if_pos rfl] at hk;let#[SB,b1,FB,b2]:=(F.grow s1).rebase;have lo:∀ S' d y,R SB S' Z0 y d->R S0 S' Z0 y d:=λ S' d y r=>Lo.lo b1 (λ _ z=>z) r;have zz:=F.zz;exact#[λ i L' S'=>∃ Z' J',FR SB Z0 S' Z' L' J'/\xI is g b (ts.drop i) J'=↑o,#[Z,J,FB,e2],λ i L' S' #[Z',J',F',_]=>hk S' (b2.trans F'.sx),λ i d L' S' hd #[Z',J',F',e']=>?_,fun L' S' #[Z',J',F',e']=>?_]
 .let#[y,hy,r2]:=r1.jP hd;have Ay:=(AX.mp hy).1;have EJ:ts.drop i=y::ts.drop (i+1):=by
   rw[List.drop_eq_getElem_cons Ay,(AX.mp hy).2]
  rw[EJ] at e';unfold xI at e';let#[J1,g1,e']:=Ak.mp e';let#[o1,g2,e']:=Ak.mp e';exact hg SB Z0 S' Z' L' _ J1 y d _ (F'.yB is) (Sn.sx (F'.Xk b2 zz) y r2) g1 fun L2 F2=>?_
  exact hb SB Z0 S' Z' L2 J1 o1 _ F2 g2 ?_;cases o1 with
  | nx J2=>show λ S3 Z3 L3 F3=>#[Z3,J2,F3,e']
  | ct J2=>show λ S3 Z3 L3 F3=>#[Z3,J2,F3,e']
  | bk J2=>cases e';show λ S3 Z3 L3 F3=>P S3 Z3 L3 ((F3.yB is).back b1 F.z0)
  | rt y=>cases e';show λ d S3 s3 r3=>P d S3 (b1.trans s3) (lo _ _ _ r3)
 .rw[show I.items.length=ts.length from r1.len,List.drop_length] at e';unfold xI at e';cases e';show P S' Z' L' ((F'.yB is).back b1 F.z0)
end
@[simp] def wb (i:Nat) (f:Ag):Sm:=fun J=>match J[i]? with
 | some ↑(.own (.lst ts))=>(f J).bind λ y=>if ts.length<sizeLine then ↑(.nx (J.set i ↑(.own (.lst (ts++[y]))))) else none
 | _=>none
section
variable {R:Rk}{f:Ag}{te:zr}
def Td (i:Nat) (hf:vm f te):yb R (wb i f) (mT (sI (ye i) te)):=λ S0 Z0 S Z L J o E F e P=>by
 unfold wb at e;split at e
 .rename_i ts h;let#[y,e1,e2]:=Ak.mp e;split at e2
  .rename_i hl;cases e2;let#[p,ob,h1,h2,h3,h4]:=F.er.ow i _ h;obtain⟨ds,rfl⟩:∃ ds,ob=.lst ds:=by
    cases ob with
    | lst ds=>show#[ds,rfl]
    | _=>show h3.elim
   replace h3:zj (zE S Z) ts ds:=h3;change sI (ye i) te L S _;unfold sI ye;rw[h1];exact#[#[ds,h2],hf S Z L J y _ F.er e1 λ d S1 s1 r1=>?_];dsimp only;rw[s1 _ _ h2];have F1:=F.grow s1;exact#[by rw[h3.len];show hl,P _ Z L (F1.mut (us:=.lst (ts++[y])) (es:=.lst (ds++[d])) i h h1 ((zj.sx (wy s1) ts h3).append (.cons r1 .nil)))]
  .cases e2
 .cases e
end
def uw (pick:List (Option Nat)) (ti:wc) (g:xk) (tc:y4) (te:zr):zr:=fun L S Q=>ti L S λ I S1=>I.items.length<=sizeLine/\(∀ S,Sx S1 S->I.keep S)/\∀ p,S1 p=none->∃ W:Nat->SS->List D->Prop,W 0 S1 []/\
 (∀ i S S' acc,(∀ b o,b≠p->S b=↑o->S' b=↑o)->W i S acc->W i S' acc)/\
 (∀ i d S acc,I.items[i]?=↑d->Sx S1 S->S p=↑(.lst acc)->W i S acc->g d (vN pick L) S fun L2 S2=>rO (vN pick L) L2/\tc L2 S2 λ b S3=>if b=true then te L2 S3 λ y S4=>Sx S S4/\W (i+1) S4 (acc++[y]) else Sx S S3/\W (i+1) S3 acc)/\
 ∀ S2 acc,Sx S1 S2->S2 p=↑(.lst acc)->W I.items.length S2 acc->Q (.ref p) S2
@[simp] def pH (pick:List (Option Nat)) (J:Ev):Ev:=pick.map λ o=>o.bind λ i=>(J[i]?).join
def rJ (h:T->Option (Option T)):List T->Option (List T)
 | []=>↑[]
 | y::ys=>(h y).bind λ o=>(rJ h ys).map λ zs=>match o with
  | some z=>z::zs
  | none=>zs
@[simp] def rp (pick:List (Option Nat)) (g:T->Ev->Option Ev) (c:Ev->Option Bool) (f:Ag) (J:Ev) (y:T):Option (Option T):=
 (g y (pH pick J)).bind fun J2=>(c J2).bind λ b=>if b=true then (f J2).map some else ↑none
def xS (pick:List (Option Nat)) (it:Ev->Option (List T)) (g:T->Ev->Option Ev) (c:Ev->Option Bool) (f:Ag):Ag:=fun J=>(it J).bind λ ts=>if ts.length<=sizeLine then (rJ (rp pick g c f J) ts).map .lst else none
@[simp] def tF:Ev->Option Bool:=λ _=>↑true
def T9:wR tF bf:=λ S Z L J y Q hE e hq=>by cases e;show hq S (.refl S)
def lO (pick:List (Option Nat)) (g:T->Ev->Option Ev) (t:xk):Prop:=∀ B S Z L J J' y d Q,(∀ i:Nat,pick[i]?=↑none->B[i]?=↑none)->rO B L->L.length=J.length->ER S Z L J->Sn (zE S Z) y d->g y J=↑J'->
 (∀ L',ER S Z L' J'->rO B L'->L'.length=J'.length->Q L' S)->t d L S Q
def lN (pick:List (Option Nat)) (g:List T->Ev->Option Ev) (t:xK):Prop:=∀ B S Z L J J' y d Q,(∀ i:Nat,pick[i]?=↑none->B[i]?=↑none)->rO B L->L.length=J.length->ER S Z L J->zj (zE S Z) y d->g y J=↑J'->
 (∀ L',ER S Z L' J'->rO B L'->L'.length=J'.length->Q L' S)->t d L S Q
theorem ER.p8 {S:SS}{Z:Addr->Prop}{L:zX}{J:Ev}{y:T}{d:D}(h:ER S Z L J) (hl:L.length=J.length) (i:Nat) (r:Sn (zE S Z) y d):ER S Z (L.set i ↑d) (J.set i ↑(.im y)):=by
 exact#[h.zd,λ j t e=>?_,λ j ts e=>?_]
 .rcases yt e with ⟨rfl,FW,e⟩ | ⟨n,e⟩
  .cases e;show#[d,qJ (by rw[hl];show FW),r]
  .rw[wL n];show h.im j t e
 .rcases yt e with ⟨rfl,FW,e⟩ | ⟨n,e⟩
  .cases e
  .rw[wL n];show h.ow j ts e
variable {pick:List (Option Nat)}
theorem Tw (i:Nat) (hi:pick[i]?=↑none:=by rfl):lO pick (zt i) (hName i):=λ B S Z L J J' y d Q hB hs hl hE r e hq=>by
 cases e;exact hq _ (hE.p8 hl i r) #[by rw[DM];show hs.1,λ j c q=>?_] (by simp[hl]);by_cases hj:i=j
 .subst hj;rw[hB i hi] at q;cases q
 .rw[wL hj];show hs.2 j c q
def Tt:lN pick xY jD:=λ B S Z L J J' y d Q hB hs hl hE r e hq=>by
 cases y with
 | nil=>simp![zj] at r;subst r;cases e;show#[rfl,hq _ hE hs hl]
 | cons _ _=>cases e
def Tu {g:T->Ev->Option Ev}{h:List T->Ev->Option Ev}{t:xk}{u:xK}(hg:lO pick g t) (hh:lN pick h u):lN pick (zZ g h) (jE t u):=λ B S Z L J J' y d Q hB hs hl hE r e hq=>by
 cases y with
 | nil=>cases e
 | cons y ys=>
  simp![zj] at r;let#[c,cs,rfl,r1,r2]:=r;let#[J1,e1,e2]:=Ak.mp e;show hg B S Z L J J1 y c _ hB hs hl hE r1 e1 fun L1 E1 s1 l1=>hh B S Z L1 J1 J' ys cs Q hB s1 l1 E1 r2 e2 hq
def Tv {n:Nat}{g:List T->Ev->Option Ev}{t:xK}(hg:lN pick g t):lO pick (xH n g) (rD n t):=λ B S Z L J J' y d Q hB hs hl hE r e hq=>by
 cases y with
 | tup ys=>
  simp![Sn] at r;let#[ds,rfl,r]:=r;simp![xH] at e;split at e
  .rename_i hn;show#[by rw[r.len];show hn,hg B S Z L J J' ys ds Q hB hs hl hE r e hq]
  .cases e
 | _=>cases e
def fR {J:Ev}{i:Nat}{w:W}(h:(pH pick J)[i]?=↑↑w):∃ j:Nat,pick[i]?=↑↑j/\J[j]?=↑↑w:=by
 unfold pH at h;rw[AH] at h;cases q:pick[i]? with
 | none=>rw[q] at h;cases h
 | some o=>
  rw[q] at h;cases o with
  | none=>simp at h
  | some j=>
   simp![Option.map_some,AW,Option.some.injEq] at h;exact#[j,rfl,?_];cases q2:J[j]? with
   | none=>rw[q2] at h;cases h
   | some o2=>rw[q2] at h;simp![Option.join_some] at h;rw[h]
def fS {L:zX}{i j:Nat}{d:D}(h:pick[i]?=↑↑j) (h':L[j]?=↑↑d):(vN pick L)[i]?=↑↑d:=by
 unfold vN;rw[AH,h];simp[h']
def ER.X_ {S:SS}{Z:Addr->Prop}{L:zX}{J:Ev}(h:ER S Z L J):ER S Z (vN pick L) (pH pick J):=by
 exact#[h.zd,λ i t e=>?_,λ i ts e=>?_]
 .let#[j,h1,h2]:=fR e;let#[d,h3,h4]:=h.im j t h2;show#[d,fS h1 h3,h4]
 .let#[j,h1,h2]:=fR e;let#[p,ds,h3,h4]:=h.ow j ts h2;show#[p,ds,fS h1 h3,h4]
def ER.hide {S S':SS}{Z:Addr->Prop}{L:zX}{J:Ev}{p:Addr}(h:ER S Z L J) (s:Sx S S') (hp:S p=none) (GD:S' p≠none):ER S' (λ a=>Z a\/a=p) L J:=by
 exact#[λ a z q=>?_,λ i t e=>?_,λ i ts e=>?_]
 .rcases z with z | rfl
  .show h.zd a z (s.none q)
  .show GD q
 .let#[d,h1,h2]:=h.im i t e;show#[d,h1,Sn.sx (qH s hp) t h2]
 .let#[q,ds,h1,h2,h3,h4]:=h.ow i ts e;show#[q,ds,h1,s _ _ h2,u0.sx (qH s hp) h3,.inl h4]
def Sd {it:Ev->Option (List T)}{ti:wc}{g:T->Ev->Option Ev}{tg:xk}{c:Ev->Option Bool}{tc:y4}{f:Ag}{te:zr}{b:Bool}(hi:sP b it ti) (hg:lO pick g tg) (hc:wR c tc) (hf:vm f te):
  xE (xS pick it g c f) (uw pick ti tg tc te):=λ S Z L J y Q hE e hq=>by
 let#[ts,e1,e2]:=Ak.mp e;split at e2
 case isFalse=>cases e2
 rename_i hlen;let#[zs,e3,rfl]:=AE.mp e2;exact hi S Z L J ts _ hE e1 λ I S1 s1 r1 hk=>#[by rw[r1.len];show hlen,λ S' s'=>hk S' ?_,λ p hp=>?_]
 .cases b
  .show s'
  .show (pV _ _).trans s'
 have E1:=hE.grow s1;have nz:¬ Z p:=λ z=>E1.zd p z hp;exact#[λ i S' acc=>∃ us ws,zj (zE S' λ a=>Z a\/a=p) us acc/\rJ (rp pick g c f J) (ts.drop i)=↑ws/\zs=us++ws,#[[],zs,.nil,e3,rfl],λ i S' Ha acc hh #[us,ws,h1,h2]=>#[us,ws,zj.sx (λ a o q=>?_) us h1,h2],λ i d S2 acc hd s2 AV #[us,ws,h1,h2,h3]=>?_,λ S2 acc s2 AV #[us,ws,h1,h2,h3]=>?_]
 .let#[q1,q2]:=vR q;rw[v7 q1];show hh a o (λ z=>q1 (.inr z)) q2
 .let#[x,hx,rx]:=r1.jP hd;have Ay:=(AX.mp hx).1;have EJ:ts.drop i=x::ts.drop (i+1):=by rw[List.drop_eq_getElem_cons Ay,(AX.mp hx).2]
  rw[EJ] at h2;unfold rJ at h2;let#[o,o1,h2]:=Ak.mp h2;let#[ws',o2,rfl]:=AE.mp h2;have E2:=(E1.hide s2 hp (by rw[AV];nofun)).X_ (pick:=pick);unfold rp at o1;let#[J2,g1,o1]:=Ak.mp o1;let#[bb,g2,o1]:=Ak.mp o1;exact hg (vN pick L) S2 _ _ _ J2 x d _ (λ j hj=>?_) #[rfl,λ _ _ q=>q] (by unfold vN pH;simp) E2 (Sn.sx (qH s2 hp) x rx) g1 fun L2 E3 l3 _=>#[l3,?_]
  .unfold vN;rw[AH,hj];rfl
  exact hc S2 _ L2 J2 bb _ E3 g2 λ S3 s3=>?_;split at o1
  .rename_i hb;rw[if_pos hb];let#[z,g3,rfl]:=AE.mp o1;exact hf S3 _ L2 J2 z _ (E3.grow s3) g3 λ dz S4 s4 r4=>#[s3.trans s4,us++[z],ws',?_,o2,by rw[h3];simp];show (zj.sx (wy (s3.trans s4)) us h1).append (.cons r4 .nil)
  .rename_i hb;rw[if_neg hb];cases o1;show#[s3,us,ws',zj.sx (wy s3) us h1,o2,h3]
 .rw[show I.items.length=ts.length from r1.len,List.drop_length] at h2;cases h2;rw[BE] at h3;subst h3;exact hq _ S2 (s1.trans s2) #[?_,λ vs e=>?_]
  .simp![Sn];show#[acc,.inr #[p,rfl,by rw[v7 nz];show AV],zj.sx (vS λ a z=>.inl z) zs h1]
  .cases e;show#[p,acc,rfl,s1.none hp,AV,h1]
class Sr (R:Rk):Prop extends Lo R where
 sn:∀ {S S':SS}{Z:Addr->Prop}{y:T}{d:D},R S S' Z y d->Sn (zE S' Z) y d
instance:Sr xC:=#[λ h=>h]
instance:Sr zA:=#[λ h=>h.1]
def zI (R:Rk) (F:An):tH:=λ ds S Q=>∃ Z ys y,(∀ a,Z a->S a≠none)/\zj (zE S Z) ys ds/\F ys=↑y/\∀ d S',Sx S S'->R S S' Z y d->Q d S'
def zI.mo {R:Rk}{F:An}:iV (zI R F):=λ _ _ _ _ hq #[Z,ys,y,h1,h2,h3,h4]=>#[Z,ys,y,h1,h2,h3,λ d S' s r=>hq _ _ (h4 d S' s r)]
def jb {R:Rk} [Lo R] {F:An}{g:Ev->Option (List T)}{u:yf}(h:rW g u):xl R (zo F g) (mU (zI R F) u):=λ S Z L J y Q hE e hq=>by
 let#[xs,e1,e2]:=Ak.mp e;exact h S Z L J xs _ hE e1 λ ds S1 s1 r1=>?_;show#[Z,xs,y,(hE.grow s1).zd,r1,e2,λ d S' s r=>hq d S' (s1.trans s) (Cl.cl s1 r)]
@[simp] def sX (N:List Str) (ys:List T):Ev:=ys.map (λ y=>↑(.im y))++List.replicate (N.length-ys.length) none
@[simp] def kY:Option Out->Option T
 | some (.rt y)=>↑y
 | some (.nx _)=>↑.zp
 | _=>none
@[simp] def zR (N:List Str) (n:Nat) (g:Sm):An:=λ ys=>if ys.length=n then kY (g (sX N ys)) else none
theorem zI.len {R:Rk}{N:List Str}{n:Nat}{g:Sm}{ds:List D}{S:SS}{Q:DK}(hs:zI R (zR N n g) ds S Q):ds.length=n:=by
 let#[Z,ys,y,hz,r,e,hq]:=hs;unfold zR at e;split at e
 .rename_i h;rw[r.len];show h
 .cases e
theorem YY {N:List Str}{ds:List D}{i:Nat}{d:D}(h:ds[i]?=↑d):(uZ N ds)[i]?=↑↑d:=by
 have hi:=(AX.mp h).1;unfold uZ;rw[Co (by exists hi),AH,h];rfl
theorem nJ {N:List Str}{ys:List T}{i:Nat}{w:W}(h:(sX N ys)[i]?=↑↑w):∃ y,ys[i]?=↑y/\w=.im y:=by
 unfold sX at h;have hi:i<ys.length:=by
  rcases Bc i ys.length with q | q
  .show q
  .rw[C8 (by exists q),CL] at h;split at h <;> cases h
 rw[Co (by exists hi),AH] at h;cases q:ys[i]? with
 | none=>rw[q] at h;cases h
 | some y=>rw[q] at h;cases h;show#[y,rfl,rfl]
def Ni {R:Rk} [Lo R] {N:List Str}{n:Nat}{g:Sm}{t:y8}(h:yb R g t) {ds:List D}{S:SS}{Q:DK}(hs:zI R (zR N n g) ds S Q):t { nx:=λ _ S'=>Q .zp S',rt:=Q } (uZ N ds) S:=by
 let#[Z,ys,y,hz,r,e,hq]:=hs;unfold zR at e;split at e
 case isFalse=>cases e
 obtain⟨o,e1,e2⟩:∃ o,g (sX N ys)=↑o/\kY ↑o=↑y:=by
  cases q:g (sX N ys) with
  | none=>rw[q] at e;cases e
  | some o=>show#[o,rfl,by rw[<- q];show e]
 exact h S Z S Z _ _ o _ #[#[hz,λ i t e=>?_,λ i ts e=>?_],?_,.refl S,hz,λ _ z=>z,λ _ z=>.inl z,λ i ts p e _=>?_,λ i j ts us p _ e _ _ _=>?_] e1 ?_
 .let#[y',h1,h2]:=nJ e;cases h2;let#[d,h3,h4]:=r.jN h1;show#[d,YY h3,h4]
 .let#[y',h1,h2]:=nJ e;cases h2
 .unfold uZ sX;have:=r.len;simp[this]
 .let#[y',h1,h2]:=nJ e;cases h2
 .let#[y',h1,h2]:=nJ e;cases h2
 .cases o with
  | rt y'=>cases e2;show λ d S' s r=>hq d S' s r
  | nx J'=>
   cases e2;show λ S' Z' L' F=>hq .zp S' F.sx (Cl.of (λ _=>nofun) gZ)
  | _=>cases e2
def yP (Ab:List (Key×T)) (k:Key):Option T:=(Ab.find? λ kv=>decide (kv.1=k)).map (·.2)
def wI (Ab:List (Key×T)) (k:Key) (v:T):List (Key×T):=
 if (Ab.any λ kv=>decide (kv.1=k))=true then Ab.map (λ kv=>if kv.1=k then (kv.1,v) else kv) else Ab++[(k,v)]
section
variable {S:SS}
theorem ym.len:∀ {a:List (Key×T)}{b:List (Key×D)},ym S a b->b.length=a.length
 | [],_,h=>by cases h;rfl
 | (k,t)::r,_,h=>by
  let#[d,m,rfl,_,h2]:=h;simp[ym.len h2]
theorem ym.val:∀ {a:List (Key×T)}{b:List (Key×D)}(k:Key),ym S a b->(yP a k=none/\vJ b k=none)\/∃ t d,yP a k=↑t/\vJ b k=↑d/\Sn S t d
 | [],_,k,h=>by cases h;show .inl #[rfl,rfl]
 | (j,t)::r,_,k,h=>by
  let#[d,m,rfl,h1,h2]:=h;by_cases e:j=k
  .subst e;show .inr #[t,d,by simp[yP],by simp[vJ],h1]
  .rcases ym.val k h2 with ⟨g1,g2⟩ | ⟨t',d',g1,g2,g3⟩
   .show .inl #[by simpa [yP,e] using g1,by simpa [vJ,e] using g2]
   .show .inr #[t',d',by simpa [yP,e] using g1,by simpa [vJ,e] using g2,g3]
theorem ym.any:∀ {a:List (Key×T)}{b:List (Key×D)}(k:Key),ym S a b->(b.any λ kv=>decide (kv.1=k))=a.any λ kv=>decide (kv.1=k)
 | [],_,k,h=>by cases h;rfl
 | (j,t)::r,_,k,h=>by
  let#[d,m,rfl,h1,h2]:=h;rw[Bu,Bu,ym.any k h2]
theorem ym.uC {k:Key}{t:T}{d:D}(r:Sn S t d):∀ {a:List (Key×T)}{b:List (Key×D)},ym S a b->ym S (a.map λ kv=>if kv.1=k then (kv.1,t) else kv) (b.map λ kv=>if kv.1=k then (kv.1,d) else kv)
 | [],_,h=>by cases h;rfl
 | (j,u)::a,_,h=>by
  let#[e,m,rfl,h1,h2]:=h;rw[Av,Av];by_cases q:j=k
  .rw[if_pos q,if_pos q];show#[d,_,rfl,r,ym.uC r h2]
  .rw[if_neg q,if_neg q];show#[e,_,rfl,h1,ym.uC r h2]
theorem ym.snoc {k:Key}{t:T}{d:D}(r:Sn S t d):∀ {a:List (Key×T)}{b:List (Key×D)},ym S a b->ym S (a++[(k,t)]) (b++[(k,d)])
 | [],_,h=>by cases h;show#[d,[],rfl,r,rfl]
 | (j,u)::a,_,h=>by
  let#[e,m,rfl,h1,h2]:=h;show#[e,_,rfl,h1,ym.snoc r h2]
def ym.put {a:List (Key×T)}{b:List (Key×D)}(h:ym S a b) (k:Key) {t:T}{d:D}(r:Sn S t d):ym S (wI a k t) (putD b k d):=by
 unfold wI putD;rw[h.any k];split
 .show ym.uC r h
 .show ym.snoc r h
end
@[simp] def bj (i:Nat):Sm:=fun J=>↑(.nx (J.set i ↑(.own (.zU []))))
@[simp] def rG (i:Nat) (f:Ag):Ag:=fun J=>(f J).bind λ y=>match J[i]?,y with
 | some ↑(.own (.zU Ab)),.int k=>yP Ab (.inl k)
 | _,_=>none
@[simp] def il (i:Nat) (f g:Ag):Ag:=fun J=>(f J).bind λ y=>(g J).bind λ z=>match J[i]?,y with
 | some ↑(.own (.zU Ab)),.int k=>↑((yP Ab (.inl k)).getD z)
 | _,_=>none
@[simp] def ik (i:Nat) (f v:Ag):Sm:=fun J=>(v J).bind λ z=>(f J).bind λ y=>match J[i]?,y with
 | some ↑(.own (.zU Ab)),.int k=>if Ab.length<sizeLine then ↑(.nx (J.set i ↑(.own (.zU (wI Ab (.inl k) z))))) else none
 | _,_=>none
@[simp] def ou (i:Nat):Ag:=fun J=>match J[i]? with
 | some ↑(.own (.zU Ab))=>↑(.int Ab.length)
 | _=>none
def nX {S:SS}{Z:Addr->Prop}{L:zX}{J:Ev}(hE:ER S Z L J) {i:Nat}{Ab:List (Key×T)}(h:J[i]?=↑↑(.own (.zU Ab))):∃ p b,L[i]?=↑↑(.ref p)/\S p=↑(.zU b)/\ym (zE S Z) Ab b:=by
 let#[p,o,h1,h2,h3,_]:=hE.ow i _ h;cases o with
 | zU b=>show#[p,b,h1,h2,h3]
 | _=>show h3.elim
section
variable {R:Rk}{f g v:Ag}{ty tx tv:zr}
def U_ (i:Nat):yb R (bj i) (v_ bC (hName i)):=λ S0 Z0 S Z L J o E F e P=>by
 cases e;intro p hp;show P _ _ _ (F.kE (ts:=.zU []) (ds:=.zU []) (.new hp _) i hp uW rfl)
def eA (i:Nat) (hf:yC f ty):vm (rG i f) (bG (ye i) ty):=λ S Z L J y Q hE e hq=>by
 let#[x,e1,e2]:=Ak.mp e;split at e2
 .rename_i Ab k h;let#[p,b,h1,h2,h3]:=nX hE h;change ye i L S _;unfold ye;rw[h1];exact hf S Z L J _ _ hE e1 λ d S1 s1 r1=>?_;cases Vw.int r1;rcases (ym.sx (wy s1) h3).val (.inl k) with ⟨g1,_⟩ | ⟨t,d,g1,g2,g3⟩
  .rw[g1] at e2;cases e2
  .rw[g1] at e2;cases e2;show#[p,b,k,d,rfl,rfl,s1 _ _ h2,g2,hq d S1 s1 g3]
 .cases e2
def eB (i:Nat) (hf:yC f ty) (hg:vm g tx):vm (il i f g) (bF (ye i) ty tx):=λ S Z L J y Q hE e hq=>by
 let#[x,e1,e]:=Ak.mp e;let#[z,e2,e3]:=Ak.mp e;split at e3
 .rename_i Ab k h;cases e3;let#[p,b,h1,h2,h3]:=nX hE h;change ye i L S _;unfold ye;rw[h1];exact#[p,rfl,#[b,h2],hf S Z L J _ _ hE e1 λ d S1 s1 r1=>?_];cases Vw.int r1;exact hg S1 Z L J z _ (hE.grow s1) e2 λ dz S2 s2 r2=>#[k,b,rfl,(s1.trans s2) _ _ h2,?_];rcases (ym.sx (wy (s1.trans s2)) h3).val (.inl k) with ⟨g1,g2⟩ | ⟨t,d,g1,g2,g3⟩
  .rw[g2];rw[g1] at hq;show hq _ S2 (s1.trans s2) r2
  .rw[g2];rw[g1] at hq;show hq _ S2 (s1.trans s2) g3
 .cases e3
def UZ (i:Nat) (hf:yC f ty) (hv:vm v tv):yb R (ik i f v) (bD (ye i) ty tv):=λ S0 Z0 S Z L J o E F e P=>by
 let#[z,e1,e]:=Ak.mp e;let#[x,e2,e3]:=Ak.mp e;split at e3
 .rename_i Ab k h;split at e3
  .rename_i hl;cases e3;exact hv S Z L J z _ F.er e1 λ dz S1 s1 r1=>?_;have F1:=F.grow s1;let#[p,b,h1,h2,h3]:=nX F1.er h;change ye i L S1 _;unfold ye;rw[h1];exact hf S1 Z L J _ _ F1.er e2 λ d S2 s2 r2=>?_;cases Vw.int r2;have h4:=ym.sx (wy s2) h3;show#[p,b,k,rfl,rfl,s2 _ _ h2,by rw[h4.len];show hl,P _ Z L ((F1.grow s2).mut (us:=.zU (wI Ab (.inl k) z)) (es:=.zU (putD b (.inl k) dz)) i h h1 (h4.put _ (Sn.sx (wy s2) z r1)))]
  .cases e3
 .cases e3
def SU (i:Nat):xE (ou i) (xc cV (rH (ye i) mS)):=λ S Z L J y Q hE e hq=>by
 unfold ou at e;split at e
 .rename_i Ab h;cases e;let#[p,b,h1,h2,h3]:=nX hE h;change ye i L S _;unfold ye;rw[h1];exact#[p,b,rfl,h2,?_];rw[h3.len];show hq _ S (.refl S) (Cl.of (λ _=>nofun) xN)
 .cases e
end
@[simp] def sd (f:Ag):Ag:=fun J=>(f J).bind λ x=>match x with
 | .int i=>↑(.int (-i))
 | _=>none
def b6 (ta:zr):zr:=fun L S Q=>ta L S λ x S1=>match x with
 | .int i=>Q (.int (-i)) S1
 | _=>False
def TY {f:Ag}{te:zr}(h:yC f te):xE (sd f) (b6 te):=λ S Z L J y Q hE e hq=>by
 let#[x,e1,e2]:=Ak.mp e;exact h S Z L J x _ hE e1 λ d S1 s1 r1=>?_;split at e2
 .cases Vw.int r1;cases e2;show hq _ S1 s1 (Cl.of (λ _=>nofun) xN)
 .cases e2
def QQ:wX zA rh cU:=cF
def QO:wX zA vP cT:=cF
def wx:List T->Option (List Int)
 | []=>↑[]
 | .int i::ts=>(wx ts).map (i::·)
 | _::_=>none
def w_:List T->Option (List (List Int))
 | []=>↑[]
 | .tup r::ts=>(wx r).bind λ x=>(w_ ts).map (x::·)
 | _::_=>none
def yd (r:List Int):T:=.tup (r.map T.int)
theorem rB:∀ {ts:List T}{is:List Int},wx ts=↑is->ts=is.map T.int
 | [],is,h=>by cases h;rfl
 | .int b::ts,is,h=>by
  unfold wx at h;let#[cs,h1,rfl]:=AE.mp h;rw[Av,<- rB h1]
 | .zp::ts,bs,h=>by cases h
 | .bl _::ts,bs,h=>by cases h
 | .str _::ts,bs,h=>by cases h
 | .tup _::ts,bs,h=>by cases h
 | .lst _::ts,bs,h=>by cases h
theorem kG:∀ {ts:List T}{rs:List (List Int)},w_ ts=↑rs->ts=rs.map yd
 | [],is,h=>by cases h;rfl
 | .tup r::ts,is,h=>by
  unfold w_ at h;let#[x,h1,h]:=Ak.mp h;let#[cs,h2,rfl]:=AE.mp h;rw[Av,<- kG h2,rB h1];rfl
 | .zp::ts,bs,h=>by cases h
 | .bl _::ts,bs,h=>by cases h
 | .str _::ts,bs,h=>by cases h
 | .int _::ts,bs,h=>by cases h
 | .lst _::ts,bs,h=>by cases h
def mE (is:List Int):wx (is.map T.int)=↑is:=by
 induction is with
 | nil=>rfl
 | cons b bs ih=>rw[Av];unfold wx;rw[ih];rfl
def kH (rs:List (List Int)):w_ (rs.map yd)=↑rs:=by
 induction rs with
 | nil=>rfl
 | cons b bs ih=>
  change w_ (.tup (b.map T.int)::bs.map yd)=_;unfold w_;rw[mE,ih];rfl
theorem uh {S:SS}:∀ {is:List Int}{ds:List D},zj S (is.map T.int) ds↔ds=is.map D.int
 | [],ds=>by simp![Ba,zj]
 | i::is,ds=>by
  rw[Av];simp![zj,Sn];constructor
  .rintro⟨c,cs,rfl,rfl,h⟩;rw[uh.mp h];rfl
  .rintro rfl;show#[.int i,_,rfl,rfl,uh.mpr rfl]
theorem qj {S:SS}:∀ {rs:List (List Int)}{ds:List D},zj S (rs.map yd) ds↔ds=rs.map va
 | [],ds=>by simp![Ba,zj]
 | r::rs,ds=>by
  rw[Av];simp![zj,yd,Sn];constructor
  .rintro⟨c,cs,rfl,⟨es,rfl,h1⟩,h⟩;rw[qj.mp h,uh.mp h1];rfl
  .rintro rfl;show#[va r,_,rfl,#[_,rfl,uh.mpr rfl],qj.mpr rfl]
@[simp] def Yt:T->Option String
 | .zp=>↑"NoneType"
 | .bl _=>↑"bool"
 | .int _=>↑"int"
 | .str _=>↑"str"
 | .tup _=>↑"tuple"
 | .lst _=>↑"list"
 | .yV=>↑"dict"
 | .dn _=>none
 | .err _ _ _=>none
@[simp] def Gr (ty:String) (f:Ag):Ag:=fun J=>(f J).bind λ x=>(Yt x).map λ t=>.bl (uG t ty)
theorem Vw.err {S:SS}{Z:Addr->Prop}{c f:Str}{t:T}{d:D}(h:Vw S Z (.err c f t) d):∃ x,d=.err c f x/\Sn (zE S Z) t x:=by
 rcases h with h | ⟨_,_,_,h,_⟩
 .simpa only [Sn] using h
 .cases h
def SF {ty:String}{f:Ag}{te:zr}(hf:yC f te):xE (Gr ty f) (o5 ty te):=λ S Z L J y Q hE e hq=>by
 let#[x,e1,e2]:=Ak.mp e;let#[n,e3,rfl]:=AE.mp e2;exact hf S Z L J x _ hE e1 λ d S1 s1 r1=>?_;have key:tU d S1=↑n:=by
  rw[<- e3];cases x with
  | zp=>cases Vw.zp r1;rfl
  | bl _=>cases Vw.bl r1;rfl
  | int _=>cases Vw.int r1;rfl
  | str _=>cases Vw.str r1;rfl
  | tup _=>let#[ds,rfl,_]:=Vw.tup r1;rfl
  | lst _=>
   obtain⟨ds,rfl | ⟨a,rfl,h1⟩,h2⟩:=Vw.lst r1
   .rfl
   .unfold tU;dsimp only;rw[h1];rfl
  | yV=>
   let#[a,Ab,#[rfl,_],h1]:=Vw.yV r1;unfold tU;dsimp only;rw[h1];rfl
  | _=>cases e3
 rw[key];show hq _ S1 s1 (Cl.of (λ _=>nofun) wF)
@[simp] def isNone:T->Bool
 | .zp=>true
 | _=>false
def qC:D->Bool
 | .zp=>true
 | _=>false
def zg (p:Int×Int):T:=.tup [.int p.1,.int p.2]
def zP (ns:List Int):T:=.lst (ns.map .int)
@[simp] theorem zaa:sizeLine=16777216:=rfl
def RO {n:Nat}(h:n<=10000):n<=sizeLine:=Be h ()
theorem vi {α:Type}{xs:List α}{k:Nat}{x:α}(h:xs[k]?=↑x):L2.zT xs (k:Int)=↑x:=by
 unfold L2.zT L2.xZ;have hk:=(AX.mp h).1;rw[if_pos ⋯,if_pos ⋯];exists h
@[simp] theorem lC {α:Type}{xs:List α}{x:α}:L2.zT (xs++[x]) (-1)=↑x:=by
 unfold L2.zT L2.xZ;rw[if_neg ⋯,if_pos (by simp;lia)];have:(-1+((xs++[x]).length:Int)).toNat=xs.length:=by simp;lia
 rw[AW,this];simp
@[simp] theorem lF {α:Type}{x:α}{xs:List α}:L2.zT (x::xs) 0=↑x:=vi (k:=0) rfl
@[simp] theorem lD {α:Type}{x y:α}{xs:List α}:L2.zT (x::y::xs) 1=↑y:=vi (k:=1) rfl
@[simp] theorem zah {α:Type}{x y z:α}{xs:List α}:L2.zT (x::y::z::xs) 2=↑z:=vi (k:=2) rfl
@[simp] theorem zag {α:Type}{x y z w:α}{xs:List α}:L2.zT (x::y::z::w::xs) 3=↑w:=vi (k:=3) rfl
theorem iu {α:Type}(enc:α->T) (g:α->Option T) (h:T->Option (Option T)):∀ (xs:List α),(∀ x∈xs,h (enc x)=↑(g x))->rJ h (xs.map enc)=↑(xs.filterMap g)
 | [],_=>rfl
 | x::xs,hh=>by
  rw[Av];unfold rJ;rw[hh x Ap,iu enc g h xs λ y hy=>hh y (Aw _ hy)];cases q:g x <;> simp[q]
def Oy {α:Type}(enc:α->T) (g:α->T) (h:T->Option (Option T)) (xs:List α) (hh:∀ x∈xs,h (enc x)=↑↑(g x)):rJ h (xs.map enc)=↑(xs.map g):=by
 rw[iu enc (λ x=>↑(g x)) h xs hh];simp
def sj {α:Type}(enc:α->T) (h:α->T) {pick:List (Option Nat)}{it:Ev->Option (List T)}{g:T->Ev->Option Ev}{c:Ev->Option Bool}{f:Ag}{J:Ev}(xs:List α) (hi:it J=↑(xs.map enc)) (hl:xs.length<=16777216)
  (hh:∀ x∈xs,rp pick g c f J (enc x)=↑↑(h x)):xS pick it g c f J=↑(.lst (xs.map h)):=by
 unfold xS;rw[hi,AW,if_pos (by rw[AA];show hl),Oy enc h _ xs hh];rfl
def pQ {α:Type}(enc:α->T) (h:α->Option T) {pick:List (Option Nat)}{it:Ev->Option (List T)}{g:T->Ev->Option Ev}{c:Ev->Option Bool}{f:Ag}{J:Ev}(xs:List α) (hi:it J=↑(xs.map enc)) (hl:xs.length<=16777216)
  (hh:∀ x∈xs,rp pick g c f J (enc x)=↑(h x)):xS pick it g c f J=↑(.lst (xs.filterMap h)):=by
 unfold xS;rw[hi,AW,if_pos (by rw[AA];show hl),iu enc h _ xs hh];rfl
section
variable {α:Type}{is:List Nat}{g:T->Ev->Option Ev}{b:Sm}
def turn (g:T->Ev->Option Ev) (b:Sm) (y:T) (J:Ev):Option Out:=(g y J).bind b
theorem di (y:T) (ys:List T) (J:Ev):xI is g b (y::ys) J=(turn g b y (yB is J)).bind λ o=>match o with
  | .nx J2=>xI is g b ys J2
  | .ct J2=>xI is g b ys J2
  | .bk J2=>↑(.nx (yB is J2))
  | .rt t=>↑(.rt t):=by
 unfold turn;rw[xI];cases g y (yB is J) <;> rfl
theorem dh (enc:α->T) (I:List α->Ev->Prop):∀ (xs:List α) (pre:List α) (J:Ev),I pre (yB is J)->
  (∀ p x q,pre++xs=p++x::q->∀ J,I p J->∃ J',turn g b (enc x) J=↑(.nx J')/\I (p++[x]) (yB is J'))->∃ J',xI is g b (xs.map enc) J=↑(.nx J')/\I (pre++xs) J'
 | [],pre,J,h,_=>#[yB is J,by rw[Ba,xI],by exists h]
 | x::xs,pre,J,h,hs=>by
  let#[J',h1,h2]:=hs pre x xs rfl _ h;rw[Av,di,h1];have ih:=dh enc I xs (pre++[x]) J' h2 λ p y q e=>hs p y q (by rw[<- e];simp);exists ih
def xR (enc:α->T) (I:List α->Ev->Prop) (xs:List α) (J:Ev) (h:I [] (yB is J))
  (hs:∀ p x q,xs=p++x::q->∀ J,I p J->∃ J',turn g b (enc x) J=↑(.nx J')/\I (p++[x]) (yB is J')):∃ J',xI is g b (xs.map enc) J=↑(.nx J')/\I xs J':=dh enc I xs [] J h hs
end
theorem s_ (n:Nat) (h:n<=100000):xO [.int (n:Int)]=↑((List.range n).map λ(k:Nat)=>T.int (0+(k:Int))):=by
 change (if inR (n:Int)=true then ↑(rangeT 0 (n:Int).toNat) else none)=_;rw[if_pos (c8.mpr #[⋯,⋯])];rfl
def sV (a:Key) (b:T) (Ab:List (Key×T)) (j:Key):yP ((a,b)::Ab) j=if a=j then ↑b else yP Ab j:=by
 by_cases h:a=j <;> simp[yP,h]
theorem gA (k j:Key) (d:T):∀ Ab:List (Key×T),yP (Ab.map λ kv=>if kv.1=k then (kv.1,d) else kv) j=(yP Ab j).map λ x=>if j=k then d else x
 | []=>rfl
 | (a,b)::Ab=>by
  have ih:=gA k j d Ab;rw[Av];by_cases hk:a=k
  .rw[if_pos hk,sV,sV,ih];by_cases hj:a=j
   .subst hj;subst hk;simp
   .rw[if_neg hj,if_neg hj]
  .rw[if_neg hk,sV,sV,ih];by_cases hj:a=j
   .subst hj;simp[hk]
   .rw[if_neg hj,if_neg hj]
theorem g9 (k j:Key) (d:T):∀ Ab:List (Key×T),(∀ kv∈Ab,¬ kv.1=k)->yP (Ab++[(k,d)]) j=if j=k then ↑d else yP Ab j
 | [],_=>by
  change yP [(k,d)] j=_;rw[sV];by_cases h:j=k
  .subst h;simp
  .rw[if_neg h,if_neg (λ z=>h z.symm)]
 | (a,b)::Ab,hn=>by
  have ih:=g9 k j d Ab λ kv EA=>hn kv (Aw _ EA);have ha:¬ a=k:=hn (a,b) Ap;change yP ((a,b)::(Ab++[(k,d)])) j=_;rw[sV,sV,ih];by_cases hj:a=j
  .subst hj;simp[ha]
  .rw[if_neg hj,if_neg hj]
def az (Ab:List (Key×T)) (k:Key):(Ab.any λ kv=>decide (kv.1=k))=(yP Ab k).isSome:=by
 unfold yP;rw[Option.isSome_map,A7,AY,List.find?_isSome]
def nu (Ab:List (Key×T)) (k j:Key) (d:T):yP (wI Ab k d) j=if j=k then ↑d else yP Ab j:=by
 unfold wI;split
 .rename_i h;rw[az] at h;rw[gA];by_cases hj:j=k
  .subst hj;let#[x,hx]:=DN.mp h;simp[hx]
  .simp[hj]
 .rename_i h;show g9 k j d Ab λ kv EA z=>h (AY.mpr #[kv,EA,JF z])
def d7 (Ab:List (Key×T)) (k:Key) (d:T):(wI Ab k d).length=if (yP Ab k).isSome=true then Ab.length else Ab.length+1:=by
 have e:=az Ab k;unfold wI;rw[e];split <;> simp
def vu (p:Int×Int):List Int:=[p.1,p.2]
def u_ (ps:List (Int×Int)):List (Int×Int):=(L4.xn (ps.map vu)).map λ r=>(r.getD 0 0,r.getD 1 0)
def gU (ps:List (Int×Int)):(u_ ps).map vu=L4.xn (ps.map vu):=by
 unfold u_;rw[A0]
 conv=>rhs;rw[<- List.map_id (L4.xn (ps.map vu))]
 exact DC λ r hr=>?_;let#[p,_,rfl]:=Ao.mp ((L4.ug _).mem_iff.mp hr);rfl
def kC (ps:List (Int×Int)):(u_ ps).Perm ps:=by
 have h:=L4.ug (ps.map vu);have:(u_ ps).Perm ((ps.map vu).map λ r=>(r.getD 0 0,r.getD 1 0)):=h.map _
 rwa [A0,show ((λ r:List Int=>(r.getD 0 0,r.getD 1 0)) ∘ vu)=id from rfl,List.map_id] at this
def q8 (p q:Int×Int):Prop:=p.1<q.1\/(p.1=q.1/\p.2<=q.2)
def gT (ps:List (Int×Int)):(u_ ps).Pairwise q8:=by
 have h:=L4.kB (ps.map vu);rw[<- gU,CJ] at h;exact h.imp λ{p q} Cw=>?_;unfold vu at Cw;rw[HT.sg,HT.sg] at Cw;unfold q8;by_cases e:q.1=p.1
 .rw[if_pos e] at Cw;by_cases e2:q.2=p.2
  .lia
  .rw[if_neg e2] at Cw;have:=of_decide_eq_false Cw;lia
 .rw[if_neg e] at Cw;have:=of_decide_eq_false Cw;lia
def Xq (ps:List (Int×Int)):w_ (ps.map zg)=↑(ps.map vu):=by
 have:=kH (ps.map vu)
 rwa [A0,show yd ∘ vu=zg from rfl] at this
def x8 (q p:Int×Int):Bool:=decide (p.1<=q.1)&&decide (p.2<=q.2)
def zv (ps:List (Int×Int)) (q:Int×Int):Bool:=ps.any (x8 q)
def yv {ps:List (Int×Int)}{q:Int×Int}:zv ps q=true↔∃ p∈ps,p.1<=q.1/\p.2<=q.2:=by
 unfold zv x8;simp[AY]
def Oo {ps qs:List (Int×Int)}(h:ps.Perm qs) (q:Int×Int):zv ps q=zv qs q:=by
 rw[A7,yv,yv];show#[λ#[p,h1,h2]=>#[p,h.mem_iff.mp h1,h2],λ#[p,h1,h2]=>#[p,h.mem_iff.mpr h1,h2]]
def Ou (ps qs:List (Int×Int)) (q:Int×Int):zv (ps++qs) q=(zv ps q||zv qs q):=by
 unfold zv;rw[List.any_append]
def vp (ps:List (Int×Int)):Prop:=ps.Pairwise λ p q=>p.1<q.1/\q.2<p.2
theorem vp.eq:∀ {ps qs:List (Int×Int)},vp ps->vp qs->(∀ q,zv ps q=zv qs q)->ps=qs
 | [],[],_,_,_=>rfl
 | [],q::qs,_,_,h=>by
  have:=h q;rw[show zv [] q=false from rfl] at this;have h2:zv (q::qs) q=true:=yv.mpr #[q,Ap,AL _,AL _];rw[h2] at this;cases this
 | p::ps,[],_,_,h=>by
  have:=h p;rw[show zv [] p=false from rfl] at this;have h2:zv (p::ps) p=true:=yv.mpr #[p,Ap,AL _,AL _];rw[h2] at this;cases this
 | p::ps,q::qs,hp,hq,h=>by
  have Io:=Bw.mp hp;have Im:=Bw.mp hq;have a1:∃ r∈q::qs,r.1<=p.1/\r.2<=p.2:=yv.mp (by rw[<- h];show yv.mpr #[p,Ap,AL _,AL _]);have a2:∃ r∈p::ps,r.1<=q.1/\r.2<=q.2:=yv.mp (by rw[h];show yv.mpr #[q,Ap,AL _,AL _]);let#[r,hr,r1,r2]:=a1;let#[u,hu,u1,u2]:=a2;have qr:q.1<=r.1:=by
   rcases Ah.mp hr with e | e
   .subst e;show AL _
   .show Int.le_of_lt (Im.1 r e).1
  have pu:p.1<=u.1:=by
   rcases Ah.mp hu with e | e
   .subst e;show AL _
   .show Int.le_of_lt (Io.1 u e).1
  have e1:p.1=q.1:=⋯;have er:r=q:=by
   rcases Ah.mp hr with e | e
   .show e
   .have:=(Im.1 r e).1;lia
  have eu:u=p:=by
   rcases Ah.mp hu with e | e
   .show e
   .have:=(Io.1 u e).1;lia
  subst er eu;have e2:u.2=r.2:=⋯;have epq:u=r:=Prod.ext e1 e2;subst epq;rw[vp.eq Io.2 Im.2 λ x=>?_];have hx:=h x;unfold zv at hx ⊢;rw[Bu,Bu] at hx;cases g:x8 x u with
  | false=>rw[g] at hx;exists hx
  | true=>
   have gx:u.1<=x.1/\u.2<=x.2:=by simpa [x8] using g
   have key:∀ {l:List (Int×Int)},(∀ v∈l,u.1<v.1/\v.2<u.2)->l.any (x8 x)=l.any (x8 (x.1,u.2-1)):=by
    intro l hl;rw[A7,AY,AY];constructor
    .rintro⟨v,hv,hg⟩;have:=hl v hv;have Jj:v.1<=x.1/\v.2<=x.2:=by simpa [x8] using hg
     show#[v,hv,by simp[x8];lia]
    .rintro⟨v,hv,hg⟩;have:=hl v hv;have Jj:v.1<=x.1/\v.2<=u.2-1:=by simpa [x8] using hg
     show#[v,hv,by simp[x8];lia]
   rw[key Io.1,key Im.1];have hy:=h (x.1,u.2-1);unfold zv at hy;rw[Bu,Bu] at hy;have gn:x8 (x.1,u.2-1) u=false:=by
    unfold x8;rw[show decide (u.2<=(x.1,u.2-1).2)=false from JE (by change ¬ u.2<=u.2-1;lia),CK]
   rw[gn] at hy;exists hy
def uP (l:Option Int) (x:Int):Bool:=match l with
 | none=>true
 | some m=>decide (x<m)
def yG:List (Int×Int)->Option Int->List (Int×Int)
 | [],_=>[]
 | p::ps,l=>if uP l p.2=true then p::yG ps ↑p.2 else yG ps l
def wJ (ps:List (Int×Int)):List (Int×Int):=yG (u_ ps) none
theorem pW:∀ (ps:List (Int×Int)) (l:Option Int) (q:Int×Int),q∈yG ps l->q∈ps/\∀ m,l=↑m->q.2<m
 | [],l,q,h=>by simp[yG] at h
 | p::ps,l,q,h=>by
  unfold yG at h;split at h
  .rename_i c;have hm:∀ m,l=↑m->p.2<m:=λ m e=>by subst e;simpa [uP] using c
   rcases Ah.mp h with e | e
   .subst e;show#[Ap,hm]
   .let#[h1,h2]:=pW ps _ q e;show#[Aw _ h1,λ m e=>by have:=h2 _ rfl;have:=hm m e;lia]
  .let#[h1,h2]:=pW ps _ q h;show#[Aw _ h1,h2]
theorem jF:∀ (ps:List (Int×Int)) (l:Option Int),ps.Pairwise q8->vp (yG ps l)
 | [],l,_=>by simp[yG,vp]
 | p::ps,l,h=>by
  have h1:=Bw.mp h;unfold yG;split
  .exact Bw.mpr #[λ q hq=>?_,jF ps _ h1.2];let#[g1,g2]:=pW ps _ q hq;have:=h1.1 q g1;have:=g2 _ rfl;unfold q8 at *;lia
  .show jF ps _ h1.2
theorem jG:∀ (ps:List (Int×Int)) (l:Option Int),ps.Pairwise q8->∀ p∈ps,(∃ q∈yG ps l,q.1<=p.1/\q.2<=p.2)\/∃ m,l=↑m/\m<=p.2
 | [],l,_,p,hp=>by cases hp
 | r::ps,l,h,p,hp=>by
  have h1:=Bw.mp h;unfold yG;split
  .rename_i c;rcases Ah.mp hp with e | e
   .subst e;show .inl #[p,Ap,AL _,AL _]
   .rcases jG ps ↑r.2 h1.2 p e with ⟨q,q1,q2⟩ | ⟨m,e1,e2⟩
    .show .inl #[q,Aw _ q1,q2]
    .cases e1;have:=h1.1 p e;unfold q8 at this;show .inl #[r,Ap,⋯,e2]
  .rename_i c;rcases Ah.mp hp with e | e
   .subst e;cases l with
    | none=>simp[uP] at c
    | some m=>show .inr #[m,rfl,by simpa [uP] using c]
   .show jG ps l h1.2 p e
def j0 (ps:List (Int×Int)):vp (wJ ps):=jF _ _ (gT ps)
def RU {ps:List (Int×Int)}{q:Int×Int}(h:q∈wJ ps):q∈ps:=(kC ps).mem_iff.mp (pW _ _ q h).1
theorem qy (ps:List (Int×Int)) (q:Int×Int):zv (wJ ps) q=zv ps q:=by
 rw[<- Oo (kC ps) q,A7,yv,yv];constructor
 .rintro⟨p,h1,h2⟩;show#[p,(pW _ _ p h1).1,h2]
 .rintro⟨p,h1,h2⟩;rcases jG (u_ ps) none (gT ps) p h1 with ⟨r,r1,r2⟩ | ⟨m,e,_⟩
  .show#[r,r1,⋯,⋯]
  .cases e
end L5
namespace L2
open PySem PySem.Spec PyProof.Rows
section
variable {X:Cx}
def fK (K:Ac):R2:=λ x y H Q=>∃ l b xs zs,x=.ref l/\y=.ref b/\zC K H l xs/\zC K H b zs/\xs.length+zs.length<=sizeLine/\∀ p,H p=none->Q (.ref p) (upd H p (.lst (xs++zs)))
theorem UG:ya X (binaryOp .Add) (fK X.K):=by
 intro EN s B H x y v u Q I rx ry h;let#[l,b,xs,zs,rfl,rfl,hH,hB,hz,q]:=h;cases rx;cases ry;let#[Aa,r,p1,_]:=I.list hH;let#[Fm,r2,p2,_]:=I.list hB;let#[#[cls,dd,data,sl],ho,hc,n,hd]:=p1.isList;let#[#[Hl,GV,data2,GS],GA,F_,n2,hd2]:=p2.isList;simp only at hc hd F_ hd2;subst hc hd F_ hd2;have e:Aa.toArray++Fm.toArray=(Aa++Fm).toArray:=#[];exact concat_meets #[_,ho,rfl] #[_,GA,rfl] noFill_list_add seq_list_add PySem.F.slot_list_add PySem.F.entry_list_add (PySem.F.args_list_add_2 _ _) (list_addW l b Aa.toArray Fm.toArray n n2 dd GV sl GS (by rw[AB,AB,<- r.length,<- r2.length];show hz)) #[ho,GA,?_];rw[e];show#[.ref _,_,I.RI (t':=s.toks) (r.append r2) (by rw[Bp];lia),rfl,q _ I.fresh]
def fH (K:Ac):R2:=λ x y H Q=>∃ a b ys,x=.ref a/\y=.ref b/\zN K H a []/\zN K H b ys/\Q (.ref b) H
theorem UD:ya X (binaryOp .Add) (fH X.K):=by
 intro EN s B H x y v u Q I rx ry h;let#[l,b,ys,rfl,rfl,hH,hB,q]:=h;cases rx;cases ry;let#[Aa,r,p1,_]:=I.tuple hH;let#[Fm,r2,p2,_]:=I.tuple hB;let#[#[cls,dd,data,sl],ho,hc,n,hd]:=id p1;let#[#[Hl,GV,data2,GS],GA,F_,n2,hd2]:=id p2;simp only at hc hd F_ hd2;subst hc hd F_ hd2;show concat_meets #[_,ho,rfl] #[_,GA,rfl] noFill_tuple_add seq_tuple_add PySem.F.slot_tuple_add PySem.F.entry_tuple_add (PySem.F.args_tuple_add_2 _ _)
   (tuple_addW0 l b Aa.toArray Fm.toArray n n2 dd GV sl GS (by cases r;rfl)) #[ho,GA,#[.ref b,H,I,rfl,q]]
end
end L2
namespace L5
open PySem PySem.Spec L2 L3
open PyProof.Rows hiding St
section
variable {X:Cx}{K:Ac}{a b c e:Expr}{es:List Expr}{ta tb tc te:zr}{tA:yf}{pos p:Pos}
def vX.mo:xq vX:=λ x y S Q Q' hq h=>by
 cases x with
 | int i=>cases y <;> first | show hq _ _ h | show h
 | str i=>cases y <;> first | show#[h.1,hq _ _ h.2] | show h
 | tup i=>cases y <;> first | show#[h.1,hq _ _ h.2] | show h
 | xw ds=>
  unfold vX at h ⊢;dsimp only at h ⊢;split at h
  .show#[h.1,h.2.1,λ r hr=>hq _ _ (h.2.2 r hr)]
  .show h.elim
 | ref q=>
  unfold vX at h ⊢;dsimp only at h ⊢;split at h
  .show#[h.1,h.2.1,λ r hr=>hq _ _ (h.2.2 r hr)]
  .show h.elim
 | _=>show h
def sZ {H:Hp}{S:SS}{d:D}{v:V}{ds:List D}(r:ze K H d v) (p:zF K H S) (e:zH d S=↑ds) (n:∀ ts,d≠.tup ts):∃ a xs,v=.ref a/\zC K H a xs/\zk K H ds xs:=by
 unfold zH at e;split at e
 .show absurd rfl (n _)
 .cases e;simp![ze] at r;let#[a,xs,h1,h2,h3]:=r;show#[a,xs,h1,h2.sq,h3]
 .split at e
  .rename_i q;cases e;simp![ze] at r;subst r;let#[xs,h1,h2]:=p _ _ q;show#[_,xs,rfl,zC.of h1,h2]
  .cases e
 .cases e
abbrev fM (K:Ac):R2:=λ x y H Q=>wH (λ i j=>.int (i+j)) x y H Q\/((∃ i j,x=.str i/\y=.str j/\i.length+j.length<=sizeLine/\Q (.str (i++j)) H)\/(fK K x y H Q\/(fH K x y H Q\/fJ K x y H Q)))
def vX.fits:xm K vX (fM K):=λ x y d e H S Q h1 h2 h3 h=>by
 have lst:(∀ ts,d≠.tup ts)->(match zH d S,zH e S with
  | some ds,↑es=>(∀ ts,e≠.tup ts)/\ds.length+es.length<=sizeLine/\∀ r,S r=none->wz K H Q (.ref r) (ups S r (.lst (ds++es)))
  | _,_=>False)->fM K x y H Q:=λ n h=>by
  split at h
  .rename_i ds es q1 q2;let#[a,xs,rfl,g1,g2]:=sZ h1 h3 q1 n;let#[b,ys,rfl,g3,g4]:=sZ h2 h3 q2 h.1;exact .inr (.inr (.inl #[a,b,xs,ys,rfl,rfl,g1,g3,by rw[<- g2.length,<- g4.length];show h.2.1,λ p hp=>?_]));show h.2.2 p (h3.none hp) _ _ (by simp![ze]) (.new hp _) (h3.ups (.new hp _) #[_,y6,zk.ext (.new hp _) _ (g2.append g4)])
  .show h.elim
 cases d with
 | int i=>
  cases e with
  | int j=>
   simp![ze] at h1 h2;show .inl #[_,_,h1,h2,h _ H (by simp![ze]) (.refl H) h3]
  | _=>show h.elim
 | str i=>
  cases e with
  | str j=>
   simp![ze] at h1 h2;show .inr (.inl #[_,_,h1,h2,h.1,h.2 _ H (by simp![ze]) (.refl H) h3])
  | _=>show h.elim
 | tup ds=>
  cases e with
  | tup es=>
   have GC:=h1;have Jr:=h2;simp![ze] at h1 h2;let#[a,xs,rfl,g1,g2]:=h1;let#[b,ys,rfl,g3,g4]:=h2;have hl:=g2.length;have FW:=g4.length;by_cases hx:xs=[]
   .subst hx;have:ds=[]:=by cases ds <;> simp_all
    subst this;show .inr (.inr (.inr (.inl #[a,b,ys,rfl,rfl,g1,g3,h.2 _ H Jr (.refl H) h3])))
   .exact .inr (.inr (.inr (.inr #[a,b,xs,ys,rfl,rfl,g1,g3,hx,by rw[<- hl,<- FW];show h.1,λ hy=>?_,λ hy p hp=>?_])))
    .subst hy;have:es=[]:=by cases es <;> simp_all
     subst this;exact h.2 _ H ?_ (.refl H) h3;rw[BE];show GC
    .exact h.2 _ _ ?_ (.new hp _) (h3.new hp);simp![ze];show#[p,_,rfl,zN.of y6,zk.ext (.new hp _) _ (g2.append g4)]
  | _=>show h.elim
 | xw ds=>show lst (λ _=>nofun) h
 | ref q=>show lst (λ _=>nofun) h
 | _=>show h.elim
def Uu (ha:PD X a ta) (hb:PD X b tb):PD X (.BinOp a .Add b pos) (yp vX ta tb):=qu (UI.or (UH.or (UG.or (UD.or UE)))) vX.fits vX.mo ha hb
def vB.mo {g:List Bool->Bool}:wV (vB g):=λ ds S Q Q' hq h=>by
 unfold vB at h ⊢;split at h
 .show h.elim
 .let#[bs,h1,h2]:=h;show#[bs,h1,hq _ _ h2]
 .show h.elim
def vB.fits {g:List Bool->Bool}:vI K (vB g) (λ xs H Q=>∃ p,∃ bs:List Bool,xs=[.ref p]/\zC K H p (bs.map V.bl)/\Q (.bl (g bs)) H):=λ xs ds H S Q h0 h2 h=>by
 unfold vB at h;split at h
 .show h.elim
 .rename_i d hn;let#[x,hx,h1]:=h0.one;subst hx;let#[bs,e,h]:=h;let#[a,ys,rfl,g1,g2]:=sZ h1 h2 e (λ ts z=>hn ts z);rw[g2.bools] at g1;show#[a,bs,rfl,g1,h _ H (by simp![ze]) (.refl H) h2]
 .show h.elim
def Ut (hm:X.mg "all"=none) (ha:yX X (e::es) tA) (hc:X.calm=true) (hg:Gl X "all") (he:AG X e es) (Ar:AN X pos es):PD X (.Call (.Name "all" p) (e::es) [] pos) (xc (vB λ bs=>bs.all id) tA):=
 vO (ui (O_ hc) hg hm boot_all ha.pa () () he Ar) vB.mo vB.fits ha.mo
def Ur (hm:X.mg "any"=none) (ha:yX X (e::es) tA) (hc:X.calm=true) (hg:Gl X "any") (he:AG X e es) (Ar:AN X pos es):PD X (.Call (.Name "any" p) (e::es) [] pos) (xc (vB λ bs=>bs.any id) tA):=
 vO (ui (OZ hc) hg hm boot_any ha.pa () () he Ar) vB.mo vB.fits ha.mo
def Qv {H:Hp}{d:D}{v:V}(r:ze K H d v):decide (v=.zp)=qC d:=by
 cases d with
 | tup _=>simp![ze] at r;let#[a,xs,rfl,_]:=r;rfl
 | xw _=>simp![ze] at r;let#[a,xs,rfl,_]:=r;rfl
 | err _ _ _=>simp![ze] at r;let#[a,_,_,_,rfl,_]:=r;rfl
 | _=>simp![ze] at r;subst r;rfl
theorem VA (ha:PD X a ta):PD X (.UnaryOp .USub a pos) (b6 ta):=by
 exact#[fun L S Q Q' hq h=>ha.mo L S _ _ (λ x S1 z=>by
  cases x <;> first
   | show hq _ _ z
   | show z) h,PE.imp (Wr Yq ha.pe) fun B H Q hu=>?_]
 let#[L,S,r1,r2,h]:=hu;exact zG.go ha.mo r1 r2 h λ x S1 v H1 h1 q1 e1 p1=>?_;cases x with
 | int i=>simp![ze] at q1;show#[i,q1,h1 _ H1 (by simp![ze]) e1 p1]
 | _=>show h1.elim
section
variable {N':List Str}{pick:List (Option Nat)}{scope:Scope}{tg elt iter:Expr}{ifs:List Expr}{ti:wc}{g:xk}{Gi:y4}
def uw.mo (hi:lP ti):yc (uw pick ti g Gi te):=fun L S Q Q' hq z=>hi L S _ _ (λ I S1 #[h1,h2,h3]=>#[h1,h2,λ p hp=>by
 let#[W,w0,w1,w2,w3]:=h3 p hp;show#[W,w0,w1,w2,λ S2 acc a b c=>hq _ _ (w3 S2 acc a b c)]]) z
theorem gD (hi:lP ti) (hg:lQ g) (hc:wB Gi) (he:yc te) {B:St}{H:Hp}{Q:VK}(hu:zG K (uw pick ti g Gi te) B H Q):kz pick (we K ti) (ny K g) (xX K Gi) (zG K te) B H Q:=by
 let#[L,S,r1,r2,z]:=hu;exact#[L,S,r1,r2,hi L S _ _ (λ I S1 hF J H1 e1 p1 rep D hD=>?_) z];let#[hlen,hk,hF]:=hF;have Jn:S1 D=none:=p1.none hD;let#[W,w0,wm,Hy,IC]:=hF D Jn;exact#[λ i m B H2=>m=I.items.length-i/\i<=I.items.length/\Ext H1 H2/\yK K H2 (vN pick L) B/\∃ S2 acc,zF K H2 S2/\Sx S1 S2/\S2 D=↑(.lst acc)/\acc.length<=i/\W i S2 acc,#[_,rfl,AR _,.new hD _,((r1.ext e1).pick pick).ext (.new hD _),ups S1 D (.lst []),[],?_,.new Jn _,uW,Aj _,?_],?_]
 .show p1.ups (.new hD _) #[[],y6,.nil]
 .show wm 0 S1 _ [] (λ b o hb q=>by rw[uX hb];show q) w0
 rintro i m B2 H2 ⟨rfl,F9,x2,q1,S2,acc,q2,sx,Iv,AV,hW⟩;let#[g1,g2]:=rep i H2 S2 x2 q2 (hk S2 sx);by_cases hl:i<I.items.length
 .have hd:I.items[i]?=↑I.items[i]:=by simp[hl]
  let#[go,yl]:=g1 _ hd;exact .inr #[go,λ x H3 hy=>?_];let#[x3,p3,d3]:=yl x H3 hy;exact#[_,_,S2,d3,q1.ext x3,p3,hg _ _ S2 _ _ (fun L4 S4 z4 B4 H4 a1 a2 a3=>?_) (Hy i _ S2 acc hd sx Iv hW)];let#[hle,z4]:=z4;exact xX.go hc a1 a3 z4 λ b S5 H5 z5 x5 p5=>wK (λ z5=>?_) (λ z5=>?_) z5
  .exact zG.go he (a1.ext x5) p5 z5 λ y S6 v H6 z6 q6 x6 p6=>?_;let#[s6,hW6]:=z6;let#[ys,h6,r6]:=p6 _ _ (s6 _ _ Iv);have e6:Ext H6 (upd H6 D (.lst (ys++[v]))):=.lst h6 _;have hlen2:ys.length<=i:=by rw[<- r6.length];show AV
   exact#[ys,I.items.length-(i+1),h6,⋯,⋯,rfl,hl,((((x2.trans x3).trans a2).trans x5).trans x6).trans e6,hle.rep ((a1.ext (x5.trans x6)).ext e6),ups S6 D (.lst (acc++[y])),acc++[y],?_,λ b o hb=>?_,uW,by simp;lia,?_]
   .show p6.ups e6 #[_,y6,zk.ext e6 _ (r6.snoc q6)]
   .rw[uX (by intro q;subst q;rw[Jn] at hb;cases hb)];show s6 _ _ (sx _ _ hb)
   .show wm _ S6 _ _ (λ b o hb q=>by rw[uX hb];show q) hW6
  .let#[s5,hW5]:=z5;show#[I.items.length-(i+1),⋯,rfl,hl,((x2.trans x3).trans a2).trans x5,hle.rep (a1.ext x5),S5,acc,p5,sx.trans s5,s5 _ _ Iv,⋯,hW5]
 .have e:i=I.items.length:=⋯;subst e;show .inl #[g2 (Aj _),IC S2 acc sx Iv hW _ H2 (by simp![ze]) (e1.trans x2) q2]
def VJ (Sc:tR X N' pick scope) (hc:X.calm=true) (hi:u5 X tg iter ti) (hg:∀ cl C s H fp,vF (yq X N' scope cl C s H fp) tg g) (hf:∀ cl C s H fp,qZ (yq X N' scope cl C s H fp) ifs Gi) (he:∀ cl C s H fp,PD (yq X N' scope cl C s H fp) elt te)
  (hs:∀ x,foldedSetIterable iter X.env x=pure x):
  PD X (.ListComp elt [#[tg,iter,ifs,0]] scope pos) (uw pick ti g Gi te):=
 #[uw.mo hi.mo,λ EN s B H Q I hu=>W3 (g:=ny X.K g) (tc:=xX X.K Gi) (te:=zG X.K te) Sc hc hi.pi (λ cl C s H fp=>(hg cl C s H fp).pg) (λ cl C s H fp=>(hf cl C s H fp).pf) (λ cl C s H fp=>(he cl C s H fp).pe) hs EN s B H Q I (gD hi.mo (hg [] 0 s H []).mo (hf [] 0 s H []).mo (he [] 0 s H []).mo hu)]
def Vc {i:Nat}{y:Str}{py Bf:Pos}(Sc:tR X N' pick scope) (hc:X.calm=true) (hi:u5 X tg iter ti) (hg:∀ cl C s H fp,vF (yq X N' scope cl C s H fp) tg g) (hf:∀ cl C s H fp,qZ (yq X N' scope cl C s H fp) ifs Gi) (he:∀ cl C s H fp,PD (yq X N' scope cl C s H fp) elt te)
  (hN:X.N.Nodup) (hy:X.N[i]?=↑y) (hx:Loc X.env.scope y)
  (BX:swapsWith (.ListComp elt [#[tg,iter,ifs,0]] scope pos) ↑(.Name y py) Bf.line X.env=pure true)
  (Ca:X.fn y=true\/X.env.scope.names.lookup y=↑.local)
  (hs:∀ x,foldedSetIterable iter X.env x=pure x):
  xD X (.Assign [.Name y py] (.ListComp elt [#[tg,iter,ifs,0]] scope pos) Bf) (v_ (uw pick ti g Gi te) (hName i)):=by
 exact#[v_.mo (uw.mo hi.mo) λ _ _ _ _ _ hq z=>hq _ _ z,λ EN s B H D I hu=>XM (g:=ny X.K g) (tc:=xX X.K Gi) (te:=zG X.K te) Sc hc hi.pi (λ cl C s H fp=>(hg cl C s H fp).pg) (λ cl C s H fp=>(hf cl C s H fp).pf) (λ cl C s H fp=>(he cl C s H fp).pe) hN hy hx BX Ca hs EN s B H D I ?_];let#[L,S,r1,r2,z]:=hu;exact gD hi.mo (hg [] 0 s H []).mo (hf [] 0 s H []).mo (he [] 0 s H []).mo #[L,S,r1,r2,uw.mo hi.mo L S _ _ (λ x S1 z v H1 q1 e1 p1=>?_) z];show z _ H1 ((r1.ext e1).set i q1) e1 p1
end
end
section
variable {P:Program}{w:World}{K:Ac}{mg:AI}{base:Heap}{f:Addr}{fd:FuncData}
def cO {R:Rk} [Lo R] {x:Str}{st:Stmt}{N ps:List Str}{k n:Nat}{g:Sm}(F:ue K x x st f fd) (Sc:uU N ps (yh st)) (hn:n=ps.length)
  (E9:∀ (Al:Value) (A:Around) (outer:List Env) (s:Shared) (H:Hp) (E:XK),z_ k (A.deeper (envOfC x (yh st) s.heap.objs.size f Al))->
   ∃ t,wQ (w6 xr P w K mg base N x (yh st) f Al A outer s H E).vb (wa st) t/\yb R g t):vH P w K mg base xr (k+1) f fd ps (u9 K (zI R (zR N n g))):=
 Pb F Sc (λ ds S Q h=>by rw[h.len,hn]) λ Al A outer s H E hr=>by
  let#[t,h1,h2]:=E9 Al A outer s H E hr;show#[t,h1,λ ds S Q h=>Ni h2 h]
def Pt {R:Rk} [Lo R] {x:Str}{st:Stmt}{N ps:List Str}{k n:Nat}{g:Sm}(F:ue K x x st f fd) (hm:mg x=↑(.ref f)) (Sc:uU N ps (yh st)) (hn:n=ps.length)
  (hb:∀ (kV doc pm:Value) (an:Option Addr) (Al ct:Value) (us:Ae),us.length=ps.length->bindArgs (PySem.W.fnOf x x (uO st) (wa st) (yh st) .none kV doc pm an Al ct) #[us,[]]=pure (ps.zip us))
  (E9:∀ (Al:Value) (A:Around) (outer:List Env) (s:Shared) (H:Hp) (E:XK),z_ k (A.deeper (envOfC x (yh st) s.heap.objs.size f Al))->
   ∃ t,wQ (w6 xr P w K mg base N x (yh st) f Al A outer s H E).vb (wa st) t/\yb R g t):FD P w K mg base x (k+1) ps (zI R (zR N n g)):=
 #[#[f,fd,cO F Sc hn E9,hm,F.kp,F.binds hb],zI.mo]
def Qb {R:Rk} [Sr R] {F:An}(hF:∀ ns:List Int,ns.length<=63->F [.lst (ns.map T.int)]=↑(.bl true)) {H:Hp}{a:Addr}{ns:List Int}{E:XK}(hO:lK H) (hS:zC K H a (ns.map V.int)) (hl:ns.length<=63):u9 K (zI R F) [.ref a] H (λ v _=>v=.bl true) E:=by
 have hFz:qY K H a (ns.map V.int):=by
  rcases hS with (h | h) | h
  .rcases hO a with z | ⟨o,xs,z⟩
   .rw[h] at z;cases z
   .rw[h] at z;cases z
  .show .inl h
  .show .inr h
 exact#[[.xw (ns.map D.int)],λ _=>none,.cons ?_ .nil,(λ a o z=>nomatch z),λ _=>False,[.lst (ns.map T.int)],.bl true,nofun,.cons ?_ .nil,hF ns hl,λ d S' s r v H' rv _ _=>?_]
 .simp![ze];show#[a,_,rfl,hFz,zk.jc ns]
 .simp![Sn];show#[_,.inl #[rfl,UJ ns],uh.mpr rfl]
 .have:=Sr.sn r;simp![Sn] at this;subst this;simpa only [ze] using rv
end
end L5
namespace ST
open PySem PySem.SetTable
def uz (xs:List Nat):Prop:=xs.Pairwise (· < ·)
def jO {xs:Array Nat}{m d:Nat}(h:m<xs.size):xs.getD m d=xs[m]:=by simp[Array.getD,h]
theorem i9 (xs:Array Nat) (j:Nat) (hr:uz xs.toList):∀ (f lo hi:Nat),hi-lo<=f->lo<=hi->hi<=xs.size->(∀ i (h:i<xs.size),i<lo->xs[i]<j)->(∀ i (h:i<xs.size),hi<=i->j<=xs[i])->
  below.go xs j f lo hi<=xs.size/\(∀ i (h:i<xs.size),i<below.go xs j f lo hi->xs[i]<j)/\∀ i (h:i<xs.size),below.go xs j f lo hi<=i->j<=xs[i]
 | 0,lo,hi,h1,h2,h3,h4,h5=>by
  unfold below.go;have:lo=hi:=⋯;subst this;show#[h3,h4,h5]
 | f+1,lo,hi,h1,h2,h3,h4,h5=>by
  unfold below.go;have wo:∀ i k (hi:i<xs.size) (hk:k<xs.size),i<=k->xs[i]<=xs[k]:=λ i k hi hk DS=>by
   rcases Bc i k with q | q
   .have r:=C3.mp hr i k (by exists hi) (by exists hk) q;rw[Ck,Ck] at r;show Bo r
   .have:i=k:=⋯;subst this;show Aj _
  by_cases hl:lo<hi
  .rw[if_pos hl];dsimp only;have hm:(lo+hi)/2<xs.size:=⋯;rw[jO hm];by_cases c:xs[(lo+hi)/2]<j
   .rw[if_pos c];exact i9 xs j hr f _ hi ⋯ ⋯ h3 (λ i F9 Ay=>?_) h5;have:=wo i ((lo+hi)/2) F9 hm ⋯;lia
   .rw[if_neg c];exact i9 xs j hr f lo _ ⋯ ⋯ ⋯ h4 (λ i F9 hge=>?_);have:=wo ((lo+hi)/2) i hm F9 hge;lia
  .rw[if_neg hl];have:lo=hi:=⋯;subst this;show#[h3,h4,h5]
def lu {xs:Array Nat}{j:Nat}(hr:uz xs.toList):below xs j<=xs.size/\(∀ i (h:i<xs.size),i<below xs j->xs[i]<j)/\∀ i (h:i<xs.size),below xs j<=i->j<=xs[i]:=
 i9 xs j hr xs.size 0 xs.size ⋯ ⋯ (Aj _) (λ i h q=>⋯) (λ i h q=>⋯)
theorem below_at {xs:Array Nat}{j i:Nat}(hr:uz xs.toList) (h:xs[i]?=↑j):below xs j=i:=by
 let#[h1,h2,h3]:=lu (j:=j) hr;let#[hi,e]:=Array.getElem?_eq_some_iff.mp h;have a:¬ i<below xs j:=λ q=>by have:=h2 i hi q;lia
 have b:¬ below xs j<i:=λ q=>by
  have:=h3 (below xs j) ⋯ (Aj _);have r:=C3.mp hr (below xs j) i (by simp;lia) (by exists hi) q;simp at r;lia
 lia
def Nn {xs:Array Nat}{j:Nat}(hr:uz xs.toList):(xs[below xs j]?=↑j)↔j∈xs.toList:=by
 constructor
 .intro h;let#[hi,e]:=Array.getElem?_eq_some_iff.mp h;rw[<- e];simp
 .intro h;let#[i,hi,e]:=BW.mp h;have hx:xs[i]?=↑j:=by
   simp at hi;simp[hi] at e ⊢;show e
  rw[below_at hr hx];show hx
def ua (M:Nat) (p:Probe):Probe:=
 if p.more>0 then { p with j:=p.j+1,more:=p.more-1 } else
 let (i,perturb):=leap M p.i p.perturb
 { p with j:=i,more:=runEnd M i-i,i,perturb }
def iO (t:SetTable) (p:Probe):t.advance p=ua t.mask p:=rfl
def qm (M i perturb:Nat):Probe:={ j:=i,more:=runEnd M i-i,i:=i,perturb:=perturb,dummy:=none }
def way (M:Nat) (h:Int):Nat->Probe
 | 0=>qm M (bits h%(M+1)) (bits h)
 | k+1=>ua M (way M h k)
def N4 (M:Nat) (p:Probe) (h:p.dummy=none):(ua M p).dummy=none:=by
 unfold ua;split
 .show h
 .show h
theorem ki (M:Nat) (h:Int):∀ k,(way M h k).dummy=none
 | 0=>rfl
 | k+1=>N4 M _ (ki M h k)
def zQ (M:Nat) (h:Int):Nat->Nat×Nat
 | 0=>(bits h%(M+1),bits h)
 | n+1=>leap M (zQ M h n).1 (zQ M h n).2
theorem kF (M i pt:Nat) (h:Int) (k:Nat) (hk:way M h k=qm M i pt):∀ m,m<=runEnd M i-i->way M h (k+m)={ j:=i+m,more:=runEnd M i-i-m,i:=i,perturb:=pt,dummy:=none }
 | 0,_=>by rw[Nat.add_zero,hk];rfl
 | m+1,hm=>by
  have ih:=kF M i pt h k hk m ⋯;change ua M (way M h (k+m))=_;rw[ih];unfold ua;rw[if_pos (by change runEnd M i-i-m>0;lia)];simp![Probe.mk.injEq];show#[⋯,⋯,trivial,trivial,trivial]
def Xp (M i:Nat):runEnd M i-i<=9:=by unfold runEnd;split <;> lia
theorem fq (M:Nat) (h:Int) (n k:Nat) (hk:way M h k=qm M (zQ M h n).1 (zQ M h n).2):way M h (k+(runEnd M (zQ M h n).1-(zQ M h n).1)+1)=qm M (zQ M h (n+1)).1 (zQ M h (n+1)).2:=by
 have:=kF M _ _ h k hk _ (Aj _);change ua M (way M h (k+_))=_;rw[this];unfold ua;rw[if_neg (by change ¬ _-_-(_-_)>0;lia)];rfl
theorem fu (M:Nat) (h:Int):∀ n,∃ k,k<=10*n/\way M h k=qm M (zQ M h n).1 (zQ M h n).2
 | 0=>#[0,⋯,rfl]
 | n+1=>by
  let#[k,h1,h2]:=fu M h n;have:=Xp M (zQ M h n).1;show#[_,⋯,fq M h n k h2]
def Nl (h:Int):bits h<2 ^ 64:=by
 unfold bits;have h1:=C_ h (show (2 ^ 64:Int)≠0 by decide);have h2:=D4 h (show (0:Int)<2 ^ 64 by decide);lia
theorem fT (M:Nat) (h:Int):∀ n,(zQ M h n).2*32 ^ n<=bits h
 | 0=>by simp[zQ]
 | n+1=>by
  have ih:=fT M h n;change ((zQ M h n).2/32)*32 ^ (n+1)<=_;have:(zQ M h n).2/32*32<=(zQ M h n).2:=Nat.div_mul_le_self _ _
  calc (zQ M h n).2/32*32 ^ (n+1)=((zQ M h n).2/32*32)*32 ^ n:=by rw[Nat.pow_succ,DB (32 ^ n) 32,Nat.mul_assoc]
   _<=(zQ M h n).2*32 ^ n:=Nat.mul_le_mul_right _ this
   _<=_:=ih
theorem Wo (M:Nat) (h:Int) (n:Nat) (hn:13<=n):(zQ M h n).2=0:=by
 rcases Nat.eq_zero_or_pos (zQ M h n).2 with q | q
 .show q
 .have h1:=fT M h n;have h2:=Nl h;have h3:32 ^ 13<=32 ^ n:=Nat.pow_le_pow_right () hn;have h4:1*32 ^ n<=(zQ M h n).2*32 ^ n:=Nat.mul_le_mul_right _ q;have h5:(2:Nat) ^ 64<32 ^ 13:=()
  lia
def tj (M:Nat) (i:Nat):Nat->Nat
 | 0=>i
 | n+1=>(tj M i n*5+1)%(M+1)
theorem dA (M:Nat) (h:Int):∀ n,(zQ M h (13+n)).1=tj M (zQ M h 13).1 n
 | 0=>rfl
 | n+1=>by
  have ih:=dA M h n;have hz:=Wo M h (13+n) ⋯;change ((zQ M h (13+n)).1*5+1+(zQ M h (13+n)).2/32)%(M+1)=_;rw[hz,ih];rfl
theorem pL (M i:Nat):∀ a b,tj M i (a+b)=tj M (tj M i a) b
 | a,0=>rfl
 | a,b+1=>by
  change (tj M i (a+b)*5+1)%(M+1)=_;rw[pL M i a b];rfl
def pK (M:Nat):Nat->Nat->List Nat
 | 0,_=>[]
 | n+1,i=>i::pK M n ((i*5+1)%(M+1))
theorem kZ (M:Nat):∀ n i x,x∈pK M n i->∃ k,k<n/\tj M i k=x
 | 0,i,x,h=>by cases h
 | n+1,i,x,h=>by
  rcases Ah.mp h with e | e
  .show#[0,⋯,e.symm]
  .let#[k,h1,h2]:=kZ M n _ x e;show#[k+1,⋯,by rw[Nat.add_comm,pL];show h2]
def vo (M:Nat):Prop:=M=7\/M=31\/M=127
theorem Uz (M:Nat) (hM:vo M):(∀ e,e<=M->e∈pK M (M+1) 0)/\tj M 0 (M+1)=0:=by
 have key:∀ M,((List.range (M+1)).all λ e=>(pK M (M+1) 0).contains e)=true->∀ e,e<=M->e∈pK M (M+1) 0:=λ M h e he=>by
  have:=BP.mp h e (AD.mpr ⋯);exists this
 rcases hM with rfl | rfl | rfl
 .show#[key 7 (AM),AM]
 .show#[key 31 (AM),AM]
 .show#[key 127 (AM),AM]
theorem Uy (M:Nat) (hM:vo M) (i e:Nat) (hi:i<=M) (he:e<=M):∃ n,n<=M/\tj M i n=e:=by
 let#[h1,h2]:=Uz M hM;let#[a,a1,a2]:=kZ M _ _ _ (h1 i hi);let#[b,b1,b2]:=kZ M _ _ _ (h1 e he);rcases Bc b a with q | q
 .exact#[M+1+b-a,⋯,?_];rw[<- a2,<- pL,show a+(M+1+b-a)=(M+1)+b by lia,pL,h2,b2]
 .exact#[b-a,⋯,?_];rw[<- a2,<- pL,show a+(b-a)=b by lia,b2]
theorem RV (M:Nat) (h:Int):∀ n,(zQ M h n).1<=M
 | 0=>by have:=C2 (bits h) (show 0<M+1 by lia);change bits h%(M+1)<=M;lia
 | n+1=>by
  have:=C2 ((zQ M h n).1*5+1+(zQ M h n).2/32) (show 0<M+1 by lia);change (_%(M+1):Nat)<=M;lia
theorem dB (M:Nat) (hM:vo M) (h:Int) (e:Nat) (he:e<=M):∃ n,n<M+14/\(zQ M h n).1=e:=by
 let#[n,h1,h2]:=Uy M hM (zQ M h 13).1 e (RV M h 13) he;show#[13+n,⋯,by rw[dA,h2]]
theorem Yj (M:Nat) (hM:vo M) (h:Int) (e:Nat) (he:e<=M):∃ k,k<10*(M+15)/\(way M h k).j=e:=by
 let#[n,h1,h2]:=dB M hM h e he;let#[k,k1,k2]:=fu M h n;show#[k,⋯,by rw[k2];show h2]
theorem gq (M:Nat) (h:Int):∀ k,(way M h k).j+(way M h k).more<=M/\(way M h k).i<=M
 | 0=>by
  have h1:bits h%(M+1)<=M:=by have:=C2 (bits h) (show 0<M+1 by lia);lia
  exact#[?_,h1];change bits h%(M+1)+(runEnd M (bits h%(M+1))-bits h%(M+1))<=M;unfold runEnd;split <;> lia
 | k+1=>by
  let#[h1,h2]:=gq M h k;change (ua M (way M h k)).j+(ua M (way M h k)).more<=M/\(ua M (way M h k)).i<=M;unfold ua;split
  .rename_i c;show#[by change (way M h k).j+1+((way M h k).more-1)<=M;lia,h2]
  .have h3:((way M h k).i*5+1+(way M h k).perturb/32)%(M+1)<=M:=by have:=C2 ((way M h k).i*5+1+(way M h k).perturb/32) (show 0<M+1 by lia);lia
   exact#[?_,h3];change _%(M+1)+(runEnd M (_%(M+1))-_%(M+1))<=M;unfold runEnd;split <;> lia
def kh (M:Nat) (h:Int) (k:Nat):(way M h k).j<=M:=by have:=(gq M h k).1;lia
structure Tab (t:SetTable) (hs:List Int):Prop where
 mask:vo t.mask
 sG:t.dummies=[].toArray
 len:t.place.size=hs.length
 wo:uz t.place.toList
 top:∀ j∈t.place.toList,j<=t.mask
 pE:∀ (i:Nat) h j,hs[i]?=↑h->t.place[i]?=↑j->∃ k,(way t.mask h k).j=j/\∀ k'<k,(way t.mask h k').j∈t.place.toList
theorem Tab.live {t:SetTable}{hs:List Int}(T:Tab t hs) {i j:Nat}(h:t.place[i]?=↑j):t.slot j=.live i:=by
 unfold SetTable.slot;dsimp only;rw[below_at T.wo h,if_pos (by rw[h];simp)]
theorem Tab.empty {t:SetTable}{hs:List Int}(T:Tab t hs) {j:Nat}(h:j∉t.place.toList):t.slot j=.empty:=by
 unfold SetTable.slot;dsimp only;have n1:¬ (t.place[below t.place j]? == ↑j)=true:=λ q=>h ((Nn T.wo).mp (by exists q));rw[if_neg n1,if_neg (by rw[T.sG];simp[has])]
theorem Tab.at {t:SetTable}{hs:List Int}(T:Tab t hs) {j:Nat}(h:j∈t.place.toList):∃ (i:Nat) (g:Int),t.place[i]?=↑j/\hs[i]?=↑g:=by
 let#[i,hi,e]:=BW.mp h;have F9:i<t.place.size:=by exists hi
 exact#[i,hs[i]'(by rw[<- T.len];show F9),?_,#[]];rw[Bj F9];rw[Ck] at e;rw[e]
theorem cG {t:SetTable}{hs:List Int}(T:Tab t hs) {hashAt:Nat->Int}(hA:∀ (i:Nat) g,hs[i]?=↑g->hashAt i=g) (h:Int):∀ (f k:Nat),(∃ e,k<=e/\e<k+f/\(way t.mask h e).j∉t.place.toList)->
  ∃ k1,k<=k1/\(∀ m,k<=m->m<k1->∃ (i:Nat) (g:Int),t.place[i]?=↑(way t.mask h m).j/\hs[i]?=↑g/\g≠h)/\
   ((way t.mask h k1).j∉t.place.toList/\probe.go t hashAt h f (way t.mask h k)=↑(.empty (way t.mask h k1).j none)\/
    ∃ i,t.place[i]?=↑(way t.mask h k1).j/\hs[i]?=↑h/\probe.go t hashAt h f (way t.mask h k)=↑(.candidate (way t.mask h k1).j i (way t.mask h (k1+1))))
 | 0,k,#[e,h1,h2,_]=>⋯
 | f+1,k,#[e,h1,h2,h3]=>by
  by_cases hm:(way t.mask h k).j∈t.place.toList
  .let#[i,g,p1,p2]:=T.at hm;by_cases hg:g=h
   .exact#[k,Aj _,λ m a b=>⋯,.inr #[i,p1,by rw[<- hg];show p2,?_]];unfold probe.go;rw[T.live p1];dsimp only;rw[hA i g p2,if_pos (by simp[hg]),iO];rfl
   .have Aq:e≠k:=λ q=>by subst q;show h3 hm
    let#[k1,q1,q2,q3]:=cG T hA h f (k+1) #[e,⋯,⋯,h3];have eq:probe.go t hashAt h (f+1) (way t.mask h k)=probe.go t hashAt h f (way t.mask h (k+1)):=by
     conv=>lhs;unfold probe.go
     rw[T.live p1];dsimp only;rw[hA i g p2,if_neg (by simp[hg]),iO];rfl
    rw[eq];exact#[k1,⋯,λ m a b=>?_,q3];rcases Nat.eq_or_lt_of_le a with w | w
    .subst w;show#[i,g,p1,p2,hg]
    .show q2 m w b
  .exact#[k,Aj _,λ m a b=>⋯,.inl #[hm,?_]];unfold probe.go;rw[T.empty hm,ki]
def eJ {xs ys:List Nat}(hx:xs.Nodup) (h:∀ x∈xs,x∈ys):xs.length<=ys.length:=by
 induction xs generalizing ys with
 | nil=>simp
 | cons x xs ih=>
  have h1:=Bn.mp hx;have Ce:=h x Ap;have:=ih h1.2 (ys:=ys.erase x) λ z hz=>by
   have Aq:z≠x:=λ e=>h1.1 (e▸hz);show (List.mem_erase_of_ne Aq).mpr (h z (Aw _ hz))
  rw[List.length_erase_of_mem Ce] at this;have hp:=DA Ce;simp![A5];lia
theorem least {P:Nat->Prop}(k:Nat) (h:P k):∃ m,m<=k/\P m/\∀ m'<m,¬ P m':=by
 induction k using Nat.strongRecOn with
 | ind k ih=>
  rcases Classical.em (∃ m',m'<k/\P m') with ⟨m',h1,h2⟩ | q
  .let#[m,g1,g2]:=ih m' h1 h2;show#[m,⋯,g2]
  .show#[k,Aj _,h,λ m' hm hp=>q #[m',hm,hp]]
theorem Pf {xs:List Nat}{M:Nat}(h:xs.length<=M):∃ e,e<=M/\e∉xs:=by
 rcases Classical.em (∃ e,e<=M/\e∉xs) with q | q
 .show q
 .have:=eJ (xs:=List.range (M+1)) (ys:=xs) Cj λ e he=>by
   have:=AD.mp he;rcases Classical.em (e∈xs) with w | w
   .show w
   .show absurd #[e,⋯,w] q
  simp at this;lia
def iX (t:SetTable) (h:Int) (j:Nat):Prop:=j∉t.place.toList/\∃ k,(way t.mask h k).j=j/\∀ k'<k,(way t.mask h k').j∈t.place.toList
theorem Tab.first {t:SetTable}{hs:List Int}(T:Tab t hs) (hl:hs.length<=t.mask) (h:Int):∃ K,K<10*(t.mask+15)/\(way t.mask h K).j∉t.place.toList/\∀ k'<K,(way t.mask h k').j∈t.place.toList:=by
 let#[e,e1,e2]:=Pf (xs:=t.place.toList) (M:=t.mask) (by rw[BB,T.len];show hl);let#[k,k1,k2]:=Yj t.mask T.mask h e e1;let#[K,q1,q2,q3]:=least (P:=λ n=>(way t.mask h n).j∉t.place.toList) k (by rw[k2];show e2);show#[K,⋯,q2,λ k' hk=>Classical.not_not.mp (q3 k' hk)]
def Xs {xs:List Nat}{j p:Nat}(h:uz xs) (h1:∀ x∈xs.take p,x<j) (h2:∀ x∈xs.drop p,j<x):uz (xs.take p++j::xs.drop p):=by
 exact C6.mpr #[h.sublist (List.take_sublist _ _),Bw.mpr #[h2,h.sublist (List.drop_sublist _ _)],λ a ha b hb=>?_];rcases Ah.mp hb with e | e
 .subst e;show h1 a ha
 .have:=h1 a ha;have:=h2 b e;lia
theorem c6 {α:Type}{xs:List α}{p i:Nat}{x y:α}(hp:p<=xs.length) (h:(xs.take p++x::xs.drop p)[i]?=↑y):(i=p/\y=x)\/(i<p/\xs[i]?=↑y)\/(p<i/\xs[i-1]?=↑y):=by
 have hl:(xs.take p).length=p:=by rw[D7];lia
 rcases Dz i p with q | q | q
 .rw[Co ⋯,List.getElem?_take,if_pos q] at h;show .inr (.inl #[q,h])
 .subst q;rw[C8 ⋯,hl] at h;simp at h;show .inl #[rfl,h.symm]
 .rw[C8 ⋯,hl] at h;obtain⟨d,hd⟩:∃ d,i-p=d+1:=#[i-p-1,⋯];rw[hd] at h;simp![D3,List.getElem?_drop] at h;exact .inr (.inr #[q,?_]);rw[show i-1=p+d by lia];show h
theorem Tab.put {t:SetTable}{hs:List Int}(T:Tab t hs) {h:Int}{j:Nat}(F:iX t h j):
  (t.put j).2<=hs.length/\(t.put j).1={ t with place:=insertAt t.place (t.put j).2 j }/\Tab (t.put j).1 (hs.take (t.put j).2++h::hs.drop (t.put j).2):=by
 let#[b1,b2,b3]:=lu (xs:=t.place) (j:=j) T.wo;let#[fn,K,k1,k2]:=F;have e2:(t.put j).2=below t.place j:=rfl;have e1:(t.put j).1={ t with place:=insertAt t.place (t.put j).2 j }:=by
  change ({ t with place:=insertAt t.place (below t.place j) j,dummies:=_ }:SetTable)=_;rw[if_neg (by rw[T.sG];simp[has]),e2]
 have pl:(insertAt t.place (below t.place j) j).toList=t.place.toList.take (below t.place j)++j::t.place.toList.drop (below t.place j):=toList_insertAt _ _ _;have old:∀ x∈t.place.toList,x∈(insertAt t.place (below t.place j) j).toList:=λ x hx=>by
  rw[pl];have:=D2 (below t.place j) t.place.toList;rw[<- this] at hx;rcases A2.mp hx with q | q
  .show Cp _ q
  .show A6 _ (Aw _ q)
 rw[e2] at e1 ⊢;exact#[by rw[<- T.len];show b1,e1,?_];rw[e1];exact#[T.mask,T.sG,?_,?_,?_,?_]
 .change (insertAt t.place (below t.place j) j).size=_;rw[<- BB,pl];simp[T.len]
 .change uz (insertAt t.place (below t.place j) j).toList;rw[pl];exact Xs T.wo (λ x hx=>?_) (λ x hx=>?_)
  .let#[i,hi,e]:=BW.mp hx;rw[D7] at hi;rw[List.getElem_take,Ck] at e;rw[<- e];show b2 i (by simp at hi;lia) ⋯
  .let#[i,hi,e]:=BW.mp hx;rw[List.length_drop] at hi;rw[List.getElem_drop,Ck] at e;have h3:=b3 (below t.place j+i) (by simp at hi;lia) ⋯;have hm:x∈t.place.toList:=List.mem_of_mem_drop hx;have Aq:x≠j:=λ q=>fn (q▸hm);lia
 .intro x hx;change x<=t.mask;have hx:x∈(insertAt t.place (below t.place j) j).toList:=hx;rw[pl] at hx;rcases A2.mp hx with q | q
  .show T.top x (List.mem_of_mem_take q)
  .rcases Ah.mp q with e | e
   .subst e;rw[<- k1];show kh _ _ _
   .show T.top x (List.mem_of_mem_drop e)
 .intro i g x hg hx;change ∃ k,(way t.mask g k).j=x/\∀ k'<k,(way t.mask g k').j∈(insertAt t.place (below t.place j) j).toList;have hx:(insertAt t.place (below t.place j) j)[i]?=↑x:=hx;rw[<- BF,pl] at hx;have Ar:below t.place j<=t.place.toList.length:=by exists b1
  have Eo:below t.place j<=hs.length:=by rw[<- T.len];show b1
  rcases c6 Ar hx with ⟨c1,c2⟩ | ⟨c1,c2⟩ | ⟨c1,c2⟩ <;> rcases c6 Eo hg with ⟨d1,d2⟩ | ⟨d1,d2⟩ | ⟨d1,d2⟩ <;> first
   | lia
   | (subst c2 d2;show#[K,k1,λ k' hk=>old _ (k2 k' hk)])
   | (let#[k,g1,g2]:=T.pE _ g x d2 (by rw[<- BF];show c2)
      show#[k,g1,λ k' hk=>old _ (g2 k' hk)])
def sQ (owner:Array (Option Nat)) (j:Nat):Prop:=∃ k,owner[j]?=↑↑k
theorem Pp {P:Nat->Bool}{n k:Nat}(h:(List.range n).find? P=↑k):k<n/\P k=true/\∀ k'<k,P k'=false:=by
 let#[h1,as,bs,h2,h3]:=List.find?_eq_some_iff_append.mp h;have hlen:as.length=k:=by
  have e:(List.range n)[as.length]?=↑k:=by rw[h2];simp
  have:=(AX.mp e)
  let#[q1,q2]:=this;rw[D5] at q2;show q2
 have hk:k<n:=by
  have:k∈List.range n:=by rw[h2];simp
  show AD.mp this
 exact#[hk,h1,λ k' Gb=>?_];have:k'∈as:=by
  have e:(List.range n)[k']?=↑k':=D1 ⋯;rw[h2,Co ⋯] at e;show BG e
 have:=h3 k' this;exists this
def getD_none {owner:Array (Option Nat)}{j:Nat}(h:((owner.getD j ↑0).isNone)=true):owner[j]?=↑none:=by
 unfold Array.getD at h;split at h
 .rename_i hj;have e:owner[j]=none:=by exists h
  rw[Bj hj,e]
 .simp at h
def cJ {owner:Array (Option Nat)}{j:Nat}(hj:j<owner.size) (h:((owner.getD j ↑0).isNone)=false):sQ owner j:=by
 unfold Array.getD at h;rw[dif_pos hj] at h;cases q:owner[j] with
 | none=>simp[q] at h
 | some k=>show#[k,by rw[Bj hj,q]]
theorem cM (M:Nat) (owner:Array (Option Nat)) (hsz:owner.size=M+1) (h:Int):∀ (fuel n kn:Nat),way M h kn=qm M (zQ M h n).1 (zQ M h n).2->(∀ q<kn,sQ owner (way M h q).j)->
  (∃ n',n<=n'/\n'<n+fuel/\owner[(zQ M h n').1]?=↑none)->
  ∃ j q,layClean.free M owner fuel (zQ M h n).1 (zQ M h n).2=↑j/\(way M h q).j=j/\owner[j]?=↑none/\∀ q'<q,sQ owner (way M h q').j
 | 0,n,kn,_,_,#[n',h1,h2,_]=>⋯
 | fuel+1,n,kn,hk,ho,#[n',h1,h2,h3]=>by
  have hre:runEnd M (zQ M h n).1+1-(zQ M h n).1=runEnd M (zQ M h n).1-(zQ M h n).1+1:=by unfold runEnd;split <;> lia
  have Gs:∀ m,m<=runEnd M (zQ M h n).1-(zQ M h n).1->(way M h (kn+m)).j=(zQ M h n).1+m:=λ m hm=>by rw[kF M _ _ h kn hk m hm]
  unfold layClean.free;cases hf:(List.range (runEnd M (zQ M h n).1+1-(zQ M h n).1)).find? (λ k=>(owner.getD ((zQ M h n).1+k) ↑0).isNone) with
  | some k=>
   let#[f1,f2,f3]:=Pp hf;exact#[_,kn+k,rfl,Gs k ⋯,getD_none f2,λ q' hq=>?_];rcases Bc q' kn with w | w
   .show ho q' w
   .have e:(way M h q').j=(zQ M h n).1+(q'-kn):=by
     have:=Gs (q'-kn) ⋯
     rwa [show kn+(q'-kn)=q' by lia] at this
    have hle:=kh M h q';rw[e] at hle ⊢;show cJ ⋯ (f3 (q'-kn) ⋯)
  | none=>
   have f3:=C1.mp hf;have occ:∀ m,m<=runEnd M (zQ M h n).1-(zQ M h n).1->sQ owner ((zQ M h n).1+m):=λ m hm=>by
    have hle:=kh M h (kn+m);rw[Gs m hm] at hle;show cJ ⋯ (Bool.eq_false_iff.mpr (f3 m (AD.mpr ⋯)))
   have Aq:n'≠n:=λ e=>by
    subst e;let#[k,Gb]:=occ 0 (AR _);rw[Nat.add_zero] at Gb;rw[Gb] at h3;cases h3
   dsimp only;let#[j,q,r1,r2]:=cM M owner hsz h fuel (n+1) _ (fq M h n kn hk) (λ q hq=>by
    rcases Bc q kn with w | w
    .show ho q w
    .have e:=Gs (q-kn) ⋯;rw[show kn+(q-kn)=q by lia] at e;rw[e];show occ _ ⋯) #[n',⋯,⋯,h3]
   show#[j,q,r1,r2]
structure Lay (M:Nat) (hs:List Int) (owner:Array (Option Nat)) (m:Nat):Prop where
 size:owner.size=M+1
 below:∀ (j k:Nat),owner[j]?=↑↑k->k<m
 each:∀ (k:Nat),k<m->∃ (j:Nat),owner[j]?=↑↑k
 once:∀ (i j k:Nat),owner[i]?=↑↑k->owner[j]?=↑↑k->i=j
 pE:∀ (j k:Nat) h,owner[j]?=↑↑k->hs[k]?=↑h->∃ q,(way M h q).j=j/\∀ q'<q,sQ owner (way M h q').j
theorem Lay.none {M:Nat}(hM:vo M) {hs:List Int}{owner:Array (Option Nat)}{m:Nat}(L:Lay M hs owner m) (hm:m<=M):∃ (e:Nat),e<=M/\owner[e]?=↑Option.none:=by
 rcases Classical.em (∃ (e:Nat),e<=M/\owner[e]?=↑Option.none) with q | q
 .show q
 .exfalso;have Az:∀ (e:Nat),e<=M->∃ (k:Nat),owner[e]?=↑↑k:=λ e he=>by
   have Ay:e<owner.size:=by rw[L.size];lia
   cases w:owner[e] with
   | none=>show absurd #[e,he,by rw[Bj Ay,w]] q
   | some k=>show#[k,by rw[Bj Ay,w]]
  have:=eJ (xs:=(List.range (M+1)).map λ e=>((owner[e]?).getD Option.none).getD 0) (ys:=List.range m) (by
   exact CJ.mpr (List.Pairwise.imp_of_mem ?_ Cj);intro a b ha hb Aq e;exact Aq ?_;let#[k,hk]:=Az a (by have:=AD.mp ha;lia);let#[k',Gb]:=Az b (by have:=AD.mp hb;lia);rw[hk,Gb] at e;simp at e;subst e;show L.once a b k hk Gb) (λ x hx=>by
   let#[e,he,rfl]:=Ao.mp hx;let#[k,hk]:=Az e (by have:=AD.mp he;lia);rw[hk];show AD.mpr (L.below e k hk))
  simp at this;lia
def nM {α:Type}{xs:Array α}{j i:Nat}{a b:α}(h:(xs.setIfInBounds j a)[i]?=↑b):(i=j/\b=a)\/(i≠j/\xs[i]?=↑b):=by
 rw[Dy] at h;by_cases e:j=i
 .subst e;rw[if_pos rfl] at h;split at h
  .cases h;show .inl #[rfl,rfl]
  .cases h
 .rw[if_neg e] at h;show .inr #[λ q=>e q.symm,h]
def Lay.step {M:Nat}(hM:vo M) {hs:List Int}{owner:Array (Option Nat)}{m:Nat}{h:Int}(L:Lay M hs owner m) (hm:m<=M) (hh:hs[m]?=↑h):
  ∃ j,layClean.free M owner (turns M) (bits h%(M+1)) (bits h)=↑j/\Lay M hs (owner.setIfInBounds j ↑m) (m+1):=by
 let#[e,e1,e2]:=L.none hM hm;let#[n',n1,n2]:=dB M hM h e e1;let#[j,q,r1,r2,r3,r4]:=cM M owner L.size h (turns M) 0 0 rfl (λ q hq=>⋯) #[n',⋯,by unfold turns;lia,by rw[n2];show e2];have hj:j<owner.size:=(Array.getElem?_eq_some_iff.mp r3).1;have keep:∀ x,sQ owner x->sQ (owner.setIfInBounds j ↑m) x:=λ x #[k,hk]=>by
  have Aq:j≠x:=λ w=>by subst w;rw[r3] at hk;cases hk
  show#[k,by rw[Dy,if_neg Aq];show hk]
 have self:(owner.setIfInBounds j ↑m)[j]?=↑↑m:=by rw[Dy,if_pos rfl,if_pos hj]
 exact#[j,r1,#[by simp[L.size],λ x k hx=>?_,λ k hk=>?_,λ x y k hx hy=>?_,λ x k g hx hg=>?_]]
 .rcases nM hx with ⟨_,w⟩ | ⟨_,w⟩
  .cases w;lia
  .have:=L.below x k w;lia
 .rcases Bc k m with w | w
  .let#[x,hx]:=L.each k w;have Aq:j≠x:=λ w=>by subst w;rw[r3] at hx;cases hx
   show#[x,by rw[Dy,if_neg Aq];show hx]
  .have:k=m:=⋯;subst this;show#[j,self]
 .rcases nM hx with ⟨w1,w⟩ | ⟨w1,w⟩ <;> rcases nM hy with ⟨v1,v⟩ | ⟨v1,v⟩
  .lia
  .cases w;have:=L.below y _ v;lia
  .cases v;have:=L.below x _ w;lia
  .show L.once x y k w v
 .rcases nM hx with ⟨w1,w⟩ | ⟨w1,w⟩
  .cases w;rw[hh] at hg;cases hg;subst w1;show#[q,r2,λ q' hq=>keep _ (r4 q' hq)]
  .let#[q,g1,g2]:=L.pE x k g w hg;show#[q,g1,λ q' hq=>keep _ (g2 q' hq)]
theorem dG {M:Nat}(hM:vo M) {hs:List Int}(hl:hs.length<=M+1):∀ (EU:List Int) (owner:Array (Option Nat)) (m:Nat),m<=hs.length->hs.drop m=EU->Lay M hs owner m->
  ∃ GI,EU.foldl (λ acc h=>do
   let (owner,k) <- acc
   let j <- layClean.free M owner (turns M) (bits h%(M+1)) (bits h)
   pure (owner.setIfInBounds j ↑k,k+1)) ↑(owner,m)=↑(GI,hs.length)/\Lay M hs GI hs.length
 | [],owner,m,Hu,hd,L=>by
  have hm:hs.length<=m:=List.drop_eq_nil_iff.mp hd;have e:m=hs.length:=⋯;subst e;show#[owner,rfl,L]
 | h::EU,owner,m,Hu,hd,L=>by
  have hm:hs[m]?=↑h:=by
   have:=congrArg (λ l=>l[0]?) hd;exists this
  have Ay:m<hs.length:=(AX.mp hm).1;let#[j,j1,j2]:=L.step hM ⋯ hm;have F6:hs.drop (m+1)=EU:=by
   have:=congrArg List.tail hd;exists this
  let#[o',h1,h2]:=dG hM hl EU _ (m+1) ⋯ F6 j2;exact#[o',?_,h2];rw[Dx,<- h1];change _=_;congr 1;change ((layClean.free M owner (turns M) (bits h%(M+1)) (bits h)).bind λ j=>↑(owner.setIfInBounds j ↑m,m+1))=_;rw[j1];rfl
theorem RY (M:Nat) (hs:List Int):Lay M hs (Array.replicate (M+1) Option.none) 0:=by
 have no:∀ (j k:Nat),(Array.replicate (M+1) (Option.none:Option Nat))[j]?≠↑↑k:=λ j k h=>by
  rw[Array.getElem?_replicate] at h;split at h <;> cases h
 show#[#[],λ j k h=>absurd h (no j k),λ k hk=>⋯,λ i j k h=>absurd h (no i k),λ j k h e=>absurd e (no j k)]
theorem RZ {M:Nat}(hM:vo M) (hashes:Array Int) (hl:hashes.size<=M+1):∃ owner,layClean M hashes=↑owner/\Lay M hashes.toList owner hashes.size:=by
 let#[o,h1,h2]:=dG hM (hs:=hashes.toList) (by exists hl) hashes.toList _ 0 (AR _) #[] (RY M _);exact#[o,?_,by exists h2];unfold layClean;rw[<- Array.foldl_toList,h1];rfl
def lives (M:Nat) (owner:Array (Option Nat)):List (Nat×Nat):=(List.range (M+1)).filterMap λ j=>(owner.getD j Option.none).map (j,·)
theorem getD_some {owner:Array (Option Nat)}{j k:Nat}:owner.getD j Option.none=↑k↔owner[j]?=↑↑k:=by
 unfold Array.getD;split
 .rename_i h;rw[Bj h];simp
 .rename_i h;rw[CI ⋯];simp
theorem rj {M:Nat}{owner:Array (Option Nat)}(hs:owner.size=M+1) {j k:Nat}:(j,k)∈lives M owner↔owner[j]?=↑↑k:=by
 unfold lives;rw[D8];constructor
 .rintro⟨x,hx,e⟩;let#[y,e1,e2]:=AE.mp e;cases e2;show getD_some.mp e1
 .intro h;have hj:=(Array.getElem?_eq_some_iff.mp h).1;show#[j,AD.mpr ⋯,by rw[getD_some.mpr h];rfl]
def dq (M:Nat) (owner:Array (Option Nat)):(lives M owner).Pairwise λ a b=>a.1<b.1:=by
 unfold lives;rw[List.pairwise_filterMap];exact List.Pairwise.imp ?_ List.pairwise_lt_range;intro a b BV x hx y hy;let#[_,_,e1]:=AE.mp hx;let#[_,_,e2]:=AE.mp hy;subst e1 e2;show BV
def dH {M:Nat}(hM:vo M) (finger moves:Nat) (led plain:Bool) (hashes:Array Int) (hl:hashes.size<=M+1):
  ∃ t order,laid M finger moves led plain hashes=↑(t,order)/\t.mask=M/\t.finger=finger/\t.led=led/\t.plain=plain/\order.toList.Perm (List.range hashes.size)/\Tab t (order.toList.map λ k=>hashes.toList.getD k 0):=by
 let#[owner,h1,L]:=RZ hM hashes hl;exact#[_,_,by unfold laid;rw[h1];rfl,rfl,rfl,rfl,rfl,?_,?_]
 .change ((lives M owner).map (·.2)).toArray.toList.Perm _;rw[C0];exact (D0 ?_ Cj).mpr λ k=>?_
  .exact CJ.mpr (List.Pairwise.imp_of_mem ?_ (dq M owner));intro a b ha hb BV e;have h2:=(rj L.size (j:=a.1) (k:=a.2)).mp ha;have h3:=(rj L.size (j:=b.1) (k:=b.2)).mp hb;have e:a.2=b.2:=e;rw[e] at h2;have:=L.once _ _ _ h2 h3;lia
  .rw[AD];constructor
   .intro h;let#[#[j,k'],h2,rfl]:=Ao.mp h;show L.below j _ ((rj L.size).mp h2)
   .intro h;let#[j,hj]:=L.each k h;show Ao.mpr #[(j,k),(rj L.size).mpr hj,rfl]
 .have pl:∀ x,x∈(lives M owner).map (·.1)↔sQ owner x:=λ x=>by
   constructor
   .intro h;let#[#[j,k],h2,rfl]:=Ao.mp h;show#[k,(rj L.size).mp h2]
   .rintro⟨k,hk⟩;show Ao.mpr #[(x,k),(rj L.size).mpr hk,rfl]
  exact#[hM,rfl,?_,?_,?_,?_]
  .change ((lives M owner).map (·.1)).toArray.size=(((lives M owner).map (·.2)).toArray.toList.map _).length;simp
  .change uz ((lives M owner).map (·.1)).toArray.toList;rw[C0];show CJ.mpr (dq M owner)
  .intro x hx;change x<=M;have hx:x∈((lives M owner).map (·.1)).toArray.toList:=hx;rw[C0] at hx;let#[k,hk]:=(pl x).mp hx;have:=(Array.getElem?_eq_some_iff.mp hk).1;rw[L.size] at this;lia
  .intro i g x hg hx;have hx:((lives M owner).map (·.1)).toArray[i]?=↑x:=hx;have hg:(((lives M owner).map (·.2)).toArray.toList.map λ k=>hashes.toList.getD k 0)[i]?=↑g:=hg;rw[List.getElem?_toArray,AH] at hx;rw[C0,AH,AH] at hg;let#[p,p1,p2]:=AE.mp hx;rw[p1] at hg;simp![Option.map_some,Option.some.injEq] at hg;let#[j,k]:=p;cases p2;have hm:=(rj L.size).mp (BG p1);have hk:=L.below _ _ hm;let#[q,q1,q2]:=L.pE _ k g hm (by rw[<- hg];simp[hk]);exact#[q,q1,λ q' hq=>?_];change _∈((lives M owner).map (·.1)).toArray.toList;rw[C0];show (pl _).mpr (q2 q' hq)
section
variable {prog:Program}{w:World}{A:Around}{E:Af}{s:Shared}
abbrev rk (prog:Program) (w:World):HeapKind prog w (List Int):=tupleKind (intKind prog w)
def items_int {ks:List Int}{vs:Ae}(h:ItemsAre (intKind prog w) ks vs):∀ v∈vs,∃ n t,v=.int n t:=by
 induction h with
 | nil=>intro v hv;cases hv
 | cons h1 _ ih=>
  intro v hv;rcases Ah.mp hv with rfl | hv
  .let#[t,e]:=Value.isInt_shape h1;show#[_,t,e]
  .show ih v hv
def eM {ks:List Int}{a:Addr}{Q:Bool->Shared->Prop}(hk:IsTupleKey (intKind prog w) s.heap ks a) (h:Q false s):wpAny (model prog w) A (ofAClassStatement 8 (.ref a)) Q E s:=by
 have hT:=hk.typeIs;let#[o,items,n,ho,_,hd,hi]:=hk;unfold ofAClassStatement;exact IE (wpAny_typeOf hT ?_);change wpAny _ _ (pure true >>= _) _ _ s;exact IE (Ad ?_);simp![BS,A4,if_false];exact IE (JL ho hd ?_);dsimp only;exact IE ?_;change wpAny _ _ (forIn items _ _) _ _ s;rw[<- Dw];exact JQ _ (λ EU r s'=>r.1=none/\s'=s/\∀ v∈EU,∃ n t,v=.int n t) _ ?_ ?_ _ _ #[rfl,rfl,items_int hi]
 .rintro v EU r s' ⟨hr,rfl,Az⟩;let#[m,t,rfl]:=Az v Ap;change wpAny _ _ (pure false >>= _) _ _ _;exact IE (Ad ?_);simp![A4,if_false];show Ad #[rfl,rfl,λ u hu=>Az u (Aw _ hu)]
 .rintro⟨r1,r2⟩ s' ⟨hr,rfl,_⟩;simp only at hr;subst hr;show Ad h
def QF {ks:List Int}{a:Addr}{Q:Bool->Shared->Prop}(hk:IsTupleKey (intKind prog w) s.heap ks a) (h:Q true s):wpAny (model prog w) A (hashByValue 8 (.ref a)) Q E s:=by
 have hT:=hk.typeIs;let#[o,items,n,ho,_,hd,hi]:=hk;unfold hashByValue;exact IE (JU hT F.slot_tuple_hash.lookup ?_);dsimp only;exact IE (JL ho hd ?_);exact IE ?_;change wpAny _ _ (forIn items _ _) _ _ s;rw[<- Dw];exact JQ _ (λ EU r s'=>r.1=none/\s'=s/\∀ v∈EU,∃ n t,v=.int n t) _ ?_ ?_ _ _ #[rfl,rfl,items_int hi]
 .rintro v EU r s' ⟨hr,rfl,Az⟩;let#[m,t,rfl]:=Az v Ap;change wpAny _ _ (pure true >>= _) _ _ _;exact IE (Ad ?_);simp![BS,A4,if_false];show Ad #[rfl,rfl,λ u hu=>Az u (Aw _ hu)]
 .rintro⟨r1,r2⟩ s' ⟨hr,rfl,_⟩;simp only at hr;subst hr;show Ad h
def Yp {ks:List Int}{b:Addr}{Q:Bool->Shared->Prop}(hk:IsTupleKey (intKind prog w) s.heap ks b) (l:Ae) (hl:∀ v∈l,∃ k c,v=.ref c/\IsTupleKey (intKind prog w) s.heap k c) (h:Q false s):
  wpAny (model prog w) A (searchCouldBeSeen (.ref b) l) Q E s:=by
 unfold searchCouldBeSeen;exact IE ?_;exact JQ _ (λ EU r s'=>r.1=none/\s'=s/\∀ v∈EU,∃ k c,v=.ref c/\IsTupleKey (intKind prog w) s.heap k c) _ ?_ ?_ _ _ #[rfl,rfl,hl]
 .rintro v EU r s' ⟨hr,rfl,Az⟩;let#[k,c,rfl,hc]:=Az v Ap;have G0:∀ u∈EU,∃ k c,u=Value.ref c/\IsTupleKey (intKind prog w) s'.heap k c:=λ u hu=>Az u (Aw _ hu);dsimp only;by_cases e:(b == c||(carriedByValue (.ref b)&&carriedByValue (.ref c)))=true
  .rw[if_pos e];show Ad #[rfl,rfl,G0]
  .rw[if_neg e];exact IE ((rk prog w).quiet hk ?_);simp![BS,A4,if_false];exact IE ((rk prog w).quiet hc ?_);simp![BS,A4,if_false];exact IE (eM hk ?_);simp![A4,if_false];exact IE (eM hc ?_);simp![A4,if_false];show Ad #[rfl,rfl,G0]
 .rintro⟨r1,r2⟩ s' ⟨hr,rfl,_⟩;simp only at hr;subst hr;show Ad h
structure sU (h:Heap) (es:Array (Int×Value)) (t:SetTable) (xs:List (List Int×Addr)):Prop where
 es:es.toList=xs.map λ e=>((rk prog w).hash e.1,Value.ref e.2)
 is:∀ e∈xs,IsTupleKey (intKind prog w) h e.1 e.2
 tab:Tab t (xs.map λ e=>(rk prog w).hash e.1)
 pZ:xs.length<=t.mask
theorem sU.fits {h:Heap}{es:Array (Int×Value)}{t:SetTable}{xs:List (List Int×Addr)}(X:sU (prog:=prog) (w:=w) h es t xs):t.fits es.size=true:=by
 have hl:es.size=xs.length:=by have:=congrArg List.length X.es;exists this
 have h1:=X.tab.len;rw[AA] at h1;have h2:=X.pZ;unfold SetTable.fits SetTable.fill;rw[X.tab.sG,hl,h1];simp;lia
def sU.at {h:Heap}{es:Array (Int×Value)}{t:SetTable}{xs:List (List Int×Addr)}(X:sU (prog:=prog) (w:=w) h es t xs) {i:Nat}{e:List Int×Addr}(he:xs[i]?=↑e):es[i]?=↑((rk prog w).hash e.1,Value.ref e.2):=by
 rw[<- BF,X.es,AH,he];rfl
theorem fm {a:Addr}{o:Obj}{es:Array (Int×Value)}{ep:Nat}{t:SetTable}{xs:List (List Int×Addr)}{key:List Int}{b:Addr}{Q:SetFound->Shared->Prop}
  (hu:A.units<cLine) (ho:s.heap.get? a=↑o) (hd:o.data=.set es ep t) (X:sU (prog:=prog) (w:=w) s.heap es t xs) (hb:IsTupleKey (intKind prog w) s.heap key b)
  (h1:key∈xs.map (·.1)->Q (.there none) s) (h2:key∉xs.map (·.1)->∀ j,iX t ((rk prog w).hash key) j->Q (.free j false) s):
  ∀ (fuel k:Nat) (Gm:Option Probe),Gm.getD (t.probeStart ((rk prog w).hash key))=way t.mask ((rk prog w).hash key) k->(∀ m<k,∃ (i:Nat) (e:List Int×Addr),t.place[i]?=↑(way t.mask ((rk prog w).hash key) m).j/\xs[i]?=↑e/\e.1≠key)->(∃ K,k<=K/\K<k+fuel/\K<10*(t.mask+15)/\(way t.mask ((rk prog w).hash key) K).j∉t.place.toList/\∀ m<K,(way t.mask ((rk prog w).hash key) m).j∈t.place.toList)->
   wpAny (model prog w) A (setSearchFrom a (.ref b) ((rk prog w).hash key) true fuel Gm) Q E s
 | 0,k,Gm,_,_,#[K,q1,q2,_]=>⋯
 | fuel+1,k,Gm,AZ,HP,#[K,q1,q2,q3,q4,q5]=>by
  have T:=X.tab;have Eu:t.gaveWay=false:=by
   unfold SetTable.gaveWay;rcases T.mask with e | e | e <;> rw[e] <;> rfl
  unfold setSearchFrom;exact IE (JJ ho hd X.fits ?_);dsimp only;rw[Eu];simp![A4,if_false];have hA:∀ (i:Nat) g,(xs.map λ e=>(rk prog w).hash e.1)[i]?=↑g->((es[i]?).map (·.1)).getD 0=g:=λ i g hg=>by
   rw[AH] at hg;let#[e,e1,e2]:=AE.mp hg;rw[X.at e1];show e2
  let#[k1,g1,g2,g3]:=cG T (hashAt:=λ i=>((es[i]?).map (·.1)).getD 0) hA ((rk prog w).hash key) (10*turns t.mask) k #[K,q1,by unfold turns;lia,q4];rw[AZ];have look:∀ (i:Nat) g,(xs.map λ e=>(rk prog w).hash e.1)[i]?=↑g->∃ e,xs[i]?=↑e/\(rk prog w).hash e.1=g:=λ i g hg=>by
   rw[AH] at hg;let#[e,e1,e2]:=AE.mp hg;show#[e,e1,e2]
  have F8:∀ m<k1,∃ (i:Nat) (e:List Int×Addr),t.place[i]?=↑(way t.mask ((rk prog w).hash key) m).j/\xs[i]?=↑e/\e.1≠key:=λ m hm=>by
   rcases Bc m k with c | c
   .show HP m c
   .let#[i,g,p1,p2,p3]:=g2 m c hm;let#[e,e1,e2]:=look i g p2;show#[i,e,p1,e1,λ q=>p3 (by rw[<- e2,q])]
  rcases g3 with ⟨n1,n2⟩ | ⟨i,n1,n2,n3⟩
  .have n2':t.probe _ ((rk prog w).hash key) (way t.mask ((rk prog w).hash key) k)=_:=n2;simp![SetTable.probe] at n2' ⊢
   erw [n2]
   dsimp only;exact Ad (h2 (λ hm=>?_) _ #[n1,k1,rfl,λ m hm=>?_])
   .let#[e,he,ek]:=Ao.mp hm;let#[i,hi]:=DZ.mp he;have hh:(xs.map λ e=>(rk prog w).hash e.1)[i]?=↑((rk prog w).hash key):=by rw[AH,hi,<- ek];rfl
    have hil:i<t.place.size:=by rw[T.len];show (AX.mp hh).1
    let#[kk,w1,w2]:=T.pE i _ _ hh (Bj hil);rcases Dz kk k1 with c | c | c
    .let#[i',e',p1,p2,p3]:=F8 kk c;rw[w1] at p1;have:i=i':=by
      rw[<- below_at T.wo (Bj hil),<- below_at T.wo p1]
     subst this;rw[hi] at p2;cases p2;show p3 ek
    .subst c;rw[w1] at n1;show n1 #[]
    .show n1 (w2 k1 c)
   .let#[i',e',p1,_]:=F8 m hm;show BG (by rw[BF];show p1)
  .simp![SetTable.probe]
   erw [n3]
   dsimp only;let#[e,e1,e2]:=look i _ n2;have DT:=X.at e1;have hey:=X.is e (BG e1);have main:wpAny (model prog w) A (holding [Value.ref e.2] (eqBool (.ref e.2) (.ref b)) >>= λ equal=>setState a >>= λ x=>match x with
     | (FC,_,t')=>if (true&&equal)=true then pure (SetFound.there none) else
      match t'.sameMemory t.moves t.mask with
      | some same=>
       have jp:=λ FL=>match FL with
        | none=>do
         rule "set.search.anew"
         setSearchFrom a (.ref b) ((rk prog w).hash key) true fuel none
        | some i'=>if equal=true then pure (SetFound.there ↑i') else setSearchFrom a (.ref b) ((rk prog w).hash key) true fuel ↑(way t.mask ((rk prog w).hash key) (k1+1))
       match if same=true then t'.slot (way t.mask ((rk prog w).hash key) k1).j else Slot.empty with
       | .live i'=>match FC[i']? with
        | some (_,y')=>do
         let r <- isSame y' (.ref e.2)
         let FL <- pure (if r=true then ↑i' else none)
         jp FL
        | none=>do
         let FL <- pure none
         jp FL
       | _=>do
        let FL <- pure none
        jp FL
      | _=>unsupported "set.changed-during-lookup:is-the-new-block-at-the-old-address") Q E s:=by
    exact IE (JI ((rk prog w).eqBool hu hey hb ?_));exact IE (JJ ho hd X.fits ?_);dsimp only;by_cases hk:e.1=key
    .rw[JF hk];simp![DD,if_true];show Ad (h1 (Ao.mpr #[e,BG e1,hk]))
    .rw[JE hk];simp![CK,A4,if_false];have sm:t.sameMemory t.moves t.mask=↑true:=by unfold SetTable.sameMemory;simp
     rw[sm];dsimp only;rw[if_pos rfl,T.live n1];dsimp only;rw[DT];dsimp only;exact IE (wpAny_isSame_ref_self ?_);exact IE (Ad ?_);rw[if_pos rfl];dsimp only;have hKk:k1<K:=by
      rcases Dz K k1 with c | c | c
      .let#[i',e',p1,_]:=F8 K c;show absurd (BG (by rw[BF];show p1)) q4
      .subst c;show absurd (BG (by rw[BF];show n1)) q4
      .show c
     exact fm hu ho hd X hb h1 h2 fuel (k1+1) _ rfl (λ m hm=>?_) #[K,⋯,⋯,q3,q4,q5];rcases Bc m k1 with c | c
     .show F8 m c
     .have:m=k1:=⋯;subst this;show#[i,e,n1,e1,hk]
   rw[DT];by_cases hl:t.led=true
   .rw[hl];simp![BS,A4,if_false];show main
   .have FW:t.led=false:=by exists hl
    rw[FW];simp![Ct,if_true];exact IE (Yp hb _ (λ v hv=>?_) ?_)
    .let#[p,hp,rfl]:=Ao.mp hv;rw[Array.toList_filter,Bb,X.es] at hp;let#[#[e',Jk,rfl],_]:=(And.intro (Ao.mp hp.1) hp.2)
     show#[e'.1,e'.2,rfl,X.is e' Jk]
    .simp![A4,if_false];show main
structure sN (prog:Program) (w:World) (h:Heap) (a:Addr) (xs:List (List Int×Addr)) (led:Bool):Prop where
 ex:∃ es ep t,h.get? a=↑{ cls:=.type "set",dict:=none,data:=.set es ep t }/\sU (prog:=prog) (w:=w) h es t xs/\t.led=led/\t.plain=true/\xs.length*5<t.mask*3
 nd:(xs.map (·.1)).Nodup
def kr {h h':Heap}{ks:List Int}{b a:Addr}{es:Array (Int×Value)}{ep:Nat}{t:SetTable}{c:Value}{d:Option Addr}{sl:Array (Option Value)}(x:IsTupleKey (intKind prog w) h ks b) (ho:h.get? a=↑{ cls:=c,dict:=d,data:=.set es ep t,slots:=sl }) (hs:Heap.SameBut a h h'):IsTupleKey (intKind prog w) h' ks b:=by
 let#[o',items,n,Fq,hc,F6,hi]:=x;have Aq:b≠a:=by
  rintro rfl;obtain rfl:o'=_:=A1 (Fq.symm.trans ho);cases F6
 show#[o',items,n,(hs.2 b Aq).trans Fq,hc,F6,hi]
theorem nS {h:Heap}{a:Addr}{es FC:Array (Int×Value)}{ep:Nat}{t t':SetTable}(ho:h.get? a=↑{ cls:=.type "set",dict:=none,data:=.set es ep t }):(h.update a (Obj.putSet FC t')).get? a=↑{ cls:=.type "set",dict:=none,data:=.set FC (ep+1) t' }:=by
 have e:Obj.putSet FC t' { cls:=.type "set",dict:=none,data:=.set es ep t }={ cls:=.type "set",dict:=none,data:=.set FC (ep+1) t' }:=putSet_of FC t' rfl;have:=JP (Obj.putSet FC t') ho (by rw[e];rfl);rw[e] at this;show this
theorem kS {α β:Type}(l:List α) (f:α->β) (d:β):∀ (order:List Nat),(∀ k∈order,k<l.length)->order.map (λ k=>(l.map f).getD k d)=(order.filterMap λ k=>l[k]?).map f
 | [],_=>rfl
 | k::order,h=>by
  have hk:=h k Ap;have ih:=kS l f d order λ j hj=>h j (Aw _ hj);rw[Av,Cq,AU hk];dsimp only;rw[Av,ih];congr 1;simp[hk]
def Xu {a:Addr}{es:Array (Int×Value)}{ep:Nat}{t:SetTable}{xs:List (List Int×Addr)}{led:Bool}{wanted M:Nat}{Q:Unit->Shared->Prop}
  (ho:s.heap.get? a=↑{ cls:=.type "set",dict:=none,data:=.set es ep t }) (X:sU (prog:=prog) (w:=w) s.heap es t xs) (BC:t.led=led) (Ar:t.plain=true) (hM:vo M) (hw:sizeAbove wanted=M+1) (AQ:xs.length*5<M*3) (B9:(xs.map (·.1)).Nodup)
  (h:∀ h' E6,Heap.SameBut a s.heap h'->sN prog w h' a E6 led->E6.Perm xs->Q Unit.unit { s with heap:=h' }):wpAny (model prog w) A (setRelay a wanted) Q E s:=by
 have hlen:es.size=xs.length:=by have:=congrArg List.length X.es;exists this
 have EE:(es.map (·.1)).toList=xs.map λ e=>(rk prog w).hash e.1:=by rw[Array.toList_map,X.es,A0];rfl
 have hsz:(es.map (·.1)).size=xs.length:=by rw[C5,hlen]
 let#[t',order,h1,h2,h3,h4,h5,h6,h7]:=dH hM t.finger (t.movedTo M) t.led t.plain (es.map (·.1)) (by rw[hsz];lia);rw[hsz] at h6;have Ay:∀ k∈order.toList,k<xs.length:=λ k hk=>by exists h6.mem_iff.mp hk
 unfold setRelay;exact IE (JJ ho rfl X.fits ?_);dsimp only;rw[if_neg (by rw[hw];rcases hM with e | e | e <;> rw[e] <;> decide)];have hr:t.relaid (es.map (·.1)) wanted=↑(t',order):=by
  unfold SetTable.relaid;rw[hw,Nat.add_sub_cancel];show h1
 rw[hr];have BK:(order.filterMap (es[·]?)).toList=(order.toList.filterMap λ k=>xs[k]?).map λ e=>((rk prog w).hash e.1,Value.ref e.2):=by
  rw[Array.toList_filterMap,List.map_filterMap];congr 1;funext k;rw[<- BF,X.es,AH]
 have E4:(order.toList.filterMap λ k=>xs[k]?).Perm xs:=(h6.filterMap _).trans (by rw[List.filterMap_getElem?_range_length]);have BJ:(order.filterMap (es[·]?)).size=es.size:=by
  rw[<- BB,BK,AA,E4.length_eq,hlen]
 exact IE (m:=_) ?_;change wpAny _ _ (do
  let ↑(t,order):=↑(t',order) | unsupported "internal:set-table-without-room"
  let FC:=order.filterMap (es[·]?)
  if FC.size != es.size then unsupported "internal:set-table-lost-an-element"
  pure (FC,t)) _ _ _
 dsimp only;rw[if_neg (by rw[BJ];simp)];exact Ad ?_;have Br:(order.filterMap (es[·]?)).size<=sizeLine:=by
  rw[BJ,hlen];have:sizeLine=16777216:=rfl;rcases hM with e | e | e <;> subst e <;> lia
 exact wpAny_storeSet_of ho rfl ?_ Br;have sb:=Heap.SameBut.update s.heap a (Obj.putSet (order.filterMap (es[·]?)) t');exact h _ _ sb #[#[_,ep+1,t',nS ho,#[BK,λ e he=>kr (X.is e (E4.mem_iff.mp he)) ho sb,?_,?_],by rw[h4];show BC,by rw[h5];show Ar,?_],(E4.map _).nodup_iff.mpr B9] E4
 .rw[<- kS xs (λ e=>(rk prog w).hash e.1) 0 order.toList Ay,<- EE];show h7
 .rw[E4.length_eq,h2];lia
 .rw[E4.length_eq,h2];show AQ
theorem fg (n:Nat) (M:Nat) (hM:vo M) (h1:n*5<M*3) (h2:M*3<=(n+1)*5) (hn:n<70):∃ M',vo M'/\sizeAbove (grown (n+1))=M' + 1/\(n+1)*5<M'*3:=by
 rcases hM with e | e | e <;> subst e
 .have:n=4:=⋯;subst this;show#[31,.inr (.inl rfl),AM,⋯]
 .have:n=18:=⋯;subst this;show#[127,.inr (.inr rfl),AM,⋯]
 .lia
def N5 {a:Addr}{xs:List (List Int×Addr)}{key:List Int}{b:Addr}{led:Bool}{Q:Bool->Shared->Prop}(hu:A.units<cLine) (S:sN prog w s.heap a xs led) (hb:IsTupleKey (intKind prog w) s.heap key b) (hn:xs.length<70)
  (h:∀ h' E6 r,Heap.SameBut a s.heap h'->sN prog w h' a E6 led->(key∈xs.map (·.1)/\E6=xs\/key∉xs.map (·.1)/\E6.Perm (xs++[(key,b)]))->Q r { s with heap:=h' }):
  wpAny (model prog w) A (setAddHashed a (.ref b) ((rk prog w).hash key)) Q E s:=by
 let#[#[es,ep,t,ho,X,BC,Ar,AQ],B9]:=S;have hlen:es.size=xs.length:=by have:=congrArg List.length X.es;exists this
 unfold setAddHashed setAddHashedIn;exact JI (IE (JJ ho rfl X.fits ?_));dsimp only;rw[if_neg (by simp[byScan,Value.scannable])];let#[K,k1,k2,k3]:=X.tab.first (by rw[AA];show X.pZ) ((rk prog w).hash key);have hmk:t.mask<=127:=by rcases X.tab.mask with e | e | e <;> lia
 exact IE ?_;unfold setSearch;exact fm (key:=key) (b:=b) hu ho rfl X hb (λ hm=>?_) (λ hm j F=>?_) 100000 0 none rfl (λ m hm=>⋯) #[K,⋯,⋯,k1,k2,k3]
 .dsimp only;exact Ad ?_;have:=h s.heap xs false #[rfl,λ _ _=>rfl] #[#[es,ep,t,ho,X,BC,Ar,AQ],B9] (.inl #[hm,rfl]);show this
 .dsimp only;exact IE (JJ ho rfl X.fits ?_);dsimp only;let#[p1,p2,p3]:=X.tab.put F;rw[AA] at p1;have Cv:(t.put j).1.plain=true:=by rw[p2];show Ar
  have B_:(t.put j).1.mask=t.mask:=by rw[p2]
  have Ay:(t.put j).1.led=led:=by rw[p2];show BC
  generalize hT:(t.put j)=P at *;let#[t1,p]:=P;dsimp only at *;rw[Cv];simp![if_true];exact IE (QF hb ?_);simp![if_true];let FX:=xs.take p++(key,b)::xs.drop p
  have E4:FX.Perm (xs++[(key,b)]):=by
   have e:xs.take p++xs.drop p=xs:=D2 p xs;have:FX.Perm ((key,b)::(xs.take p++xs.drop p)):=List.perm_middle;rw[e] at this;show this.trans (List.perm_append_singleton _ _).symm
  have Gg:FX.length=xs.length+1:=by rw[E4.length_eq];simp
  have GB:(insertAt es p ((rk prog w).hash key,Value.ref b)).toList=FX.map λ e=>((rk prog w).hash e.1,Value.ref e.2):=by
   rw[toList_insertAt,X.es];simp[FX,Dv,Du]
  have GK:(insertAt es p ((rk prog w).hash key,Value.ref b)).size=xs.length+1:=by rw[<- BB,GB,AA,Gg]
  have Br:(insertAt es p ((rk prog w).hash key,Value.ref b)).size<=sizeLine:=by
   rw[GK];have:sizeLine=16777216:=rfl;lia
  exact IE (wpAny_storeSet_of ho rfl ?_ Br);have sb:=Heap.SameBut.update s.heap a (Obj.putSet (insertAt es p ((rk prog w).hash key,Value.ref b)) t1);have Hr:=nS (FC:=insertAt es p ((rk prog w).hash key,Value.ref b)) (t':=t1) ho;have hm7:7<=t.mask:=by rcases X.tab.mask with e | e | e <;> lia
  have X1:sU (prog:=prog) (w:=w) (s.heap.update a (Obj.putSet (insertAt es p ((rk prog w).hash key,Value.ref b)) t1)) (insertAt es p ((rk prog w).hash key,Value.ref b)) t1 FX:=by
   exact#[GB,λ e he=>?_,?_,by rw[Gg,B_];lia]
   .rcases A2.mp (E4.mem_iff.mp he) with q | q
    .show kr (X.is e q) ho sb
    .cases AO.mp q;show kr hb ho sb
   .have:FX.map (λ e=>(rk prog w).hash e.1)=(xs.map λ e=>(rk prog w).hash e.1).take p++(rk prog w).hash key::(xs.map λ e=>(rk prog w).hash e.1).drop p:=by simp[FX,Dv,Du]
    rw[this];show p3
  have GO:(FX.map (·.1)).Nodup:=by
   exact (E4.map _).nodup_iff.mpr ?_;rw[Bz,CZ];exact#[B9,#[],λ x hx y hy=>?_];simp at hy;subst hy;show λ e=>hm (e▸hx)
  by_cases hf:t1.tooFull=true
  .rw[hf];simp![Ct,DD,if_true];have F5:t1.fill=xs.length+1:=by
    unfold SetTable.fill;rw[p3.sG,p3.len];simp;lia
   have FP:t.mask*3<=(xs.length+1)*5:=by
    have:=hf;unfold SetTable.tooFull at this;rw[F5,B_] at this;exists this
   let#[M',g1,g2,g3]:=fg xs.length t.mask X.tab.mask AQ FP hn;rw[hlen];exact IE (Xu (led:=led) Hr X1 Ay Cv g1 g2 (by rw[Gg];show g3) GO λ h' E6 sb' S' pm=>?_);exact Ad ?_;show h h' E6 true (sb.trans sb') S' (.inr #[hm,pm.trans E4])
  .have Gh:t1.tooFull=false:=by exists hf
   rw[Gh];simp![Ct,CK,A4,if_false];exact Ad ?_;have F5:t1.fill=xs.length+1:=by
    unfold SetTable.fill;rw[p3.sG,p3.len];simp;lia
   have FP:(xs.length+1)*5<t.mask*3:=by
    have:=Gh;unfold SetTable.tooFull at this;rw[F5,B_] at this;exists this
   show h _ FX true sb #[#[_,ep+1,t1,Hr,X1,Ay,Cv,by rw[Gg,B_];show FP],GO] (.inr #[hm,E4])
end
def tu (w:World):Bool:=!w.params.followText "set-order"
def wj (w:World):Obj:={ cls:=.type "set",dict:=none,data:=.set [].toArray 0 (.fresh 0 0 (tu w)) }
section
variable {prog:Program}{w:World}{A:Around}{E:Af}{s:Shared}
set_option maxHeartbeats 3200000 in
def O1 (a:Value) {Q:Af}(h:Q (.ref s.heap.objs.size) { s with heap:=s.heap.push (wj w) }):
  codeAny (model prog w) A (.call (.builtin "set.__new__") #[[.type "set",a],[]]) (wants Q E) s:=by
 exact codeAny_of_tree ?_;change wpAny _ A.in1 (checkBuiltinCall "set.__new__" #[[.type "set",a],[]] >>= λ _=>again (.builtin "set.__new__" #[[.type "set",a],[]])) _ _ s;exact IE (wpAny_of_eq (F.newCall_set_1 a) (Ad #[plainId_quiet F.plain_set_new _,codeAny_builtin F.entry_set_new ?_]));rw[Around.under_plainId F.plain_set_new _];unfold Builtin.«set.__new__» Builtin.Frozenset.newClass newSet setsByText;have sub:=sub_set_self;let#[hp,g,d,tk,os]:=s;dsimp only
 wp_walk
 exact JW (Ad ?_);dsimp only;simp![newObj];show IE (wpAny_alloc (Ad (Ad h)))
def Xi {h:Heap}{a:Addr}(ho:h.get? a=↑(wj w)):sN prog w h a [] (tu w):=
 #[#[[].toArray,0,_,ho,#[rfl,λ e he=>(by cases he),#[.inl rfl,rfl,rfl,.nil,λ j hj=>(by cases hj),λ i g j hg=>(by cases hg)],#[]],rfl,rfl,by change 0*5<7*3;lia],.nil]
end
end ST
namespace ST
open PySem PySem.SetTable PyProof.Rows
section
variable {κ β:Type}[DecidableEq κ]{val:κ->β->Value}{Aa:Ax}{ks:List κ}{i:Nat}{xs E6:List (κ × β)}
structure Up (val:κ->β->Value) (Aa:Ax) (ks:List κ) (i:Nat) (xs:List (κ × β)):Prop where
 own:∀ e∈xs,∃ j,j<i/\Aa[j]?=↑(val e.1 e.2)/\ks[j]?=↑e.1
 all:∀ (j:Nat) r,j<i->ks[j]?=↑r->r∈xs.map (·.1)
theorem jg:∀ (l m:List κ),l.Nodup->(∀ x∈l,x∈m)->l.length<=m.length
 | [],m,_,_=>AR _
 | x::l,m,hn,hs=>by
  have h1:=Bn.mp hn;have hx:=hs x Ap;have:=jg l (m.erase x) h1.2 λ z hz=>(List.mem_erase_of_ne (λ e:z=x=>h1.1 (by rw[<- e];show hz))).mpr (hs z (Aw _ hz));rw[List.length_erase_of_mem hx] at this;have:=DA hx;simp![A5];lia
def Up.len (U:Up val Aa ks i xs) (nd:(xs.map (·.1)).Nodup):xs.length<=i:=by
 have:=jg (xs.map λ e=>↑e.1) ((List.range i).map λ j=>ks[j]?) (by
  have:(xs.map λ e=>↑e.1)=(xs.map (·.1)).map some:=by rw[A0];rfl
  rw[this];show List.Pairwise.map _ (λ a b h e=>h (A1 e)) nd) λ x hx=>by
  let#[e,he,rfl]:=Ao.mp hx;let#[j,h1,_,h3]:=U.own e he;show Ao.mpr #[j,AD.mpr h1,h3]
 exists this
def Up.step {key:κ}{b:β}(U:Up val Aa ks i xs) (hi:Aa[i]?=↑(val key b)) (hr:ks[i]?=↑key)
  (h:key∈xs.map (·.1)/\E6=xs\/key∉xs.map (·.1)/\E6.Perm (xs++[(key,b)])):Up val Aa ks (i+1) E6:=by
 have eqi:∀ j:Nat,j<i+1->¬ j<i->j=i:=λ j a b=>⋯;rcases h with ⟨hm,rfl⟩ | ⟨_,hp⟩
 .exact#[λ e he=>?_,λ j r hj Cu=>?_]
  .let#[j,h1,h2]:=U.own e he;show#[j,Ci h1,h2]
  .by_cases q:j<i
   .show U.all j r q Cu
   .rw[eqi j hj q,hr] at Cu;cases Cu;show hm
 .exact#[λ e he=>?_,λ j r hj Cu=>?_]
  .rcases A2.mp (hp.mem_iff.mp he) with q | q
   .let#[j,h1,h2]:=U.own e q;show#[j,Ci h1,h2]
   .cases AO.mp q;show#[i,Cs i,hi,hr]
  .rw[(hp.map (·.1)).mem_iff,Bz];by_cases q:j<i
   .show Cp _ (U.all j r q Cu)
   .rw[eqi j hj q,hr] at Cu;cases Cu;show A6 _ Ap
structure Kd (prog:Program) (w:World) (A:Around) (val:κ->β->Value) (Aa:Ax) (ks:List κ) (Sa:Addr) (wr:List Addr) (Se:Heap->List (κ × β)->Prop) (Tp:Heap->Prop):Prop where
 nd:∀ {h xs},Se h xs->(xs.map (·.1)).Nodup
 keep:∀ {h h' xs i},(∀ b o,b∉wr->h.get? b=↑o->h'.get? b=↑o)->Up val Aa ks i xs->Se h xs->Se h' xs
 m7:∀ {h h'},(∀ b o,b∉Sa::wr->h.get? b=↑o->h'.get? b=↑o)->Tp h->Tp h'
 add:∀ {s:Shared}{xs:List (κ × β)}{i:Nat}{v:Value}{Q:Bool->Shared->Prop}{E:Af},Tp s.heap->Se s.heap xs->xs.length<70->Aa[i]?=↑v->
  (∀ h' tk E6 rr k b,v=val k b->ks[i]?=↑k->Heap.SameBut Sa s.heap h'->s.toks<=tk->Se h' E6->(k∈xs.map (·.1)/\E6=xs\/k∉xs.map (·.1)/\E6.Perm (xs++[(k,b)]))->Q rr { s with heap:=h',toks:=tk })->
  wpAny (model prog w) A (setAdd Sa v) Q E s
variable {prog:Program}{w:World}{A:Around}{R:Result->Shared->Prop}{I:Addr}{fp wr:List Addr}{G:Array GenState->Array GenState->Prop}{n:Nat}{P:Nat->Value->Prop}{St:Nat->Shared->Prop}{Sa:Addr}{Se:Heap->List (κ × β)->Prop}{Tp:Heap->Prop}
def dk (W:WalksS prog w A.in1 I fp wr G n (λ i v=>P i v) St) (D:Kd prog w A.in1 val Aa ks Sa wr Se Tp) (hSf:Sa∉fp) (hP:∀ i v,P i v->Aa[i]?=↑v) (hn:n<70):
  ∀ (k i:Nat) (s:Shared) (xs:List (κ × β)),n-i=k->i<=n->St i s->Se s.heap xs->Tp s.heap->Up val Aa ks i xs->
   (∀ s' E6,Moved (Sa::wr) G s s'->Se s'.heap E6->Up val Aa ks n E6->R (.ok (.ret .none)) s')->
   codeAny (model prog w) A (.builtin "set.update.loop" #[[.ref Sa,.ref I],[]]) R s:=by
 have more:∀ b∈wr,b∈Sa::wr:=λ b hb=>Aw _ hb;intro k
 induction k with
 | zero=>
  intro i s xs hk hi AZ hS hT hU hR;have e:i=n:=⋯;subst e;exact codeAny_builtin F.entry_set_update_loop ?_;rw[Around.under_plainId F.plain_set_update_loop _];change wpAny _ A.in1 (pyNext (.ref I) >>= _) _ _ s;show IE (W.done s _ _ AZ λ s' hm=>Ad (hR s' xs (hm.mono more) (D.keep hm.heap hU hS) hU))
 | succ k ih=>
  intro i s xs hk hi AZ hS hT hU hR;have Ay:i<n:=⋯;exact codeAny_builtin F.entry_set_update_loop ?_;rw[Around.under_plainId F.plain_set_update_loop _];change wpAny _ A.in1 (pyNext (.ref I) >>= _) _ _ s;exact IE (W.item i s _ _ Ay AZ λ v s1 hPv Jd hm=>?_);have hv:=hP i v hPv;have T1:=D.m7 (λ b o hb e=>hm.heap b o (λ z=>hb (more _ z)) e) hT;have hl:xs.length<70:=by have:=hU.len (D.nd hS);lia
  change wpAny _ A.in1 (holding [v] (setAdd Sa v) >>= _) _ _ s1;exact IE (JI (D.add T1 (D.keep hm.heap hU hS) hl hv λ h' tk E6 rr key b ev hr sb ht S' hx=>?_));subst ev;have fr:=W.frame (i+1) s1 h' tk Jd ht λ c hc o e=>(sb.2 c (λ z:c=Sa=>hSf (z▸hc))).trans e;exact Ad #[plainId_quiet F.plain_set_update_loop _,ih (i+1) _ E6 ⋯ Ay fr S' (D.m7 (λ c o hc e=>(sb.2 c (λ z=>hc (z▸Ap))).trans e) T1) (hU.step hv hr hx) λ s2 IA GY S2 U2=>?_];exact hR s2 IA (Moved.trans W.gtrans ((hm.mono more).then_heap ht λ c o hc e=>?_) GY) S2 U2;show (sb.2 c (λ z=>hc (z▸Ap))).trans e
end
section
variable {prog:Program}{w:World}{A:Around}{Aa:Ax}{rows:List (List Int)}{Sa:Addr}{wr:List Addr}
def qX (prog:Program) (w:World) (h:Heap) (Aa:Ax) (rows:List (List Int)):Prop:=∀ (i:Nat) v,Aa[i]?=↑v->∃ b r,v=.ref b/\rows[i]?=↑r/\IsTupleKey (intKind prog w) h r b
def qX.at {h h':Heap}(T:qX prog w h Aa rows) (k:∀ (i:Nat) b,Aa[i]?=↑(.ref b)->∀ o,h.get? b=↑o->h'.get? b=↑o):qX prog w h' Aa rows:=λ i v hv=>by
 let#[b,r,rfl,h1,o,items,m,h2,h3]:=T i v hv;show#[b,r,rfl,h1,o,items,m,k i b hv o h2,h3]
abbrev gB:List Int->Addr->Value:=λ _ b=>.ref b
def Qn {led:Bool}(Jm:Sa∉wr) (hu:A.units<cLine) (Df:∀ (i:Nat) b,Aa[i]?=↑(.ref b)->b∉Sa::wr):Kd prog w A gB Aa rows Sa wr (λ h xs=>sN prog w h Sa xs led) (λ h=>qX prog w h Aa rows) where
 nd:=λ S=>S.nd
 keep:=λ{h h' xs i} k U S=>by
  let#[#[es,ep,t,ho,X,r],nd]:=S;exact#[#[es,ep,t,k Sa _ Jm ho,#[X.es,λ e he=>?_,X.tab,X.pZ],r],nd];let#[o,items,m,g1,g2]:=X.is e he;let#[j,_,h2,_]:=U.own e he;show#[o,items,m,k _ _ (λ z=>Df j e.2 h2 (Aw _ z)) g1,g2]
 m7:=λ k T=>T.at λ i b hi o e=>k b o (Df i b hi) e
 add:=λ{s xs i v Q E} T S hl hv hQ=>by
  let#[b,r,rfl,hr,hb]:=T i v hv;unfold setAdd;exact JI (IE ((rk prog w).pyHash (k:=r) (a:=b) (A:=A) hu hb ?_));show N5 (s:={ s with toks:=s.toks+(rk prog w).draws r }) (A:=A) hu S hb hl λ h' E6 rr sb S' hx=>hQ h' _ E6 rr r b rfl hr sb (CH _ _) S' hx
end
section
variable {prog:Program}{w:World}{A:Around}{E:Af}{s:Shared}
set_option maxHeartbeats 6400000 in
def bX {κ β:Type} [DecidableEq κ] {val:κ->β->Value}{ks:List κ}{Se:Heap->List (κ × β)->Prop}{Tp:Heap->Prop}{l:Addr}{Aa:Ax}{Q:Af}(hh:A.handled=none) (hl:s.heap.IsList l Aa\/s.heap.IsTuple l Aa) (hn:Aa.size<70)
  (D:Kd prog w A.in1.in1.in1 val Aa ks s.heap.objs.size [s.heap.objs.size+1] Se Tp) (hS0:∀ h,h.get? s.heap.objs.size=↑(wj w)->Se h []) (hT0:∀ h,(∀ b o,s.heap.get? b=↑o->h.get? b=↑o)->Tp h)
  (h:∀ (h':Heap) (tk:Nat) xs,Se h' xs->Up val Aa ks Aa.size xs->(∀ b o,b<s.heap.objs.size->s.heap.get? b=↑o->h'.get? b=↑o)->Q (.ref s.heap.objs.size) { s with heap:=h',toks:=tk }):
  wpAny (model prog w) A (call (.type "set") [.ref l]) Q E s:=by
 let#[c,tl,hmro]:=F.called_set.mro;have made:=F.called_set.made;have subm:=F.called_set.sub;exact wpAny_call (codeAny_of_tree ?_);change wpAny _ _ (callAny (.type "set") _) _ _ _;exact Ad #[Code.quiet_builtin _ (AM),codeAny_builtin F.entry_type_call ?_];rw[Around.under_plain (weight_type_call_type "set" [.ref l] []) rfl];have nt:=F.called_set.notType;have cc:=F.called_set.canCreate;have tc:=F.typeCall_set_1 (.ref l)
 repeat (any_goals (first | assumption | wp_step))
 exact codeAny_mono (O1 (.ref l) (E:=E) (Q:=λ obj s₁=>obj=.ref s.heap.objs.size/\s₁={ s with heap:=s.heap.push (wj w) }) #[rfl,rfl]) λ r s₁ hr=>?_;cases r with
 | error e=>show hr
 | ok fl=>
  cases fl with
  | ret obj=>
   let#[rfl,rfl]:=hr;have hS:(s.heap.push (wj w)).get? s.heap.objs.size=↑(wj w):=AJ _ rfl;have hTy:Shared.TypeIs { s with heap:=s.heap.push (wj w) } (.ref s.heap.objs.size) "set":=#[_,hS,rfl];have li:=F.called_set.init.lookup;have bi:=F.called_set.init.bind (.ref s.heap.objs.size)
   repeat (any_goals (first | assumption | wp_step))
   let s1:Shared:={ s with heap:=s.heap.push (wj w) }
   exact codeAny_mono (codeAny_call_builtin (R:=wants (λ r s₂=>r=.none/\∃ h' tk xs,s₂={ s with heap:=h',toks:=tk }/\Se h' xs/\Up val Aa ks Aa.size xs/\
     ∀ b o,b<s.heap.objs.size->s.heap.get? b=↑o->h'.get? b=↑o) E) F.called_set.init.plain F.entry_set_init (check_set_init_1 hTy ?_)) λ r₂ s₂ Je=>?_
   .have hsz:(s.heap.push (wj w)).objs.size=s.heap.objs.size+1:=Heap.size_push _ _;have IH:s.heap.objs.size≠(s.heap.push (wj w)).objs.size:=by rw[hsz];show AF (Cs _)
    have low:∀ b:Addr,b<s.heap.objs.size->b≠(s.heap.push (wj w)).objs.size:=λ b hb=>by rw[hsz];show AF (Ci hb)
    rw[<- hsz] at D;rcases hl with hl | hl
    all_goals
     let#[#[ocls,odict,odata,IP],hol,Cz,nl,Dn]:=id hl;simp only at Cz Dn;subst Cz Dn;have hol1:=JD (wj w) hol;have sls:=F.sub_list_set;have slf:=F.sub_list_frozenset;have sts:=F.sub_tuple_set;have stf:=F.sub_tuple_frozenset;have nd:(Value.type "list" == Value.type "dict")=false:=()
     have nd':(Value.type "tuple" == Value.type "dict")=false:=()
     have hlS:l<s.heap.objs.size:=Au hol;have HQ:l≠(s.heap.push (wj w)).objs.size:=low l hlS;have Gg:=hl.push (wj w);unfold Builtin.«set.__init__» noKeywords Builtin.Frozenset.updateFrom;generalize hPI:pyIter=PI;unfold wj at *
     wp_walk
     subst hPI
     first | exact JX Gg (IE (wpAny_runValue ?_)) | exact wpAny_pyIter_tuple Gg (IE (wpAny_runValue ?_))
     first
      | exact dk (A:=A.in1.in1) (P:=λ i v=>Aa[i]?=↑v) ((Walks.list (A:=A.in1.in1.in1) (by simp[hh]) _ l HQ Aa).toS) D ?_ (λ _ _ q=>q) hn Aa.size 0 _ [] ⋯ (AR _) #[#[_,AJ _ rfl,rfl,rfl],Gg.push _] ?_ ?_ #[λ e he=>(by cases he),λ j r hj=>⋯] ?_
      | exact dk (A:=A.in1.in1) (P:=λ i v=>Aa[i]?=↑v) ((Walks.tuple (A:=A.in1.in1.in1) (by simp[hh]) _ l HQ Aa).toS) D ?_ (λ _ _ q=>q) hn Aa.size 0 _ [] ⋯ (AR _) #[#[_,AJ _ rfl,rfl,rfl],Gg.push _] ?_ ?_ #[λ e he=>(by cases he),λ j r hj=>⋯] ?_
     .intro hm;rcases Ah.mp hm with q | q
      .show IH q
      .show BH hlS (AO.mp q)
     .show hS0 _ (JD _ hS)
     .show hT0 _ λ b o e=>JD _ (JD _ e)
     .intro s' E6 hm S' U';let#[h',g',d',IG,HF]:=s';obtain rfl:g'=s.gens:=hm.gens;obtain rfl:d'=s.drawn:=hm.drawn;obtain rfl:HF=s.os:=hm.os;exact Ad (Ad #[rfl,h',IG,E6,rfl,S',U',λ b o hb e=>?_]);exact hm.heap b o (λ q=>?_) (JD _ (JD _ e));rcases Ah.mp q with q | q
      .show AF hb q
      .show low b hb (AO.mp q)
   .cases r₂ with
    | error e=>show Je
    | ok fl₂=>
     cases fl₂ with
     | ret r=>
      let#[rfl,h',tk,xs,rfl,g1,g2,g3]:=Je
      repeat (any_goals (first | assumption | wp_step))
      show h h' tk xs g1 g2 g3
     | _=>show Je.elim
  | _=>show hr.elim
def OK {l:Addr}{Aa:Ax}{rows:List (List Int)}{Q:Af}(hh:A.handled=none) (hu:A.units+64<cLine) (hl:s.heap.IsList l Aa\/s.heap.IsTuple l Aa) (hT:qX prog w s.heap Aa rows) (hn:Aa.size<70)
  (h:∀ (h':Heap) (tk:Nat) xs,sN prog w h' s.heap.objs.size xs (tu w)->Up gB Aa rows Aa.size xs->(∀ b o,b<s.heap.objs.size->s.heap.get? b=↑o->h'.get? b=↑o)->Q (.ref s.heap.objs.size) { s with heap:=h',toks:=tk }):
  wpAny (model prog w) A (call (.type "set") [.ref l]) Q E s:=by
 exact bX hh hl hn (Qn #[] (show A.units+1+1+1<cLine by lia) λ i b hb hm=>?_) (λ h e=>Xi e) (λ h k=>hT.at λ i b _ o e=>k b o e) h;let#[b',r,e,_,o,_,_,ho,_]:=hT i _ hb;cases e;have:=Au ho;rcases Ah.mp hm with q | q
 .show AF this q
 .show AF (Ci this) (AO.mp q)
end
end ST
namespace ST
open PySem PySem.SetTable
section facts
def fY:Manifest.owners.lookup (String.ofList ['r','o','t','a','r','e','t','i','_','t','e','s'].reverse)=↑Manifest.sig_set_iterator:=by kernel_rfl
def ql:Slot "set_iterator" "__next__" "set_iterator.__next__":=
 .of (owner:="set_iterator") (n:="__next__") (by rw[typeLookup_type,builtinLookup_eq_fast];kernel_rfl) (AM) (AM) (AM) (by first | show .inl (AM) | show .inr (AM)) (by rw[isSubtype_type];kernel_rfl)
def cZ:entryFor table "set_iterator.__next__"=↑Builtin.«set_iterator.__next__»:=entryFor_of_tree (by kernel_rfl)
theorem ax (a:Value):argsOk "set_iterator.__next__" #[[a],[]]:=by
 unfold argsOk;rw[signature?_of (id:="set_iterator.__next__") (n:=['_','_','t','x','e','n','_','_']) (o:=['r','o','t','a','r','e','t','i','_','t','e','s']) (by kernel_rfl) fY]
 kernel_rfl
def PM:entryFor table "set.__iter__"=↑Builtin.«frozenset.__iter__»:=entryFor_alias (id':="frozenset.__iter__") (by kernel_rfl) rfl (AM) (by kernel_rfl)
def g_:Slot "set_iterator" "__iter__" "set_iterator.__iter__":=
 .of (owner:="set_iterator") (n:="__iter__") (by rw[typeLookup_type,builtinLookup_eq_fast];kernel_rfl) (AM) (AM) (AM) (by first | show .inl (AM) | show .inr (AM)) (by rw[isSubtype_type];kernel_rfl)
def PL:entryFor table "set_iterator.__iter__"=↑Builtin.«dict_keyiterator.__iter__»:=entryFor_alias (id':="dict_keyiterator.__iter__") (by kernel_rfl) rfl (AM) (by kernel_rfl)
theorem Nv (a:Value):argsOk "set_iterator.__iter__" #[[a],[]]:=by
 unfold argsOk;rw[signature?_of (id:="set_iterator.__iter__") (n:=['_','_','r','e','t','i','_','_']) (o:=['r','o','t','a','r','e','t','i','_','t','e','s']) (by kernel_rfl) fY]
 kernel_rfl
end facts
theorem cW {α:Type}:∀ (l:List α) (i:Nat) (x:α),l[i]?=↑x->l.Perm (x::l.eraseIdx i)
 | [],i,x,h=>by simp at h
 | y::l,0,x,h=>by simp at h;subst h;simp
 | y::l,i+1,x,h=>by
  have ih:=cW l i x (by exists h);rw[List.eraseIdx_cons_succ];show (ih.cons y).trans (.swap x y _)
theorem fQ {α:Type}(next:Nat->Nat):∀ (f k:Nat) (left:List α) (out:Array α),left.length=f->(pickOrder.go next f k left out).toList.Perm (out.toList++left)
 | 0,k,left,out,h=>by
  cases left with
  | nil=>unfold pickOrder.go;simp
  | cons _ _=>simp at h
 | f+1,k,left,out,h=>by
  unfold pickOrder.go;have Ay:next k%left.length<left.length:=C2 _ ⋯;rw[AU Ay];dsimp only;exact (fQ next f (k+1) _ _ (by rw[List.length_eraseIdx_of_lt Ay];lia)).trans ?_;rw[Array.toList_push,CM];show (cW left _ _ (AU Ay)).symm.append_left _
theorem XZ {α:Type}(next:Nat->Nat) (xs:Array α):(pickOrder next xs).toList.Perm xs.toList:=by
 unfold pickOrder;exists fQ next xs.size 0 xs.toList [].toArray #[]
def comes (w:World) (a:Addr) (es:Array (Int×Value)) (ep:Nat):Array (Int×Value):=if w.params.followText "set-order"=true then pickOrder (w.params.setOrder a ep) es else es
def o9 (w:World) (a:Addr) (es:Array (Int×Value)) (ep:Nat):(comes w a es ep).toList.Perm es.toList:=by
 unfold comes;split
 .show XZ _ _
 .show .refl _
def sk (a:Addr) (slot i n ep:Nat):Obj:={ cls:=.type "set_iterator",data:=.fields [rawInt slot,rawInt i,.ref a,rawInt n,rawInt ep].toArray }
def slotAt (t:SetTable):Nat->Nat
 | 0=>0
 | i+1=>t.place.getD i 0+1
theorem Nm {t:SetTable}(hr:uz t.place.toList):∀ i,i<=t.place.size->below t.place (slotAt t i)=i
 | 0,_=>by
  let#[h1,h2,h3]:=lu (xs:=t.place) (j:=0) hr;rcases Nat.eq_zero_or_pos (below t.place 0) with q | q
  .show q
  .have:=h2 0 ⋯ q;lia
 | i+1,hi=>by
  have hd:t.place.getD i 0=t.place[i]:=jO ⋯;change below t.place (t.place.getD i 0+1)=i+1;rw[hd];let#[h1,h2,h3]:=lu (xs:=t.place) (j:=t.place[i] + 1) hr;have wo:∀ a b (ha:a<t.place.size) (hb:b<t.place.size),a<b->t.place[a]<t.place[b]:=λ a b ha hb BV=>by
   have r:=C3.mp hr a b (by exists ha) (by exists hb) BV;rw[Ck,Ck] at r;show r
  rcases Dz (below t.place (t.place[i] + 1)) (i+1) with q | q | q
  .have:=h3 i ⋯ ⋯;lia
  .show q
  .have a:=h2 (i+1) ⋯ q;have b:=wo i (i+1) ⋯ ⋯ ⋯;lia
structure w9 (w:World) (h:Heap) (a:Addr) (es:Array (Int×Value)) (ep:Nat) (t:SetTable):Prop where
 get:h.get? a=↑{ cls:=.type "set",dict:=none,data:=.set es ep t }
 fits:t.fits es.size=true
 wo:uz t.place.toList
 led:t.led=tu w
 plain:t.plain=true
theorem w9.size {w:World}{h:Heap}{a:Addr}{es:Array (Int×Value)}{ep:Nat}{t:SetTable}(S:w9 w h a es ep t):t.place.size=es.size:=by
 have:=S.fits;simp![SetTable.fits,Cr,beq_iff_eq] at this;show this.1
section
variable {prog:Program}{w:World}{A:Around}{E:Af}{s:Shared}
def eQ {a:Addr}{es:Array (Int×Value)}{ep:Nat}{t:SetTable}{i:Nat}{Q:Option (Value×Nat)->Shared->Prop}(S:w9 w s.heap a es ep t) (hi:i<=es.size) (slot:Nat) (hs:w.params.followText "set-order"=false->slot=slotAt t i)
  (h:∀ Fj,(w.params.followText "set-order"=false->Fj=slotAt t (i+1))->Q ((comes w a es ep)[i]?.map λ e=>(e.2,Fj)) s):wpAny (model prog w) A (setNext a slot i ep) Q E s:=by
 unfold setNext setsByText;exact IE (JJ S.get rfl S.fits ?_);dsimp only;exact IE (IE (JW (Ad ?_)));change wpAny _ A (if w.params.followText "set-order"=true then _ else _) Q E s;cases hb:w.params.followText "set-order" with
 | true=>
  rw[if_pos rfl,if_neg #[]];unfold setWalk setsByText;exact IE (IE (JJ S.get rfl S.fits ?_));dsimp only;exact IE (IE (JW (Ad ?_)));change wpAny _ A (if w.params.followText "set-order"=true then _ else _) _ E s;rw[if_pos hb];exact IE (JW (Ad ?_));exact Ad ?_;have:=h slot (λ q=>by rw[hb] at q;cases q);unfold comes at this;rw[if_pos hb] at this;show this
 | false=>
  rw[if_neg #[]];split
  .rename_i hd;have F6:(!t.plain&&decide (es.size>1))=true:=hd;rw[S.plain] at F6;simp at F6
  .change wpAny _ A ((if (!t.led&&!es.isEmpty)=true then unsupported "set:maker-not-led" else pure Unit.unit) >>= _) Q E s;have hl:t.led=true:=by rw[S.led];unfold tu;rw[hb];rfl
   rw[if_neg (by rw[hl];simp)];exact IE (Ad (Ad ?_));have Br:=hs hb;have hz:=S.size;rw[Br,Nm S.wo i (by rw[hz];show hi)];have:=h (slotAt t (i+1)) (λ _=>rfl);unfold comes at this;rw[if_neg (by rw[hb];simp)] at this;rcases Bc i es.size with q | q
   .have hp:i<t.place.size:=by rw[hz];show q
    rw[Bj q] at this;rw[Bj q,Bj hp];have e:slotAt t (i+1)=t.place[i] + 1:=by change t.place.getD i 0+1=_;rw[jO hp]
    rw[e] at this;show this
   .rw[CI q] at this;rw[CI q];show this
def r9 {a I:Addr}{slot i n ep:Nat}(ho:s.heap.get? I=↑(sk a slot i n ep)):s.TypeIs (.ref I) "set_iterator":=#[_,ho,rfl]
def gK (k:Nat):((k:Int)).toNat=k:=CG k
def Xg {I a:Addr}{es:Array (Int×Value)}{ep:Nat}{t:SetTable}{i slot:Nat}{e:Int×Value}{Q:Option Value->Shared->Prop}(ho:s.heap.get? I=↑(sk a slot i es.size ep)) (S:w9 w s.heap a es ep t) (hs:w.params.followText "set-order"=false->slot=slotAt t i) (he:(comes w a es ep)[i]?=↑e)
  (hi:i<es.size) (h:∀ h' Fj,(w.params.followText "set-order"=false->Fj=slotAt t (i+1))->h'.get? I=↑(sk a Fj (i+1) es.size ep)->Heap.SameBut I s.heap h'->Q ↑e.2 { s with heap:=h' }):wpAny (model prog w) A (pyNext (.ref I)) Q E s:=by
 unfold pyNext;exact IE (wpAny_attempt (JO (name:=Str.ofString "__next__") (r9 ho) ql (JK ql (r9 ho) cZ ?_ (ax _))));exact IE (Ad ?_);dsimp only;exact IE (wpAny_fieldsOf ho rfl ?_);dsimp only[rawInt];exact IE (IE (JJ S.get rfl S.fits (Ad ?_)));rw[if_neg #[]];exact IE (eQ S ⋯ slot hs λ Fj FY=>?_);rw[gK] at FY ⊢;rw[he];dsimp only[Option.map_some];exact IE (JV ho rfl #[] ?_);have o1:=JP (Obj.mapFields (·.set! 0 (Value.int (Fj:Int) 0))) ho rfl;exact IE (JV o1 rfl #[] ?_);have o2:=JP (Obj.mapFields (·.set! 1 (Value.int ((i:Int)+1) 0))) o1 rfl;exact Ad #[_,rfl,Ad (h _ Fj FY o2 ((Heap.SameBut.update ..).trans (Heap.SameBut.update ..)))]
def Xh {I a:Addr}{es:Array (Int×Value)}{ep:Nat}{t:SetTable}{slot:Nat}{Q:Option Value->Shared->Prop}(hh:A.handled=none) (ho:s.heap.get? I=↑(sk a slot es.size es.size ep)) (S:w9 w s.heap a es ep t) (hs:w.params.followText "set-order"=false->slot=slotAt t es.size)
  (h:∀ h',Heap.ExtBut I s.heap h'->Q none { s with heap:=h' }):wpAny (model prog w) A (pyNext (.ref I)) Q E s:=by
 have hn:(comes w a es ep)[es.size]?=none:=by
  have:=(o9 w a es ep).length_eq;simp![BB] at this;rw[CI ⋯]
 unfold pyNext;exact IE (wpAny_attempt (JO (name:=Str.ofString "__next__") (r9 ho) ql (JK ql (r9 ho) cZ ?_ (ax _))));exact IE (Ad ?_);dsimp only;exact IE (wpAny_fieldsOf ho rfl ?_);dsimp only[rawInt];exact IE (IE (JJ S.get rfl S.fits (Ad ?_)));rw[if_neg #[]];exact IE (eQ S #[] slot (by exists hs) λ Fj FY=>?_);rw[gK,hn];dsimp only[Option.map_none];exact IE (JV ho rfl #[] ?_);exact IE ?_;simp![newExc,newTuple];exact IE (JM ?_ (by size_fits));exact IE (m:=firstArgMember _ _) (wpAny_of_eq (a:=Value.none) (by first | rfl | (simp![firstArgMember];rfl)) (JM ?_ (by size_fits)));unfold raiseNew;exact IE (wpAny_handled ?_);rw[show A.in1.handled=none from hh];exact IE ((Ad (wpAny_throw ?_)));exact IE ((JT (T:="StopIteration") (b:=true) #[_,AJ _ rfl,rfl] isSubtype_stop ?_));show Ad (h _ (((Heap.SameBut.update ..).extBut.push _).push _))
def Xf {I a:Addr}{slot i n ep:Nat}{Q:Af}(ho:s.heap.get? I=↑(sk a slot i n ep)) (h:Q (.ref I) s):wpAny (model prog w) A (pyIter (.ref I)) Q E s:=by
 exact wpAny_pyIter_slot (r9 ho) g_ (JK g_ (r9 ho) PL ?_ (Nv _));show Ad #[_,rfl,"set_iterator",_,r9 ho,ql.lookup,h]
def w9.keep {h h':Heap}{a:Addr}{es:Array (Int×Value)}{ep:Nat}{t:SetTable}(S:w9 w h a es ep t) (k:∀ o,h.get? a=↑o->h'.get? a=↑o):w9 w h' a es ep t:=#[k _ S.get,S.fits,S.wo,S.led,S.plain]
def Yk (hh:A.handled=none) (I a:Addr) (Aq:a≠I) (es:Array (Int×Value)) (ep:Nat) (t:SetTable):
  Walks prog w A I [I,a] [I] es.size (λ i v=>∃ e,(comes w a es ep)[i]?=↑e/\v=e.2) (λ i h=>(∃ slot,(w.params.followText "set-order"=false->slot=slotAt t i)/\h.get? I=↑(sk a slot i es.size ep))/\w9 w h a es ep t) where
 sub:=λ b hb=>by simp at hb;simp[hb]
 frame:=λ _ _ _ st k=>by
  let#[#[slot,h1,h2],S]:=st;show#[#[slot,h1,k I #[] _ h2],S.keep λ o e=>k a #[] o e]
 item:=λ i s Q E hi st hQ=>by
  let#[#[slot,h1,h2],S]:=st;have hl:i<(comes w a es ep).size:=by
   have:=(o9 w a es ep).length_eq;simp![BB] at this;lia
  exact Xg h2 S h1 (Bj hl) hi λ h' Fj g1 g2 g3=>?_;show hQ _ h' s.toks #[_,Bj hl,rfl] #[#[Fj,g1,g2],S.keep λ o e=>(g3.2 a Aq).trans e] λ b o hb e=>(g3.2 b (λ z=>hb (by simp[z]))).trans e
 done:=λ s Q E st hQ=>by
  let#[#[slot,h1,h2],S]:=st;show Xh hh h2 S h1 λ h' g=>hQ h' s.toks λ b o hb e=>g b o (λ z=>hb (by simp[z])) e
 self:=λ _ _ _ _ st hQ=>by
  let#[#[slot,h1,h2],S]:=st;show Xf h2 hQ
def RJ:typeLookup (.type "set") "__len__"=pure ↑(.builtin "set.__len__"):=F.slot_set_len.lookup
def split_len:splitId "set.__len__"=↑("set","__len__"):=by decide +kernel
def Ro {a:Addr}{es:Array (Int×Value)}{ep:Nat}{t:SetTable}{Q:Bool->Shared->Prop}(S:w9 w s.heap a es ep t) (h:Q false s):wpAny (model prog w) A (setDrawn a) Q E s:=by
 unfold setDrawn setsByText;exact IE (JJ S.get rfl S.fits ?_);dsimp only;exact IE (IE (JW (Ad (Ad ?_))));change Q (!w.params.followText "set-order"&&(!t.plain&&decide (es.size>1))) s;rw[S.plain];exists h
set_option maxHeartbeats 4000000 in
theorem Rr {a:Addr}{es:Array (Int×Value)}{ep:Nat}{t:SetTable}{Q:Bool->Shared->Prop}(S:w9 w s.heap a es ep t) (h:Q false s):wpAny (model prog w) A (Builtin.List.listLengthHint (.ref a)) Q E s:=by
 have Ty:s.TypeIs (.ref a) "set":=#[_,S.get,rfl];unfold Builtin.List.listLengthHint;exact IE (JU Ty RJ ?_);dsimp only;rw[split_len];dsimp only;exact IE (JT (b:=true) Ty sub_set_self ?_);rw[if_neg ()];rw[if_pos (AM)];exact IE (wpAny_typeOf Ty ?_);show Ad h
set_option maxHeartbeats 4000000 in
def Oz {a:Addr}{es:Array (Int×Value)}{ep:Nat}{t:SetTable}{Q:List Value->Shared->Prop}(hh:A.handled=none) (S:w9 w s.heap a es ep t) (hn:es.size<=sizeLine)
  (h:∀ (h':Heap) (tk:Nat),(∀ b o,b<s.heap.objs.size->s.heap.get? b=↑o->h'.get? b=↑o)->s.heap.objs.size<=h'.objs.size->Q ((comes w a es ep).toList.map (·.2)) { s with heap:=h',toks:=tk }):wpAny (model prog w) A (collect (.ref a)) Q E s:=by
 have ha:a<s.heap.objs.size:=Au S.get;unfold collect;exact IE (wpAny_runValue (codeAny_builtin F.entry_proto_collect ?_));rw[Around.under_plainId F.plain_proto_collect _];change wpAny _ A.in1 (newList [] >>= λ l=>again (.builtin "list.__iadd__" #[[l,.ref a],[]])) _ _ s;exact IE (JM (Ad #[plainId_quiet F.plain_list_iadd _,codeAny_builtin F.entry_list_iadd ?_]));rw[Around.under_plainId F.plain_list_iadd _];let L0:Obj:={ cls:=.type "list",data:=.seq ([]:Ae).toArray }
 have S1:w9 w (s.heap.push L0) a es ep t:=S.keep λ o e=>JD _ e;have T1:Shared.TypeIs { s with heap:=s.heap.push L0 } (.ref a) "set":=#[_,S1.get,rfl];change wpAny _ A.in1 (Builtin.List.listExtendWith (.ref s.heap.objs.size) (.ref a) (.ref s.heap.objs.size)) _ _ { s with heap:=s.heap.push L0 };unfold Builtin.List.listExtendWith;exact IE (wpAny_typeOf T1 ?_);have Aq:s.heap.objs.size≠a:=BH ha;have c1:Builtin.List.listSameRef (.ref s.heap.objs.size) (.ref a)=false:=by simp[Builtin.List.listSameRef,Aq]
 rw[if_neg (by rw[c1];decide)];exact IE (wpAny_pyIter_slot T1 F.slot_set_iter (JK F.slot_set_iter T1 PM ?_ (F.args_set_iter_1 _)));exact IE (IE (Ad (Ad ?_)));exact IE (IE (IE (JJ S1.get rfl S1.fits (Ad (Ad ?_)))));exact IE (Ro S1 ?_);rw[if_neg ()];exact IE (Ad ?_);exact IE (wpAny_setEpoch_of S1.get rfl S1.fits ?_);exact IE (JM (Ad #[_,rfl,"set_iterator",_,#[_,AJ _ rfl,rfl],ql.lookup,?_]));let I:=(s.heap.push L0).objs.size
 let h2:=(s.heap.push L0).push (sk a 0 0 es.size ep)
 have S2:w9 w h2 a es ep t:=S1.keep λ o e=>JD _ e;have hI:h2.get? I=↑(sk a 0 0 es.size ep):=AJ _ rfl;have hL:h2.get? s.heap.objs.size=↑L0:=JD _ (AJ _ rfl);have hsz:(s.heap.push L0).objs.size=s.heap.objs.size+1:=Heap.size_push _ _;change wpAny _ A.in1 _ _ _ { s with heap:=h2 };exact IE (JI (Rr (s:={ s with heap:=h2 }) S2 ?_));rw[if_pos (AM)];exact IE (wpAny_rule ?_);exact IE ?_;change wpAny _ A.in1 (updateSeq s.heap.objs.size (·.push .none) >>= λ _=>updateSeq s.heap.objs.size (·.pop)) _ _ { s with heap:=h2 };exact IE (wpAny_updateSeq hL rfl ?_);have hL2:=JP (Obj.mapSeq (·.push Value.none)) hL rfl;exact wpAny_updateSeq hL2 rfl ?_;have hL3:=JP (Obj.mapSeq (·.pop)) hL2 rfl;let h3:=(h2.update s.heap.objs.size (Obj.mapSeq (·.push Value.none))).update s.heap.objs.size (Obj.mapSeq (·.pop))
 have IM:∀ b o,b≠s.heap.objs.size->h2.get? b=↑o->h3.get? b=↑o:=λ b o hb e=>(JZ _ _ (Ne.symm hb)).trans ((JZ _ _ (Ne.symm hb)).trans e);have haI:a≠I:=by change a≠(s.heap.push L0).objs.size;rw[hsz];show AF (Ci ha)
 have hIn:I≠s.heap.objs.size:=by change (s.heap.push L0).objs.size≠_;rw[hsz];show BH (Cs _)
 exact Ad #[plainId_quiet F.plain_extend_loop _,codeAny_extend_loopS ((Yk (A:=A.in1) hh I a haI es ep t).toS) hn s.heap.objs.size ?_ _ es.size 0 { s with heap:=h3 } [].toArray _ rfl (AR _) #[#[0,λ _=>rfl,IM I _ hIn hI],S2.keep λ o e=>IM a o (Ne.symm Aq) e] hL3 (ItemsOf.nil _) λ s' acc c' hm hS' AV=>?_]
 .intro hm;rcases Ah.mp hm with q | q
  .show hIn q.symm
  .show Aq (AO.mp q)
 .exact IE (wpAny_load hS' (Ad ?_));let#[h',g',d',IG,HF]:=s';obtain rfl:g'=s.gens:=hm.gens;obtain rfl:d'=s.drawn:=hm.drawn;obtain rfl:HF=s.os:=hm.os;have hcm:(comes w a es ep).size=es.size:=by
   have:=(o9 w a es ep).length_eq;exists this
  have e:acc.toList=(comes w a es ep).toList.map (·.2):=by
   exact List.ext_getElem? λ j=>?_;rw[AH];rcases Bc j es.size with q | q
   .have Dj:j<acc.size:=by rw[AV.1];show q
    have hj:acc[j]?=↑acc[j]:=Bj Dj;let#[e,e1,e2]:=AV.2 j _ hj;rw[BF,BF,hj,e1,e2];rfl
   .rw[BF,BF,CI (by rw[AV.1];show q),CI (by rw[hcm];show q)];rfl
  rw[e];exact h h' IG (λ b o hb e=>hm.heap b o (λ q=>?_) (IM b o (AF hb) (JD _ (JD _ e)))) ?_
  .rcases Ah.mp q with q | q
   .show AF hb q
   .have q':b=(s.heap.push L0).objs.size:=AO.mp q;rw[hsz] at q';show AF (Ci hb) q'
  .show Bo (Au hS')
end
end ST
namespace ST
open PySem PySem.SetTable PyProof.Rows L4
section
variable {prog:Program}{w:World}{A:Around}{E:Af}{s:Shared}
def bJ {a:Addr}{es:Array (Int×Value)}{ep:Nat}{t:SetTable}(hh:A.handled=none) (S:w9 w s.heap a es ep t) (hz:es.size<=sizeLine) (Q':List Value->Shared->Prop)
  (h:∀ h1 tk,(∀ b o,¬ False->s.heap.get? b=↑o->h1.get? b=↑o)->s.heap.objs.size<=h1.objs.size->Q' ((comes w a es ep).toList.map (·.2)) { s with heap:=h1,toks:=tk }):wpAny (model prog w) A (collect (.ref a)) Q' E s:=
 Oz hh S hz λ h1 tk k1 k2=>h h1 tk (λ b o _ q=>k1 b o (Au q) q) k2
end
end ST
namespace ST
open PySem PySem.SetTable PySem.Spec PyProof.Rows L2
def yJ (w:World) (a:Addr) (us:Ae):Heap->Prop:=λ h=>∃ es ep t,w9 w h a es ep t/\es.toList.map (·.2)=us
def yJ.uY {w:World}{a:Addr}{us:Ae}{h1 h2:Heap}(S:yJ w a us h1) (k:∀ o,h1.get? a=↑o->h2.get? a=↑o):yJ w a us h2:=by
 let#[es,ep,t,S,e]:=S;show#[es,ep,t,S.keep k,e]
def sN.at {prog:Program}{w:World}{h:Heap}{a:Addr}{xs:List (List Int×Addr)}(S:sN prog w h a xs (tu w)):yJ w a (xs.map λ e=>Value.ref e.2) h:=by
 let#[#[es,ep,t,ho,X,h1,h2,h3],_]:=S;show#[es,ep,t,#[ho,X.fits,X.tab.wo,h1,h2],by rw[X.es,A0];rfl]
section
variable {X:Cx}
theorem dS:∀ {ns:List Int}{us:Ae},Vals (ns.map V.int) us->∀ {prog:Program}{w:World},ItemsAre (intKind prog w) ns us
 | [],_,.nil,_,_=>.nil
 | n::ns,_,.cons r t,prog,w=>by
  let#[tk,rfl]:=r;show .cons (intKind_is _ _ _ _) (dS t)
def OH (hc:X.calm=true) (hu:X.A.units+64<cLine):y9 X (.type "set") (λ xs H Q=>∃ p ys,∃ rows:List (List Int),xs=[.ref p]/\(zC X.K H p ys\/zN X.K H p ys)/\L4.sO X.K H ys rows/\rows.length<64/\
  ∀ (l:Addr) (us:Ae) (ps:List (V×List Int)),H l=none->Vals (ps.map (·.1)) us->(∀ q∈ps,q∈ys.zip rows)->(ps.map (·.2)).Nodup->(∀ r∈rows,r∈ps.map (·.2))->Q (.ref l) (upd H l (.ext (yJ X.w l us)))):=by
 intro EN s B H xs us Q I r h;let#[p,ys,rows,rfl,hq,hr,FZ,q]:=h;let#[u,rfl,ru]:=vals1 r;cases ru;obtain⟨Aa,rv,pl,hz⟩:∃ Aa,Vals ys Aa/\(s.heap.IsList p Aa.toArray\/s.heap.IsTuple p Aa.toArray)/\True:=by
  rcases hq with hq | hq
  .let#[Aa,rv,pl,_]:=I.list hq;show#[Aa,rv,.inl pl.isList,trivial]
  .let#[Aa,rv,pl,_]:=I.tuple hq;show#[Aa,rv,.inr pl,trivial]
 have hl:=rv.length;have Dh:ys.length=rows.length:=Paired.length hr;have uA:qX X.prog X.w s.heap Aa.toArray rows:=λ i v hv=>by
  have HM:Aa[i]?=↑v:=by exists hv
  have hi:i<Aa.length:=(AX.mp HM).1;let#[Aq,b,hb,Ej]:=L4.Paired.at' hr (i:=i) ⋯ V.zp ([]:List Int);have hy:ys[i]?=↑(V.ref b):=by
   rw[AU ⋯];have:ys.getD i V.zp=ys[i]'⋯:=by simp[show i<ys.length by lia]
   rw[this] at hb;rw[hb]
  let#[v',e1,e2]:=rv.get hy;rw[HM] at e1;cases e1;cases (show v=Value.ref b from e2);let#[Fm,Hc,#[o,e,Cz,n,hd],_]:=I.tuple Ej;exact#[b,rows.getD i [],rfl,?_,o,Fm.toArray,n,e,Cz,hd,by exists dS Hc];simp[show i<rows.length by lia]
 have hh:X.A.handled=none:=I.ok.hd hc;exact OK (A:=X.A) hh hu pl uA (by rw[AB];lia) λ h' tk xs S U k=>?_;have kk:∀ b o,s.heap.get? b=↑o->h'.get? b=↑o:=λ b o e=>k b o (Au e) e;have Bs:H s.heap.objs.size=none:=I.zu.fresh (Aj _);have Hw:=S.at;have vals:Vals ((xs.map λ e=>(V.ref e.2,e.1)).map (·.1)) (xs.map λ e=>Value.ref e.2):=by
  clear S U Hw
  induction xs with
  | nil=>show .nil
  | cons e xs ih=>show .cons rfl ih
 have snd:(xs.map λ e=>(V.ref e.2,e.1)).map (·.2)=xs.map (·.1):=by rw[A0];rfl
 exact#[.ref s.heap.objs.size,_,I.laid (t':=tk) (o:=.ext (yJ X.w s.heap.objs.size (xs.map λ e=>Value.ref e.2))) kk (Aj _) ?_,rfl,q _ _ (xs.map λ e=>(V.ref e.2,e.1)) Bs vals (λ x hx=>?_) (by rw[snd];show S.nd) λ r GN=>?_]
 .let#[es,ep,t,St,e]:=id Hw;show#[Hw,#[_,St.get],λ h1 h2 S1 k=>S1.uY k]
 .let#[e,he,rfl]:=Ao.mp hx;let#[j,j1,j2,j3]:=U.own e he;have Gv:Aa[j]?=↑(Value.ref e.2):=by exists j2
  have Dj:j<ys.length:=by rw[hl];show (AX.mp Gv).1
  let#[v',e2,e3]:=rv.get (AU Dj);rw[Gv] at e2;cases e2;let#[Aq,b,hb,_]:=L4.Paired.at' hr (i:=j) ⋯ V.zp ([]:List Int);have:ys.getD j V.zp=ys[j]:=by simp[Dj]
  rw[this] at hb;rw[hb] at e3;cases (show Value.ref e.2=Value.ref b from e3);exact BG (i:=j) ?_;rw[List.getElem?_zip_eq_some];show#[by rw[AU Dj,hb],j3]
 .rw[snd];let#[j,hj]:=DZ.mp GN;show U.all j r (by have:=(AX.mp hj).1;rw[AB];lia) hj
theorem Paired.mk {α β:Type}{F:α->β->Prop}:∀ {l:List α}{m:List β},l.length=m.length->(∀ (i:Nat) a b,l[i]?=↑a->m[i]?=↑b->F a b)->Paired F l m
 | [],[],_,_=>.nil
 | a::l,b::m,h,f=>.cons (f 0 a b rfl rfl) (Paired.mk (by exists h) λ i x y hx hy=>f (i+1) x y (by exists hx) (by exists hy))
 | [],_::_,h,_=>by simp at h
 | _::_,[],h,_=>by simp at h
theorem OG (hc:X.calm=true):y9 X (.builtin "sorted") (λ xs H Q=>∃ l us vs,∃ rs:List (List Int),xs=[.ref l]/\H l=↑(.ext (yJ X.w l us))/\Vals vs us/\L4.sO X.K H vs rs/\rs.length<64/\L4.oI (vs.zip rs) H Q):=by
 intro EN s B H xs us0 Q I r h;let#[l,us,vs,rs,rfl,hl,hv,hr,FZ,q]:=h;let#[u,rfl,ru]:=vals1 r;cases ru;obtain⟨⟨es,ep,t,S,eu⟩,-,-⟩:=(show yL X.prog X.w H s.heap l (.ext (yJ X.w l us)) from I.zu l _ hl)
 have hp:((comes X.w l es ep).toList.map (·.2)).Perm us:=by rw[<- eu];show (o9 X.w l es ep).map _
 let#[qs,q1,q2]:=L4.Paired.perm hp (L4.VR.of hv hr);have hzl:(vs.zip rs).length<64:=by rw[List.length_zip];lia
 have DT:es.size<=sizeLine:=by
  have h1:us.length=(vs.zip rs).length:=Paired.length (L4.VR.of hv hr);have h2:=congrArg List.length eu;rw[AA,BB] at h2;have:sizeLine=16777216:=rfl;lia
 show L4.kA I (λ Q' h=>bJ (by show I.ok.hd hc) S DT Q' h) q2 (by rw[q1.length_eq];show hzl) λ p ps hf hp hs=>q p ps hf (hp.trans q1) hs
end
end ST
namespace L5
open PySem PySem.Spec L2 L3
open PyProof.Rows hiding St
def xP:List (List Int)->List (List Int)
 | []=>[]
 | r::rs=>if r∈xP rs then xP rs else r::xP rs
theorem qw {r:List Int}:∀ {rs:List (List Int)},r∈xP rs↔r∈rs
 | []=>.rfl
 | x::rs=>by
  unfold xP;split
  .rename_i h;rw[qw,Ah];show#[.inr,λ h'=>h'.elim (λ e=>e▸qw.mp h) id]
  .rw[Ah,Ah,qw]
theorem jf:∀ rs:List (List Int),(xP rs).Nodup
 | []=>.nil
 | x::rs=>by
  unfold xP;split
  .show jf rs
  .rename_i h;show Bn.mpr #[h,jf rs]
theorem ma:∀ rs:List (List Int),(xP rs).length<=rs.length
 | []=>Aj _
 | x::rs=>by
  unfold xP;have:=ma rs;split <;> simp![A5] <;> lia
def vU:xf:=λ ds S Q=>match ds with
 | [d]=>∃ rows:List (List Int),zH d S=↑(rows.map va)/\rows.length<64/\(∀ r∈rows,r≠[])/\∀ l,S l=none->Q (.ref l) (ups S l (.lst ((L4.xn (xP rows)).map va)))
 | _=>False
def p7:An
 | [.lst ts]=>(w_ ts).bind λ rs=>if rs.length<64/\∀ r∈rs,r≠[] then ↑(.lst ((L4.xn (xP rs)).map yd)) else none
 | [.tup ts]=>(w_ ts).bind λ rs=>if rs.length<64/\∀ r∈rs,r≠[] then ↑(.lst ((L4.xn (xP rs)).map yd)) else none
 | _=>none
def cC:wX zA p7 vU:=λ S Z ys z ds Q hz hv e hq=>by
 have key:∀ y ts,ys=[y]->xv y=↑ts->((w_ ts).bind λ rs=>if rs.length<64/\∀ r∈rs,r≠[] then ↑(.lst ((L4.xn (xP rs)).map yd)) else none)=↑z->vU ds S Q:=λ y ts ey et e'=>by
  subst ey;let#[d,rfl,h1]:=wC hv;let#[rs,e1,e2]:=Ak.mp e';split at e2
  .rename_i hc;cases e2;cases kG e1;let#[es,h2,h3]:=h1.seq et;cases qj.mp h3;show#[rs,h2,hc.1,hc.2,λ l hl=>hq _ _ (.new hl _) (tZ hz hl (qj.mpr rfl))]
  .cases e2
 unfold p7 at e;split at e
 .show key _ _ rfl rfl e
 .show key _ _ rfl rfl e
 .cases e
section
variable {K:Ac}{e:Expr}{p:Pos}
def vU.mo:wV vU:=λ ds S Q Q' hq h=>by
 unfold vU at h ⊢;split at h
 .let#[rows,h1,h2,h3,h4]:=h;show#[rows,h1,h2,h3,λ l hl=>hq _ _ (h4 l hl)]
 .show h.elim
def vU.fits {w:World}:vI K vU (λ xs H Q=>∃ p ys,∃ rows:List (List Int),xs=[.ref p]/\(zC K H p ys\/zN K H p ys)/\L4.sO K H ys rows/\rows.length<64/\
  ∀ (l:Addr) (us:Ae) (ps:List (V×List Int)),H l=none->Vals (ps.map (·.1)) us->(∀ q∈ps,q∈ys.zip rows)->(ps.map (·.2)).Nodup->(∀ r∈rows,r∈ps.map (·.2))->
   ∃ l' GZ ID,∃ IK:List (List Int),[V.ref l]=[.ref l']/\(upd H l (.ext (ST.yJ w l us))) l'=↑(.ext (ST.yJ w l' GZ))/\Vals ID GZ/\L4.sO K (upd H l (.ext (ST.yJ w l us))) ID IK/\IK.length<64/\L4.oI (ID.zip IK) (upd H l (.ext (ST.yJ w l us))) Q):=λ xs ds H S Q h0 h2 h=>by
 unfold vU at h;split at h
 .rename_i d;let#[x,hx,h1]:=h0.one;subst hx;let#[rows,e,FZ,Aq,h]:=h;obtain⟨a,ys,rfl,g1,g2⟩:∃ a xs,x=.ref a/\(zC K H a xs\/zN K H a xs)/\zk K H (rows.map va) xs:=by
   by_cases hn:∃ ts,d=.tup ts
   .let#[ts,rfl]:=hn;cases e;simp![ze] at h1;let#[a,xs,q1,q2,q3]:=h1;show#[a,xs,q1,.inr q2,q3]
   .let#[a,ys,q1,q2,q3]:=sZ h1 h2 e (λ ts z=>hn #[ts,z]);show#[a,ys,q1,.inl q2,q3]
  exact#[a,ys,rows,rfl,g1,nN g2 Aq,FZ,λ l us ps hf hv sub nd all=>?_];have mem:∀ r,r∈ps.map (·.2)↔r∈rows:=λ r=>#[λ h=>by
   let#[q,hq,rfl]:=Ao.mp h;show (DP (sub q hq)).2,all r]
  have x1:Ext H (upd H l (.ext (ST.yJ w l us))):=.new hf _;have g3:zk K H ((ps.map (·.2)).map va) (ps.map (·.1)):=zk.nU λ q hq=>zk.nk g2 q (sub q hq);have De:(ps.map (·.2)).Perm (xP rows):=(D0 nd (jf rows)).mpr λ r=>by rw[mem,qw]
  have D_:(ps.map (·.1)).zip (ps.map (·.2))=ps:=by rw[List.zip_map',List.map_id''];intro a;rfl
  exact#[l,us,ps.map (·.1),ps.map (·.2),rfl,y6,hv,nN (zk.ext x1 _ g3) λ r hr=>Aq r ((mem r).mp hr),by rw[De.length_eq];have:=ma rows;lia,λ p qs hp hi hs=>?_];rw[D_] at hi;have heq:=L4.gS ((hi.map (·.2)).trans De) hs;have Ar:p≠l:=λ z=>by subst z;rw[y6] at hp;cases hp
  have Jg:H p=none:=by rw[zW Ar] at hp;show hp
  have x2:Ext (upd H l (.ext (ST.yJ w l us))) (upd (upd H l (.ext (ST.yJ w l us))) p (.lst (qs.map (·.1)))):=.new hp _;have r1:zF K (upd H l (.ext (ST.yJ w l us))) S:=h2.new hf;exact h p (h2.none Jg) _ _ (by simp![ze]) (x1.trans x2) (r1.ups x2 #[_,y6,?_]);rw[<- heq];show zk.ext (x1.trans x2) _ (zk.nU λ q hq=>zk.nk g2 q (sub q (hi.mem_iff.mp hq)))
 .show h.elim
end
end L5
namespace ST
open PySem PySem.SetTable PyProof.Rows
theorem cH {t:SetTable}{hs:List Int}(T:Tab t hs) (h:Int):∀ (f k K:Nat),k<=K->K<k+f->(way t.mask h K).j∉t.place.toList->(∀ m<K,(way t.mask h m).j∈t.place.toList)->probe.go t (λ _=>h+1) h f (way t.mask h k)=↑(.empty (way t.mask h K).j none)
 | 0,k,K,h1,h2,_,_=>⋯
 | f+1,k,K,h1,h2,h3,h4=>by
  by_cases e:k=K
  .subst e;unfold probe.go;rw[T.empty h3,ki]
  .let#[i,g,p1,_]:=T.at (h4 k ⋯);have ih:=cH T h f (k+1) K ⋯ ⋯ h3 h4
   conv=>lhs;unfold probe.go
   rw[T.live p1];dsimp only;rw[if_neg (by intro q;have:=eq_of_beq q;lia),iO];show ih
theorem Pg {t:SetTable}{hs:List Int}(T:Tab t hs) (hl:hs.length<=t.mask) (h:Int):∃ j,t.freeSlot h=↑(j,false)/\iX t h j:=by
 let#[K,k1,k2,k3]:=T.first hl h;exact#[(way t.mask h K).j,?_,#[k2,K,rfl,k3]];have g:=cH T h (10*turns t.mask) 0 K (AR _) (by unfold turns;lia) k2 k3;unfold SetTable.freeSlot;have e:t.probe (λ _=>h+1) h (t.probeStart h)=↑(.empty (way t.mask h K).j none):=g;rw[e];rfl
structure rQ (prog:Program) (w:World) (h:Heap) (a:Addr) (xs:List (Int×Tok)) (led:Bool):Prop where
 ex:∃ es ep t,h.get? a=↑{ cls:=.type "set",dict:=none,data:=.set es ep t }/\es.toList=xs.map (λ e=>((intKind prog w).hash e.1,Value.int e.1 e.2))/\Tab t (xs.map λ e=>(intKind prog w).hash e.1)/\t.led=led/\t.plain=true/\xs.length*5<t.mask*3
 nd:(xs.map (·.1)).Nodup
section
variable {prog:Program}{w:World}{A:Around}{E:Af}{s:Shared}
def fits_of {es:Array (Int×Value)}{t:SetTable}{hs:List Int}{n:Nat}(h1:es.size=n) (T:Tab t hs) (h2:hs.length=n) (h3:n<=t.mask):t.fits es.size=true:=by
 have l:=T.len;unfold SetTable.fits SetTable.fill;rw[T.sG,h1,l,h2];simp;lia
def pT {n m:Int}{t:Tok}:(intKind prog w).is n (.int m t)=true↔n=m:=by
 constructor
 .intro h;let#[t',e]:=Value.isInt_shape (show Value.isInt n (.int m t)=true from h);cases e;rfl
 .rintro rfl;show intKind_is _ _ _ _
def PN {es:Array (Int×Value)}{xs:List (Int×Tok)}(h:es.toList=xs.map (λ e=>((intKind prog w).hash e.1,Value.int e.1 e.2))):ElemsOf (intKind prog w) es.toList:=λ e he=>by
 rw[h] at he;let#[x,_,rfl]:=Ao.mp he;show#[#[x.1,pT.mpr rfl,rfl],rfl]
def Xv {es:Array (Int×Value)}{t:SetTable}{xs:List (Int×Tok)}{M wanted:Nat}(he:es.toList=xs.map (λ e=>((intKind prog w).hash e.1,Value.int e.1 e.2))) (hM:vo M) (hw:sizeAbove wanted=M+1) (AQ:xs.length*5<M*3):
  ∃ FC t',∃ E6:List (Int×Tok),relayAll t es wanted=(FC,t',false)/\FC.toList=E6.map (λ e=>((intKind prog w).hash e.1,Value.int e.1 e.2))/\E6.Perm xs/\Tab t' (E6.map λ e=>(intKind prog w).hash e.1)/\t'.mask=M/\t'.led=t.led/\t'.plain=t.plain/\FC.size=es.size:=by
 have hlen:es.size=xs.length:=by have:=congrArg List.length he;exists this
 have EE:(es.map (·.1)).toList=xs.map λ e=>(intKind prog w).hash e.1:=by rw[Array.toList_map,he,A0];rfl
 have hsz:(es.map (·.1)).size=xs.length:=by rw[C5,hlen]
 let#[t',order,h1,h2,h3,h4,h5,h6,h7]:=dH hM t.finger (t.movedTo M) t.led t.plain (es.map (·.1)) (by rw[hsz];lia);rw[hsz] at h6;have Ay:∀ k∈order.toList,k<xs.length:=λ k hk=>by exists h6.mem_iff.mp hk
 have hr:t.relaid (es.map (·.1)) wanted=↑(t',order):=by
  unfold SetTable.relaid;rw[hw,Nat.add_sub_cancel];show h1
 have BK:(order.filterMap (es[·]?)).toList=(order.toList.filterMap λ k=>xs[k]?).map λ e=>((intKind prog w).hash e.1,Value.int e.1 e.2):=by
  rw[Array.toList_filterMap,List.map_filterMap];congr 1;funext k;rw[<- BF,he,AH]
 have E4:(order.toList.filterMap λ k=>xs[k]?).Perm xs:=(h6.filterMap _).trans (by rw[List.filterMap_getElem?_range_length]);have BJ:(order.filterMap (es[·]?)).size=es.size:=by
  rw[<- BB,BK,AA,E4.length_eq,hlen]
 have hT:Tab t' ((order.toList.filterMap λ k=>xs[k]?).map λ e=>(intKind prog w).hash e.1):=by
  rw[<- kS xs (λ e=>(intKind prog w).hash e.1) 0 order.toList Ay,<- EE];show h7
 exact#[_,t',_,?_,BK,E4,hT,h2,h4,h5,BJ];have zv:coversAll order es.size=true:=by
  unfold coversAll;rw[List.isPerm_iff,hlen];show h6
 have fit:t'.fits (order.filterMap (es[·]?)).size=true:=fits_of (n:=xs.length) (by rw[BJ,hlen]) hT (by rw[AA,E4.length_eq]) (by rw[h2];lia);unfold relayAll;rw[hr];dsimp only;rw[zv,fit];rfl
def add_int {a:Addr}{xs:List (Int×Tok)}{n:Int}{tk:Tok}{led:Bool}{Q:Bool->Shared->Prop}(S:rQ prog w s.heap a xs led) (hn:xs.length<70)
  (h:∀ h' E6 r,Heap.SameBut a s.heap h'->rQ prog w h' a E6 led->(n∈xs.map (·.1)/\E6=xs\/n∉xs.map (·.1)/\E6.Perm (xs++[(n,tk)]))->Q r { s with heap:=h' }):
  wpAny (model prog w) A (setAddHashed a (.int n tk) ((intKind prog w).hash n)) Q E s:=by
 have S0:=S;let#[#[es,ep,t,ho,he,T,BC,Ar,AQ],B9]:=S;have hlen:es.size=xs.length:=by have:=congrArg List.length he;exists this
 have hm7:7<=t.mask/\t.mask<=127:=by rcases T.mask with e | e | e <;> lia
 have fit:t.fits es.size=true:=fits_of (n:=xs.length) hlen T #[] ⋯;have hel:=PN (prog:=prog) (w:=w) he;unfold setAddHashed setAddHashedIn;exact JI (IE (JJ ho rfl fit ?_));dsimp only;have bs:byScan (.int n tk) es=true:=by
  have h1:decide (es.size<scanBound)=true:=JF (by unfold scanBound;lia);have h2:es.all (·.2.scannable)=true:=by
   rw[Array.all_eq_true_iff_forall_mem];intro e hm;show (hel e (by exists hm)).2
  unfold byScan;rw[h1,h2];rfl
 rw[if_pos bs];exact IE ?_;unfold setAddByScan;exact IE (wpAny_rule (IE (wpAny_setScan_of (k:=n) (pT.mpr rfl) ho rfl fit hel ?_)));have G6:(es.toList.findIdx? (λ e=>(intKind prog w).is n e.2)).isSome=true↔n∈xs.map (·.1):=by
  rw[he,List.findIdx?_isSome,AY];constructor
  .rintro⟨e,hm,q⟩;let#[x,hx,rfl]:=Ao.mp hm;show Ao.mpr #[x,hx,(pT.mp q).symm]
  .intro hm;let#[x,hx,rfl]:=Ao.mp hm;show#[_,Ao.mpr #[x,hx,rfl],pT.mpr rfl]
 cases hc:es.toList.findIdx? (λ e=>(intKind prog w).is n e.2) with
 | some j=>
  dsimp only;have hm:=G6.mp (by rw[hc];rfl);exact Ad ?_;dsimp only;show Ad (h s.heap xs false #[rfl,λ _ _=>rfl] S0 (.inl #[hm,rfl]))
 | none=>
  dsimp only;have hm:n∉xs.map (·.1):=λ q=>by have:=G6.mpr q;rw[hc] at this;cases this
  let#[j,fs,F]:=Pg T (by rw[AA];lia) ((intKind prog w).hash n);let#[p1,p2,p3]:=T.put F;rw[AA] at p1;have Cv:(t.put j).1.plain=true:=by rw[p2];show Ar
  have B_:(t.put j).1.mask=t.mask:=by rw[p2]
  have Ay:(t.put j).1.led=led:=by rw[p2];show BC
  generalize hT:(t.put j)=P at *;let#[t1,p]:=P;dsimp only at *;let FX:=xs.take p++(n,tk)::xs.drop p
  have E4:FX.Perm (xs++[(n,tk)]):=by
   have e:xs.take p++xs.drop p=xs:=D2 p xs;have:FX.Perm ((n,tk)::(xs.take p++xs.drop p)):=List.perm_middle;rw[e] at this;show this.trans (List.perm_append_singleton _ _).symm
  have Gg:FX.length=xs.length+1:=by rw[E4.length_eq];simp
  have GB:(insertAt es p ((intKind prog w).hash n,Value.int n tk)).toList=FX.map λ e=>((intKind prog w).hash e.1,Value.int e.1 e.2):=by
   rw[toList_insertAt,he];simp[FX,Dv,Du]
  have GK:(insertAt es p ((intKind prog w).hash n,Value.int n tk)).size=xs.length+1:=by rw[<- BB,GB,AA,Gg]
  have T1:Tab t1 (FX.map λ e=>(intKind prog w).hash e.1):=by
   have:FX.map (λ e=>(intKind prog w).hash e.1)=(xs.map λ e=>(intKind prog w).hash e.1).take p++(intKind prog w).hash n::(xs.map λ e=>(intKind prog w).hash e.1).drop p:=by simp[FX,Dv,Du]
   rw[this];show p3
  have Ju:t1.fits (insertAt es p ((intKind prog w).hash n,Value.int n tk)).size=true:=fits_of (n:=xs.length+1) GK T1 (by rw[AA,Gg]) (by rw[B_];lia);have Di:layNew t es ((intKind prog w).hash n) (.int n tk)=(insertAt es p ((intKind prog w).hash n,Value.int n tk),t1,false,false):=by
   unfold layNew;rw[fs];dsimp only;rw[hT];dsimp only;unfold SetTable.orStandIn;rw[Ju];rfl
  have Br:(insertAt es p ((intKind prog w).hash n,Value.int n tk)).size<=sizeLine:=by
   rw[GK];have:sizeLine=16777216:=rfl;lia
  have GO:(FX.map (·.1)).Nodup:=by
   exact (E4.map _).nodup_iff.mpr ?_;rw[Bz,CZ];exact#[B9,#[],λ x hx y hy=>?_];simp at hy;subst hy;show λ e=>hm (e▸hx)
  have Hr:=nS (FC:=insertAt es p ((intKind prog w).hash n,Value.int n tk)) (t':=t1) ho;have sb:=Heap.SameBut.update s.heap a (Obj.putSet (insertAt es p ((intKind prog w).hash n,Value.int n tk)) t1);have F5:t1.fill=xs.length+1:=by
   have l:=T1.len;rw[AA,Gg] at l;unfold SetTable.fill;rw[T1.sG,l];simp
  rw[Di];dsimp only;exact IE (m:=pure Unit.unit) (Ad ?_);rw[Cv];simp![if_true];exact IE (m:=pure true) (Ad ?_);simp![if_true];exact IE (wpAny_storeSet_of ho rfl ?_ Br);by_cases hf:t1.tooFull=true
  .rw[hf];simp![Ct,DD,if_true];have FP:t.mask*3<=(xs.length+1)*5:=by
    have:=hf;unfold SetTable.tooFull at this;rw[F5,B_] at this;exists this
   let#[M',g1,g2,g3]:=fg xs.length t.mask T.mask AQ FP hn;let#[es2,t2,IA,r1,r2,r3,r4,r5,r6,r7,r8]:=Xv (prog:=prog) (w:=w) (t:=t1) GB g1 (wanted:=grown (insertAt es p ((intKind prog w).hash n,Value.int n tk)).size) (by rw[GK];show g2) (by rw[Gg];show g3);rw[r1];dsimp only;exact IE (m:=pure Unit.unit) (Ad (IE (wpAny_storeSet_of Hr rfl ?_ (by rw[r8];show Br))));exact Ad ?_;dsimp only;exact Ad (h _ IA true (sb.trans (Heap.SameBut.update _ a _)) #[#[es2,ep+1+1,t2,nS Hr,r2,r4,by rw[r6];show Ay,by rw[r7];show Cv,by rw[r3.length_eq,Gg,r5];show g3],(r3.map _).nodup_iff.mpr GO] (.inr #[hm,r3.trans E4]))
  .have Gh:t1.tooFull=false:=by exists hf
   rw[Gh];simp![Ct,CK,A4,if_false];have FP:(xs.length+1)*5<t.mask*3:=by
    have:=Gh;unfold SetTable.tooFull at this;rw[F5,B_] at this;exists this
   exact Ad ?_;dsimp only;show Ad (h _ FX true sb #[#[_,ep+1,t1,Hr,GB,T1,Ay,Cv,by rw[Gg,B_];show FP],GO] (.inr #[hm,E4]))
end
def Nums (Aa:Ax) (ns:List Int):Prop:=∀ (i:Nat) v,Aa[i]?=↑v->∃ n t,v=.int n t/\ns[i]?=↑n
section
variable {prog:Program}{w:World}{A:Around}{E:Af}{s:Shared}{Aa:Ax}{ns:List Int}
def Qo {led:Bool}{Sa:Addr}{wr:List Addr}(Jm:Sa∉wr) (hN:Nums Aa ns):Kd prog w A Value.int Aa ns Sa wr (λ h xs=>rQ prog w h Sa xs led) (λ _=>True) where
 nd:=λ S=>S.nd
 keep:=λ k _ S=>let #[#[es,ep,t,ho,r],nd]:=S;#[#[es,ep,t,k _ _ Jm ho,r],nd]
 m7:=λ _ T=>T
 add:=λ{s xs i v Q E} _ S hl hv hQ=>by
  let#[m,t,rfl,hr]:=hN i v hv;unfold setAdd;exact JI (IE ((intKind prog w).pyHash (A:=A) (k:=m) (pT.mpr rfl) ?_));show add_int (s:={ s with toks:=s.toks+1 }) (A:=A) S hl λ h' E6 rr sb S' hx=>hQ h' _ E6 rr m t rfl hr sb (CH _ _) S' hx
def Xj {h:Heap}{a:Addr}(ho:h.get? a=↑(wj w)):rQ prog w h a [] (tu w):=
 #[#[[].toArray,0,_,ho,rfl,#[.inl rfl,rfl,rfl,.nil,λ j hj=>(by cases hj),λ i g j hg=>(by cases hg)],rfl,rfl,by change 0*5<7*3;lia],.nil]
def OJ {l:Addr}{Q:Af}(hh:A.handled=none) (hl:s.heap.IsList l Aa) (hT:Nums Aa ns) (hn:Aa.size<70)
  (h:∀ (h':Heap) (tk:Nat) xs,rQ prog w h' s.heap.objs.size xs (tu w)->Up Value.int Aa ns Aa.size xs->(∀ b o,b<s.heap.objs.size->s.heap.get? b=↑o->h'.get? b=↑o)->Q (.ref s.heap.objs.size) { s with heap:=h',toks:=tk }):
  wpAny (model prog w) A (call (.type "set") [.ref l]) Q E s:=
 bX hh (.inl hl) hn (Qo #[] hT) (λ h e=>Xj e) (λ _ _=>trivial) h
end
end ST
namespace L4
open PySem PyProof.Rows
def Ox {prog:Program}{w:World}{A:Around}{E:Af}{s:Shared}{vs:Ae}{ns:List Int}(hI:IntsAre vs ns) (h2:2<=vs.length) (FZ:vs.length<64):
  Core prog w A E vs (λ out=>∃ F0,IntsAre out.toList F0/\F0.Perm ns/\F0.Pairwise (·<=·)) s:=by
 obtain⟨v1,v2,EU,rfl⟩:∃ v1 v2 EU,vs=v1::v2::EU:=by
  match vs,h2 with
  | v1::v2::EU,_=>show#[v1,v2,EU,rfl]
 unfold Core;rw[keyKind_ints hI];exact Ad #[rfl,?_];exact JG (wpS_sortRuns (a₀:=pairsOf (v1::v2::EU)) (st:=SortSt.mk' oneType' ((v1::v2::EU).toArray.zip (v1::v2::EU).toArray) [].toArray 7 none)
   (Q:=λ _ Gn=>(arrOf Gn).Perm (pairsOf (v1::v2::EU))/\failedOf Gn=none/\SortedTo (arrOf Gn) (pairsOf (v1::v2::EU)).size)
   hI.intKeys #[Array.Perm.refl _,rfl,rfl,rfl] (by rw[pairsOf_size];simp) (by rw[pairsOf_size];show FZ) λ Gn a1 a2 a3=>#[a1,a2,a3]) ?_ λ _ _ e=>e
 rintro⟨⟨⟩,Gn⟩ s' ⟨rfl,hp,hf,hs⟩;show#[rfl,hf,sorted_out hI hp hs,by rw[hp.size_eq,pairsOf_size]]
end L4
namespace L5
open PySem PySem.Spec L2 L3
open PyProof.Rows hiding St
structure Bq (mg:AI):Prop where
 set:mg "set"=none
 zip:mg "zip"=none
 enumerate:mg "enumerate"=none
section
variable {X:Cx}{K:Ac}{a b c e:Expr}{ta tb tc:zr}{pos:Pos}{fa fb fc:Ag}
def qS (f g:yH) (ta tb tc:zr):zr:=fun L S Q=>ta L S λ x S1=>tb L S1 λ y S2=>f x y S2 λ z S3=>match z with
 | .bl k=>if k=true then tc L S3 λ w S4=>g y w S4 Q else Q (.bl false) S3
 | _=>False
def qS.mo {f g:yH}(hf:xq f) (hg:xq g) (ha:yc ta) (hb:yc tb) (hc:yc tc):yc (qS f g ta tb tc):=fun L S Q Q' hq h=>
 ha L S _ _ (λ x S1 h=>hb L S1 _ _ (λ y S2 h=>hf x y S2 _ _ (λ z S3 h=>by
  cases z <;> first
   | show wK (hc L S3 _ _ λ w S4 h=>hg y w S4 _ _ hq h) (hq _ _) h
   | show h) h) h) h
theorem Yo {f g:yH}{r r':R2}(hr:xm K f r) (GN:xm K g r') (hf:xq f) (hg:xq g) (ha:yc ta) (hb:yc tb) (hc:yc tc) {B:St}{H:Hp}{Q:VK}(h:zG K (qS f g ta tb tc) B H Q):gN r r' (zG K ta) (zG K tb) (zG K tc) B H Q:=by
 let#[L,S,r1,r2,h]:=h;exact zG.go ha r1 r2 h λ x S1 v H1 h1 q1 e1 p1=>?_;exact zG.go hb (r1.ext e1) p1 h1 λ y S2 w H2 h2 q2 e2 p2=>?_;exact hr v w x y H2 S2 _ (ze.ext e2 x q1) q2 p2 (hf x y S2 _ _ (λ d S3 z v3 H3 q3 e3 p3=>?_) h2);cases d with
 | bl k=>
  simp![ze] at q3;exact#[k,q3,wK (λ z=>?_) (λ z=>?_) z]
  .exact zG.go hc (r1.ext ((e1.trans e2).trans e3)) p3 z λ w4 S4 v4 H4 h4 q4 e4 p4=>?_;show GN w v4 y w4 H4 S4 Q (ze.ext (e3.trans e4) y q2) q4 p4 (hg y w4 S4 _ _ (λ d S' z=>z.ext (((e1.trans e2).trans e3).trans e4)) h4)
  .show z _ H3 (by simp![ze]) ((e1.trans e2).trans e3) p3
 | _=>show z.elim
@[simp] def bV (f g:T->T->Option T) (fa fb fc:Ag):Ag:=fun J=>(fa J).bind λ x=>(fb J).bind λ y=>(f x y).bind λ b=>match b with
 | .bl k=>if k=true then (fc J).bind λ z=>g y z else ↑(.bl false)
 | _=>none
def SX {f g:T->T->Option T}{F G:yH}(hf:Good2 zA f F) (hg:Good2 zA g G) (ha:yC fa ta) (hb:yC fb tb) (hc:yC fc tc):xE (bV f g fa fb fc) (qS F G ta tb tc):=λ S Z L J y Q hE e hq=>by
 let#[x1,e1,e]:=Ak.mp e;let#[x2,e2,e]:=Ak.mp e;let#[b,e3,e]:=Ak.mp e;exact ha S Z L J x1 _ hE e1 λ d1 S1 s1 r1=>?_;exact hb S1 Z L J x2 _ (hE.grow s1) e2 λ d2 S2 s2 r2=>?_;exact hf S2 Z x1 x2 b d1 d2 _ (hE.grow (s1.trans s2)).zd (Vw.grow r1 s2) r2 e3 λ c S3 s3 r3=>?_;split at e
 .have:=r3.1;simp![Sn] at this;subst this;split at e
  .rename_i hk;let#[x4,e4,e5]:=Ak.mp e;dsimp only;rw[if_pos hk];exact hc S3 Z L J x4 _ (hE.grow ((s1.trans s2).trans s3)) e4 λ d4 S4 s4 r4=>?_;show hg S4 Z x2 x4 y d2 d4 Q (hE.grow (((s1.trans s2).trans s3).trans s4)).zd (Vw.grow r2 (s3.trans s4)) r4 e5 λ c' S5 s5 r5=>hq c' S5 ((((s1.trans s2).trans s3).trans s4).trans s5) (Cl.cl (((s1.trans s2).trans s3).trans s4) r5)
  .rename_i hk;dsimp only;rw[if_neg hk];cases e;show hq _ S3 ((s1.trans s2).trans s3) (Cl.of (λ _=>nofun) wF)
 .cases e
def Uj {op Hd:CmpOp}{f g:yH}{r r':R2}(ho:ya X (compareOp op) r) (Fq:ya X (compareOp Hd) r') (hr:xm X.K f r) (GN:xm X.K g r') (hf:xq f) (hg:xq g) (ha:PD X a ta) (hb:PD X b tb) (hc:PD X c tc)
  (hm:lastMarks [op,Hd] [b,c]=false:=by with_unfolding_all rfl):PD X (.Compare a [op,Hd] [b,c] pos) (qS f g ta tb tc):=
 #[qS.mo hf hg ha.mo hb.mo hc.mo,PE.imp (WC ho Fq ha.pe hb.pe hc.pe hm) λ _ _ _ h=>Yo hr GN hf hg ha.mo hb.mo hc.mo h]
end
end L5
namespace L2
open PySem PySem.Spec PyProof.Rows
section
variable {X:Cx}
def ee:ya X (compareOp .Is) (λ x y H Q=>∃ c d,x=.bl c/\y=.bl d/\Q (.bl (c == d)) H):=by
 intro EN s B H x y v u Q I rx ry h;let#[c,d,rfl,rfl,q]:=h;cases rx;cases ry;show is_bool #[.bl _,H,I,rfl,q]
end
end L2
namespace L5
open PySem PySem.Spec L2 L3
open PyProof.Rows hiding St
section
variable {X:Cx}{K:Ac}{a b c e o i v:Expr}{es:List Expr}{ta tb td ty tv:zr}{pos p pos':Pos}
def v9:yH:=λ x y S Q=>match x,y with
 | .int i,.int j=>Q (.bl (decide (i<j))) S
 | .tup ds,.tup es=>∃ ns ms:List Int,ds=ns.map D.int/\es=ms.map D.int/\Q (.bl (HT.lexLt ns ms)) S
 | _,_=>False
def yI:T->T->Option T
 | .int i,.int j=>↑(.bl (decide (i<j)))
 | .tup ts,.tup us=>(wx ts).bind λ ns=>(wx us).map λ ms=>.bl (HT.lexLt ns ms)
 | _,_=>none
def v9.mo:xq v9:=λ x y S Q Q' hq h=>by
 unfold v9 at h ⊢;split at h
 .show hq _ _ h
 .let#[ns,ms,h1,h2,h3]:=h;show#[ns,ms,h1,h2,hq _ _ h3]
 .show h.elim
def v9.fits:xm K v9 (λ x y H Q=>wH (λ i j=>.bl (decide (i<j))) x y H Q\/kO K x y H Q):=λ x y d e H S Q h1 h2 h3 h=>by
 unfold v9 at h;split at h
 .simp![ze] at h1 h2;show .inl #[_,_,h1,h2,h _ H (by simp![ze]) (.refl H) h3]
 .let#[ns,ms,rfl,rfl,h]:=h;simp![ze] at h1 h2;let#[a,xs,rfl,g1,g2]:=h1;let#[b,ys,rfl,g3,g4]:=h2;rw[g2.ints] at g1;rw[g4.ints] at g3;show .inr #[a,b,ns,ms,rfl,rfl,g1,g3,h _ H (by simp![ze]) (.refl H) h3]
 .show h.elim
def jH:Good2 zA yI v9:=λ S Z x y z d e Q hz hx hy ef hq=>by
 unfold yI at ef;split at ef
 .cases ef;cases hx.int;cases hy.int;show hq _ S (.refl S) (Cl.of (λ _=>nofun) wF)
 .let#[ns,e1,e2]:=Ak.mp ef;let#[ms,e3,rfl]:=AE.mp e2;cases rB e1;cases rB e3;let#[ds,rfl,h2]:=hx.tup;let#[es,rfl,h4]:=hy.tup;show#[ns,ms,uh.mp h2,uh.mp h4,hq _ S (.refl S) (Cl.of (λ _=>nofun) wF)]
 .cases ef
def fZ {k:Nat}(hr:z_ k X.A):ya X (compareOp .Lt) (λ x y H Q=>wH (λ i j=>.bl (decide (i<j))) x y H Q\/kO X.K x y H Q):=U9.or (U8 (by have:=hr.units;lia))
def VL {k:Nat}(hr:z_ k X.A) (ha:PD X a ta) (hb:PD X b tb):PD X (.Compare a [.Lt] [b] pos) (yp v9 ta tb):=nW (fZ hr) v9.fits v9.mo ha hb (uk _)
def WN {k:Nat}(hr:z_ k X.A) (ha:PD X a ta) (hb:PD X b tb):xg X (.Compare a [.Lt] [b] pos) (vD (yp v9 ta tb)):=t_ (fZ hr) v9.fits v9.mo ha hb (uk _)
def vd (neg:Bool):yH:=λ x y S Q=>match x,y with
 | .bl c,.bl d=>Q (.bl (cond neg (c != d) (c == d))) S
 | x,.zp=>Q (.bl (cond neg (!qC x) (qC x))) S
 | _,_=>False
def rA (neg:Bool):T->T->Option T
 | .bl c,.bl d=>↑(.bl (cond neg (c != d) (c == d)))
 | x,.zp=>↑(.bl (cond neg (!isNone x) (isNone x)))
 | _,_=>none
def vd.mo {neg:Bool}:xq (vd neg):=λ x y S Q Q' hq h=>by
 unfold vd at h ⊢;split at h
 .show hq _ _ h
 .show hq _ _ h
 .show h.elim
def vd.fits:xm K (vd false) (λ x y H Q=>(∃ c d,x=.bl c/\y=.bl d/\Q (.bl (c == d)) H)\/(y=.zp/\Q (.bl (decide (x=.zp))) H)):=λ x y d e H S Q h1 h2 h3 h=>by
 unfold vd at h;split at h
 .simp![ze] at h1 h2;show .inl #[_,_,h1,h2,h _ H (by simp![ze,cond]) (.refl H) h3]
 .simp![ze] at h2;exact .inr #[h2,?_];rw[Qv h1];show h _ H (by simp![ze,cond]) (.refl H) h3
 .show h.elim
def Qw {S:SS}{Z:Addr->Prop}{x:T}{d:D}(hx:Vw S Z x d):qC d=isNone x:=by
 cases x with
 | zp=>cases hx.zp;rfl
 | bl _=>cases hx.bl;rfl
 | int _=>cases hx.int;rfl
 | str _=>cases hx.str;rfl
 | tup _=>let#[ds,rfl,_]:=hx.tup;rfl
 | lst _=>obtain⟨ds,rfl | ⟨a,rfl,h1⟩,h2⟩:=hx.lst <;> rfl
 | yV=>let#[a,Ab,#[rfl,_],h1]:=hx.yV;rfl
 | dn _=>let#[a,rfl,h1]:=hx.dn;rfl
 | err _ _ _=>let#[x,rfl,_]:=hx.err;rfl
def QU {neg:Bool}:Good2 zA (rA neg) (vd neg):=λ S Z x y z d e Q hz hx hy ef hq=>by
 unfold rA at ef;split at ef
 .cases ef;cases hx.bl;cases hy.bl;show hq _ S (.refl S) (Cl.of (λ _=>nofun) wF)
 .cases ef;cases hy.zp;have key:Q (.bl (cond neg (!qC d) (qC d))) S:=by
   rw[Qw hx];show hq _ S (.refl S) (Cl.of (λ _=>nofun) wF)
  unfold vd;cases d <;> show key
 .cases ef
def VV (ha:PD X a ta) (hb:PD X b tb):PD X (.Compare a [.Is] [b] pos) (yp (vd false) ta tb):=nW (ee.or f_) vd.fits vd.mo ha hb (uk _)
def WQ (ha:PD X a ta) (hb:PD X b tb):xg X (.Compare a [.Is] [b] pos) (vD (yp (vd false) ta tb)):=t_ (ee.or f_) vd.fits vd.mo ha hb (uk _)
def bA (td ty tv:zr):y8:=λ E L S=>tv L S λ v S1=>td L S1 λ x S2=>ty L S2 λ y S3=>∃ p ds k j,x=.ref p/\y=.int k/\S3 p=↑(.lst ds)/\xZ ds.length k=↑j/\E.nx L (ups S3 p (.lst (ds.set j v)))
theorem zk.set {H:Hp}{d:D}{x:V}(h:ze K H d x):∀ {ds:List D}{xs:List V}(j:Nat),zk K H ds xs->zk K H (ds.set j d) (xs.set j x)
 | [],xs,j,r=>by simp![zk] at r;subst r;show .nil
 | c::ds,xs,0,r=>by
  simp![zk] at r;let#[y,ys,rfl,_,r2]:=r;show .cons h r2
 | c::ds,xs,j+1,r=>by
  simp![zk] at r;let#[y,ys,rfl,r1,r2]:=r;show .cons r1 (zk.set h j r2)
def Vd (ho:PD X o td) (hi:PD X i ty) (hv:PD X v tv) (hs:swapsWithSole [.Subscript o i pos'] v pos.line X.env=pure false) (hw:swappedStores [.Subscript o i pos'] v X.env=pure none)
  (h1:(assignEach [.Subscript o i pos'] X.env).map (·.2)=[assign (.Subscript o i pos') X.env])
  (ha:∀ v,assign (.Subscript o i pos') X.env v=(do
   let ov <- holding [v] (eval o X.env)
   let iv <- holding [v,ov] (eval i X.env)
   standAt pos'
   holding [v,ov,iv] (setItem ov iv v)
   release [v,ov,iv] [])):xD X (.Assign [.Subscript o i pos'] v pos) (bA td ty tv):=by
 exact#[λ E E' L S hE z=>hv.mo L S _ _ (λ w S1 z=>ho.mo L S1 _ _ (λ x S2 z=>hi.mo L S2 _ _ (λ y S3 #[p,ds,k,j,a,b,c,d,h]=>#[p,ds,k,j,a,b,c,d,hE.nx _ _ h]) z) z) z,PS.imp (XW hv.pe (Wh ho.pe hi.pe set_list ha) hs hw h1) λ D B H hu=>?_];let#[L,S,r1,r2,z]:=hu;exact zG.go hv.mo r1 r2 z λ w S1 w1 H1 h1 q1 e1 p1=>?_;exact zG.go ho.mo (r1.ext e1) p1 h1 λ x S2 w2 H2 h2 q2 e2 p2=>?_;exact zG.go hi.mo ((r1.ext e1).ext e2) p2 h2 λ y S3 w3 H3 h3 q3 e3 p3=>?_;let#[p,ds,k,j,rfl,rfl,c1,c2,h]:=h3;simp![ze] at q2 q3;subst q2 q3;let#[xs,g1,g2]:=p3 _ _ c1;have e4:Ext H3 (upd H3 p (.lst (xs.set j w1))):=.lst g1 _;exact#[p,xs,k,j,rfl,rfl,g1,by rw[<- g2.length];show c2,?_];show h B _ ((((r1.ext e1).ext e2).ext e3).ext e4) (((e1.trans e2).trans e3).trans e4) (p3.ups e4 #[_,y6,zk.ext e4 _ (zk.set (ze.ext (e2.trans e3) w q1) j g2)])
@[simp] def mx (n:Nat) (f v:Ag):Sm:=fun J=>(v J).bind λ z=>(f J).bind λ y=>match J[n]?,y with
 | some ↑(.own (.lst ts)),.int k=>(xZ ts.length k).map λ j=>.nx (J.set n ↑(.own (.lst (ts.set j z))))
 | _,_=>none
def UR {R:Rk}(n:Nat) {f v:Ag}(hf:yC f ty) (hv:vm v tv):yb R (mx n f v) (bA (ye n) ty tv):=λ S0 Z0 S Z L J o E F e P=>by
 let#[z,e1,e]:=Ak.mp e;let#[x,e2,e3]:=Ak.mp e;split at e3
 .rename_i ts k h;let#[j,hj,rfl]:=AE.mp e3;exact hv S Z L J z _ F.er e1 λ dz S1 s1 r1=>?_;have F1:=F.grow s1;let#[p,ob,h1,h2,h3,h4]:=F1.er.ow n _ h;cases ob with
  | lst ds=>
   change ye n L S1 _;unfold ye;rw[h1];exact hf S1 Z L J _ _ F1.er e2 λ d S2 s2 r2=>?_;cases Vw.int r2;have h5:zj (zE S2 Z) ts ds:=zj.sx (wy s2) ts h3;show#[p,ds,k,j,rfl,rfl,s2 _ _ h2,by rw[h5.len];show hj,P _ Z L ((F1.grow s2).mut (us:=.lst (ts.set j z)) (es:=.lst (ds.set j dz)) n h h1 (h5.fj j (Sn.sx (wy s2) z r1)))]
  | _=>show h3.elim
 .cases e3
def VZ {x y:Str}{u:Value}(hm:X.mg x=↑u) (r:RelV (.str y) u) (hg:Gl X x) (hd:(x == ("__debug__":Str))=false):PD X (.Name x pos) (dC (.str y)):=pJ (W7 hg hm r hd) λ _=>by simp![ze]
end
end L5
namespace ZP
open PySem PyProof.Rows
def j9 (k:Bool):String:=cond k "tuple_iterator" "list_iterator"
def SI (h:Heap) (k:Bool) (it l:Addr) (i:Nat):Prop:=∃ o,h.get? it=↑o/\o.cls=.type (j9 k)/\o.data=.fields [.ref l,.int i 0].toArray
def SQ (h:Heap) (k:Bool) (l:Addr) (xs:Ax):Prop:=match k with
 | true=>h.IsTuple l xs
 | false=>h.IsList l xs
def SI.on {h h':Heap}{k:Bool}{it l:Addr}{i:Nat}(x:SI h k it l i) (f:∀ o,h.get? it=↑o->h'.get? it=↑o):SI h' k it l i:=
 let #[o,ho,r]:=x;#[o,f o ho,r]
def SQ.on {h h':Heap}{k:Bool}{l:Addr}{xs:Ax}(x:SQ h k l xs) (f:∀ o,h.get? l=↑o->h'.get? l=↑o):SQ h' k l xs:=by
 cases k with
 | true=>let#[o,ho,r]:=(show h.IsTuple l xs from x);show#[o,f o ho,r]
 | false=>let#[o,ho,r]:=(show h.IsList l xs from x);show#[o,f o ho,r]
def SQ.lt {h:Heap}{k:Bool}{l:Addr}{xs:Ax}(x:SQ h k l xs):l<h.objs.size:=by
 cases k with
 | true=>let#[o,ho,_]:=(show h.IsTuple l xs from x);show Au ho
 | false=>let#[o,ho,_]:=(show h.IsList l xs from x);show Au ho
theorem SQ.cls {h:Heap}{k:Bool}{l:Addr}{xs:Ax}(x:SQ h k l xs):∃ o,h.get? l=↑o/\o.cls=.type (cond k "tuple" "list"):=by
 cases k with
 | true=>let#[o,ho,c,_]:=(show h.IsTuple l xs from x);show#[o,ho,c]
 | false=>let#[o,ho,c,_]:=(show h.IsList l xs from x);show#[o,ho,c]
section
variable {prog:Program}{w:World}{A:Around}{E:Af}{s:Shared}
def made {k:Bool}{l:Addr}{xs:Ax}{Q:Af}(hl:SQ s.heap k l xs)
  (hQ:Q (.ref s.heap.objs.size) { s with heap:=s.heap.push { cls:=.type (j9 k),data:=.fields [.ref l,.int 0 0].toArray } }):wpAny (model prog w) A (pyIter (.ref l)) Q E s:=by
 cases k with
 | true=>show wpAny_pyIter_tuple hl hQ
 | false=>show JX hl hQ
def PY {it l:Addr}{i:Nat}{xs:Ax}{x:Value}{Q:Af}(hit:s.heap.IsTupleIter it l i) (hl:s.heap.IsTuple l xs) (hx:xs[i]?=↑x)
  (hQ:∀ h',h'.IsTupleIter it l (i+1)->Heap.SameBut it s.heap h'->Q x { s with heap:=h' }):wpAny (model prog w) A (Builtin.SmallTypes.nextOf (.ref it)) Q E s:=by
 have ht:=hit.typeIs;let#[oi,e1,e2,e3]:=id hit;let#[ol,g1,_,n,g2]:=hl;exact IE (JO (name:=Str.ofString "__next__") ht F.slot_tuple_iterator_next (JK F.slot_tuple_iterator_next ht F.entry_tuple_iterator_next ?_ (F.args_tuple_iterator_next_1 _)));exact IE (m:=field (.ref it) 0) (JH e1 e3 (x:=.ref l) rfl ?_);dsimp only;rw[if_neg (show ¬ ((Value.ref l == Value.none)=true) from BI)];exact IE (m:=field (.ref it) 1) (JH e1 e3 (x:=.int i 0) rfl ?_);dsimp only;exact IE (m:=seqItems? (.ref l)) (JL g1 g2 ?_);simp![CG,hx];have there:=JP (Obj.mapFields λ y=>y.setIfInBounds 1 (rawInt ((i:Int)+1))) e1 (Obj.isFreed_of_fields (Obj.data_mapFields e3 _));exact IE (JV e1 e3 #[] (Ad #[x,rfl,Ad (hQ _ #[_,there,(Obj.cls_mapFields ..).trans e2,?_] (Heap.SameBut.update ..))]));rw[Obj.data_mapFields e3];simp[rawInt]
def PK {it l:Addr}{i:Nat}{xs:Ax}{Q:Af}(hh:A.handled=none) (hit:s.heap.IsTupleIter it l i) (hl:s.heap.IsTuple l xs) (hx:xs[i]?=none)
  (hE:∀ h' e,Heap.ExtBut it s.heap h'->(∃ o,h'.get? e=↑o/\o.cls=.type "StopIteration")->E (.ref e) { s with heap:=h' }):wpAny (model prog w) A (Builtin.SmallTypes.nextOf (.ref it)) Q E s:=by
 have ht:=hit.typeIs;let#[oi,e1,e2,e3]:=id hit;let#[ol,g1,_,n,g2]:=hl;exact IE (JO (name:=Str.ofString "__next__") ht F.slot_tuple_iterator_next (JK F.slot_tuple_iterator_next ht F.entry_tuple_iterator_next ?_ (F.args_tuple_iterator_next_1 _)));exact IE (m:=field (.ref it) 0) (JH e1 e3 (x:=.ref l) rfl ?_);dsimp only;rw[if_neg (show ¬ ((Value.ref l == Value.none)=true) from BI)];exact IE (m:=field (.ref it) 1) (JH e1 e3 (x:=.int i 0) rfl ?_);dsimp only;exact IE (m:=seqItems? (.ref l)) (JL g1 g2 ?_);simp![CG,hx];exact IE (wpAny_rule (IE (JV e1 e3 #[] ?_)));exact IE (m:=newExc (.type "StopIteration") []) ?_;simp![newExc,newTuple];exact IE (JM (IE (m:=firstArgMember _ _) (wpAny_of_eq (a:=Value.none) (by first | rfl | (simp![firstArgMember];rfl)) (JM ?_ (by size_fits)))) (by size_fits));simp![raiseNew];exact IE (wpAny_handled ?_);rw[show A.in1.handled=none from hh];show IE (Ad (wpAny_throw (hE _ _ (((Heap.SameBut.update ..).extBut.push _).push _) #[_,AJ _ rfl,rfl])))
def draw {k:Bool}{it l:Addr}{i:Nat}{xs:Ax}{x:Value}{Q:Af}(hit:SI s.heap k it l i) (hl:SQ s.heap k l xs) (hx:xs[i]?=↑x)
  (hQ:∀ h',SI h' k it l (i+1)->Heap.SameBut it s.heap h'->Q x { s with heap:=h' }):wpAny (model prog w) A (Builtin.SmallTypes.nextOf (.ref it)) Q E s:=by
 cases k with
 | true=>show PY hit hl hx hQ
 | false=>show wpAny_nextOf_list_item hit hl hx hQ
def mP {k:Bool}{it l:Addr}{i:Nat}{xs:Ax}{Q:Af}(hh:A.handled=none) (hit:SI s.heap k it l i) (hl:SQ s.heap k l xs) (hx:xs[i]?=none)
  (hE:∀ h' e,Heap.ExtBut it s.heap h'->(∃ o,h'.get? e=↑o/\o.cls=.type "StopIteration")->E (.ref e) { s with heap:=h' }):wpAny (model prog w) A (Builtin.SmallTypes.nextOf (.ref it)) Q E s:=by
 cases k with
 | true=>show PK hh hit hl hx hE
 | false=>show wpAny_nextOf_list_end hh hit hl hx hE
structure lS (z TI TO i1 i2 l1 l2:Addr):Prop where
 nd:[z,TI,TO,i1,i2].Nodup
 f1:l1∉[z,TI,TO,i1,i2]
 f2:l2∉[z,TI,TO,i1,i2]
structure At (h:Heap) (k1 k2:Bool) (z TI TO i1 i2 l1 l2:Addr) (f0:Value) (n:Nat):Prop where
 z:IsZip h z TI TO f0
 ti:IsPair h TI (.ref i1) (.ref i2)
 to:∃ a b,IsPair h TO a b
 s1:SI h k1 i1 l1 n
 s2:SI h k2 i2 l2 n
def At.keep {h h':Heap}{k1 k2:Bool}{z TI TO i1 i2 l1 l2:Addr}{f0:Value}{n:Nat}(S:At h k1 k2 z TI TO i1 i2 l1 l2 f0 n) (f:∀ b∈[z,TI,TO,i1,i2],∀ o,h.get? b=↑o->h'.get? b=↑o):At h' k1 k2 z TI TO i1 i2 l1 l2 f0 n:=
 #[f z #[] _ S.z,f TI #[] _ S.ti,let #[a,b,e]:=S.to;#[a,b,f TO #[] _ e],S.s1.on (f i1 #[]),S.s2.on (f i2 #[])]
def item {k1 k2:Bool}{z TI TO i1 i2 l1 l2:Addr}{n:Nat}{xs ys:Ax}{x y:Value}{Q:Option Value->Shared->Prop}(D:lS z TI TO i1 i2 l1 l2) (S:At s.heap k1 k2 z TI TO i1 i2 l1 l2 .none n)
  (h1:SQ s.heap k1 l1 xs) (h2:SQ s.heap k2 l2 ys) (hx:xs[n]?=↑x) (hy:ys[n]?=↑y)
  (hQ:∀ h',At h' k1 k2 z TI TO i1 i2 l1 l2 (rawInt s.heap.objs.size) (n+1)->IsPair h' s.heap.objs.size x y->(∀ c o,c∉[z,TI,TO,i1,i2]->s.heap.get? c=↑o->h'.get? c=↑o)->Q ↑(.ref s.heap.objs.size) { s with heap:=h' }):
  wpAny (model prog w) A (pyNext (.ref z)) Q E s:=by
 let#[nd,f1,f2]:=D;simp![Bn,Ah,A_,or_false,not_or,Dt,and_true,not_false_eq_true] at nd f1 f2;let#[#[n1,n2,n3,n4],#[n5,n6,n7],#[n8,n9],Ii]:=nd;let#[a1,a2,a3,a4,a5]:=f1;let#[b1,b2,b3,b4,b5]:=f2;let#[hz,DQ,#[a,b,Eg],s1,s2]:=S;have hT:s.TypeIs (.ref z) "zip":=#[_,hz,rfl];unfold pyNext;exact IE (wpAny_attempt (JO (name:=Str.ofString "__next__") hT F.slot_zip_next (JK F.slot_zip_next hT F.entry_zip_next ?_ (F.args_zip_next_1 _))));exact IE (m:=field (.ref z) 2) (JH hz rfl (x:=.bool false) rfl ?_);exact IE (m:=field (.ref z) 3) (JH hz rfl (x:=.ref TI) rfl ?_);exact IE (m:=seqItems? (.ref TI)) (JL DQ rfl ?_);exact IE (m:=Builtin.SmallTypes.ownedTupleIsFree (.ref z)) (IE (m:=field (.ref z) 0) (JH hz rfl (x:=.none) rfl (Ad ?_)));simp![if_true];exact IE (wpAny_rule (IE (JH hz rfl (x:=.ref TO) rfl (IE (JS hz #[] λ g1 G3 e1=>?_)))));replace G3:IsZip g1 z TI TO .ellipsis:=G3;exact IE ?_;simp![Ds,List.zipIdx_nil,DJ,List.forIn_nil];exact IE (IE (wpAny_onRaise (IE (m:=Builtin.SmallTypes.nextOf (.ref i1)) (draw (s1.on λ o q=>e1.extBut _ _ (Ne.symm n3) q) (h1.on λ o q=>e1.extBut _ _ a1 q) hx λ g2 s12 e2=>Ad ?_))));have to2:IsPair g2 TO a b:=e2.extBut _ _ n8 (e1.extBut _ _ (Ne.symm n2) Eg);exact IE (JL to2 rfl (IE (wpAny_updateSeq_pair to2 λ g3 to3 e3=>IE (wpAny_letGo (Ad ?_)))));replace to3:IsPair g3 TO x b:=to3;have up:∀ c o,c≠z->c≠i1->c≠TO->s.heap.get? c=↑o->g3.get? c=↑o:=λ c o c1 c2 c3 q=>e3.extBut _ _ c3 (e2.extBut _ _ c2 (e1.extBut _ _ c1 q));exact IE (IE (wpAny_onRaise (IE (m:=Builtin.SmallTypes.nextOf (.ref i2)) (draw (s2.on λ o q=>up _ o (Ne.symm n4) (Ne.symm Ii) (Ne.symm n9) q) (h2.on λ o q=>up _ o b1 b4 b3 q) hy λ g4 s24 e4=>Ad ?_))));have to4:IsPair g4 TO x b:=e4.extBut _ _ n9 to3;exact IE (JL to4 rfl (IE (wpAny_updateSeq_pair to4 λ g5 Ic e5=>IE (wpAny_letGo (Ad (Ad ?_))))));replace Ic:IsPair g5 TO x y:=Ic;exact IE (JL Ic rfl (IE (wpAny_newTuple ?_)));have sz:g5.objs.size=s.heap.objs.size:=by rw[e5.1,e4.1,e3.1,e2.1,e1.1]
 have hz5:IsZip g5 z TI TO .ellipsis:=e5.extBut _ _ n2 (e4.extBut _ _ n4 (e3.extBut _ _ n2 (e2.extBut _ _ n3 G3)));have up5:∀ c o,c∉[z,TI,TO,i1,i2]->s.heap.get? c=↑o->g5.get? c=↑o:=λ c o hc q=>by
  simp![Ah,A_,or_false,not_or] at hc;show e5.extBut _ _ hc.2.2.1 (e4.extBut _ _ hc.2.2.2.2 (up c o hc.1 hc.2.2.2.1 hc.2.2.1 q))
 have ti5:IsPair g5 TI (.ref i1) (.ref i2):=e5.extBut _ _ n5 (e4.extBut _ _ n7 (up _ _ (Ne.symm n1) n6 n5 DQ));have s15:SI g5 k1 i1 l1 (n+1):=s12.on λ o q=>e5.extBut _ _ (Ne.symm n8) (e4.extBut _ _ Ii (e3.extBut _ _ (Ne.symm n8) q));have s25:SI g5 k2 i2 l2 (n+1):=s24.on λ o q=>e5.extBut _ _ (Ne.symm n9) q;have lz:z<g5.objs.size:=Au hz5;exact IE (m:=Builtin.SmallTypes.ownedTupleHandOut (.ref z) (.ref g5.objs.size)) ?_;have hz6:IsZip (g5.push { cls:=.type "tuple",data:=.seq [x,y].toArray }) z TI TO .ellipsis:=JD _ hz5;exact IE (JS hz6 #[] λ g7 IZ e7=>?_);replace IZ:IsZip g7 z TI TO (rawInt g5.objs.size):=IZ;exact JS IZ #[] λ g8 Ik e8=>?_;replace Ik:IsZip g8 z TI TO (rawInt g5.objs.size):=Ik;have up8:∀ c o,c≠z->(g5.push { cls:=.type "tuple",data:=.seq [x,y].toArray }).get? c=↑o->g8.get? c=↑o:=λ c o c1 q=>e8.extBut _ _ c1 (e7.extBut _ _ c1 q);have T8:IsPair g8 g5.objs.size x y:=up8 _ _ (BH lz) (AJ _ rfl);have HB:∀ c o,c≠z->g5.get? c=↑o->g8.get? c=↑o:=λ c o c1 q=>up8 c o c1 (JD _ q);rw[sz] at Ik T8;exact Ad #[.ref g5.objs.size,rfl,Ad ?_];change Q ↑(.ref g5.objs.size) _;rw[sz];exact hQ g8 #[Ik,HB _ _ (Ne.symm n1) ti5,#[x,y,HB _ _ (Ne.symm n2) Ic],s15.on λ o q=>HB _ o (Ne.symm n3) q,s25.on λ o q=>HB _ o (Ne.symm n4) q] T8 λ c o hc q=>HB c o (λ e=>hc (by simp[e])) (up5 c o hc q)
def stop {k1 k2:Bool}{z TI TO i1 i2 l1 l2:Addr}{n:Nat}{xs ys:Ax}{Q:Option Value->Shared->Prop}(hh:A.handled=none) (D:lS z TI TO i1 i2 l1 l2) (S:At s.heap k1 k2 z TI TO i1 i2 l1 l2 .none n)
  (h1:SQ s.heap k1 l1 xs) (h2:SQ s.heap k2 l2 ys) (Bl:xs[n]?=none\/ys[n]?=none)
  (hQ:∀ h',(∀ c o,c∉[z,TI,TO,i1,i2]->s.heap.get? c=↑o->h'.get? c=↑o)->Q none { s with heap:=h' }):
  wpAny (model prog w) A (pyNext (.ref z)) Q E s:=by
 let#[nd,f1,f2]:=D;simp![Bn,Ah,A_,or_false,not_or,Dt,and_true,not_false_eq_true] at nd f1 f2;let#[#[n1,n2,n3,n4],#[n5,n6,n7],#[n8,n9],Ii]:=nd;let#[a1,a2,a3,a4,a5]:=f1;let#[b1,b2,b3,b4,b5]:=f2;let#[hz,DQ,#[a,b,Eg],s1,s2]:=S;have hT:s.TypeIs (.ref z) "zip":=#[_,hz,rfl];have fin:∀ (h':Heap) (e:Addr),(∀ c o,c∉[z,TI,TO,i1,i2]->s.heap.get? c=↑o->h'.get? c=↑o)->(∃ o,h'.get? e=↑o/\o.cls=.type "StopIteration")->
   wpAny (model prog w) A (do if <- isInstance (.ref e) (.type "StopIteration") then pure none else throw (.ref e)) Q E { s with heap:=h' }:=λ h' e k1 k2=>by
  let#[o,ho,hc]:=k2;show IE (JT (T:="StopIteration") (b:=true) #[o,ho,hc] isSubtype_stop (Ad (hQ _ k1)))
 unfold pyNext;exact IE (wpAny_attempt (JO (name:=Str.ofString "__next__") hT F.slot_zip_next (JK F.slot_zip_next hT F.entry_zip_next ?_ (F.args_zip_next_1 _))));exact IE (m:=field (.ref z) 2) (JH hz rfl (x:=.bool false) rfl ?_);exact IE (m:=field (.ref z) 3) (JH hz rfl (x:=.ref TI) rfl ?_);exact IE (m:=seqItems? (.ref TI)) (JL DQ rfl ?_);exact IE (m:=Builtin.SmallTypes.ownedTupleIsFree (.ref z)) (IE (m:=field (.ref z) 0) (JH hz rfl (x:=.none) rfl (Ad ?_)));simp![if_true];exact IE (wpAny_rule (IE (JH hz rfl (x:=.ref TO) rfl (IE (JS hz #[] λ g1 G3 e1=>?_)))));replace G3:IsZip g1 z TI TO .ellipsis:=G3;exact IE ?_;simp![Ds,List.zipIdx_nil,DJ,List.forIn_nil];cases hx:xs[n]? with
 | none=>
  exact IE (IE (wpAny_onRaise (IE (m:=Builtin.SmallTypes.nextOf (.ref i1)) (mP hh (s1.on λ o q=>e1.extBut _ _ (Ne.symm n3) q) (h1.on λ o q=>e1.extBut _ _ a1 q) hx λ g2 ex e2 he=>?_))));have hz2:IsZip g2 z TI TO .ellipsis:=e2 _ _ n3 G3;let#[oe,q1,q2]:=he;have ne:ex≠z:=λ q=>by subst q;rw[hz2] at q1;cases q1;simp at q2
  exact JS hz2 #[] λ g3 _ e3=>fin g3 ex (λ c o hc q=>?_) #[oe,e3.extBut _ _ ne q1,q2];simp![Ah,A_,or_false,not_or] at hc;show e3.extBut _ _ hc.1 (e2 _ _ hc.2.2.2.1 (e1.extBut _ _ hc.1 q))
 | some x=>
  have hy:ys[n]?=none:=Bl.resolve_left (by rw[hx];simp);exact IE (IE (wpAny_onRaise (IE (m:=Builtin.SmallTypes.nextOf (.ref i1)) (draw (s1.on λ o q=>e1.extBut _ _ (Ne.symm n3) q) (h1.on λ o q=>e1.extBut _ _ a1 q) hx λ g2 s12 e2=>Ad ?_))));have to2:IsPair g2 TO a b:=e2.extBut _ _ n8 (e1.extBut _ _ (Ne.symm n2) Eg);exact IE (JL to2 rfl (IE (wpAny_updateSeq_pair to2 λ g3 to3 e3=>IE (wpAny_letGo (Ad ?_)))));have up:∀ c o,c≠z->c≠i1->c≠TO->s.heap.get? c=↑o->g3.get? c=↑o:=λ c o c1 c2 c3 q=>e3.extBut _ _ c3 (e2.extBut _ _ c2 (e1.extBut _ _ c1 q));exact IE (IE (wpAny_onRaise (IE (m:=Builtin.SmallTypes.nextOf (.ref i2)) (mP hh (s2.on λ o q=>up _ o (Ne.symm n4) (Ne.symm Ii) (Ne.symm n9) q) (h2.on λ o q=>up _ o b1 b4 b3 q) hy λ g4 ex e4 he=>?_))));have hz4:IsZip g4 z TI TO .ellipsis:=e4 _ _ n4 (e3.extBut _ _ n2 (e2.extBut _ _ n3 G3));let#[oe,q1,q2]:=he;have ne:ex≠z:=λ q=>by subst q;rw[hz4] at q1;cases q1;simp at q2
  exact JS hz4 #[] λ g5 _ e5=>fin g5 ex (λ c o hc q=>?_) #[oe,e5.extBut _ _ ne q1,q2];simp![Ah,A_,or_false,not_or] at hc;show e5.extBut _ _ hc.1 (e4 _ _ hc.2.2.2.2 (up c o hc.1 hc.2.2.2.1 hc.2.2.1 q))
end
abbrev v5 (k:Bool) (l:Addr):Obj:={ cls:=.type (j9 k),data:=.fields [.ref l,.int 0 0].toArray }
abbrev qG (k1 k2:Bool) (h:Heap) (l1 l2:Addr):Heap:=(h.push (v5 k1 l1)).push (v5 k2 l2)
abbrev mH (k1 k2:Bool) (h:Heap) (l1 l2:Addr):Heap:=(qG k1 k2 h l1 l2).push { cls:=.type "tuple",data:=.seq [.ref h.objs.size,.ref (h.push (v5 k1 l1)).objs.size].toArray }
abbrev mG (k1 k2:Bool) (h:Heap) (l1 l2:Addr):Heap:=(mH k1 k2 h l1 l2).push { cls:=.type "tuple",data:=.seq [.none,.none].toArray }
abbrev qF (k1 k2:Bool) (h:Heap) (l1 l2:Addr):Heap:=(mG k1 k2 h l1 l2).push { cls:=.type "zip",data:=.fields [.none,.bool false,.bool false,.ref (qG k1 k2 h l1 l2).objs.size,.ref (mH k1 k2 h l1 l2).objs.size].toArray }
def RD (k1 k2:Bool) (l1 l2:Addr) (xs ys:Ax):Meets (Builtin.«zip.__new__» #[[.type "zip",.ref l1,.ref l2],[]]) (λ _ R s=>SQ s.heap k1 l1 xs/\SQ s.heap k2 l2 ys/\
   R (.ok (.ret (.ref (mG k1 k2 s.heap l1 l2).objs.size))) { s with heap:=qF k1 k2 s.heap l1 l2 }):=
 .of_wp λ prog w A R s h=>by
  let#[hp,g,d,tk,os]:=s;let#[q1,q2,h]:=h;have Eh:=sub_zip;have m1:SQ (Shared.heap #[hp,g,d,tk,os]) k1 l1 xs:=q1;have m2:SQ (Shared.heap #[hp.push (v5 k1 l1),g,d,tk,os]) k2 l2 ys:=q2.on λ o e=>JD _ e
  wp_walk using made m1,made m2
  show#[_,rfl,h]
section
variable {prog:Program}{w:World}{A:Around}{E:Af}{s:Shared}
def new {k1 k2:Bool}{l1 l2:Addr}{xs ys:Ax}{Q:Af}(h1:SQ s.heap k1 l1 xs) (h2:SQ s.heap k2 l2 ys)
  (h:∀ h' z TI TO i1 i2,(∀ b∈[z,TI,TO,i1,i2],s.heap.objs.size<=b)->lS z TI TO i1 i2 l1 l2->At h' k1 k2 z TI TO i1 i2 l1 l2 .none 0->(∀ c o,s.heap.get? c=↑o->h'.get? c=↑o)->Q (.ref z) { s with heap:=h' }):
  wpAny (model prog w) A (call (.type "zip") [.ref l1,.ref l2]) Q E s:=by
 exact callType_new F.called_zip () (F.typeCall_zip_2 _ _) (F.newCall_zip_2 _ _) (λ obj=>F.args_object_init_3 obj _ _) F.entry_zip_new (RD k1 k2 l1 l2 xs ys) #[h1,h2,?_];have z1:(s.heap.push (v5 k1 l1)).objs.size=s.heap.objs.size+1:=Heap.size_push ..;have z2:(qG k1 k2 s.heap l1 l2).objs.size=s.heap.objs.size+2:=by rw[Heap.size_push,z1]
 have z3:(mH k1 k2 s.heap l1 l2).objs.size=s.heap.objs.size+3:=by rw[Heap.size_push,z2]
 have z4:(mG k1 k2 s.heap l1 l2).objs.size=s.heap.objs.size+4:=by rw[Heap.size_push,z3]
 have p1:∀ (h:Heap) (o:Obj),o.isFreed=false->(h.push o).get? h.objs.size=↑o:=λ h o e=>AJ _ e;have u:∀ {h:Heap}{b:Addr}{o:Obj}(o':Obj),h.get? b=↑o->(h.push o').get? b=↑o:=λ o' e=>JD _ e;have g5:(qF k1 k2 s.heap l1 l2).get? (mG k1 k2 s.heap l1 l2).objs.size=↑_:=p1 _ _ rfl;have g4:(qF k1 k2 s.heap l1 l2).get? (mH k1 k2 s.heap l1 l2).objs.size=↑_:=u _ (p1 _ _ rfl);have g3:(qF k1 k2 s.heap l1 l2).get? (qG k1 k2 s.heap l1 l2).objs.size=↑_:=u _ (u _ (p1 _ _ rfl));have g2:(qF k1 k2 s.heap l1 l2).get? (s.heap.push (v5 k1 l1)).objs.size=↑(v5 k2 l2):=u _ (u _ (u _ (p1 _ _ rfl)));have g1:(qF k1 k2 s.heap l1 l2).get? s.heap.objs.size=↑(v5 k1 l1):=u _ (u _ (u _ (u _ (p1 _ _ rfl))));have a1:=h1.lt;have a2:=h2.lt;rw[z2,z3,z4] at g5;rw[z1,z2] at g3;rw[z3] at g4;rw[z1] at g2;generalize hN:s.heap.objs.size=N at *;have lt:∀ {m:Nat},m<N->∀ j:Nat,¬ m=N+j:=λ hm j=>⋯;have ne:∀ {i j:Nat},i≠j->¬ (N+i=N+j):=λ Bg e=>Bg ⋯;change _/\_;rw[z4];exact#[#[_,g5,rfl],h _ (N+4) (N+2) (N+3) N (N+1) (λ b hb=>?_) #[?_,?_,?_] #[g5,g3,#[_,_,g4],#[_,g1,rfl,rfl],#[_,g2,rfl,rfl]] λ c o e=>u _ (u _ (u _ (u _ (u _ e))))]
 .simp![Ah,A_,or_false] at hb;have h0:N<=N:=Aj N;rcases hb with e | e | e | e | e <;> subst e
  .show CH N 4
  .show CH N 2
  .show CH N 3
  .show h0
  .show CH N 1
 .have e0:∀ {i:Nat},i≠0->¬ (N+i=N):=λ hi e=>hi ⋯;have e0':∀ {i:Nat},i≠0->¬ (N=N+i):=λ hi e=>hi ⋯;simp![Bn,Ah,A_,or_false,not_or,Dt,and_true,not_false_eq_true];show#[#[ne (),ne (),e0 (),ne ()],#[ne (),e0 (),ne ()],#[e0 (),ne ()],e0' ()]
 .simp![Ah,A_,or_false,not_or];show#[lt a1 4,lt a1 2,lt a1 3,AF a1,lt a1 1]
 .simp![Ah,A_,or_false,not_or];show#[lt a2 4,lt a2 2,lt a2 3,AF a2,lt a2 1]
end
end ZP
namespace L2
open PySem PySem.Spec PyProof.Rows ZP
section
variable {X:Cx}{EN:Ai}{B:St}{H:Hp}{s:Shared}
def Inv.nC {h':Heap}{t':Nat}{fp:List Addr}(I:Inv X EN B H s) (k:∀ b o,b∉fp->s.heap.get? b=↑o->h'.get? b=↑o) (hf:∀ b∈fp,vG X EN H b):Inv X EN B H { s with heap:=h',toks:=t' }:=by
 have HJ:∀ b u,H b=↑u->b∉fp:=λ b u e z=>by rw[(hf b z).1] at e;cases e
 exact I.step (g':=s.gens) (d':=s.drawn) (ch:=fp) (λ b hb=>?_) (λ b o _ _ hc e _=>k b o hc e) (λ b o _ _ hc e _=>#[o.slots,k b o hc e]) (λ _ _ _ _ n=>n)
  (λ b o hc e=>#[o,k b o hc e]) (λ _ _ e=>e) (λ _ _ _ e=>e) (λ b ps e=>#[[].toArray,by rw[e];simp]) (λ m hm=>?_) (λ b u e=>?_) I.bare
 .let#[_,q1,_,q2,q3,q4]:=hf b hb;show#[q2,q1,q3,q4]
 .let#[o,es,ep,ho,r]:=hm;show#[o,es,ep,k _ o (λ z=>(hf _ z).2.1 rfl) ho,r]
 .exact (I.zu b u e).uY (λ c v hc q=>k c v ?_ q) (λ _ q=>q) λ _ _ q=>q;rcases hc with z | z
  .rw[z];show HJ b u e
  .show HJ c _ z
def xU (K:Ac) (H:Hp) (k:Bool) (a:Addr) (xs:List V):Prop:=match k with
 | true=>zN K H a xs
 | false=>zC K H a xs
def xU.of (I:Inv X EN B H s) {k:Bool}{a:Addr}{xs:List V}(h:xU X.K H k a xs):∃ Aa:List Value,Vals xs Aa/\SQ s.heap k a Aa.toArray:=by
 cases k with
 | true=>let#[Aa,rv,p,_]:=I.tuple h;show#[Aa,rv,p]
 | false=>let#[Aa,rv,p,_]:=I.list h;show#[Aa,rv,p.isList]
def xU.inj (I:Inv X EN B H s) {k:Bool}{a:Addr}{xs ys:List V}(h:xU X.K H k a xs) (h':xU X.K H k a ys):xs=ys:=by
 cases k with
 | true=>show I.kq h h'
 | false=>show I.jx h h'
def aM (K:Ac) (k1 k2:Bool) (a1 a2:Addr):It:=
 #[λ i H=>∃ xs ys x y,xU K H k1 a1 xs/\xU K H k2 a2 ys/\xs[i]?=↑x/\ys[i]?=↑y,
   λ i H v H'=>∃ p x y,v=.ref p/\H p=none/\H'=upd H p (.tup [x,y])/\(∀ xs,xU K H k1 a1 xs->xs[i]?=↑x)/\∀ ys,xU K H k2 a2 ys->ys[i]?=↑y,
   λ i H=>∃ xs ys,xU K H k1 a1 xs/\xU K H k2 a2 ys/\(xs.length<=i\/ys.length<=i)]
def Yv {P:Program}{w:World}{K:Ac}{es:List Expr}{kk} {pos:Pos}{k1 k2:Bool}{z TI TO i1 i2 a1 a2:Addr}(D:lS z TI TO i1 i2 a1 a2):
  Turn P w K (.Tuple es kk pos) (aM K k1 k2 a1 a2) [z,TI,TO,i1,i2] z (λ i h=>At h k1 k2 z TI TO i1 i2 a1 a2 .none i) where
 mem:=#[]
 obj:=λ i h st b hb=>by
  let#[q1,q2,#[_,_,q3],#[o1,q4,_,d1],#[o2,q5,_,d2]]:=st;simp![Ah,A_,or_false] at hb;rcases hb with e | e | e | e | e <;> subst e
  .show#[_,q1,λ v z=>by cases z]
  .show#[_,q2,λ v z=>by cases z]
  .show#[_,q3,λ v z=>by cases z]
  .show#[_,q4,λ v z=>by rw[d1] at z;cases z]
  .show#[_,q5,λ v z=>by rw[d2] at z;cases z]
 keep:=λ i h h' st k=>st.keep k
 item:=by
  intro X hP hw hK hc i EN s B H E I hf st hg;subst hP hw hK;let#[xs,ys,x,y,g1,g2,hx,hy]:=hg;let#[IW,IJ,q1]:=g1.of I;let#[it2,Hc,q2]:=g2.of I;let#[u1,e1,r1]:=IJ.get hx;let#[u2,e2,r2]:=Hc.get hy;exact ZP.item D st q1 q2 (x:=u1) (y:=u2) (by exists e1) (by exists e2) λ h' S' T' up=>#[_,rfl,?_];exact wpAny_letOwnedTupleGo_zip S'.z λ h2 z2 sb=>?_;have nT:s.heap.objs.size∉[z,TI,TO,i1,i2]:=λ hb=>by
   let#[o,ho,_]:=(show ∃ o,s.heap.get? s.heap.objs.size=↑o/\True from by
    let#[w1,w2,#[_,_,w3],#[o1,w4,_],#[o2,w5,_]]:=st;simp![Ah,A_,or_false] at hb;rcases hb with e | e | e | e | e <;> rw[e]
    .show#[_,w1,trivial]
    .show#[_,w2,trivial]
    .show#[_,w3,trivial]
    .show#[_,w4,trivial]
    .show#[_,w5,trivial])
   show absurd (Au ho) (BQ _)
  have nz:s.heap.objs.size≠z:=λ e=>nT (by simp[e]);have fr:H s.heap.objs.size=none:=I.zu.fresh (Aj _);have I1:Inv X EN B (upd H s.heap.objs.size (.tup [x,y])) { s with heap:=s.heap.push { cls:=.type "tuple",data:=.seq [u1,u2].toArray },toks:=s.toks }:=
   I.laid (o:=.tup [x,y]) (λ b u q=>JD _ q) (Aj _) #[#[by change 2<=sizeLine;decide,.new _],[u1,u2],.cons r1 (.cons r2 .nil),IsTup.new _ _]
  have Gh:∀ b∈[z,TI,TO,i1,i2],upd H s.heap.objs.size (.tup [x,y]) b=none:=λ b hb=>by
   rw[zW (λ e=>nT (by rw[<- e];show hb))];show (hf b hb).1
  have kk:∀ b o,b∉[z,TI,TO,i1,i2]->(s.heap.push { cls:=.type "tuple",data:=.seq [u1,u2].toArray }).get? b=↑o->h2.get? b=↑o:=λ b o hb q=>by
   have hbz:b≠z:=λ e=>hb (by simp[e]);by_cases Dq:b=s.heap.objs.size
   .subst Dq;rw[AJ _ rfl] at q;cases q;show sb.extBut _ _ nz T'
   .have q':s.heap.get? b=↑o:=by rw[Heap.get?_push_ne _ _ _ Dq] at q;show q
    show sb.extBut _ _ hbz (up b o hb q')
  have I2:=Inv.nC (h':=h2) (t':=s.toks) (fp:=[z,TI,TO,i1,i2]) I1 kk λ b hb=>#[Gh b hb,(hf b hb).2];exact#[.ref s.heap.objs.size,_,I2,rfl,#[_,x,y,rfl,fr,rfl,λ zs hz=>by rw[hz.inj I g1];show hx,λ zs hz=>by rw[hz.inj I g2];show hy],#[z2,?_,?_,?_,?_],Gh]
  .have nd:=D.nd;simp![Bn,Ah,A_,or_false,not_or] at nd;show sb.extBut _ _ (Ne.symm nd.1.1) S'.ti
  .let#[a,b,e]:=S'.to;have nd:=D.nd;simp![Bn,Ah,A_,or_false,not_or] at nd;show#[a,b,sb.extBut _ _ (Ne.symm nd.1.2.1) e]
  .have nd:=D.nd;simp![Bn,Ah,A_,or_false,not_or] at nd;show S'.s1.on λ o q=>sb.extBut _ _ (Ne.symm nd.1.2.2.1) q
  .have nd:=D.nd;simp![Bn,Ah,A_,or_false,not_or] at nd;show S'.s2.on λ o q=>sb.extBut _ _ (Ne.symm nd.1.2.2.2) q
 done:=by
  intro X hP hw hK hc i EN s B H E I hf st hg;subst hP hw hK;let#[xs,ys,g1,g2,hx]:=hg;let#[IW,IJ,q1]:=g1.of I;let#[it2,Hc,q2]:=g2.of I;have l1:=IJ.length;have l2:=Hc.length;exact ZP.stop (I.ok.hd hc) D st q1 q2 ?_ λ h' up=>#[rfl,I.nC (t':=s.toks) up hf];rcases hx with hx | hx
  .show .inl (by simp;lia)
  .show .inr (by simp;lia)
 self:=λ _ _ _ _ _ st h=>wpAny_pyIter_zip st.z h
def Q9 (K:Ac) (ta:TA):TI:=fun B H R=>ta B H λ vs H1=>∃ a1 a2 k1 k2,vs=[.ref a1,.ref a2]/\(∃ xs,xU K H1 k1 a1 xs)/\(∃ ys,xU K H1 k2 a2 ys)/\R (aM K k1 k2 a1 a2) H1
theorem Wa {a b:Expr}{ta:TA}{p pos pos':Pos}{es:List Expr}{kk} (hg:Gl X "zip") (hm:X.mg "zip"=none) (ha:PA X [a,b] ta) (hs:starEach [a,b] X.env=[(false,eval a X.env),(false,eval b X.env)]:=by rfl) (Hg:starEach [b] X.env=[(false,eval b X.env)]:=by rfl):
  PI X (.Tuple es kk pos') (.Call (.Name "zip" p) [a,b] [] pos) (Q9 X.K ta):=by
 intro EN s B H R I h;exact Call_ (qA I hg hm boot_zip (PyProof.Rows.callWith_type1 (zx (ha pos EN s B H _ I h) λ us s1 #[vs,H1,I1,r1,q1]=>?_) (by rw[hs,Hg]) (by rw[Hg];rfl)));let#[a1,a2,k1,k2,rfl,#[xs,g1],#[ys,g2],q]:=q1;cases r1 with
 | cons r rr=>
  cases rr with
  | cons r' rr=>
   cases rr;cases r;cases r';let#[IW,_,q1]:=g1.of I1;let#[it2,_,q2]:=g2.of I1;exact ZP.new q1 q2 λ h' z TI TO i1 i2 nw D S up=>wpAny_pyIter_zip S.z ?_;show#[z,[z,TI,TO,i1,i2],_,_,H1,rfl,I1.kept (t':=s1.toks) up,Yv D,S,λ b hb=>I1.mJ (nw b hb) (I1.zu.fresh (nw b hb)),q]
end
end L2
namespace L5
open PySem PySem.Spec L2 L3
open PyProof.Rows hiding St
section
variable {K:Ac}{a:Expr}{p:Pos}
def dM (t:yf):wc:=fun L S R=>t L S λ ds S1=>∃ d e xs ys,ds=[d,e]/\zH d S1=↑xs/\zH e S1=↑ys/\R #[List.zipWith (λ x y=>D.tup [x,y]) xs ys,λ S=>zH d S=↑xs/\zH e S=↑ys] S1
def pR:D->Bool
 | .tup _=>true
 | _=>false
def zH.k {H:Hp}{S:SS}{d:D}{v:V}{ds:List D}(r:ze K H d v) (p:zF K H S) (e:zH d S=↑ds):∃ a xs,v=.ref a/\xU K H (pR d) a xs/\zk K H ds xs:=by
 by_cases q:∃ ts,d=.tup ts
 .let#[ts,rfl]:=q;cases e;simp![ze] at r;let#[a,xs,h1,h2,h3]:=r;show#[a,xs,h1,h2,h3]
 .let#[a,xs,h1,h2,h3]:=sZ r p e λ ts z=>q #[ts,z];exact#[a,xs,h1,?_,h3];have:pR d=false:=by cases d <;> first | rfl | show absurd #[_,rfl] q
  rw[this];show h2
end
section
variable {X:Cx}{a b:Expr}{tA:yf}{pos p pos':Pos}{es:List Expr}{kk:Nat}
def Vi (hm:X.mg "zip"=none) (ha:yX X [a,b] tA) (hg:Gl X "zip") (hs:starEach [a,b] X.env=[(false,eval a X.env),(false,eval b X.env)]) (Hg:starEach [b] X.env=[(false,eval b X.env)]):
  u5 X (.Tuple es kk pos') (.Call (.Name "zip" p) [a,b] [] pos) (dM tA):=by
 exact#[fun L S Q Q' hq z=>ha.mo L S _ _ (λ ds S1 #[d,e,xs,ys,h1,h2,h3,h4]=>#[d,e,xs,ys,h1,h2,h3,hq _ _ h4]) z,PI.imp (Wa hg hm ha.pa hs Hg) fun B H R hu=>?_];let#[L,S,r1,r2,z]:=hu;exact wg.go ha.mo r1 r2 z λ ds S1 vs H1 h1 q1 e1 p1=>?_;let#[d,e,xs,ys,rfl,s1,s2,h]:=h1;let#[v,u,rfl,d1,d2]:=q1.two;let#[a1,us,rfl,g1,g2]:=zH.k d1 p1 s1;let#[a2,ws,rfl,g3,g4]:=zH.k d2 p1 s2;exact#[a1,a2,pR d,pR e,rfl,#[us,g1],#[ws,g3],h _ H1 e1 p1 λ i H2 S2 x1 x2 hk=>?_];let#[b1,HA,q1,m1,m2]:=zH.k (ze.ext x1 d d1) x2 hk.1;cases q1;let#[b2,ws2,q2,m3,m4]:=zH.k (ze.ext x1 e d2) x2 hk.2;cases q2;have l1:=m2.length;have l2:=m4.length;exact#[λ dd hd=>?_,λ hl=>#[HA,ws2,m1,m3,?_]]
 .rw[List.getElem?_zipWith] at hd;split at hd
  .rename_i dx dy hx hy;cases hd;let#[x,Gz,rx]:=m2.get hx;let#[y,Hf,ry]:=m4.get hy;exact#[#[HA,ws2,x,y,m1,m3,Gz,Hf],λ v H' q=>?_];let#[pp,x',y',rfl,hp,rfl,f1,f2]:=q;have ex:x'=x:=by have:=f1 _ m1;rw[Gz] at this;show (A1 this).symm
   have ey:y'=y:=by have:=f2 _ m3;rw[Hf] at this;show (A1 this).symm
   subst ex ey;exact#[.new hp _,x2.new hp,?_];simp![ze];show#[pp,_,rfl,zN.of y6,zk.ext (.new hp _) _ (.cons rx (.cons ry .nil))]
  .cases hd
 .have FW:(List.zipWith (λ x y=>D.tup [x,y]) xs ys).length<=i:=hl;rw[List.length_zipWith] at FW;lia
@[simp] def kg:List T->Option (List T)
 | [x,y]=>(xv x).bind λ xs=>(xv y).map λ ys=>List.zipWith (λ a b=>T.tup [a,b]) xs ys
 | _=>none
theorem gW {S:SS}:∀ {ts us:List T}{ds es:List D},zj S ts ds->zj S us es->zj S (List.zipWith (λ a b=>T.tup [a,b]) ts us) (List.zipWith (λ x y=>D.tup [x,y]) ds es)
 | [],us,ds,es,h,h'=>by simp![zj] at h;subst h;exists zj.nil
 | t::ts,[],ds,es,h,h'=>by simp![zj] at h';subst h';exists zj.nil
 | t::ts,u::us,ds,es,h,h'=>by
  simp![zj] at h h';let#[c,cs,rfl,h1,h2]:=h;let#[c',cs',rfl,h3,h4]:=h';show zj.cons (qk (zj.cons h1 (zj.cons h3 zj.nil))) (gW h2 h4)
def zH.sx {S S':SS}{d:D}{ds:List D}(h:zH d S=↑ds) (s:Sx S S'):zH d S'=↑ds:=by
 unfold zH at h ⊢;split at h
 .show h
 .show h
 .split at h
  .rename_i q;cases h;rw[s _ _ q]
  .cases h
 .cases h
def Te {g:Ev->Option (List T)}(h:rX g tA):sP false (xx kg g) (dM tA):=λ S Z L J ts Q hE e hq=>by
 let#[ys,e1,e2]:=Ak.mp e;exact h S Z L J ys _ hE e1 λ ds S1 s1 r1=>?_;unfold kg at e2;split at e2
 .let#[xs,e3,e4]:=Ak.mp e2;let#[zs,e5,rfl]:=AE.mp e4;let#[d,d',rfl,h1,h2]:=gr r1;let#[es,g1,g2]:=h1.seq e3;let#[FC,g3,g4]:=h2.seq e5;show#[d,d',es,FC,rfl,g1,g3,hq _ S1 s1 (gW g2 g4) λ Ha s=>#[zH.sx g1 s,zH.sx g3 s]]
 .cases e2
theorem zH.zE {S:SS}{Z:Addr->Prop}{y:T}{d:D}{ts:List T}(h:Sn (zE S Z) y d) (e:xv y=↑ts):∃ ds,zH d (zE S Z)=↑ds/\zj (zE S Z) ts ds:=by
 cases y with
 | tup us=>cases e;simp![Sn] at h;let#[ds,rfl,h2]:=h;show#[ds,rfl,h2]
 | lst us=>
  cases e;simp![Sn] at h;obtain⟨ds,⟨rfl,_⟩ | ⟨a,rfl,h1⟩,h2⟩:=h
  .show#[ds,rfl,h2]
  .show#[ds,by unfold zH;dsimp only;rw[h1],h2]
 | _=>cases e
end
end L5
namespace TM
open PySem PyProof.Rows
def noFill:fillsNumberSlot (.type "tuple") "mul"=pure false:=
 PySem.fillsNumberSlot_seq (id:="tuple.__mul__") (r:=↑(.builtin "tuple.__rmul__")) F.slot_tuple_mul.lookup (AM) F.slot_tuple_rmul.lookup (AM)
def rep:seqRepeat? (.type "tuple")=pure ↑(.builtin "tuple.__mul__"):=by
 have a:=PySem.seqSlot_of (T:="tuple") (name:="__mul__") (id:="tuple.__mul__") F.slot_tuple_mul.lookup (AM);have b:=PySem.seqSlot_of (T:="tuple") (name:="__rmul__") (id:="tuple.__rmul__") F.slot_tuple_rmul.lookup (AM);unfold seqRepeat?;rw[a,b];rfl
def declines (i:Int) (t:Tok) (l:Addr) (items:Ax) (n:Nat) (dd:Option Addr) (sl:Array (Option Value)):
  Meets (Builtin.«int.__rmul__» #[[.int i t,.ref l],[]]) (λ _ R s=>s.heap.get? l=↑{ cls:=.type "tuple",dict:=dd,data:=.seq items n,slots:=sl }/\R (.ok (.ret Value.notImplemented)) s):=
 .of_wp λ prog w A R s h=>by
  let#[hp,g,d,tk,os]:=s;let#[hl,h]:=h
  wp_walk
  show#[_,rfl,h]
theorem jS {α:Type}(xs:List α):∀ (m:Nat) (acc:Array α),(List.replicate m xs.toArray).foldl (·++·) acc=acc++(List.replicate m xs).flatten.toArray
 | 0,acc=>#[]
 | m+1,acc=>by
  rw[BO,Dx,jS xs m,BO,Cd,Array.append_assoc];simp
def R4 (k:Int) (t:Tok) (l:Addr) (items:Ax) (n:Nat) (dd:Option Addr) (sl:Array (Option Value)) (h1:¬ (decide (k < -(2 ^ 63))||decide (k≥2 ^ 63))=true) (h2:¬ (items.isEmpty||k == 1)=true) (h3:¬ (decide (k<=0)||items.isEmpty)=true)
  (h4:¬ (items.size*k>(2 ^ 63-1)/8)) (h5:¬ Builtin.Tuple.tupleTooMany (items.size*k)=true) (h6:((List.replicate k.toNat items).foldl (·++·) [].toArray).size<=sizeLine):
  Meets (Builtin.«tuple.__mul__» #[[.ref l,.int k t],[]]) (λ _ R s=>s.heap.get? l=↑{ cls:=.type "tuple",dict:=dd,data:=.seq items n,slots:=sl }/\
   R (.ok (.ret (.ref s.heap.objs.size))) { s with heap:=s.heap.push { cls:=.type "tuple",data:=.seq ((List.replicate k.toNat items).foldl (·++·) [].toArray) } }):=
 .of_wp λ prog w A R s h=>by
  let#[hp,g,d,tk,os]:=s;let#[hl,h]:=h;have e0:IsTup (Shared.heap #[hp,g,d,tk,os]) l items:=#[_,hl,rfl,n,rfl]
  wp_walk
  rw[if_neg h1];exact IE (m:=Builtin.Tuple.tupleItemsOf (.ref l)) (tupleItemsOf_ e0 ?_);dsimp only;rw[if_neg h2,if_neg h3,if_neg h4,if_neg h5];show IE (m:=Builtin.Tuple.tupleExact _) (JM (Ad #[_,rfl,h]) h6)
def R5 (t:Tok) (l:Addr) (items:Ax) (n:Nat) (dd:Option Addr) (sl:Array (Option Value)):
  Meets (Builtin.«tuple.__mul__» #[[.ref l,.int 1 t],[]]) (λ _ R s=>s.heap.get? l=↑{ cls:=.type "tuple",dict:=dd,data:=.seq items n,slots:=sl }/\R (.ok (.ret (.ref l))) s):=
 .of_wp λ prog w A R s h=>by
  let#[hp,g,d,tk,os]:=s;let#[hl,h]:=h;have c:(items.isEmpty||(1:Int) == 1)=true:=#[]
  wp_walk
  show#[_,rfl,h]
section
variable {prog:Program}{w:World}{A:Around}{E:Af}{s:Shared}
def times {l:Addr}{Aa:Ae}{k:Int}{t:Tok}{Q:Af}(ht:IsTup s.heap l Aa.toArray) (Aq:Aa≠[]) (h0:1<=k) (hz:Aa.length*k.toNat<=sizeLine)
  (one:k=1->Q (.ref l) s) (more:k≠1->Q (.ref s.heap.objs.size) { s with heap:=s.heap.push { cls:=.type "tuple",data:=.seq (List.replicate k.toNat Aa).flatten.toArray } }):
  wpAny (model prog w) A (binaryOp .Mult (.ref l) (.int k t)) Q E s:=by
 have hT:=ht.typeIs;let#[#[cls,dd,data,sl],ho,hc,n,hd]:=id ht;simp only at hc hd;subst hc hd;exact wpAny_binaryOp_repeat_ref (T:="tuple") (U:="int") () hT (λ s'=>typeIs_int s' k t) noFill F.fills_int_mul F.slot_int_rmul rep F.slot_int_index.lookup
  (call_meets F.slot_int_rmul (typeIs_int s k t) F.entry_int_rmul (F.args_int_rmul_2 _ _) (declines k t l Aa.toArray n dd sl) #[ho,rfl,hT,?_])
 have hlen:0<Aa.length:=List.length_pos_iff.mpr Aq;have DU:Aa.toArray.isEmpty=false:=by cases Aa with
  | nil=>show absurd rfl Aq
  | cons a r=>rfl
 by_cases h1:k=1
 .subst h1;show call_meets F.slot_tuple_mul hT F.entry_tuple_mul (F.args_tuple_mul_2 _ _) (R5 t l Aa.toArray n dd sl) #[ho,one rfl]
 .have hks:k.toNat<=sizeLine:=Be (Nat.le_mul_of_pos_left _ hlen) hz;have hl:sizeLine=16777216:=rfl;have Ji:k<=16777216:=⋯;have G8:((Aa.toArray.size:Nat):Int)*k=((Aa.length*k.toNat:Nat):Int):=by
   rw[AB,Int.natCast_mul,C9 ⋯]
  have hf:(List.replicate k.toNat Aa.toArray).foldl (·++·) [].toArray=(List.replicate k.toNat Aa).flatten.toArray:=by rw[jS];simp
  have EF:(List.replicate k.toNat Aa).flatten.length=k.toNat*Aa.length:=#[];exact call_meets F.slot_tuple_mul hT F.entry_tuple_mul (F.args_tuple_mul_2 _ _) (R4 k t l Aa.toArray n dd sl ?_ ?_ ?_ ?_ ?_ ?_) #[ho,?_]
  .simp![DY,decide_eq_true_eq,not_or];show#[⋯,⋯]
  .rw[DU];exists h1
  .rw[DU];simp;lia
  .rw[G8];lia
  .rw[G8];intro q;unfold Builtin.Tuple.tupleTooMany at q;have:=of_decide_eq_true q;lia
  .rw[hf,AB,EF,DB];show hz
  .rw[hf];show more h1
end
end TM
namespace L2
open PySem PySem.Spec PyProof.Rows
def kL (K:Ac):R2:=λ x y H Q=>∃ a k xs,x=.ref a/\y=.int k/\zN K H a xs/\xs≠[]/\1<=k/\xs.length*k.toNat<=sizeLine/\(k=1->Q (.ref a) H)/\(k≠1->∀ p,H p=none->Q (.ref p) (upd H p (.tup (List.replicate k.toNat xs).flatten)))
theorem U4 {X:Cx}:ya X (binaryOp .Mult) (kL X.K):=by
 intro EN s B H x y v u Q I rx ry h;let#[a,k,xs,rfl,rfl,hx,Aq,h1,hz,q1,q2]:=h;cases rx;let#[t,rfl]:=ry;let#[Aa,r,ht,_]:=I.tuple hx;have hl:=r.length;exact TM.times ht (λ z=>Aq (r.pO.mp z)) h1 (by rw[<- hl];show hz) (λ e=>#[.ref a,H,I,rfl,q1 e]) λ e=>?_;have hlen:(List.replicate k.toNat xs).flatten.length<=sizeLine:=by
  have:(List.replicate k.toNat xs).flatten.length=k.toNat*xs.length:=#[];rw[this,DB];show hz
 show#[.ref _,_,I.laid (t':=s.toks) (o:=.tup (List.replicate k.toNat xs).flatten) (λ b ob q=>JD _ q) (Aj _) #[#[hlen,.new _],_,r.rep k.toNat,IsTup.new _ _],rfl,q2 e _ (I.zu.fresh (Aj _))]
end L2
namespace L5
open PySem PySem.Spec L2 L3
open PyProof.Rows hiding St
section
variable {K:Ac}{a:Expr}
def uI:yH:=λ x y S Q=>match x,y with
 | .int i,.int j=>xV i j/\Q (.int (i*j)) S
 | .tup ds,.int k=>(ds≠[]/\1<=k/\ds.length*k.toNat<=sizeLine)/\Q (.tup (List.replicate k.toNat ds).flatten) S
 | _,_=>False
def jn:T->T->Option T
 | .int i,.int j=>if xV i j then ↑(.int (i*j)) else none
 | .tup ts,.int k=>if ts≠[]/\1<=k/\ts.length*k.toNat<=sizeLine then ↑(.tup (List.replicate k.toNat ts).flatten) else none
 | _,_=>none
def uI.mo:xq uI:=λ x y S Q Q' hq h=>by
 unfold uI at h ⊢;split at h
 .show#[h.1,hq _ _ h.2]
 .show#[h.1,hq _ _ h.2]
 .show h.elim
theorem zk.rep {H:Hp}{ds:List D}{xs:List V}(h:zk K H ds xs):∀ n:Nat,zk K H (List.replicate n ds).flatten (List.replicate n xs).flatten
 | 0=>.nil
 | n+1=>by
  rw[BO,BO,Cd,Cd];show h.append (zk.rep h n)
def uI.fits:xm K uI (λ x y H Q=>rI xV (λ i j=>.int (i*j)) x y H Q\/kL K x y H Q):=λ x y d e H S Q h1 h2 h3 h=>by
 unfold uI at h;split at h
 .simp![ze] at h1 h2;show .inl #[_,_,h1,h2,h.1,h.2 _ H (by simp![ze]) (.refl H) h3]
 .rename_i ds k;let#[#[c1,c2,c3],h]:=h;have GC:=h1;simp![ze] at h1 h2;let#[a,xs,rfl,g1,g2]:=h1;have hl:=g2.length;exact .inr #[a,k,xs,rfl,h2,g1,λ z=>c1 (by subst z;cases ds with | nil=>rfl | cons _ _=>simp at hl),c2,by rw[<- hl];show c3,λ e=>?_,λ e p hp=>?_]
  .subst e;exact h _ H ?_ (.refl H) h3;have:(List.replicate (1:Int).toNat ds).flatten=ds:=#[];rw[this];show GC
  .exact h _ _ ?_ (.new hp _) (h3.new hp);simp![ze];show#[p,_,rfl,zN.of y6,zk.ext (.new hp _) _ (zk.rep g2 _)]
 .show h.elim
theorem zj.rep {S:SS}{ts:List T}{ds:List D}(h:zj S ts ds):∀ n:Nat,zj S (List.replicate n ts).flatten (List.replicate n ds).flatten
 | 0=>.nil
 | n+1=>by
  rw[BO,BO,Cd,Cd];show h.append (zj.rep h n)
def cD:Good2 zA jn uI:=λ S Z x y z d e Q hz hx hy ef hq=>by
 unfold jn at ef;split at ef
 .split at ef
  .rename_i hc;cases ef;cases hx.int;cases hy.int;show#[hc,hq _ S (.refl S) (Cl.of (λ _=>nofun) xN)]
  .cases ef
 .split at ef
  .rename_i hc;cases ef;let#[ds,rfl,h2]:=hx.tup;cases hy.int;have hl:=h2.len;show#[#[λ q=>hc.1 (by subst q;exists hl.symm),hc.2.1,by rw[hl];show hc.2.2],hq _ S (.refl S) (Cl.of (λ _=>nofun) (qk (zj.rep h2 _)))]
  .cases ef
 .cases ef
end
end L5
namespace L4
open PySem PyProof.Rows
section
variable {prog:Program}{w:World}{A:Around}{E:Af}{s:Shared}
def O0 {l:Addr}{vs:Ae}{Q:List Value->Shared->Prop}(hl:IsTup s.heap l vs.toArray) (hz:vs.length<=sizeLine)
  (h:Q vs { s with heap:=(s.heap.push (seqObj "list" [].toArray 0)).update s.heap.objs.size (Obj.mapSeq (·++vs.toArray)) }):wpAny (model prog w) A (collect (.ref l)) Q E s:=by
 let#[o,ho,hc,n,hd]:=id hl;have new:(s.heap.push (seqObj "list" [].toArray 0)).get? s.heap.objs.size=↑(seqObj "list" [].toArray 0):=AJ _ rfl;have Fq:(s.heap.push (seqObj "list" [].toArray 0)).get? l=↑o:=JD _ ho;unfold collect;exact IE (wpAny_runValue (codeAny_builtin entry_proto_collect' (IE (m:=newList []) (wpAny_newList (Ad #[Code.quiet_builtin _ (AM),codeAny_builtin entry_list_iadd' ?_])))));change wpAny _ _ (Builtin.List.listExtendWith (.ref s.heap.objs.size) (.ref l) (.ref s.heap.objs.size)) _ _ { s with heap:=s.heap.push (seqObj "list" [].toArray 0) };unfold Builtin.List.listExtendWith;exact IE (wpAny_typeOf (T:="tuple") #[o,Fq,hc] ?_);rw[if_pos (by rw[show (Value.type "tuple" == Value.type "tuple")=true from rfl];simp)];exact IE (listItems_at Fq hd (IE (listItems_at (xs:=[].toArray) (n:=0) new rfl ?_)));rw[if_neg #[]];exact IE (listUpdate_at (xs:=[].toArray) (n:=0) new rfl (Ad ?_) (AR _) (by change ([].toArray++vs.toArray).size<=sizeLine+1;simp![Array.size_append,AB,C7];lia));exact IE (m:=load s.heap.objs.size) (wpAny_load (get?_update_seq new _) ?_);change wpAny _ _ (pure (([].toArray:Ax)++vs.toArray).toList) Q E _;have e:(([].toArray:Ax)++vs.toArray).toList=vs:=#[];rw[e];show Ad h
end
section
open L2 PySem.Spec
variable {X:Cx}
def fO {s:Shared}{vs:Ae}:∀ b o,¬ False->s.heap.get? b=↑o->((s.heap.push (seqObj "list" [].toArray 0)).update s.heap.objs.size (Obj.mapSeq (·++vs.toArray))).get? b=↑o:=λ b o _ q=>by
 rw[JY _ _ _ _ (AF (Au q))];show JD _ q
theorem OD:y9 X (.builtin "sorted") (λ xs H Q=>∃ p ys,∃ rows:List (List Int),xs=[.ref p]/\(zC X.K H p ys\/zN X.K H p ys)/\sO X.K H ys rows/\rows.length<64/\oI (ys.zip rows) H Q):=by
 intro EN s B H xs us Q I r h;let#[p,ys,rows,rfl,hq,hr,FZ,q]:=h;let#[u,rfl,ru]:=vals1 r;cases ru;have hl:(ys.zip rows).length<64:=by rw[List.length_zip];lia
 have sz:∀ vs:List Value,s.heap.objs.size<=((s.heap.push (seqObj "list" [].toArray 0)).update s.heap.objs.size (Obj.mapSeq (·++vs.toArray))).objs.size:=λ vs=>by rw[Heap.size_update,size_push'];show Nat.le_succ _
 rcases hq with hq | hq
 .let#[Aa,rv,pl,hz]:=I.list hq;show kA I (λ Q' h=>collect_list pl.isList (h _ s.toks fO (sz Aa)) (by rw[<- rv.length];show hz)) (VR.of rv hr) hl q
 .let#[Aa,rv,pl,hz]:=I.tuple hq;show kA I (λ Q' h=>O0 pl (by rw[<- rv.length];show hz) (h _ s.toks fO (sz Aa))) (VR.of rv hr) hl q
end
end L4
namespace L5
open PySem PySem.Spec L2 L3
open PyProof.Rows hiding St
section
variable {X:Cx}{K:Ac}{e:Expr}{es:List Expr}{tA:yf}{pos p:Pos}
def sA:xf:=λ ds S Q=>∃ d,∃ rows:List (List Int),ds=[d]/\zH d S=↑(rows.map va)/\rows.length<64/\(∀ r∈rows,r≠[])/\∀ l,S l=none->Q (.ref l) (ups S l (.lst ((L4.xn rows).map va)))
def qh:An
 | [y]=>(xv y).bind λ ts=>(w_ ts).bind λ rs=>if rs.length<64/\∀ r∈rs,r≠[] then ↑(.lst ((L4.xn rs).map yd)) else none
 | _=>none
def QL:wX zA qh sA:=λ S Z ys z ds Q hz hv e hq=>by
 unfold qh at e;split at e
 .let#[d,rfl,h1]:=wC hv;let#[ts,e0,e]:=Ak.mp e;let#[rs,e1,e2]:=Ak.mp e;split at e2
  .rename_i hc;cases e2;cases kG e1;let#[es,h2,h3]:=h1.seq e0;cases qj.mp h3;show#[d,rs,rfl,h2,hc.1,hc.2,λ l hl=>hq _ _ (.new hl _) (tZ hz hl (qj.mpr rfl))]
  .cases e2
 .cases e
def sA.mo:wV sA:=λ ds S Q Q' hq #[d,rows,h0,h1,h2,h3,h4]=>#[d,rows,h0,h1,h2,h3,λ l hl=>hq _ _ (h4 l hl)]
def y9.or {f:Value}{r r':List V->Hp->VK->Prop}(h:y9 X f r) (h':y9 X f r'):y9 X f (λ xs H Q=>r xs H Q\/r' xs H Q):=λ EN s B H xs us Q I rv q=>
 q.elim (λ q=>h EN s B H xs us Q I rv q) λ q=>h' EN s B H xs us Q I rv q
def sA.fits:vI K sA (λ xs H Q=>∃ p ys,∃ rows:List (List Int),xs=[.ref p]/\(zC K H p ys\/zN K H p ys)/\L4.sO K H ys rows/\rows.length<64/\L4.oI (ys.zip rows) H Q):=λ xs ds H S Q h0 h2 h=>by
 let#[d,rows,rfl,e,FZ,Aq,h]:=h;let#[x,hx,h1]:=h0.one;subst hx;let#[a,ys,rfl,g1,g2]:=zH.sq h1 h2 e;have hl:=g2.length;rw[AA] at hl;exact#[_,ys,rows,rfl,g1,nN g2 Aq,FZ,λ l ps hf hp hs=>?_];have heq:=L4.gS (rows:=rows) (by have:=hp.map (·.2);rwa [List.map_snd_zip ⋯] at this) hs;have hx:Ext H (upd H l (.lst (ps.map (·.1)))):=.new hf _;exact h l (h2.none hf) _ _ (by simp![ze]) hx (h2.ups hx #[_,y6,?_]);rw[<- heq];show zk.ext hx _ (zk.nU λ q hq=>zk.nk g2 q (hp.mem_iff.mp hq))
def V3 (hm:X.mg "sorted"=none) (ha:yX X (e::es) tA) (hg:Gl X "sorted") (he:AG X e es) (Ar:AN X pos es):PD X (.Call (.Name "sorted" p) (e::es) [] pos) (xc sA tA):=
 vO (ui L4.OD hg hm boot_sorted ha.pa () () he Ar) sA.mo sA.fits ha.mo
end
end L5
namespace L2
open PySem PySem.Spec PyProof.Rows
section
variable {X:Cx}
def ud (r:Addr) (j:Int):Heap->Prop:=λ h=>∃ t u v,IsRange h r 0 j 1 t u v
def OL:y9 X (.type "range") (λ xs H Q=>∃ j,xs=[.int j]/\∀ r,H r=none->Q (.ref r) (upd H r (.ext (ud r j)))):=by
 intro EN s B H xs us Q I r h;let#[j,rfl,q]:=h;let#[u,rfl,ru]:=vals1 r;let#[t,rfl]:=ru;exact call_range_1 #[.ref s.heap.objs.size,_,I.laid (o:=.ext (ud s.heap.objs.size j)) (λ b o e=>JD _ e) (Aj _) ?_,rfl,q _ (I.zu.fresh (Aj _))];have here:ud s.heap.objs.size j (s.heap.push { cls:=.type "range",data:=.fields [.int 0 s.toks,.int j t,.int 1 (s.toks+1)].toArray }):=#[_,_,_,IsRange.new ..];exact#[here,#[_,AJ _ rfl],λ h1 h2 S k=>?_];let#[a,b,c,e]:=S;show#[a,b,c,k _ e]
theorem OT (hc:X.calm=true):y9 X (.type "list") (λ xs H Q=>∃ r j,xs=[.ref r]/\H r=↑(.ext (ud r j))/\0<=j/\j<=16777216/\∀ l,H l=none->Q (.ref l) (upd H l (.lst ((List.range j.toNat).map λ(k:Nat)=>V.int (k:Int))))):=by
 intro EN s B H xs us Q I r h;let#[a,j,rfl,hr,h0,h1,q]:=h;let#[u,rfl,ru]:=vals1 r;cases ru;obtain⟨⟨t,u,v,hR⟩,-,-⟩:=(show yL X.prog X.w H s.heap a (.ext (ud a j)) from I.zu a _ hr)
 have hsz:Builtin.Range.rangeSize 0 j 1=((j.toNat:Nat):Int):=by rw[rangeSize_one];split <;> lia
 exact call_list_range (n:=j.toNat) (I.ok.hd hc) hR (small_one () () ⋯ ⋯) hsz ⋯ λ h' tk acc c k e hi=>?_;exact#[.ref s.heap.objs.size,_,I.laid (o:=.lst ((List.range j.toNat).map λ(k:Nat)=>V.int (k:Int))) k (Aj _) #[?_,acc.toList,c,?_,by exists e],rfl,q _ (I.zu.fresh (Aj _))]
 .have:sizeLine=16777216:=rfl;simp;lia
 .let#[hn,hi]:=hi;exact ST.Paired.mk (by simp[hn]) λ i a b ha hb=>?_;rw[AH] at ha;let#[k',hk,rfl]:=AE.mp ha;let#[hk1,Ji]:=AX.mp hk;simp at Ji;subst Ji;let#[w,hw]:=hi i b (by exists hb);subst hw;show#[w,#[]]
end
end L2
namespace L5
open PySem PySem.Spec L2 L3
open PyProof.Rows hiding St
section
variable {X:Cx}{K:Ac}{e:Expr}{tA:yf}{pos p FN p2:Pos}
def t9:xf:=λ ds S Q=>∃ j:Int,ds=[.int j]/\0<=j/\j<=16777216/\∀ l,S l=none->Q (.ref l) (ups S l (.lst (vv 0 j.toNat)))
def pP:An
 | [.int j]=>if 0<=j/\j<=16777216 then ↑(.lst (rangeT 0 j.toNat)) else none
 | _=>none
def QR:wX zA pP t9:=λ S Z ys z ds Q hz hv e hq=>by
 unfold pP at e;split at e
 .let#[d,rfl,h1]:=wC hv;split at e
  .rename_i hc;cases e;cases h1.int;show#[_,rfl,hc.1,hc.2,λ l hl=>hq _ _ (.new hl _) (tZ hz hl (gX _ _))]
  .cases e
 .cases e
def t9.mo:wV t9:=λ ds S Q Q' hq #[j,h0,h1,h2,h3]=>#[j,h0,h1,h2,λ l hl=>hq _ _ (h3 l hl)]
theorem Xt {H:Hp}(n:Nat):zk K H (vv 0 n) ((List.range n).map λ(k:Nat)=>V.int (k:Int)):=by
 unfold vv
 induction List.range n with
 | nil=>show .nil
 | cons k l ih=>show .cons (by simp![ze];rw[Cg]) ih
def t9.fits:vI K t9 (λ xs H Q=>∃ j,xs=[.int j]/\∀ r,H r=none->∃ r' j',[V.ref r]=[.ref r']/\(upd H r (.ext (ud r j))) r'=↑(.ext (ud r' j'))/\0<=j'/\j'<=16777216/\
  ∀ l,(upd H r (.ext (ud r j))) l=none->Q (.ref l) (upd (upd H r (.ext (ud r j))) l (.lst ((List.range j'.toNat).map λ(k:Nat)=>V.int (k:Int))))):=λ xs ds H S Q h0 h2 h=>by
 let#[j,rfl,c1,c2,h]:=h;let#[x,hx,h1]:=h0.one;subst hx;simp![ze] at h1;subst h1;exact#[j,rfl,λ r hr=>#[r,j,rfl,y6,c1,c2,λ l hl=>?_]];have x1:Ext H (upd H r (.ext (ud r j))):=.new hr _;have Dh:l≠r:=λ z=>by subst z;rw[y6] at hl;cases hl
 have hlH:H l=none:=by rw[zW Dh] at hl;show hl
 have x2:Ext (upd H r (.ext (ud r j))) (upd (upd H r (.ext (ud r j))) l (.lst ((List.range j.toNat).map λ(k:Nat)=>V.int (k:Int)))):=.new hl _;show h l (h2.none hlH) _ _ (by simp![ze]) (x1.trans x2) ((h2.new hr).ups x2 #[_,y6,Xt _])
def VN (hm:X.mg "list"=none) (GY:X.mg "range"=none) (ha:yX X [e] tA) (hc:X.calm=true) (hg:Gl X "list") (GP:Gl X "range")
  (HW:AG X e [])
  (he:starEach [.Call (.Name "range" p2) [e] [] FN] X.env=(false,eval (.Call (.Name "range" p2) [e] [] FN) X.env)::starEach [] X.env) (Ar:AN X pos []) (Hh:AN X FN []):
  PD X (.Call (.Name "list" p) [.Call (.Name "range" p2) [e] [] FN] [] pos) (xc t9 tA):=by
 have h:=qt (p:=p) (OT hc) hg hm PyProof.Rows.boot_list (ra (qt OL GP GY boot_range ha.pa () () HW Hh) qv he) () () he Ar;show#[xc.mo t9.mo ha.mo,PE.imp h λ _ _ _ hu=>gG t9.mo t9.fits ha.mo hu]
end
end L5
namespace ST
open PySem PySem.SetTable PySem.Spec PyProof.Rows L2
def Q5 {us GZ:Ae}(p:GZ.Perm us):∀ {ms:List Int},IntsAre us ms->∃ F4,IntsAre GZ F4/\F4.Perm ms:=by
 induction p with
 | nil=>intro ms h;show#[ms,h,.refl _]
 | cons x _ ih=>
  intro ms h;cases h with
  | cons n t h=>
   let#[F4,h1,h2]:=ih h;show#[n::F4,.cons n t h1,h2.cons n]
 | swap x y l=>
  intro ms h;cases h with
  | cons n t h=>
   cases h with
   | cons m u h=>show#[m::n::_,.cons m u (.cons n t h),.swap _ _ _]
 | trans _ _ IY IX=>
  intro ms h;let#[m1,h1,h2]:=IX h;let#[m2,h3,h4]:=IY h1;show#[m2,h3,h4.trans h2]
theorem rQ.at {prog:Program}{w:World}{h:Heap}{a:Addr}{xs:List (Int×Tok)}(S:rQ prog w h a xs (tu w)):yJ w a (xs.map λ e=>Value.int e.1 e.2) h:=by
 let#[#[es,ep,t,ho,he,T,h1,h2,h3],_]:=S;have hm:7<=t.mask/\t.mask<=127:=by rcases T.mask with e | e | e <;> lia
 have hlen:es.size=xs.length:=by have:=congrArg List.length he;exists this
 show#[es,ep,t,#[ho,fits_of (n:=xs.length) hlen T #[] ⋯,T.wo,h1,h2],by rw[he,A0];rfl]
theorem cx:∀ xs:List (Int×Tok),IntsAre (xs.map λ e=>Value.int e.1 e.2) (xs.map (·.1))
 | []=>.nil
 | e::xs=>.cons e.1 e.2 (cx xs)
theorem gs:∀ {us:Ae}{ns:List Int},IntsAre us ns->Vals (ns.map V.int) us
 | _,_,.nil=>.nil
 | _,_,.cons n t h=>.cons #[t,rfl] (gs h)
section
variable {X:Cx}
def OI (hc:X.calm=true):y9 X (.type "set") (λ xs H Q=>∃ p,∃ ns:List Int,xs=[.ref p]/\zC X.K H p (ns.map V.int)/\ns.length<64/\
  ∀ (l:Addr) (us:Ae) (ms:List Int),H l=none->IntsAre us ms->ms.Nodup->(∀ n,n∈ms↔n∈ns)->Q (.ref l) (upd H l (.ext (yJ X.w l us)))):=by
 intro EN s B H xs us Q I r h;let#[p,ns,rfl,hq,FZ,q]:=h;let#[u,rfl,ru]:=vals1 r;cases ru;let#[Aa,rv,pl,hz]:=I.list hq;have hl:=rv.length;rw[AA] at hl;have iA:IntsAre Aa ns:=intsAre_of rv;have nums:Nums Aa.toArray ns:=λ i v hv=>by
  have HM:Aa[i]?=↑v:=by exists hv
  have hi:i<ns.length:=by rw[hl];show (AX.mp HM).1
  let#[u,e1,t,e2]:=rv.get (i:=i) (x:=V.int ns[i]) (by simp[hi]);rw[HM] at e1;cases e1;show#[ns[i],t,e2,by simp[hi]]
 have hh:X.A.handled=none:=I.ok.hd hc;exact OJ (A:=X.A) hh pl.isList nums (by rw[AB];lia) λ h' tk xs S U k=>?_;have kk:∀ b o,s.heap.get? b=↑o->h'.get? b=↑o:=λ b o e=>k b o (Au e) e;have Hw:=S.at;exact#[.ref s.heap.objs.size,_,I.laid (t':=tk) (o:=.ext (yJ X.w s.heap.objs.size (xs.map λ e=>Value.int e.1 e.2))) kk (Aj _) ?_,rfl,q _ _ (xs.map (·.1)) (I.zu.fresh (Aj _)) (cx xs) S.nd λ n=>#[λ hn=>?_,λ hn=>?_]]
 .let#[es,ep,t,St,e]:=id Hw;show#[Hw,#[_,St.get],λ h1 h2 S1 k=>S1.uY k]
 .let#[e,he,rfl]:=Ao.mp hn;let#[j,_,_,hj]:=U.own e he;show BG hj
 .let#[j,hj]:=DZ.mp hn;show U.all j n (by have:=(AX.mp hj).1;rw[AB];lia) hj
def OE (hc:X.calm=true):y9 X (.builtin "sorted") (λ xs H Q=>∃ l us,∃ ms:List Int,xs=[.ref l]/\H l=↑(.ext (yJ X.w l us))/\IntsAre us ms/\ms.length<64/\
  ∀ (p:Addr) (ns:List Int),H p=none->ns.Perm ms->ns.Pairwise (·<=·)->Q (.ref p) (upd H p (.lst (ns.map V.int)))):=by
 intro EN s B H xs us0 Q I r h;let#[l,us,ms,rfl,hl,hm,FZ,q]:=h;let#[u,rfl,ru]:=vals1 r;cases ru;obtain⟨⟨es,ep,t,S,eu⟩,-,-⟩:=(show yL X.prog X.w H s.heap l (.ext (yJ X.w l us)) from I.zu l _ hl)
 have hlen:es.size=us.length:=by rw[<- eu];simp
 have Ex:=hm.length;have hh:X.A.handled=none:=I.ok.hd hc;have hp:((comes X.w l es ep).toList.map (·.2)).Perm us:=by rw[<- eu];show (o9 X.w l es ep).map _
 let#[F4,i1,i2]:=Q5 hp hm;have Cz:=hp.length_eq;have hl24:sizeLine=16777216:=rfl;exact L4.gR (N:=λ _=>False) (Out:=λ out=>∃ F0,IntsAre out.toList F0/\F0.Perm F4/\F0.Pairwise (·<=·)) (λ Q' h=>bJ (by show hh) S (by rw[hlen,Ex];lia) Q' h) (by rw[Cz,Ex];lia) (λ h2 s6 k=>L4.Ox i1 h2 (by rw[Cz,Ex];show FZ)) (λ h1=>#[F4,by simpa using i1,.refl _,?_]) λ out h' tk p ho hs GD k Dr=>?_
 .have:F4.length<2:=by rw[<- i1.length];show h1
  match F4,this with
  | [],_=>show .nil
  | [_],_=>show DI _ _
 .let#[ns,g1,g2,g3]:=ho;let#[e,he]:=Dr;exact#[.ref p,_,I.laid (t':=tk) (o:=.lst (ns.map V.int)) (λ b o e=>k b o id e) GD ?_,rfl,q p ns (I.zu.fresh GD) (g2.trans i2) g3];show#[by rw[AA,g2.length_eq,i2.length_eq];lia,out.toList,e,gs g1,by exists he]
end
end ST
namespace L5
open PySem PySem.Spec L2 L3
open PyProof.Rows hiding St
def insI (n:Int):List Int->List Int
 | []=>[n]
 | m::l=>if n<m then n::m::l else if n=m then m::l else m::insI n l
def we:List Int->List Int
 | []=>[]
 | n::ns=>insI n (we ns)
theorem jr {n k:Int}:∀ {l:List Int},k∈insI n l↔k=n\/k∈l
 | []=>by simp[insI]
 | m::l=>by
  unfold insI;split
  .simp
  .split
   .rename_i h;subst h;simp
   .rw[Ah,jr,Ah];constructor
    .rintro (h | h | h)
     .show .inr (.inl h)
     .show .inl h
     .show .inr (.inr h)
    .rintro (h | h | h)
     .show .inr (.inl h)
     .show .inl h
     .show .inr (.inr h)
theorem ml {k:Int}:∀ {l:List Int},k∈we l↔k∈l
 | []=>.rfl
 | n::l=>by unfold we;rw[jr,ml,Ah]
theorem c7 {n:Int}:∀ {l:List Int},l.Pairwise (· < ·)->(insI n l).Pairwise (· < ·)
 | [],_=>DI _ _
 | m::l,h=>by
  have h':=Bw.mp h;unfold insI;split
  .rename_i c;exact Bw.mpr #[λ x hx=>?_,h];rcases Ah.mp hx with e | e
   .rw[e];show c
   .show Int.lt_trans c (h'.1 x e)
  .split
   .show h
   .rename_i c1 c2;exact Bw.mpr #[λ x hx=>?_,c7 h'.2];rcases jr.mp hx with e | e
    .rw[e];lia
    .show h'.1 x e
theorem gE:∀ l:List Int,(we l).Pairwise (· < ·)
 | []=>.nil
 | n::l=>c7 (gE l)
theorem Yn {l m:List Int}(h1:l.Nodup) (h2:l.Pairwise (·<=·)) (h3:m.Pairwise (· < ·)) (h:∀ k,k∈l↔k∈m):l=m:=by
 have nm:m.Nodup:=h3.imp λ h e=>⋯;exact L4.kT (r:=λ a b:Int=>a<=b) (λ a b p q=>⋯) ((D0 h1 nm).mpr h) h2 (h3.imp λ h=>⋯)
section
variable {X:Cx}{K:Ac}{e:Expr}{tA:yf}{pos FN p p2:Pos}
def p_:xf:=λ ds S Q=>vU ds S Q\/∃ d,∃ ns:List Int,ds=[d]/\(∀ ts,d≠.tup ts)/\zH d S=↑(ns.map D.int)/\ns.length<64/\∀ l,S l=none->Q (.ref l) (ups S l (.lst ((we ns).map D.int)))
def sY:An
 | [.lst ts]=>match wx ts with
  | some ns=>if ns.length<64 then ↑(.lst ((we ns).map T.int)) else none
  | none=>p7 [.lst ts]
 | [.tup ts]=>p7 [.tup ts]
 | _=>none
def QK:wX zA sY p_:=λ S Z ys z ds Q hz hv e hq=>by
 unfold sY at e;split at e
 .split at e
  .rename_i ns CP;split at e
   .rename_i hc;cases e;cases rB CP;let#[d,rfl,h1]:=wC hv;let#[es,h2,h3]:=h1.seq rfl;cases uh.mp h3;exact .inr #[d,ns,rfl,?_,h2,hc,λ l hl=>hq _ _ (.new hl _) (tZ hz hl (uh.mpr rfl))];obtain⟨_,q | ⟨a,q,_⟩,_⟩:=h1.lst <;> subst q <;> show λ _=>nofun
   .cases e
  .show .inl (cC S Z _ z ds Q hz hv e hq)
 .show .inl (cC S Z _ z ds Q hz hv e hq)
 .cases e
theorem p_.mo:wV p_:=λ ds S Q Q' hq h=>by
 rcases h with h | ⟨d,ns,h1,h2,h3,h4,h5⟩
 .show .inl (vU.mo ds S Q Q' hq h)
 .show .inr #[d,ns,h1,h2,h3,h4,λ l hl=>hq _ _ (h5 l hl)]
def Pn {w:World}{xs:List V}{H:Hp}{S:SS}{Q:VK}{d:D}{ns:List Int}(h0:zk K H [d] xs) (h2:zF K H S) (hn:∀ ts,d≠.tup ts) (e:zH d S=↑(ns.map D.int)) (FZ:ns.length<64) (h:∀ l,S l=none->wz K H Q (.ref l) (ups S l (.lst ((we ns).map D.int)))):
  ∃ p,∃ F0:List Int,xs=[.ref p]/\zC K H p (F0.map V.int)/\F0.length<64/\
   ∀ (l:Addr) (us:Ae) (ms:List Int),H l=none->IntsAre us ms->ms.Nodup->(∀ n,n∈ms↔n∈F0)->
    ∃ l' GZ,∃ F4:List Int,[V.ref l]=[.ref l']/\(upd H l (.ext (ST.yJ w l us))) l'=↑(.ext (ST.yJ w l' GZ))/\IntsAre GZ F4/\F4.length<64/\
     ∀ (p:Addr) (ns:List Int),(upd H l (.ext (ST.yJ w l us))) p=none->ns.Perm F4->ns.Pairwise (·<=·)->Q (.ref p) (upd (upd H l (.ext (ST.yJ w l us))) p (.lst (ns.map V.int))):=by
 let#[x,hx,h1]:=h0.one;subst hx;let#[a,ys,rfl,g1,g2]:=sZ h1 h2 e hn;rw[g2.ints] at g1;exact#[a,ns,rfl,g1,FZ,λ l us ms hf hi nd A9=>#[l,us,ms,rfl,y6,hi,?_,λ p IT hp pm srt=>?_]]
 .have:=ST.jg ms ns nd λ x hx=>(A9 x).mp hx;lia
 .have x1:Ext H (upd H l (.ext (ST.yJ w l us))):=.new hf _;have Ar:p≠l:=λ z=>by subst z;rw[y6] at hp;cases hp
  have Jg:H p=none:=by rw[zW Ar] at hp;show hp
  have x2:Ext (upd H l (.ext (ST.yJ w l us))) (upd (upd H l (.ext (ST.yJ w l us))) p (.lst (IT.map V.int))):=.new hp _;have heq:IT=we ns:=Yn (pm.nodup_iff.mpr nd) srt (gE ns) λ k=>by rw[pm.mem_iff,A9,ml]
  exact h p (h2.none Jg) _ _ (by simp![ze]) (x1.trans x2) ((h2.new hf).ups x2 #[_,y6,?_]);rw[<- heq];show zk.jc IT
def V2 {k:Nat}(hr:z_ k X.A) (hm:X.mg "sorted"=none) (GY:X.mg "set"=none) (ha:yX X [e] tA) (hc:X.calm=true) (hg:Gl X "sorted") (GP:Gl X "set")
  (HW:AG X e [])
  (he:starEach [.Call (.Name "set" p2) [e] [] FN] X.env=(false,eval (.Call (.Name "set" p2) [e] [] FN) X.env)::starEach [] X.env) (Ar:AN X pos []) (Hh:AN X FN []):
  PD X (.Call (.Name "sorted" p) [.Call (.Name "set" p2) [e] [] FN] [] pos) (xc p_ tA):=by
 have h:=ui (p:=p) (y9.or (ST.OG hc) (ST.OE hc)) hg hm boot_sorted (ra (qt (y9.or (ST.OH hc hr.units) (ST.OI hc)) GP GY PyProof.Rows.boot_set ha.pa () () HW Hh) qv he) () () he Ar;exact#[xc.mo p_.mo ha.mo,PE.imp h fun B H Q hu=>?_];let#[L,S,r1,r2,z]:=hu;exact wg.go ha.mo r1 r2 z λ ds S1 xs H1 h1 q1 e1 p1=>?_;rcases h1 with h1 | ⟨d,ns,rfl,c1,c2,c3,h1⟩
 .let#[p,ys,rows,a1,a2,a3,a4,a5]:=vU.fits (w:=X.w) xs ds H1 S1 Q q1 p1 (vU.mo ds S1 _ _ (λ d S' z=>z.ext e1) h1);show .inl #[p,ys,rows,a1,a2,a3,a4,λ l us ps b1 b2 b3 b4 b5=>.inl (a5 l us ps b1 b2 b3 b4 b5)]
 .let#[p,F0,a1,a2,a3,a4]:=Pn (w:=X.w) q1 p1 c1 c2 c3 (λ l hl=>(h1 l hl).ext e1);show .inr #[p,F0,a1,a2,a3,λ l us ms b1 b2 b3 b4=>.inr (a4 l us ms b1 b2 b3 b4)]
end
end L5
namespace L5
open PySem PySem.Spec L2 L3
open PyProof.Rows hiding St
section
variable {X:Cx}{e st:Expr}
def jd:Sm:=λ _=>none
def bz:y8:=λ _ _ _=>False
def Vb {st:Stmt}:xD X st bz:=#[λ _ _ _ _ _ h=>h.elim,λ _ _ _ _ _ _ #[_,_,_,_,h]=>h.elim]
def UQ {R:Rk}:yb R jd bz:=λ S0 Z0 S Z L J o E F e P=>by cases e
end
end L5
namespace L5
open PySem L2 L3
def jI:Good2 zA qz jX:=mI (λ _ _ _=>wF) λ _ _ _=>nofun
def jK:Good2 zA qI jY:=mI (λ _ _ _=>wF) λ _ _ _=>nofun
def jL:Good2 zA uu mN:=mI (λ _ _ _=>wF) λ _ _ _=>nofun
end L5
namespace L3
open PySem PyProof.Rows L2
section
variable {X:Cx}{pos:Pos}
def wE (E:sT) (W:Nat->zX->SS->Prop) (m:Nat):sT:={ E with nx:=fun L' S'=>∃ m',m'<m/\W m' L' S',ct:=fun L' S'=>∃ m',m'<m/\W m' L' S',bk:=E.nx }
def ox (c:y4) (tb:y8):y8:=λ E L S=>∃ W:Nat->zX->SS->Prop,(∃ m,W m L S)/\∀ m L S,W m L S->
 c L S λ b S1=>if b=true then tb (wE E W m) L S1 else E.nx L S1
def ox.mo {c:y4}{tb:y8}(hc:wB c) (hb:uT tb):uT (ox c tb):=λ E E' L S hE #[W,w0,ws]=>
 #[W,w0,λ m L S hw=>hc L S _ _ (λ b S1 z=>wK (λ z=>hb (wE E W m) (wE E' W m) L S1 #[λ _ _ q=>q,hE.rt,hE.nx,λ _ _ q=>q] z) (λ z=>hE.nx _ _ z) z) (ws m L S hw)]
def WY {c:Expr}{body:List Stmt}{tc:y4}{tb:y8}(hp:PassesOwn (model X.prog X.w) X.A X.env X.xe) (hc:xg X c tc) (hb:wQ X body tb):xD X (.While c body [] pos) (ox tc tb):=by
 exact#[ox.mo hc.mo hb.mo,PS.imp (XJ hp hc.pt hb.ps) λ D B H hu=>?_];let#[L,S,r1,r2,W,#[m0,w0],ws]:=hu;exact#[λ m B' H'=>Ext H H'/\∃ L S,yK X.K H' L B'/\zF X.K H' S/\W m L S,#[m0,.refl _,L,S,r1,r2,w0],?_];rintro m B2 H2 ⟨x2,L2,S2,q1,q2,w2⟩;exact xX.go hc.mo q1 q2 (ws m L2 S2 w2) λ k S3 H3 h3 e3 p3=>wK (λ z=>?_) (λ z=>?_) h3
 .exact#[fun B' H'=>Ext H H'/\∃ L S m',m'<m/\yK X.K H' L B'/\zF X.K H' S/\W m' L S,fun B' H' #[a,L',S',m',b,c,d,e]=>#[m',b,a,L',S',c,d,e],L2,S3,q1.ext e3,p3,?_];show hb.mo (wE (uN X.K H D) W m) _ L2 S3 #[fun L5 S5 #[m',b,w5] B5 H5 b1 b2 b3=>#[(x2.trans e3).trans b2,L5,S5,m',b,b1,b3,w5],λ _ _ q=>wz.ext (x2.trans e3) q,λ _ _ q=>vg.ext (x2.trans e3) q,fun L5 S5 #[m',b,w5] B5 H5 b1 b2 b3=>#[(x2.trans e3).trans b2,L5,S5,m',b,b1,b3,w5]] z
 .show z B2 H3 (q1.ext e3) (x2.trans e3) p3
end
end L3
namespace L5
open PySem PyProof.Rows L2 L3
def yO (is:List Nat) (c:Ev->Option Bool) (b:Sm):Nat->Ev->Option Out
 | 0,_=>none
 | n+1,J=>(c (yB is J)).bind λ k=>if k=true then (b (yB is J)).bind λ o=>match o with
   | .nx J2=>yO is c b n J2
   | .ct J2=>yO is c b n J2
   | .bk J2=>↑(.nx (yB is J2))
   | .rt t=>↑(.rt t)
  else ↑(.nx (yB is J))
def tS (n:Nat) (is:List Nat) (c:Ev->Option Bool) (b:Sm):Sm:=yO is c b n
def UK {R:Rk} [Lo R] {n:Nat}{is:List Nat}{c:Ev->Option Bool}{tc:y4}{b:Sm}{tb:y8}(hc:wR c tc) (hb:yb R b tb):yb R (tS n is c b) (ox tc tb):=λ S0 Z0 S Z L J o E F e P=>by
 let#[SB,b1,FB,b2]:=F.rebase;have lo:∀ S' d y,R SB S' Z0 y d->R S0 S' Z0 y d:=λ S' d y r=>Lo.lo b1 (λ _ z=>z) r;exact#[λ m L' S'=>∃ Z' J',FR SB Z0 S' Z' L' J'/\yO is c b m J'=↑o,#[n,Z,J,FB,e],λ m L' S' #[Z',J',F',e']=>?_];cases m with
 | zero=>cases e'
 | succ m=>
  unfold yO at e';let#[k,c1,e']:=Ak.mp e';have G:=F'.yB is;exact hc S' Z' L' _ k _ G.er c1 λ S3 s3=>?_;cases k with
  | true=>
   rw[if_pos rfl] at e' ⊢;let#[o1,g2,e']:=Ak.mp e';exact hb SB Z0 S3 Z' L' _ o1 _ (G.grow s3) g2 ?_;cases o1 with
   | nx J2=>show λ S3 Z3 L3 F3=>#[m,Cs m,Z3,J2,F3,e']
   | ct J2=>show λ S3 Z3 L3 F3=>#[m,Cs m,Z3,J2,F3,e']
   | bk J2=>cases e';show λ S3 Z3 L3 F3=>P S3 Z3 L3 ((F3.yB is).back b1 F.z0)
   | rt y=>cases e';show λ d S3 s3 r3=>P d S3 (b1.trans s3) (lo _ _ _ r3)
  | false=>
   rw[if_neg ()] at e' ⊢;cases e';show P S3 Z' L' ((G.grow s3).back b1 F.z0)
end L5
namespace ZP
open PySem PyProof.Rows
def RE (k:Bool) (l:Addr) (xs:Ax):Meets (Builtin.«enumerate.__new__» #[[.type "enumerate",.ref l],[]]) (λ _ R s=>SQ s.heap k l xs/\
   R (.ok (.ret (.ref (s.heap.push (v5 k l)).objs.size))) { s with heap:=(s.heap.push (v5 k l)).push { cls:=.type "enumerate",data:=.fields [.none,.bool false,.ref s.heap.objs.size,rawInt 0,.none,.none].toArray } }):=
 .of_wp λ prog w A R s h=>by
  let#[hp,g,d,tk,os]:=s;let#[q,h]:=h;have Eh:=sub_enumerate;have hL:SQ (Shared.heap #[hp,g,d,tk,os]) k l xs:=q;let#[#[c,zU,dt,sl],hl,hc]:=q.cls;replace hc:c=.type (cond k "tuple" "list"):=hc;subst hc
  wp_walk using AutoSeq1.wpAny_loadPart' hl
  exact wpAny_stack_any λ st=>Ad ?_;split
  .rename_i c _ _ _ _ _;cases (c == Value.type "enumerate")
   .wp_walk using AutoSeq1.wpAny_loadPart' hl,made hL
    show#[_,rfl,h]
   .wp_walk using AutoSeq1.wpAny_loadPart' hl,made hL
    show#[_,rfl,h]
  .wp_walk using AutoSeq1.wpAny_loadPart' hl,made hL
   show#[_,rfl,h]
section
variable {prog:Program}{w:World}{A:Around}{E:Af}{s:Shared}
def PJ {k:Bool}{l:Addr}{xs:Ax}{Q:Af}(hL:SQ s.heap k l xs)
  (h:∀ h',IsEnum h' (s.heap.objs.size+1) s.heap.objs.size 0 .none->SI h' k s.heap.objs.size l 0->(∀ b o,s.heap.get? b=↑o->h'.get? b=↑o)->Q (.ref (s.heap.objs.size+1)) { s with heap:=h' }):
  wpAny (model prog w) A (call (.type "enumerate") [.ref l]) Q E s:=by
 exact callType_new F.called_enumerate () (F.typeCall_enumerate_1 _) (F.newCall_enumerate_1 _) (λ obj=>F.args_object_init_2 obj _) F.entry_enumerate_new (RE k l xs) #[hL,?_];have hz:(s.heap.push (v5 k l)).objs.size=s.heap.objs.size+1:=Heap.size_push ..;change _/\_;rw[hz];have he:IsEnum ((s.heap.push (v5 k l)).push { cls:=.type "enumerate",data:=.fields [.none,.bool false,.ref s.heap.objs.size,rawInt 0,.none,.none].toArray }) (s.heap.objs.size+1) s.heap.objs.size 0 .none:=by
  have:=AJ (s.heap.push (v5 k l)) (o:={ cls:=.type "enumerate",data:=.fields [.none,.bool false,.ref s.heap.objs.size,rawInt 0,.none,.none].toArray }) rfl;rw[hz] at this;show this
 show#[#[_,he,rfl],h _ he #[_,JD _ (AJ _ rfl),rfl,rfl] λ b o x=>JD _ (JD _ x)]
def PX (hh:A.handled=none) (k:Bool) (it l:Addr) (Aq:l≠it) (xs:Ax):Draws prog w A it [it,l] xs.size (λ i v=>xs[i]?=↑v) (λ i h=>SI h k it l i/\SQ h k l xs) where
 live:=λ _ _ st=>let #[o,ho,_]:=st.1;#[o,ho]
 frame:=λ _ _ _ st hk=>#[st.1.on λ o e=>hk it #[] o e,st.2.on λ o e=>hk l #[] o e]
 item:=λ i s Q E hi st hQ=>draw st.1 st.2 (x:=xs[i]) (by simp[hi]) λ h' ED FY=>hQ _ h' s.toks (by simp[hi]) #[ED,st.2.on λ o e=>(FY.2 l Aq).trans e] FY
 done:=λ s Q E st hE=>mP hh st.1 st.2 #[] hE
end
end ZP
namespace L2
open PySem PySem.Spec PyProof.Rows ZP
section
variable {X:Cx}{EN:Ai}{B:St}{H:Hp}{s:Shared}
def aP (K:Ac) (k:Bool) (a:Addr):It:=
 #[λ i H=>∃ xs x,xU K H k a xs/\xs[i]?=↑x,
   λ i H v H'=>∃ p x,v=.ref p/\H p=none/\H'=upd H p (.tup [.int i,x])/\∀ xs,xU K H k a xs->xs[i]?=↑x,
   λ i H=>∃ xs,xU K H k a xs/\xs.length<=i]
def Yz {P:Program}{w:World}{K:Ac}{es:List Expr}{kk} {pos:Pos}{k:Bool}{e it a:Addr}(EI:e≠it) (hea:e≠a) (hai:a≠it):
  Turn P w K (.Tuple es kk pos) (aP K k a) [e,it] e (λ i h=>(∃ old,IsEnum h e it i old)/\SI h k it a i) where
 mem:=#[]
 obj:=λ i h st b hb=>by
  let#[#[old,q1],o1,q2,_,d1]:=st;simp![Ah,A_,or_false] at hb;rcases hb with e | e <;> subst e
  .show#[_,q1,λ v z=>by cases z]
  .show#[_,q2,λ v z=>by rw[d1] at z;cases z]
 keep:=λ i h h' st k=>#[let #[old,q]:=st.1;#[old,k e #[] _ q],st.2.on λ o q=>k it #[] o q]
 item:=by
  intro X hP hw hK hc i EN s B H E I hf st hg;subst hP hw hK;let#[xs,x,g1,hx]:=hg;let#[Aa,rv,q1]:=g1.of I;let#[u1,e1,r1]:=rv.get hx;let#[#[old,he],si]:=st;have Ay:i<Aa.toArray.size:=by have:=(AX.mp e1).1;exists this
  have D:=PX (prog:=X.prog) (w:=X.w) (A:=X.A.in1) (show X.A.in1.handled=none from I.ok.hd hc) k it a hai Aa.toArray;exact wpAny_pyNext_enum_itemD D he #[si,q1] Ay EI (by simp[EI,hea]) λ u h' tk hP ho FY hT hsz hk=>#[_,rfl,?_];have hu:u=u1:=by simp![List.getElem?_toArray,e1] at hP;show (A1 hP).symm
  subst hu;have nT:s.heap.objs.size∉[e,it]:=λ hb=>by
   simp![Ah,A_,or_false] at hb;let#[oi,qi,_]:=si;rcases hb with z | z
   .show absurd (Au he) (by rw[<- z];show BQ _)
   .show absurd (Au qi) (by rw[<- z];show BQ _)
  have ne:s.heap.objs.size≠e:=λ z=>nT (by simp[z]);exact wpAny_letOwnedTupleGo_enum ho λ h2 HW sb=>?_;have fr:H s.heap.objs.size=none:=I.zu.fresh (Aj _);have I1:Inv X EN B (upd H s.heap.objs.size (.tup [.int i,x])) { s with heap:=s.heap.push { cls:=.type "tuple",data:=.seq [.int i tk,u].toArray },toks:=s.toks }:=
   I.laid (o:=.tup [.int i,x]) (λ b u q=>JD _ q) (Aj _) #[#[by change 2<=sizeLine;decide,.new _],[.int i tk,u],.cons #[tk,rfl] (.cons r1 .nil),IsTup.new _ _]
  have Gh:∀ b∈[e,it],upd H s.heap.objs.size (.tup [.int i,x]) b=none:=λ b hb=>by
   rw[zW (λ z=>nT (by rw[<- z];show hb))];show (hf b hb).1
  have kk:∀ b o,b∉[e,it]->(s.heap.push { cls:=.type "tuple",data:=.seq [.int i tk,u].toArray }).get? b=↑o->h2.get? b=↑o:=λ b o hb q=>by
   have BM:b≠e:=λ z=>hb (by simp[z]);have hbi:b≠it:=λ z=>hb (by simp[z]);by_cases Dq:b=s.heap.objs.size
   .subst Dq;rw[AJ _ rfl] at q;cases q;show sb.extBut _ _ BM hT
   .have q':s.heap.get? b=↑o:=by rw[Heap.get?_push_ne _ _ _ Dq] at q;show q
    show sb.extBut _ _ BM (hk b o BM hbi q')
  have I2:=Inv.nC (h':=h2) (t':=tk+1) (fp:=[e,it]) I1 kk λ b hb=>#[Gh b hb,(hf b hb).2];exact#[.ref s.heap.objs.size,_,I2,rfl,#[_,x,rfl,fr,rfl,λ zs hz=>by rw[hz.inj I g1];show hx],#[#[_,by exists HW],FY.1.on λ o q=>(sb.2 it (Ne.symm EI)).trans q],Gh]
 done:=by
  intro X hP hw hK hc i EN s B H E I hf st hg;subst hP hw hK;let#[xs,g1,hx]:=hg;let#[Aa,rv,q1]:=g1.of I;have l1:=rv.length;let#[#[old,he],si]:=st;have hT:s.TypeIs (.ref e) "enumerate":=#[_,he,rfl];unfold pyNext;exact IE (wpAny_attempt (JO (name:=Str.ofString "__next__") hT F.slot_enumerate_next
   (JK F.slot_enumerate_next hT F.entry_enumerate_next ?_ (F.args_enumerate_next_1 _))))
  change wpAny _ _ (field (.ref e) 2 >>= _) _ _ _;exact IE (JH he rfl (x:=.ref it) rfl ?_);exact IE (mP (show X.A.in1.handled=none from I.ok.hd hc) si q1 (by simp;lia) λ h' x Jk Gz=>?_);let#[o,ho,hc]:=Gz;exact IE (JT (T:="StopIteration") (b:=true) #[o,ho,hc] isSubtype_stop ?_);show Ad #[rfl,I.nC (t':=s.toks) (fp:=[e,it]) (λ b o hb q=>Jk b o (λ z=>hb (by simp[z])) q) hf]
 self:=λ _ _ _ _ _ st h=>let #[_,q]:=st.1;wpAny_pyIter_enum q h
def QB (K:Ac) (ta:TA):TI:=fun B H R=>ta B H λ vs H1=>∃ a k,vs=[.ref a]/\(∃ xs,xU K H1 k a xs)/\R (aP K k a) H1
theorem Wd {a:Expr}{ta:TA}{p pos pos':Pos}{es:List Expr}{kk} (hg:Gl X "enumerate") (hm:X.mg "enumerate"=none) (ha:PA X [a] ta) (hs:starEach [a] X.env=[(false,eval a X.env)]:=by rfl):
  PI X (.Tuple es kk pos') (.Call (.Name "enumerate" p) [a] [] pos) (QB X.K ta):=by
 intro EN s B H R I h;exact Call_ (qA I hg hm boot_enumerate (PyProof.Rows.callWith_type1 (zx (ha pos EN s B H _ I h) λ us s1 #[vs,H1,I1,r1,q1]=>?_) (by rw[hs];rfl) rfl));let#[a1,k,rfl,#[xs,g1],q]:=q1;cases r1 with
 | cons r rr=>
  cases rr;cases r;let#[IW,_,q1]:=g1.of I1;have la:=q1.lt;exact ZP.PJ q1 λ h' E S up=>wpAny_pyIter_enum E ?_;have nw:∀ b∈[s1.heap.objs.size+1,s1.heap.objs.size],s1.heap.objs.size<=b:=λ b hb=>by
   simp![Ah,A_,or_false] at hb;rcases hb with z | z <;> rw[z]
   .show Nat.le_succ _
   .show Aj _
  show#[_,[s1.heap.objs.size+1,s1.heap.objs.size],_,_,H1,rfl,I1.kept (t':=s1.toks) up,Yz (Nat.succ_ne_self _) (BH (Ci la)) (AF la),#[#[_,E],S],λ b hb=>I1.mJ (nw b hb) (I1.zu.fresh (nw b hb)),q]
end
end L2
namespace L5
open PySem PySem.Spec L2 L3
open PyProof.Rows hiding St
def uL (k:Nat):List D->List D
 | []=>[]
 | d::ds=>.tup [.int k,d]::uL (k+1) ds
def tB (k:Nat):List T->List T
 | []=>[]
 | d::ds=>.tup [.int k,d]::tB (k+1) ds
theorem bc:∀ (ds:List D) (k i:Nat),(uL k ds)[i]?=(ds[i]?).map λ d=>D.tup [.int ((k+i:Nat):Int),d]
 | [],k,i=>by simp[uL]
 | d::ds,k,0=>by simp[uL]
 | d::ds,k,i+1=>by
  unfold uL;rw[D3,D3,bc ds (k+1) i,show k+1+i=k+(i+1) from by lia]
theorem ba:∀ (ds:List D) (k:Nat),(uL k ds).length=ds.length
 | [],k=>rfl
 | d::ds,k=>by unfold uL;rw[A5,ba ds];rfl
theorem kD {S:SS}:∀ {ts:List T}{ds:List D}(k:Nat),zj S ts ds->zj S (tB k ts) (uL k ds)
 | [],ds,k,h=>by simp![zj] at h;subst h;show zj.nil
 | t::ts,ds,k,h=>by
  simp![zj] at h;let#[c,cs,rfl,h1,h2]:=h;show zj.cons (qk (zj.cons (by simp![Sn]) (zj.cons h1 zj.nil))) (kD (k+1) h2)
section
variable {X:Cx}{a:Expr}{tA:yf}{pos p pos':Pos}{es:List Expr}{kk:Nat}
def j8 (t:yf):wc:=fun L S R=>t L S λ ds S1=>∃ d xs,ds=[d]/\zH d S1=↑xs/\R #[uL 0 xs,λ S=>zH d S=↑xs] S1
def Vm (hm:X.mg "enumerate"=none) (ha:yX X [a] tA) (hg:Gl X "enumerate") (hs:starEach [a] X.env=[(false,eval a X.env)]):
  u5 X (.Tuple es kk pos') (.Call (.Name "enumerate" p) [a] [] pos) (j8 tA):=by
 exact#[fun L S Q Q' hq z=>ha.mo L S _ _ (λ ds S1 #[d,xs,h1,h2,h4]=>#[d,xs,h1,h2,hq _ _ h4]) z,PI.imp (Wd hg hm ha.pa hs) fun B H R hu=>?_];let#[L,S,r1,r2,z]:=hu;exact wg.go ha.mo r1 r2 z λ ds S1 vs H1 h1 q1 e1 p1=>?_;let#[d,xs,rfl,s1,h]:=h1;let#[v,rfl,d1]:=q1.one;let#[a1,us,rfl,g1,g2]:=zH.k d1 p1 s1;exact#[a1,pR d,rfl,#[us,g1],h _ H1 e1 p1 λ i H2 S2 x1 x2 hk=>?_];let#[b1,HA,q1,m1,m2]:=zH.k (ze.ext x1 d d1) x2 hk;cases q1;have l1:=m2.length;exact#[λ dd hd=>?_,λ hl=>#[HA,m1,?_]]
 .rw[bc,CY] at hd;let#[dx,hx,rfl]:=AE.mp hd;let#[x,Gz,rx]:=m2.get hx;exact#[#[HA,x,m1,Gz],λ v H' q=>?_];let#[pp,x',rfl,hp,rfl,f1]:=q;have ex:x'=x:=by have:=f1 _ m1;rw[Gz] at this;show (A1 this).symm
  subst ex;exact#[.new hp _,x2.new hp,?_];simp![ze];show#[pp,_,rfl,zN.of y6,zk.ext (.new hp _) _ (.cons (by simp![ze]) (.cons rx .nil))]
 .have FW:(uL 0 xs).length<=i:=hl;rw[ba] at FW;lia
@[simp] def vC:List T->Option (List T)
 | [x]=>(xv x).map λ xs=>tB 0 xs
 | _=>none
def Ti {g:Ev->Option (List T)}(h:rX g tA):sP false (xx vC g) (j8 tA):=λ S Z L J ts Q hE e hq=>by
 let#[ys,e1,e2]:=Ak.mp e;exact h S Z L J ys _ hE e1 λ ds S1 s1 r1=>?_;unfold vC at e2;split at e2
 .let#[xs,e3,rfl]:=AE.mp e2;let#[d,rfl,h1]:=wC r1;let#[es,g1,g2]:=h1.seq e3;show#[d,es,rfl,g1,hq _ S1 s1 (kD 0 g2) λ Ha s=>zH.sx g1 s]
 .cases e2
def Tj {g:Ev->Option (List T)}(h:rW g tA):sP true (xx vC g) (j8 tA):=λ S Z L J ts Q hE e hq=>by
 let#[ys,e1,e2]:=Ak.mp e;exact h S Z L J ys _ hE e1 λ ds S1 s1 r1=>?_;unfold vC at e2;split at e2
 .let#[xs,e3,rfl]:=AE.mp e2;simp![zj] at r1;let#[d,_,rfl,h1,rfl]:=r1;let#[es,g1,g2]:=zH.zE h1 e3;show#[d,es,rfl,zH.sx g1 (pV S1 Z),hq _ S1 s1 (kD 0 g2) λ Ha s=>zH.sx g1 s]
 .cases e2
end
end L5
namespace TM
open PySem PyProof.Rows
def Oh (i:Int) (t:Tok) (l:Addr) (items:Ax) (n:Nat) (dd:Option Addr) (sl:Array (Option Value)):
  Meets (Builtin.«int.__rmul__» #[[.int i t,.ref l],[]]) (λ _ R s=>s.heap.get? l=↑{ cls:=.type "list",dict:=dd,data:=.seq items n,slots:=sl }/\R (.ok (.ret Value.notImplemented)) s):=
 .of_wp λ prog w A R s h=>by
  let#[hp,g,d,tk,os]:=s;let#[hl,h]:=h
  wp_walk
  show#[_,rfl,h]
def mulL (l:Addr) (items:Ax) (n:Nat) (x:Int) (u:Tok) (dd:Option Addr) (sl:Array (Option Value)) (hc0:¬(!Builtin.List.listFitsIndex x)=true) (HX:¬items.size*x.toNat>(2 ^ 63-1)/8) (F_:¬Builtin.List.listTooLong (items.size*x.toNat)=true):
  Meets (Builtin.«list.__mul__» #[[.ref l,.int x u],[]]) (λ _ R s=>s.heap.get? l=↑{ cls:=.type "list",dict:=dd,data:=.seq items n,slots:=sl }/\R (.ok (.ret (Value.ref s.heap.objs.size))) { s with heap:=s.heap.push { cls:=.type "list",data:=.seq (List.foldl (λ x1 x2=>x1++x2) [].toArray (List.replicate (if items.isEmpty=true then 0 else x.toNat) items)) } }):=
 .of_wp λ prog w A R s h=>by
  let#[hp,g,d,tk,os]:=s;let#[hl,h]:=h
  have hsz:=AutoListH.joined_fits F_
  wp_walk;exact wpAny_ite_false (JE (Nat.not_lt.mpr hsz)) ?_;wp_walk;show#[_,rfl,h]
section
variable {prog:Program}{w:World}{A:Around}{E:Af}{s:Shared}
def Y5 {l:Addr}{Aa:Ae}{k:Int}{t:Tok}{Q:Af}(ht:PlainL s.heap l Aa.toArray) (Aq:Aa≠[]) (h0:0<=k) (hz:Aa.length*k.toNat<=sizeLine)  (hk:k<=1000000)
  (more:Q (.ref s.heap.objs.size) { s with heap:=s.heap.push { cls:=.type "list",data:=.seq (List.replicate k.toNat Aa).flatten.toArray } }):
  wpAny (model prog w) A (binaryOp .Mult (.ref l) (.int k t)) Q E s:=by
 let#[#[cls,dd,data,sl],n,ho,hc,he,hd]:=id ht;simp only at hc hd he;subst hc hd he;have hl:sizeLine=16777216:=rfl;have DU:Aa.toArray.isEmpty=false:=by cases Aa with
  | nil=>show absurd rfl Aq
  | cons a r=>rfl
 have hf:List.foldl (λ x1 x2=>x1++x2) [].toArray (List.replicate (if Aa.toArray.isEmpty=true then 0 else k.toNat) Aa.toArray)=(List.replicate k.toNat Aa).flatten.toArray:=by
  rw[DU,if_neg ()];have:=jS Aa k.toNat [].toArray;exists this
 exact wpAny_binaryOp_repeat_ref (T:="list") (U:="int") () #[_,ho,rfl] (λ s'=>typeIs_int s' k t) noFill_list_mul F.fills_int_mul F.slot_int_rmul repeat_list F.slot_int_index.lookup
  (call_meets F.slot_int_rmul (typeIs_int s k t) F.entry_int_rmul (F.args_int_rmul_2 _ _) (Oh k t l Aa.toArray n none sl)
   #[ho,rfl,#[_,ho,rfl],call_meets F.slot_list_mul #[_,ho,rfl] F.entry_list_mul (F.args_list_mul_2 _ _)
    (mulL l Aa.toArray n k t none sl (by simp[Builtin.List.listFitsIndex];lia) (by simp;lia) (by simp[Builtin.List.listTooLong];lia)) #[ho,?_]])
 rw[hf];show more
end
end TM
namespace L2
open PySem PySem.Spec PyProof.Rows
def kM (K:Ac):R2:=λ x y H Q=>∃ a k xs,x=.ref a/\y=.int k/\zC K H a xs/\xs≠[]/\0<=k/\k<=1000000/\xs.length*k.toNat<=sizeLine/\∀ p,H p=none->Q (.ref p) (upd H p (.lst (List.replicate k.toNat xs).flatten))
theorem U5 {X:Cx}:ya X (binaryOp .Mult) (kM X.K):=by
 intro EN s B H x y v u Q I rx ry h;let#[a,k,xs,rfl,rfl,hx,Aq,h1,h2,hz,q]:=h;cases rx;let#[t,rfl]:=ry;let#[Aa,r,ht,_]:=I.list hx;have hl:=r.length;exact TM.Y5 ht (λ z=>Aq (r.pO.mp z)) h1 (by rw[<- hl];show hz) h2 ?_;have hlen:(List.replicate k.toNat xs).flatten.length<=sizeLine:=by
  have:(List.replicate k.toNat xs).flatten.length=k.toNat*xs.length:=#[];rw[this,DB];show hz
 show#[.ref _,_,I.laid (t':=s.toks) (o:=.lst (List.replicate k.toNat xs).flatten) (λ b ob q=>JD _ q) (Aj _) #[hlen,_,0,r.rep k.toNat,AJ _ rfl],rfl,q _ (I.zu.fresh (Aj _))]
end L2
namespace L5
open PySem PySem.Spec L2 L3
open PyProof.Rows hiding St
section
variable {X:Cx}{K:Ac}{a b:Expr}{ta tb:zr}{pos:Pos}
def Qt:D->Bool
 | .tup _=>true
 | _=>false
def mM:yH:=λ x y S Q=>∃ k ds,y=.int k/\Qt x=false/\zH x S=↑ds/\(ds≠[]/\0<=k/\k<=1000000/\ds.length*k.toNat<=sizeLine)/\∀ p,S p=none->Q (.ref p) (ups S p (.lst (List.replicate k.toNat ds).flatten))
def sC:yH:=λ x y S Q=>uI x y S Q\/mM x y S Q
def xQ:T->T->Option T
 | .lst ts,.int k=>if ts≠[]/\0<=k/\k<=1000000/\ts.length*k.toNat<=sizeLine then ↑(.lst (List.replicate k.toNat ts).flatten) else none
 | x,y=>jn x y
theorem sC.mo:xq sC:=λ x y S Q Q' hq h=>by
 rcases h with h | ⟨k,ds,h1,h2,h3,h4,h5⟩
 .show .inl (uI.mo x y S Q Q' hq h)
 .show .inr #[k,ds,h1,h2,h3,h4,λ p hp=>hq _ _ (h5 p hp)]
def mM.fits:xm K mM (kM K):=λ x y d e H S Q h1 h2 h3 h=>by
 let#[k,ds,rfl,ht,hs,#[c1,c2,c3,c4],h]:=h;simp![ze] at h2;let#[a,xs,rfl,g1,g2]:=sZ h1 h3 hs λ ts z=>by subst z;cases ht
 have hl:=g2.length;exact#[a,k,xs,rfl,h2,g1,λ z=>c1 (by subst z;cases ds with | nil=>rfl | cons _ _=>simp at hl),c2,c3,by rw[<- hl];show c4,λ p hp=>?_];show h p (h3.none hp) _ _ (by simp![ze]) (.new hp _) (h3.ups (.new hp _) #[_,y6,zk.ext (.new hp _) _ (zk.rep g2 _)])
theorem sC.fits:xm K sC (λ x y H Q=>(rI xV (λ i j=>.int (i*j)) x y H Q\/kL K x y H Q)\/kM K x y H Q):=λ x y d e H S Q h1 h2 h3 h=>by
 rcases h with h | h
 .show .inl (uI.fits x y d e H S Q h1 h2 h3 h)
 .show .inr (mM.fits x y d e H S Q h1 h2 h3 h)
def QM:Good2 zA xQ sC:=λ S Z x y z d e Q hz hx hy ef hq=>by
 unfold xQ at ef;split at ef
 .rename_i ts k;split at ef
  .rename_i hc;cases ef;let#[ds,g1,g2]:=hx.seq (ts:=ts) rfl;cases hy.int;have hl:=g2.len;exact .inr #[_,ds,rfl,?_,g1,#[λ q=>hc.1 (by subst q;exists hl.symm),hc.2.1,hc.2.2.1,by rw[hl];show hc.2.2.2],λ p hp=>hq _ _ (.new hp _) (tZ hz hp (zj.rep g2 _))];cases d with
   | tup es=>show absurd hx (by
     intro q;rcases q with q | ⟨us,p,FC,_,q,_⟩
     .simp![Sn] at q;obtain⟨_,⟨q,_⟩ | ⟨_,q,_⟩,_⟩:=q <;> cases q
     .cases q)
   | _=>rfl
  .cases ef
 .show .inl (cD S Z x y z d e Q hz hx hy ef hq)
def VB (ha:PD X a ta) (hb:PD X b tb):PD X (.BinOp a .Mult b pos) (yp sC ta tb):=qu ((U6.or U4).or U5) sC.fits sC.mo ha hb
end
end L5
namespace L3
open PySem PySem.Spec PyProof.Rows L2
section
variable {X:Cx}{K:Ac}{e o:Expr}{te to:zr}{apos Am:Pos}
def sH (to te:zr):zr:=fun L S Q=>to L S λ x S1=>match x with
 | .ref p=>(∃ ds,S1 p=↑(.lst ds))/\te L S1 λ y S2=>∃ q ds es,y=.ref q/\S2 p=↑(.lst ds)/\S2 q=↑(.lst es)/\ds.length+es.length<=sizeLine/\Q .zp (ups S2 p (.lst (ds++es)))
 | _=>False
def sH.mo (h:yc to) (h':yc te):yc (sH to te):=fun L S Q Q' hq z=>h L S _ _ (λ x S1 z=>by
 cases x with
 | ref p=>show#[z.1,h' L S1 _ _ (λ y S2 #[q,ds,es,a,b,c,d,w]=>#[q,ds,es,a,b,c,d,hq _ _ w]) z.2]
 | _=>show z) z
theorem Uc {e0:Expr}(Ep:PE X e0 (k7 X.K "list" fG (zG X.K to) (k6 (zG X.K te) ky))) (h:yc to) (h':yc te):PD X e0 (sH to te):=by
 exact#[sH.mo h h',PE.imp Ep fun B H Q hu=>?_];let#[L,S,r1,r2,z]:=hu;exact zG.go h r1 r2 z λ x S1 v H1 h1 q1 e1 p1=>?_;cases x with
 | ref p=>
  let#[#[ds,hd],h1]:=h1;simp![ze] at q1;subst q1;let#[xs,g1,g2]:=p1 _ _ hd;exact#[.inl #[rfl,xs,zC.of g1],?_];exact zG.go h' (r1.ext e1) p1 h1 λ y S2 w H2 h2 q2 e2 p2=>?_;let#[q,GU,es,rfl,b1,b2,b3,b4]:=h2;simp![ze] at q2;subst q2;let#[E6,g3,g4]:=p2 _ _ b1;let#[GF,g5,g6]:=p2 _ _ b2;exact#[p,q,E6,GF,rfl,rfl,g3,g5,by rw[<- g4.length,<- g6.length];show b3,?_];have e4:Ext H2 (upd H2 p (.lst (E6++GF))):=.lst g3 _;show b4 _ _ (by simp![ze]) ((e1.trans e2).trans e4) (p2.ups e4 #[_,y6,zk.ext e4 _ (g4.append g6)])
 | _=>show h1.elim
def VH (ho:PD X o to) (he:PD X e te)
  (Ge:attributeBase o "extend" X.env (eval o X.env)=eval o X.env)
  (AQ:((backTo Am (starEach [e] X.env)).all (λ x=>!x.1)&&(backToKw Am (keywordEach [] X.env)).all (λ x=>x.1.isSome)
   && decide ([e].length+([]:List Keyword).length+(if ([]:List Keyword).isEmpty then 0 else 1)<30))=true)
  (Ga:(apos.endLine == Am.line)=true) (hs:AG X e []) (FO:AN X Am []):
  PD X (.Call (.Attribute o "extend" apos) [e] [] Am) (sH to te):=
 Uc (fU PySem.F.plainAttrs_list PySem.F.slot_list_extend PySem.F.type_list_extend R8 ho.pe (ra he.pe qv hs) Ge AQ Ga hs FO) ho.mo he.mo
end
end L3
namespace L5
open PySem L2 L3
@[simp] def qN (i:Nat) (f:Ag):Sm:=fun J=>match J[i]? with
 | some ↑(.own (.lst ts))=>(f J).bind λ y=>match y with
  | .lst us=>if ts.length+us.length<=sizeLine then ↑(.nx (J.set i ↑(.own (.lst (ts++us))))) else none
  | _=>none
 | _=>none
section
variable {R:Rk}{f:Ag}{te:zr}
def UX (i:Nat) (hf:xE f te):yb R (qN i f) (mT (sH (ye i) te)):=λ S0 Z0 S Z L J o E F e P=>by
 unfold qN at e;split at e
 .rename_i ts h;let#[y,e1,e2]:=Ak.mp e;split at e2
  .rename_i us;split at e2
   .rename_i hl;cases e2;let#[p,ob,h1,h2,h3,h4]:=F.er.ow i _ h;obtain⟨ds,rfl⟩:∃ ds,ob=.lst ds:=by
     cases ob with
     | lst ds=>show#[ds,rfl]
     | _=>show h3.elim
    replace h3:zj (zE S Z) ts ds:=h3;change sH (ye i) te L S _;unfold sH ye;rw[h1];exact#[#[ds,h2],hf S Z L J _ _ F.er e1 λ d S1 s1 r1=>?_];let#[q,es,rfl,g1,g2,g3]:=r1.2 us rfl;have F1:=F.grow s1;have g4:zj (zE S1 Z) us es:=zj.sx (vS λ a z=>.inl z) us g3;exact#[q,ds,es,rfl,s1 _ _ h2,g2,by rw[h3.len,g4.len];show hl,P _ Z L (F1.mut (us:=.lst (ts++us)) (es:=.lst (ds++es)) i h h1 ((zj.sx (wy s1) ts h3).append g4))]
   .cases e2
  .cases e2
 .cases e
end
end L5
namespace L5
open PySem PySem.Spec L2 L3
open PyProof.Rows hiding St
section
variable {X:Cx}{K:Ac}{e:Expr}{es:List Expr}{tA:yf}{pos p:Pos}
def uJ:xf:=λ ds S Q=>match ds with
 | [.int i]=>Q (.int i) S
 | [.bl k]=>Q (.int (if k then 1 else 0)) S
 | _=>False
def uJ.mo:wV uJ:=λ ds S Q Q' hq h=>by
 unfold uJ at h ⊢;split at h
 .show hq _ _ h
 .show hq _ _ h
 .show h.elim
def uJ.fits:vI K uJ (λ xs H Q=>(∃ i,xs=[.int i]/\Q (.int i) H)\/∃ k,xs=[.bl k]/\Q (.int (if k then 1 else 0)) H):=λ xs ds H S Q h0 h2 h=>by
 unfold uJ at h;split at h
 .let#[x,rfl,h1]:=h0.one;simp![ze] at h1;subst h1;show .inl #[_,rfl,h _ H (by simp![ze]) (.refl H) h2]
 .let#[x,rfl,h1]:=h0.one;simp![ze] at h1;subst h1;show .inr #[_,rfl,h _ H (by simp![ze]) (.refl H) h2]
 .show h.elim
def VW (hm:X.mg "int"=none) (ha:yX X (e::es) tA) (hg:Gl X "int") (he:AG X e es) (Ar:AN X pos es):PD X (.Call (.Name "int" p) (e::es) [] pos) (xc uJ tA):=
 vO (qt OX hg hm PyProof.Rows.boot_int ha.pa () () he Ar) uJ.mo uJ.fits ha.mo
@[simp] def mF:An
 | [.int i]=>↑(.int i)
 | [.bl k]=>↑(.int (if k then 1 else 0))
 | _=>none
def good_int:wX zA mF uJ:=λ S Z ys z ds Q hz hv e hq=>by
 unfold mF at e;split at e
 .cases e;let#[d,rfl,h1]:=wC hv;cases h1.int;show hq _ S (.refl S) (Cl.of (λ _=>nofun) xN)
 .cases e;let#[d,rfl,h1]:=wC hv;cases h1.bl;show hq _ S (.refl S) (Cl.of (λ _=>nofun) xN)
 .cases e
end
section
variable {α:Type}{P:List α->Prop}
def Nz (h:∀ a,P [a]) (us:List α) (hl:us.length=1):P us:=match us,hl with | [a],_=>h a
def Ny (h:∀ a b,P [a,b]) (us:List α) (hl:us.length=2):P us:=match us,hl with | [a,b],_=>h a b
def Nx (h:∀ a b c,P [a,b,c]) (us:List α) (hl:us.length=3):P us:=match us,hl with | [a,b,c],_=>h a b c
def Nw (h:∀ a b c d,P [a,b,c,d]) (us:List α) (hl:us.length=4):P us:=match us,hl with | [a,b,c,d],_=>h a b c d
end
end L5
namespace L5
open PySem PySem.Spec L2 L3
open PyProof.Rows hiding St
section
variable {P:Program}{w:World}{K:Ac}{mg:AI}{base h:Heap}{x:Str}{st:Stmt}
def Fx (K:Ac) (x:Str) (st:Stmt):Prop:=∃ (f:Addr) (oc:Value) (od:Option Addr) (kV dc pm:Value) (an:Option Addr) (cd ct:Value) (sl:Array (Option Value)),
 PySem.W.nsIn K mainGlobals x=↑↑(.ref f)/\K.lookup f=↑#[oc,od,.func (PySem.W.fnOf x x (uO st) (wa st) (yh st) .none kV dc pm an cd ct),sl]/\PySem.W.codeIn K cd x=true/\PySem.W.keepIn K (.ref f)=true
def Fx.i {f:Addr}{oc:Value}{od:Option Addr}{kV dc pm:Value}{an:Option Addr}{cd ct:Value}{sl:Array (Option Value)}(a:PySem.W.nsIn K mainGlobals x=↑↑(.ref f)) (l:K.lookup f=↑#[oc,od,.func (PySem.W.fnOf x x (uO st) (wa st) (yh st) .none kV dc pm an cd ct),sl]) (c:PySem.W.codeIn K cd x=true) (k:PySem.W.keepIn K (.ref f)=true):Fx K x st:=#[f,oc,od,kV,dc,pm,an,cd,ct,sl,a,l,c,k]
def Fy (K:Ac) (mg:AI) (x:Str) (st:Stmt):Prop:=∃ (f:Addr) (fd:FuncData),ue K x x st f fd/\mg x=↑(.ref f)
def Fx.mk (H:Fx K x st) (X:K.In h) (G:h.Ns mainGlobals mg):Fy K mg x st:=by
 let#[f,oc,od,kV,dc,pm,an,cd,ct,sl,a,l,c,k]:=H;show#[f,_,cL l c k,PySem.W.mg_of X G a]
theorem Fx.law {fa:Addr}{p:Str}(H:Fx K "law" st) (X:K.In h) (G:h.Ns mainGlobals mg) (EH:mg "law"=↑(.ref fa)) (hb:∀ (kV dc pm:Value) (an:Option Addr) (cd ct:Value) (s:Shared) (v:Value),BindsTo s (PySem.W.fnOf "law" "law" (uO st) (wa st) (yh st) .none kV dc pm an cd ct) #[[v],[]] [(p,v)]):∃ fd:FuncData,ue K "law" "law" st fa fd/\∀ (s:Shared) (v:Value),BindsTo s fd #[[v],[]] [(p,v)]:=by
 let#[f,oc,od,kV,dc,pm,an,cd,ct,sl,a,l,c,k]:=H;have e:=EH.symm.trans (PySem.W.mg_of X G a);cases e;show#[_,cL l c k,hb kV dc pm an cd ct]
def Cn (K:Ac) (x:Str) (t:V):Prop:=∃ u,PySem.W.nsIn K mainGlobals x=↑↑u/\L2.RelV t u
def Cn.i {t:V}{u:Value}(a:PySem.W.nsIn K mainGlobals x=↑↑u) (r:L2.RelV t u):Cn K x t:=#[u,a,r]
def Cn.mk {t:V}(H:Cn K x t) (X:K.In h) (G:h.Ns mainGlobals mg):∃ u,mg x=↑u/\L2.RelV t u:=by
 let#[u,a,r]:=H;show#[u,PySem.W.mg_of X G a,r]
def Pr {R:Rk} [Lo R] {N ps:List Str}{k n:Nat}{g:Sm}(F:Fy K mg x st) (Sc:uU N ps (yh st)) (hn:n=ps.length)
  (hb:∀ (kV doc pm:Value) (an:Option Addr) (Al ct:Value) (us:Ae),us.length=ps.length->bindArgs (PySem.W.fnOf x x (uO st) (wa st) (yh st) .none kV doc pm an Al ct) #[us,[]]=pure (ps.zip us))
  (E9:∀ (f:Addr) (Al:Value) (A:Around) (outer:List Env) (s:Shared) (H:Hp) (E:XK),z_ k (A.deeper (envOfC x (yh st) s.heap.objs.size f Al))->
   ∃ t,wQ (w6 xr P w K mg base N x (yh st) f Al A outer s H E).vb (wa st) t/\yb R g t):FD P w K mg base x (k+1) ps (zI R (zR N n g)):=by
 let#[f,fd,F,hm]:=F;show Pt F hm Sc hn hb (E9 f)
end
end L5
namespace L3
open PySem PySem.Spec L2
open PyProof.Rows hiding St
section
def Z2 (_ j:Int):Prop:=0<j/\j<2 ^ 200
def Zz (i j:Int):Prop:=i.natAbs<2 ^ 200/\j.natAbs<2 ^ 200
instance (i j:Int):Decidable (Z2 i j):=by unfold Z2;infer_instance
instance (i j:Int):Decidable (Zz i j):=by unfold Zz;infer_instance
end
end L3
namespace L2
open PySem PySem.Spec PyProof.Rows
theorem kj:∀ {ns:List Int}{us:Ae},Vals (ns.map V.int) us->∃ xs:List (Int×Tok),us=xs.map (λ p=>.int p.1 p.2)/\xs.map (·.1)=ns
 | [],_,h=>by cases h;show#[[],rfl,rfl]
 | n::ns,us,h=>by
  cases h with
  | cons r rr=>
   let#[t,rfl]:=r;let#[xs,rfl,rfl]:=kj rr;show#[(n,t)::xs,rfl,rfl]
section
variable {X:Cx}
def dU {xs:List (Int×Tok)}{i:Nat}{v:Value}(h:(intItems xs.toArray)[i]?=↑v):i<xs.length/\∃ t,v=.int (numAt xs.toArray i) t:=by
 let#[t,rfl]:=intItems_at h;exact#[?_,t,rfl];let#[h1,_]:=Array.getElem?_eq_some_iff.mp h;simpa [intItems] using h1
theorem eE {xs:List (Int×Tok)}{i:Nat}(h:i<xs.length):numAt xs.toArray i∈xs.map (·.1):=by
 rw[numAt_eq];show getD_mem (by exists h)
def e_ {xs:List (Int×Tok)}{a:Int}(h:a∈xs.map (·.1)):∃ j,j<xs.length/\a=numAt xs.toArray j:=by
 let#[j,hj,rfl]:=mem_getD h;show#[j,by simpa using hj,by rw[numAt_eq]]
theorem OP (hc:X.calm=true):y9 X (.builtin "max") (λ xs H Q=>∃ (p:Addr) (ns:List Int),xs=[.ref p]/\zC X.K H p (ns.map V.int)/\0<ns.length/\∀ M,M∈ns->(∀ a∈ns,a<=M)->Q (.int M) H):=by
 intro EN s B H xs us Q I r h;let#[p,ns,rfl,hq,hn,q]:=h;let#[u,rfl,rx]:=vals1 r;cases rx;let#[Aa,r',pl,hz]:=I.list hq;let#[zs,rfl,rfl]:=kj r';have hl:s.heap.IsList p (intItems zs.toArray):=by
  have:=pl.isList;simpa [intItems] using this
 exact max_intList (I.ok.hd hc) hl (by exists hn) λ v h' tk hv hk=>?_;let#[hi,t,rfl]:=dU hv;let#[h1,h2]:=argBest_gt (numAt zs.toArray) (zs.toArray.size-1);exact#[.int _,H,I.kept hk,#[t,rfl],q _ (eE hi) λ a ha=>?_];let#[j,hj,rfl]:=e_ ha;show h2 j (by simp;lia)
theorem OM (hc:X.calm=true):y9 X (.builtin "min") (λ xs H Q=>∃ (p:Addr) (ns:List Int),xs=[.ref p]/\zC X.K H p (ns.map V.int)/\0<ns.length/\∀ M,M∈ns->(∀ a∈ns,M<=a)->Q (.int M) H):=by
 intro EN s B H xs us Q I r h;let#[p,ns,rfl,hq,hn,q]:=h;let#[u,rfl,rx]:=vals1 r;cases rx;let#[Aa,r',pl,hz]:=I.list hq;let#[zs,rfl,rfl]:=kj r';have hl:s.heap.IsList p (intItems zs.toArray):=by
  have:=pl.isList;simpa [intItems] using this
 exact min_intList (I.ok.hd hc) hl (by exists hn) λ v h' tk hv hk=>?_;let#[hi,t,rfl]:=dU hv;let#[h1,h2]:=argBest_lt (numAt zs.toArray) (zs.toArray.size-1);exact#[.int _,H,I.kept hk,#[t,rfl],q _ (eE hi) λ a ha=>?_];let#[j,hj,rfl]:=e_ ha;show h2 j (by simp;lia)
end
section
variable {p:Pos}
def X4 (K:Ac):List V->Hp->VK->Prop:=λ xs H Q=>∃ (p:Addr) (ns:List Int),xs=[.ref p]/\zC K H p (ns.map V.int)/\0<ns.length/\∀ M,M∈ns->(∀ a∈ns,a<=M)->Q (.int M) H
def X3 (K:Ac):List V->Hp->VK->Prop:=λ xs H Q=>∃ (p:Addr) (ns:List Int),xs=[.ref p]/\zC K H p (ns.map V.int)/\0<ns.length/\∀ M,M∈ns->(∀ a∈ns,M<=a)->Q (.int M) H
end
end L2
namespace L3
open PySem PySem.Spec L2
open PyProof.Rows hiding St
section
variable {X:Cx}{K:Ac}{e:Expr}{tA:yf}{p pos:Pos}
def se (d:D) (S:SS) (ns:List Int):Prop:=match d with
 | .xw es=>es=ns.map D.int
 | .ref a=>S a=↑(.lst (ns.map D.int))
 | _=>False
theorem se.sq {H:Hp}{S:SS}{d:D}{v:V}{ns:List Int}(r:ze K H d v) (p:zF K H S) (h:se d S ns):∃ a,v=.ref a/\zC K H a (ns.map V.int):=by
 unfold se at h;split at h
 .subst h;simp![ze] at r;let#[a,xs,r1,r2,r3]:=r;rw[r3.ints] at r2;show#[a,r1,r2.sq]
 .rename_i a;simp![ze] at r;let#[xs,x1,x2]:=p a _ h;rw[x2.ints] at x1;show#[a,r,.inl (.inl x1)]
 .show h.elim
def sE:xf:=λ ds S Q=>∃ d ns,ds=[d]/\se d S ns/\0<ns.length/\∀ M,M∈ns->(∀ a∈ns,a<=M)->Q (.int M) S
def sD:xf:=λ ds S Q=>∃ d ns,ds=[d]/\se d S ns/\0<ns.length/\∀ M,M∈ns->(∀ a∈ns,M<=a)->Q (.int M) S
def sE.mo:wV sE:=λ ds S Q Q' hq #[d,ns,h1,h2,h3,h4]=>#[d,ns,h1,h2,h3,λ M a b=>hq _ _ (h4 M a b)]
def sD.mo:wV sD:=λ ds S Q Q' hq #[d,ns,h1,h2,h3,h4]=>#[d,ns,h1,h2,h3,λ M a b=>hq _ _ (h4 M a b)]
def sE.fits:vI K sE (X4 K):=λ xs ds H S Q h0 h2 h=>by
 let#[d,ns,rfl,h1,h3,h4]:=h;let#[x,rfl,r]:=h0.one;let#[a,rfl,sq]:=se.sq r h2 h1;show#[a,ns,rfl,sq,h3,λ M x y=>h4 M x y _ H (by simp![ze]) (.refl H) h2]
def sD.fits:vI K sD (X3 K):=λ xs ds H S Q h0 h2 h=>by
 let#[d,ns,rfl,h1,h3,h4]:=h;let#[x,rfl,r]:=h0.one;let#[a,rfl,sq]:=se.sq r h2 h1;show#[a,ns,rfl,sq,h3,λ M x y=>h4 M x y _ H (by simp![ze]) (.refl H) h2]
def VG (hm:X.mg "max"=none) (ha:yX X [e] tA) (hc:X.calm=true) (hg:Gl X "max") (he:AG X e []) (Ar:AN X pos []):PD X (.Call (.Name "max" p) [e] [] pos) (xc sE tA):=
 vO (ui (OP hc) hg hm boot_max ha.pa () () he Ar) sE.mo sE.fits ha.mo
def VE (hm:X.mg "min"=none) (ha:yX X [e] tA) (hc:X.calm=true) (hg:Gl X "min") (he:AG X e []) (Ar:AN X pos []):PD X (.Call (.Name "min" p) [e] [] pos) (xc sD tA):=
 vO (ui (OM hc) hg hm boot_min ha.pa () () he Ar) sD.mo sD.fits ha.mo
end
end L3
namespace L5
open PySem PySem.Spec L2 L3
open PyProof.Rows hiding St
def tq:List Int->Option Int
 | []=>none
 | n::ns=>match tq ns with
  | none=>↑n
  | some m=>↑(if m<n then n else m)
def tp:List Int->Option Int
 | []=>none
 | n::ns=>match tp ns with
  | none=>↑n
  | some m=>↑(if n<m then n else m)
theorem de:∀ {ns:List Int},tq ns=none->ns=[]
 | [],_=>rfl
 | n::ns,h=>by unfold tq at h;split at h <;> cases h
theorem eZ:∀ {ns:List Int},tp ns=none->ns=[]
 | [],_=>rfl
 | n::ns,h=>by unfold tp at h;split at h <;> cases h
theorem jt:∀ {ns:List Int}{M:Int},tq ns=↑M->M∈ns/\∀ a∈ns,a<=M
 | [],_,h=>by cases h
 | n::ns,M,h=>by
  unfold tq at h;split at h
  .rename_i e;cases h;rw[de e];show#[Ap,λ a ha=>by cases AO.mp ha;show AL _]
  .rename_i m e;let#[h1,h2]:=jt e;cases h;split
   .show#[Ap,λ a ha=>by
     rcases Ah.mp ha with rfl | x
     .show AL _
     .have:=h2 a x;lia]
   .show#[Aw _ h1,λ a ha=>by
     rcases Ah.mp ha with rfl | x
     .lia
     .show h2 a x]
theorem jq:∀ {ns:List Int}{M:Int},tp ns=↑M->M∈ns/\∀ a∈ns,M<=a
 | [],_,h=>by cases h
 | n::ns,M,h=>by
  unfold tp at h;split at h
  .rename_i e;cases h;rw[eZ e];show#[Ap,λ a ha=>by cases AO.mp ha;show AL _]
  .rename_i m e;let#[h1,h2]:=jq e;cases h;split
   .show#[Ap,λ a ha=>by
     rcases Ah.mp ha with rfl | x
     .show AL _
     .have:=h2 a x;lia]
   .show#[Aw _ h1,λ a ha=>by
     rcases Ah.mp ha with rfl | x
     .lia
     .show h2 a x]
def mv:An
 | [.lst ts]=>(wx ts).bind λ ns=>(tq ns).map .int
 | _=>none
def mh:An
 | [.lst ts]=>(wx ts).bind λ ns=>(tp ns).map .int
 | _=>none
def Vw.ints {S:SS}{Z:Addr->Prop}{ns:List Int}{d:D}(h:Vw S Z (.lst (ns.map T.int)) d):se d S ns:=by
 rcases h with h | ⟨ts,p,ds,e,rfl,h1,h2,_⟩
 .simp![Sn] at h;let#[ds,h1,h2]:=h;have e:=uh.mp h2;subst e;rcases h1 with ⟨rfl,_⟩ | ⟨a,rfl,h3⟩
  .rfl
  .show (vR h3).2
 .cases e;rw[uh.mp h2] at h1;show h1
def QP:wX zA mv sE:=λ S Z ys z ds Q hz hv e hq=>by
 unfold mv at e;split at e
 .let#[d,rfl,h1]:=wC hv;let#[ns,e1,e2]:=Ak.mp e;rw[rB e1] at h1;let#[M,e3,rfl]:=AE.mp e2;let#[m1,m2]:=jt e3;exact#[d,ns,rfl,h1.ints,DA m1,λ M' a b=>?_];have:M'=M:=Int.le_antisymm (m2 M' a) (b M m1);subst this;show hq _ S (.refl S) (Cl.of (λ _=>nofun) xN)
 .cases e
def QN:wX zA mh sD:=λ S Z ys z ds Q hz hv e hq=>by
 unfold mh at e;split at e
 .let#[d,rfl,h1]:=wC hv;let#[ns,e1,e2]:=Ak.mp e;rw[rB e1] at h1;let#[M,e3,rfl]:=AE.mp e2;let#[m1,m2]:=jq e3;exact#[d,ns,rfl,h1.ints,DA m1,λ M' a b=>?_];have:M'=M:=Int.le_antisymm (b M m1) (m2 M' a);subst this;show hq _ S (.refl S) (Cl.of (λ _=>nofun) xN)
 .cases e
end L5
namespace L3
open PySem PySem.Spec L2
open PyProof.Rows hiding St
section
variable {X:Cx}{e:Expr}{es:List Expr}{tA:yf}{pos p:Pos}
def vw (i:Nat) {x:Str}(hN:X.N[i]?=↑x:=by rfl) (hv:lI X.env.scope x:=by first | show Or.inl rfl | show Or.inr (Or.inl rfl) | show Or.inr (Or.inr rfl)) (hd:(x == ("__debug__":Str))=false:=by decide) (BD:(x == ("__classdict__":Str))=false:=by decide):PD X (.Name x pos) (ye i):=Vx i (pv i hN hv hd BD)
def Uk {x:Str}{k k':Nat}{ps:List Str}{sp:tH}(F:FD X.prog X.w X.K X.mg X.base x k ps sp) (hr:z_ k' X.A) (ha:yX X (e::es) tA) (hk:k<=k') (hg:Gl X x) (BL:(x == ("__debug__":Str))=false)
  (he:AG X e es) (Ar:AN X pos es):PD X (.Call (.Name x p) (e::es) [] pos) (mU sp tA):=Ul F (hr.mono hk) ha hg BL he Ar
end
def cN {N P:List Str}{sc:Scope}(h1:sc.kind=.function:=by rfl) (h2:sc.isCoroutine=false:=by rfl) (h3:sc.isGenerator=false:=by rfl) (h4:N.Nodup:=by decide +kernel) (h5:N.take P.length=P:=by rfl) (h6:∀ x∈P,sc.names.lookup x=↑.local\/sc.names.lookup x=↑.cell:=by decide +kernel) (h7:∀ y∈sc.names,y.2≠.free:=by decide +kernel):uU N P sc:=#[h1,h2,h3,h4,h5,h6,h7]
end L3
namespace PySem
section
variable {prog:Program}{w:World}
def sR (prog:Program) (w:World) (h:Heap):Int ⊕ List Int->Value->Prop
 | .inl i,v=>(intKind prog w).is i v=true
 | .inr ks,v=>∃ c,v=.ref c/\IsTupleKey (intKind prog w) h ks c
inductive wU (prog:Program) (w:World) (h:Heap):List (Int ⊕ List Int)->List Value->Prop
 | nil:wU prog w h [] []
 | cons {k v ks vs}:sR prog w h k v->wU prog w h ks vs->wU prog w h (k::ks) (v::vs)
def wW (prog:Program) (w:World) (h:Heap) (ks:List (Int ⊕ List Int)) (a:Addr):Prop:=∃ o items n,h.get? a=↑o/\o.cls=.type "tuple"/\o.data=.seq items n/\wU prog w h ks items.toList
theorem sR.inj {h:Heap}{x y:Int ⊕ List Int}{v:Value}(hx:sR prog w h x v) (hy:sR prog w h y v):x=y:=by
 cases x with
 | inl i=>
  cases y with
  | inl j=>rw[(intKind prog w).inj _ _ _ hx hy]
  | inr ks=>let#[c,rfl,_]:=hy;have:=(intKind prog w).byValue _ _ hx;simp[carriedByValue] at this
 | inr ks=>
  let#[c,rfl,hx]:=hx;cases y with
  | inl j=>have:=(intKind prog w).byValue _ _ hy;simp[carriedByValue] at this
  | inr js=>
   let#[c',e,hy]:=hy;cases e;rw[hx.inj hy]
theorem wU.inj {h:Heap}{x y:List (Int ⊕ List Int)}{vs:Ae}(hx:wU prog w h x vs) (hy:wU prog w h y vs):x=y:=by
 induction hx generalizing y with
 | nil=>cases hy;rfl
 | cons h1 _ ih=>
  cases hy with
  | cons h2 t2=>rw[h1.inj h2,ih t2]
def wW.typeIs {s:Shared}{ks:List (Int ⊕ List Int)}{a:Addr}(x:wW prog w s.heap ks a):s.TypeIs (.ref a) "tuple":=let #[o,_,_,ho,hc,_]:=x;#[o,ho,hc]
theorem wW.inj {h:Heap}{a:Addr}{x y:List (Int ⊕ List Int)}(hx:wW prog w h x a) (hy:wW prog w h y a):x=y:=by
 let#[o,items,n,ho,_,hd,hi]:=hx;let#[o',He,n',Fq,_,F6,F9]:=hy;obtain rfl:o=o':=A1 (ho.symm.trans Fq);rw[hd] at F6
 injection F6 with h1 _
 subst h1;show hi.inj F9
theorem wU.keeps {h h':Heap}{d:Addr}{o:Obj}{es ep} (ho:h.get? d=↑o) (hd:o.data=.dict es ep) (hs:Heap.SameBut d h h') {ks:List (Int ⊕ List Int)}{vs:Ae}(x:wU prog w h ks vs):wU prog w h' ks vs:=by
 induction x with
 | nil=>show .nil
 | @cons k v _ _ h1 _ ih=>
  exact .cons ?_ ih;cases k with
  | inl i=>show h1
  | inr js=>let#[c,e,h1]:=h1;show#[c,e,h1.keeps ho hd hs]
theorem wW.keeps {h h':Heap}{ks:List (Int ⊕ List Int)}{a d:Addr}{o:Obj}{es ep} (x:wW prog w h ks a) (ho:h.get? d=↑o) (hd:o.data=.dict es ep) (hs:Heap.SameBut d h h'):wW prog w h' ks a:=by
 let#[o',items,n,Fq,hc,F6,hi]:=x;have Aq:a≠d:=by
  rintro rfl;obtain rfl:o'=o:=A1 (Fq.symm.trans ho);rw[hd] at F6;show nomatch F6
 show#[o',items,n,(hs.2 a Aq).trans Fq,hc,F6,hi.keeps ho hd hs]
def rf (prog:Program) (w:World):Int ⊕ List Int->Int
 | .inl i=>(intKind prog w).hash i
 | .inr ks=>tupleKeyHash (intKind prog w) ks
def eU:Int ⊕ List Int->Nat
 | .inl _=>1
 | .inr ks=>ks.length+1
def um:List (Int ⊕ List Int)->Nat
 | []=>0
 | k::ks=>eU k+um ks
def eT (a b:List (Int ⊕ List Int)):um (a++b)=um a+um b:=by
 induction a with
 | nil=>simp[um]
 | cons k a ih=>simp[um,ih,CW]
def jk (prog:Program) (w:World) (ks:List (Int ⊕ List Int)):Int:=reduceHash (Builtin.Tuple.tupleHashOf (ks.map (rf prog w)))
variable {A:Around}{E:Af}{s:Shared}
def Rz {k:Int ⊕ List Int}{v:Value}{Q:Int->Shared->Prop}(hu:A.units<cLine) (hk:sR prog w s.heap k v) (h:Q (rf prog w k) { s with toks:=s.toks+eU k }):wpAny (model prog w) A (pyHash v) Q E s:=by
 cases k with
 | inl i=>show (intKind prog w).pyHash hk h
 | inr ks=>let#[c,rfl,hk]:=hk;show wpAny_pyHash_tuple hu hk h
theorem R0 {x y:Int ⊕ List Int}{u v:Value}{Q:Bool->Shared->Prop}(hu:A.units<cLine) (hx:sR prog w s.heap x u) (hy:sR prog w s.heap y v) (Ce:x.isLeft=y.isLeft) (h:Q (decide (x=y)) s):wpAny (model prog w) A (eqBool u v) Q E s:=by
 cases x with
 | inl i=>
  cases y with
  | inl j=>show (intKind prog w).eqBool hx hy (by exists h)
  | inr js=>cases Ce
 | inr ks=>
  cases y with
  | inl j=>cases Ce
  | inr js=>
   let#[c,rfl,hx]:=hx;let#[d,rfl,hy]:=hy;show wpAny_eqBool_tuple hu hx hy (by exists h)
def Yd {ks:List (Int ⊕ List Int)}{a:Addr}{Q:Int->Shared->Prop}(hu:A.units+4<cLine) (hk:wW prog w s.heap ks a) (h:Q (jk prog w ks) { s with toks:=s.toks+(um ks+1) }):
  wpAny (model prog w) A (pyHash (.ref a)) Q E s:=by
 have hT:=hk.typeIs;let#[o,items,n,ho,_,hd,hi]:=hk;unfold pyHash
 first | unfold pyHashByItsType | skip
 first | exact IE (wpAny_cRoomFor_or (.inr ⋯) ?_) | skip
 exact IE (JU hT F.slot_tuple_hash.lookup ?_);change wpAny _ _ (if (↑(Value.builtin "tuple.__hash__") == ↑Value.none)=true then _ else _) Q E s;rw[if_neg (by rw[beq_builtin_none];show BI)];exact IE (JU hT F.slot_tuple_hash.lookup ?_);change wpAny _ _ (callSpecialIfBoundUnlessNone? (.ref a) "__hash__" _ >>= _) Q E s;exact IE (wpAny_callSpecialIfBoundUnlessNone?_slot hT F.slot_tuple_hash (JK F.slot_tuple_hash hT F.entry_tuple_hash ?_ (F.args_tuple_hash_1 _)));change wpAny _ _ (Builtin.Tuple.tupleItemsOf (.ref a) >>= _) _ _ s;exact IE (wpAny_tupleItemsOf ho hd ?_);exact IE ?_;rw[<- Dw];exact JQ _
  (λ EU (b:Array Int) s'=>∃ done left,ks=done++left/\wU prog w s.heap left EU/\b.toList=done.map (rf prog w)/\s'={ s with toks:=s.toks+um done })
  _ ?_ ?_ _ _ #[[],ks,rfl,hi,rfl,rfl]
 .rintro x EU b s' ⟨done,left,rfl,hl,hb,rfl⟩;cases hl with
  | @cons k _ IV _ h1 FW=>
   exact IE (Rz (show A.units+1<cLine by lia) h1 ?_)
   first
    | show Ad #[done++[k],IV,#[],FW,by simp[hb],by simp[eT,um,CW]]
    | show IE (Ad (Ad #[done++[k],IV,#[],FW,by simp[hb],by simp[eT,um,CW]]))
 .rintro b s' ⟨done,left,rfl,hl,hb,rfl⟩;cases hl;rw[BE] at h;change wpAny _ _ (retInt (Builtin.Tuple.tupleHashOf b.toList)) _ _ _;rw[hb];exact wpAny_ret_mkInt ?_;change wpAny _ _ (if (decide (-(2:Int) ^ 63<=Builtin.Tuple.tupleHashOf (done.map (rf prog w)))&&decide (Builtin.Tuple.tupleHashOf (done.map (rf prog w))<2 ^ 63))=true then _ else _) Q E _;unfold jk reduceHash at h;by_cases hr:(decide (-(2:Int) ^ 63<=Builtin.Tuple.tupleHashOf (done.map (rf prog w)))&&decide (Builtin.Tuple.tupleHashOf (done.map (rf prog w))<2 ^ 63))=true
  .rw[if_pos hr];rw[if_pos hr] at h;show Ad (by simpa [CW] using h)
  .rw[if_neg hr];rw[if_neg hr] at h;show IE (wpAny_rule (Ad (by simpa [CW] using h)))
def Ry {x y:List (Int ⊕ List Int)}{a b:Addr}{P:Fin->Shared->Prop}(hu:A.units<cLine) (hs:x.map Sum.isLeft=y.map Sum.isLeft) (hx:wW prog w s.heap x a) (hy:wW prog w s.heap y b) (h:P (.done (.ret (.bool (decide (x=y))))) s):
  wpAny (model prog w) A (Builtin.«tuple.__eq__» #[[.ref a,.ref b],[]]) P E s:=by
 have hTb:=hy.typeIs;let#[oa,xs,na,hoa,_,hda,hia]:=hx;let#[ob,ys,nb,hob,_,BL,hib]:=hy;change wpAny _ _ (isInstance (.ref b) (.type "tuple") >>= _) _ _ s;exact IE (JT hTb isSubtype_tuple_tuple ?_);simp![BS,A4,if_false];exact IE (wpAny_tupleItemsOf hoa hda ?_);exact IE (wpAny_tupleItemsOf hob BL ?_);exact IE ?_;exact JQ _
  (λ EU r s'=>r.1=none/\s'=s/\∃ x' y' E6 GF,EU=List.zip E6 GF/\x'.map Sum.isLeft=y'.map Sum.isLeft/\wU prog w s.heap x' E6/\wU prog w s.heap y' GF/\decide (x'=y')=decide (x=y)/\(E6.length == GF.length)=(xs.size == ys.size))
  _ ?_ ?_ _ _ #[rfl,rfl,x,y,xs.toList,ys.toList,rfl,hs,hia,hib,rfl,#[]]
 .rintro⟨u,v⟩ EU r s' ⟨hr,rfl,x',y',E6,GF,hz,FY,Gz,Hf,Cb,hlen⟩;cases Gz with
  | nil=>simp at hz
  | @cons k1 u' x'' IB h1 Ja=>
   cases Hf with
   | nil=>simp at hz
   | @cons k2 v' y'' Iz h2 I_=>
    simp![D6,List.cons.injEq,Prod.mk.injEq] at hz;let#[#[rfl,rfl],rfl]:=hz;simp![Av,List.cons.injEq] at FY;exact IE (R0 (x:=k1) (y:=k2) hu h1 h2 FY.1 ?_);by_cases hk:k1=k2
    .subst hk;rw[JF rfl];simp![BS,A4,if_false];exact Ad #[rfl,rfl,x'',y'',IB,Iz,rfl,FY.2,Ja,I_,?_,by exists hlen];rw[<- Cb];by_cases Ce:x''=y''
     .simp[Ce]
     .simp[Ce]
    .rw[JE hk];simp![Ct,if_true];have hf:decide (x=y)=false:=by rw[<- Cb];simp[hk]
     rw[hf] at h;show IE (Ad (Ad (Ad h)))
 .rintro⟨r1,r2⟩ s' ⟨hr,rfl,x',y',E6,GF,hz,_,Gz,Hf,Cb,hlen⟩;simp only at hr;subst hr;exact Ad ?_;have EG:(xs.size == ys.size)=decide (x=y):=by
   rw[<- Cb,<- hlen];cases Gz with
   | nil=>
    cases Hf with
    | _=>simp
   | cons _ _=>
    cases Hf with
    | nil=>simp
    | cons _ _=>simp at hz
  change P (.done (.ret (.bool (xs.size == ys.size)))) s';rw[EG];show h
def Ye {x y:List (Int ⊕ List Int)}{a b:Addr}{Q:Bool->Shared->Prop}(hu:A.units+4<cLine) (hs:x.map Sum.isLeft=y.map Sum.isLeft) (hx:wW prog w s.heap x a) (hy:wW prog w s.heap y b) (h:Q (decide (x=y)) s):
  wpAny (model prog w) A (eqBool (.ref a) (.ref b)) Q E s:=by
 unfold eqBool
 try with_reducible exact JI ?_
 change wpAny _ _ (if (Value.ref a == Value.ref b)=true then _ else _) Q E s;by_cases BV:(Value.ref a == Value.ref b)=true
 .rw[if_pos BV];have e:a=b:=by have:=eq_of_beq BV;injection this
  subst e;obtain rfl:=hx.inj hy;show IE (wpAny_rule (Ad (by exists h)))
 .rw[if_neg BV];show IE (wpAny_richCompare_same_room (op:=.Eq) hx.typeIs hy.typeIs F.slot_tuple_eq
   (JK F.slot_tuple_eq hx.typeIs F.entry_tuple_eq (Ry (show A.units+1<cLine by lia) hs hx hy #[_,rfl,(λ e=>nomatch e),JN h]) (F.args_tuple_eq_2 _ _)) ⋯)
def fN {m:Nat}{a:Addr}{o:Obj}{items:Ax}{n:Nat}{Q:Bool->Shared->Prop}(ho:s.heap.get? a=↑o) (hc:o.cls=.type "tuple") (hd:o.data=.seq items n) (hi:∀ v∈items.toList,∀ Q:Bool->Shared->Prop,Q true s->wpAny (model prog w) A (eqIsQuiet m v) Q E s) (h:Q true s):wpAny (model prog w) A (eqIsQuiet (m+1) (.ref a)) Q E s:=by
 have hT:s.TypeIs (.ref a) "tuple":=#[o,ho,hc];unfold eqIsQuiet;exact IE (JU hT F.slot_tuple_eq.lookup ?_);change wpAny _ _ (isInstance (.ref a) (.type "tuple") >>= _) _ _ s;exact IE (JT hT isSubtype_tuple_tuple ?_);simp![BS,A4,if_false];exact IE (JL ho hd ?_);exact IE ?_;change wpAny _ _ (forIn items _ _) _ _ s;rw[<- Dw];exact JQ _ (λ EU r s'=>r.1=none/\s'=s/\∀ v∈EU,v∈items.toList) _ ?_ ?_ _ _ #[rfl,rfl,λ _ h=>h]
 .rintro v EU r s' ⟨hr,rfl,Az⟩;exact IE (hi v (Az v Ap) _ ?_);simp![BS,A4,if_false];show Ad #[rfl,rfl,λ u G4=>Az u (Aw _ G4)]
 .rintro⟨r1,r2⟩ s' ⟨hr,rfl,_⟩;simp only at hr;subst hr;show Ad h
def wU.mem {h:Heap}{ks:List (Int ⊕ List Int)}{vs:Ae}(x:wU prog w h ks vs):∀ v∈vs,∃ k,sR prog w h k v:=by
 induction x with
 | nil=>nofun
 | @cons k v' _ _ h1 _ ih=>
  intro v hv;rcases Ah.mp hv with rfl | hv
  .show#[k,h1]
  .show ih v hv
def X6 {ks:List (Int ⊕ List Int)}{a:Addr}{Q:Bool->Shared->Prop}(hk:wW prog w s.heap ks a) (h:Q true s):wpAny (model prog w) A (eqIsQuiet 8 (.ref a)) Q E s:=by
 let#[o,items,n,ho,hc,hd,hi]:=hk;exact fN ho hc hd (λ v hv Q q=>?_) h;let#[k,hk]:=hi.mem v hv;cases k with
 | inl i=>rw[eqIsQuiet_byValue _ ((intKind prog w).byValue _ _ hk)];show Ad q
 | inr ls=>
  let#[c,rfl,o',He,n',Fq,FK,F6,F9]:=hk;show fN Fq FK F6 (λ u hu Q q=>by rw[eqIsQuiet_byValue _ (F9.byValue u hu)];show Ad q) q
end
def jj (prog:Program) (w:World):HeapKind prog w (Int×List Int) where
 is:=λ h k a=>wW prog w h [.inl k.1,.inr k.2] a
 hash:=λ k=>jk prog w [.inl k.1,.inr k.2]
 draws:=λ k=>um [.inl k.1,.inr k.2] + 1
 room:=λ A=>A.units+4<cLine
 inj:=λ{_ _ x y} hx hy=>by
  have:=hx.inj hy;simp![List.cons.injEq,Sum.inl.injEq,Sum.inr.injEq,and_true] at this;show Prod.ext this.1 this.2
 keeps:=λ x ho hd hs=>x.keeps ho hd hs
 pyHash:=λ hu hk h=>Yd hu hk h
 eqBool:=λ{_ _ _ x y _ _ _} hu hx hy h=>Ye (x:=[.inl x.1,.inr x.2]) (y:=[.inl y.1,.inr y.2]) hu rfl hx hy (by
  have:decide ((([Sum.inl x.1,Sum.inr x.2]:List (Int ⊕ List Int)))=[Sum.inl y.1,Sum.inr y.2])=decide (x=y):=by
   simp[Prod.ext_iff]
  rw[this];show h)
 quiet:=λ hk h=>X6 hk h
end PySem
namespace L3
open PySem PySem.Spec L2
open PyProof.Rows hiding St
abbrev NK:=Int×List Int
def xo (l:List (NK×Int)) (k:NK):Option Int:=(l.find? λ x=>decide (x.1=k)).map (·.2)
section
variable {X:Cx}{EN:Ai}{B:St}{H:Hp}{s:Shared}
theorem cy {P:Program}{w:World}:∀ {ks:List Int}{us:Ae},Vals (ks.map V.int) us->ItemsAre (intKind P w) ks us
 | [],_,r=>by rw[Ba] at r;cases r;show .nil
 | k::ks,_,r=>by
  rw[Av] at r;cases r with
  | cons h t=>let#[u,rfl]:=h;show .cons (by simp[intKind,Value.isInt]) (cy t)
theorem tJ.is (I:Inv X EN B H s) {b:Addr}{k:NK}(h:tJ X.K H b k):(jj X.prog X.w).is s.heap k b:=by
 let#[c,h1,h2]:=h;let#[Aa,r,#[o,e,hc,n,hd],_]:=I.tuple h1;let#[AK,r',#[o',e',FK,n',F6],_]:=I.tuple h2;let#[u1,u2,rfl,#[t,rfl],hu2]:=vals2 r;cases hu2;exact#[o,_,n,e,hc,hd,?_];show .cons (show (intKind X.prog X.w).is k.1 _=true by simp[intKind,Value.isInt]) (.cons #[c,rfl,o',_,n',e',FK,F6,by exists cy r'] .nil)
def bo (I:Inv X EN B H s) {a:Addr}{l:List (NK×Int)}{xs:List (NK×Addr×Value)}(e:H a=↑(.dN xs)) (r:vn X.K H l xs):(xs.length<=sizeLine/\(a == sysModules)=false)/\s.heap.DictOfH (jj X.prog X.w) a xs:=by
 let#[z,o,es,ep,h1,h2,h3,h4,h5]:=(show yL X.prog X.w H s.heap a (.dN xs) from I.zu a _ e)
 exact#[z,o,es,ep,h1,h2,h3,h4,λ x hx=>?_,h5];have all:∀ {l:List (NK×Int)}{m:List (NK×Addr×Value)},vn X.K H l m->∀ x∈m,(jj X.prog X.w).is s.heap x.1 x.2.1:=by
  intro l m q
  induction q with
  | nil=>intro x hx;show nomatch hx
  | cons hq t ih=>
   intro x hx;rcases Ah.mp hx with e | hx
   .subst e;rw[<- hq.1];show hq.2.1.is I
   .show ih x hx
 show all r x hx
def vn.val {K:Ac}{l:List (NK×Int)}{xs:List (NK×Addr×Value)}(r:vn K H l xs) (k:NK):(xo l k=none/\atKey xs k=none)\/∃ n p,xo l k=↑n/\atKey xs k=↑p/\RelV (.int n) p.2:=by
 induction r with
 | nil=>show .inl #[rfl,rfl]
 | @cons p q ps qs h t ih=>
  by_cases e:p.1=k
  .show .inr #[p.2,q.2,by simp[xo,Bv,e],by simp[atKey,Bv,h.1.symm.trans e],h.2.2]
  .have e':¬ q.1=k:=λ z=>e (h.1.trans z);have a:xo (p::ps) k=xo ps k:=by simp[xo,Bv,e]
   have b:atKey (q::qs) k=atKey qs k:=by simp[atKey,Bv,e']
   rw[a,b];show ih
def YI:TE:=λ _ H Q=>∀ p,H p=none->Q (.ref p) (upd H p (.dN []))
def Wz {pos:Pos}:PE X (.Dict [] [] pos) YI:=λ EN s B H Q I h=>
 wpAny_Dict_empty #[.ref s.heap.objs.size,_,I.laid (a:=s.heap.objs.size) (o:=.dN []) (t':=s.toks) (λ _ _ q=>JD _ q) (Aj _) #[#[AR _,beq_eq_false_iff_ne.mpr (Ne.symm (AF I.big))],_,[].toArray,0,AJ _ rfl,#[rfl,rfl,rfl],rfl,rfl,Dt],rfl,h _ (I.zu.fresh (Aj _))]
def NA (K:Ac) (H:Hp) (a:Addr) (y:V) (n:Int):Prop:=∃ b l xs k,y=.ref b/\tJ K H b k/\H a=↑(.dN xs)/\vn K H l xs/\xo l k=↑n
def YJ (K:Ac) (td ty:TE):TE:=fun B H Q=>td B H λ x H1=>ty B H1 λ y H2=>∃ a n,x=.ref a/\NA K H2 a y n/\Q (.int n) H2
theorem W0 {o i:Expr}{td ty:TE}{pos:Pos}(hu:X.A.units+9<cLine) (ho:PE X o td) (hi:PE X i ty) (hs:oJ i):PE X (.Subscript o i pos) (YJ X.K td ty):=by
 intro EN s B H Q I h;exact gP PySem.F.slot_dict_getitem.lookup hs (zx (ho EN s B H _ I h) λ u s1 #[x,H1,I1,rx,q1]=>zx (hi EN s1 B H1 _ I1 q1) λ iv s2 #[y,H2,I2,ry,a,n,ex,#[b,l,xs,k,ey,g1,g2,g3,g4],q2]=>?_);subst ex;obtain rfl:u=Value.ref a:=rx;subst ey;obtain rfl:iv=Value.ref b:=ry;let#[z,dd]:=bo I2 g2 g3;rcases g3.val k with ⟨c,_⟩ | ⟨m,p,c1,c2,c3⟩
 .rw[c] at g4;cases g4
 .rw[c1] at g4;cases g4;show#[dd.typeIs,wpAny_getItem_heap (show X.A.units+1+4<cLine by lia) (g1.is I2) dd c2 #[.int n,H2,I2.tok _,c3,q2]]
def Xm (K:Ac) (td ty tv:TE):TS:=λ D B H=>tv B H λ v H1=>td B H1 λ x H2=>ty B H2 λ y H3=>∃ a b l xs k n,x=.ref a/\y=.ref b/\v=.int n/\tJ K H3 b k/\H3 a=↑(.dN xs)/\vn K H3 l xs/\xo l k=none/\l.length<sizeLine/\∀ w,RelV (.int n) w->D.nx B (upd H3 a (.dN (xs++[(k,b,w)])))
theorem XQ {o i value:Expr}{td ty tv:TE}{pos pos':Pos}(hu:X.A.units+9<cLine) (ho:PE X o td) (hi:PE X i ty) (hv:PE X value tv) (hs:swapsWith value ↑(.Subscript o i pos') pos.line X.env=pure false):PS X (.Assign [.Subscript o i pos'] value pos) (Xm X.K td ty tv):=by
 intro EN s B H D I h;exact wpAny_Assign_Subscript (zx (hv EN s B H _ I h) λ r s1 #[v,H1,I1,rv,q1]=>zx (ho EN s1 B H1 _ I1 q1) λ u s2 #[x,H2,I2,rx,q2]=>zx (hi EN s2 B H2 _ I2 q2) λ iv s3 #[y,H3,I3,ry,a,b,l,xs,k,n,ex,ey,ev,g1,g2,g3,g4,g5,q3]=>?_) hs;subst ex ey ev;obtain rfl:u=Value.ref a:=rx;obtain rfl:iv=Value.ref b:=ry;let#[z,dd]:=bo I3 g2 g3;rcases g3.val k with ⟨_,c⟩ | ⟨m,p,c1,_⟩
 .exact wpAny_setItem_heap (hsz:=z.1) (show X.A.units+1+4<cLine by lia) (g1.is I3) dd λ h' Hk hs=>#[B,_,?_,q3 r rv];rw[storedH_new c] at Hk;let#[q,es,ep,hq,h2,h3,h4,_,h5]:=Hk;exact I3.write (x:=a) (e:=a) (by rw[g2];show True.intro) (.inl rfl) (λ b q hb z=>(hs.2 b hb).trans z) #[q,hq] #[#[?_,z.2],q,es,ep,hq,h2,h3,h4,h5];have:=Paired.length g3;rw[Bp];change xs.length+1<=sizeLine;lia
 .rw[g4] at c1;cases c1
end
section
variable {X:Cx}{o i v:Expr}{td ty tv:zr}{pos pos':Pos}
def bx:zr:=λ _ S Q=>∀ p,S p=none->Q (.ref p) (ups S p (.zY []))
theorem V8:PD X (.Dict [] [] pos) bx:=by
 exact#[λ _ _ _ _ hq z p hp=>hq _ _ (z p hp),PE.imp Wz fun B H Q hu p hp=>?_];let#[L,S,r1,r2,z]:=hu;show z p (r2.none hp) _ _ (by simp![ze]) (.new hp _) (r2.ups (.new hp _) #[[],y6,.nil])
abbrev pN (k:NK):D:=.tup [.int k.1,.tup (k.2.map D.int)]
def eP {K:Ac}{H:Hp}{k:NK}{x:V}(r:ze K H (pN k) x):∃ b,x=.ref b/\tJ K H b k:=by
 simp![pN,ze,zk] at r;let#[a,xs,rfl,g1,y,ys,rfl,rfl,y2,ys2,rfl,#[c,E6,rfl,g2,g3],rfl]:=r;show#[a,rfl,c,g1,by rw[<- zk.ints g3];show g2]
def b8 (td ty:zr):zr:=fun L S Q=>td L S λ x S1=>ty L S1 λ y S2=>∃ p l k n,x=.ref p/\y=pN k/\S2 p=↑(.zY l)/\xo l k=↑n/\Q (.int n) S2
def cB {A:Around}{k:Nat}(hr:z_ k A):A.units+9<cLine:=by have:=hr.un;lia
theorem V9 {k:Nat}(hr:z_ k X.A) (ho:PD X o td) (hi:PD X i ty) (hs:oJ i):PD X (.Subscript o i pos) (b8 td ty):=by
 exact#[fun L S Q Q' hq z=>ho.mo L S _ _ (λ x S1 z=>hi.mo L S1 _ _ (λ y S2 #[p,l,k,n,a,b,c,e,h]=>#[p,l,k,n,a,b,c,e,hq _ _ h]) z) z,PE.imp (W0 (cB hr) ho.pe hi.pe hs) fun B H Q hu=>?_];let#[L,S,r1,r2,z]:=hu;exact zG.go ho.mo r1 r2 z λ x S1 w H1 h1 q1 e1 p1=>?_;exact zG.go hi.mo (r1.ext e1) p1 h1 λ y S2 w2 H2 h2 q2 e2 p2=>?_;let#[p,l,k,n,rfl,rfl,c1,c2,h]:=h2;let#[b,rfl,nt]:=eP q2;simp![ze] at q1;subst q1;let#[xs,g1,g2]:=p2 _ _ c1;show#[p,n,rfl,#[b,l,xs,k,rfl,nt,g1,g2,c2],h _ H2 (by simp![ze]) (e1.trans e2) p2]
def b7 (td ty tv:zr):y8:=λ E L S=>tv L S λ v S1=>td L S1 λ x S2=>ty L S2 λ y S3=>∃ p l k n,x=.ref p/\y=pN k/\v=.int n/\S3 p=↑(.zY l)/\xo l k=none/\l.length<sizeLine/\E.nx L (ups S3 p (.zY (l++[(k,n)])))
theorem Ext.dN {H:Hp}{p:Addr}{xs:List (NK×Addr×Value)}(h:H p=↑(.dN xs)) (o:HO):Ext H (upd H p o):=
 #[λ b ys q=>by rw[zW (vx q h (by intro z;cases z))];show q,λ b ob u q=>by rw[zW (vx q h (by intro z;cases z))];show q,λ b u q=>by rw[zW (vx q h (by intro z;cases z))];show q,λ b u q=>by rw[zW (vx q h (by intro z;cases z))];show q]
def Va {k:Nat}(hr:z_ k X.A) (ho:PD X o td) (hi:PD X i ty) (hv:PD X v tv) (hs:swapsWith v ↑(.Subscript o i pos') pos.line X.env=pure false):xD X (.Assign [.Subscript o i pos'] v pos) (b7 td ty tv):=by
 exact#[λ E E' L S hE z=>hv.mo L S _ _ (λ w S1 z=>ho.mo L S1 _ _ (λ x S2 z=>hi.mo L S2 _ _ (λ y S3 #[p,l,k,n,a,b,c,d,e,f,h]=>#[p,l,k,n,a,b,c,d,e,f,hE.nx _ _ h]) z) z) z,PS.imp (XQ (cB hr) ho.pe hi.pe hv.pe hs) λ D B H hu=>?_];let#[L,S,r1,r2,z]:=hu;exact zG.go hv.mo r1 r2 z λ w S1 w1 H1 h1 q1 e1 p1=>?_;exact zG.go ho.mo (r1.ext e1) p1 h1 λ x S2 w2 H2 h2 q2 e2 p2=>?_;exact zG.go hi.mo ((r1.ext e1).ext e2) p2 h2 λ y S3 w3 H3 h3 q3 e3 p3=>?_;let#[p,l,k,n,rfl,rfl,rfl,c1,c2,c3,h]:=h3;let#[b,rfl,nt]:=eP q3;simp![ze] at q1 q2;subst q1 q2;let#[xs,g1,g2]:=p3 _ _ c1;exact#[p,b,l,xs,k,n,rfl,rfl,rfl,nt,g1,g2,c2,c3,λ w rw=>?_];have e4:Ext H3 (upd H3 p (.dN (xs++[(k,b,w)]))):=.dN g1 _;show h B _ ((((r1.ext e1).ext e2).ext e3).ext e4) (((e1.trans e2).trans e3).trans e4) (p3.ups e4 #[_,y6,Paired.snoc (g2.ext e4) #[rfl,nt.ext e4,rw]])
end
end L3
namespace L5
open PySem PySem.Spec L2 L3
open PyProof.Rows hiding St
def jA:List T->Option (List Int)
 | []=>↑[]
 | .int i::ts=>(jA ts).map (i::·)
 | _=>none
def rq:T->Option NK
 | .tup [.int i,.tup ts]=>(jA ts).map λ ks=>(i,ks)
 | _=>none
theorem cz {S:SS}:∀ {ts:List T}{ks:List Int}{ds:List D},jA ts=↑ks->zj S ts ds->ds=ks.map D.int
 | [],ks,ds,h,r=>by cases h;simp![zj] at r;show r
 | .int i::ts,ks,ds,h,r=>by
  let#[IV,h1,rfl]:=AE.mp h;simp![zj,Sn] at r;let#[c,cs,rfl,rfl,r2]:=r;rw[cz h1 r2];rfl
def dI {S:SS}{Z:Addr->Prop}{y:T}{k:NK}{d:D}(h:rq y=↑k) (r:Vw S Z y d):d=pN k:=by
 unfold rq at h;split at h
 .rename_i i ts;let#[ks,h1,rfl]:=AE.mp h;let#[ds,e,r']:=Vw.tup r;simp![zj,Sn] at r';let#[c,cs,rfl,rfl,c2,cs2,rfl,#[ds2,rfl,r2],rfl]:=r';subst e;rw[cz h1 r2]
 .cases h
def me (J:Ev) (i:Nat):Option (List (NK×Int)):=match J[i]? with
 | some ↑(.own (.zY l))=>↑l
 | some ↑(.im (.dn l))=>↑l
 | _=>none
@[simp] def eO (i:Nat):Sm:=fun J=>↑(.nx (J.set i ↑(.own (.zY []))))
@[simp] def tm (i:Nat) (f:Ag):Ag:=fun J=>(f J).bind λ y=>(rq y).bind λ k=>(me J i).bind λ l=>(xo l k).map .int
@[simp] def md (i:Nat) (f v:Ag):Sm:=fun J=>(v J).bind λ z=>(f J).bind λ y=>(rq y).bind λ k=>match J[i]?,z with
 | some ↑(.own (.zY l)),.int n=>if xo l k=none/\l.length<sizeLine then ↑(.nx (J.set i ↑(.own (.zY (l++[(k,n)]))))) else none
 | _,_=>none
@[simp] def jU (i:Nat) (J:Ev):Ev:=match J[i]? with
 | some ↑(.own (.zY l))=>J.set i ↑(.im (.dn l))
 | _=>J
@[simp] def jT (i:Nat) (g:Sm):Sm:=fun J=>g (jU i J)
section
variable {S0 S:SS}{Z0 Z:Addr->Prop}{L:zX}{J:Ev}
def kX (hE:ER S Z L J) {i:Nat}{l:List (NK×Int)}(h:J[i]?=↑↑(.own (.zY l))):∃ p,L[i]?=↑↑(.ref p)/\S p=↑(.zY l):=by
 let#[p,o,h1,h2,h3,_]:=hE.ow i _ h;cases o with
 | zY b=>cases (show l=b from h3);show#[p,h1,h2]
 | _=>show h3.elim
def Rx (hE:ER S Z L J) {i:Nat}{l:List (NK×Int)}(h:me J i=↑l):∃ p,L[i]?=↑↑(.ref p)/\S p=↑(.zY l):=by
 unfold me at h;split at h
 .rename_i h';cases h;show kX hE h'
 .rename_i h';cases h;let#[d,h1,h2]:=hE.im i _ h';simp![Sn] at h2;let#[a,rfl,h2]:=h2;show#[a,h1,(vR h2).2]
 .cases h
def FR.Pe {l:List (NK×Int)}{p:Addr}(h:FR S0 Z0 S Z L J) (i:Nat) (e:J[i]?=↑↑(.own (.zY l))) (ed:L[i]?=↑↑(.ref p)) (h2:S p=↑(.zY l)):
  FR S0 Z0 S (λ a=>Z a/\a≠p) L (J.set i ↑(.im (.dn l))):=by
 have hS:Sn (zE S λ a=>Z a/\a≠p) (.dn l) (.ref p):=by
  simp![Sn];show#[p,rfl,by rw[v7 (λ z=>z.2 rfl)];show h2]
 exact#[#[λ a z=>h.er.zd a z.1,λ j t e'=>?_,λ j us e'=>?_],by simp[h.len],h.sx,h.z0,λ a z=>#[h.zz a z,λ q=>?_],λ a z=>h.zn a z.1,λ j us q e' Hj=>?_,λ j k us vs q n e1 e2 e3 e4=>?_]
 .rcases yt e' with ⟨rfl,hl,e'⟩ | ⟨n,e'⟩
  .cases e';show#[_,ed,hS]
  .let#[d,g1,g2]:=h.er.im j t e';show#[d,g1,Sn.sx (vS λ a z=>z.1) t g2]
 .rcases yt e' with ⟨rfl,hl,e'⟩ | ⟨n,e'⟩
  .cases e'
  .let#[q,es,g1,g2,g3,g4]:=h.er.ow j us e';show#[q,es,g1,g2,u0.sx (vS λ a z=>z.1) g3,g4,λ z=>by subst z;show h.dj i j _ us q n e e' ed g1]
 .subst q;show h.z0 a z (h.fr i _ a e ed).1
 .rcases yt e' with ⟨rfl,hl,e'⟩ | ⟨n,e'⟩
  .cases e'
  .show h.fr j us q e' Hj
 .rcases yt e1 with ⟨rfl,hl,e⟩ | ⟨n1,e1⟩
  .cases e
  rcases yt e2 with ⟨rfl,hl,e⟩ | ⟨n2,e2⟩
  .cases e
  show h.dj j k us vs q n e1 e2 e3 e4
variable {R:Rk}{f v:Ag}{ty tv:zr}{g:Sm}{t:y8}
def UW (i:Nat) (hg:yb R g t):yb R (jT i g) t:=λ S0 Z0 S Z L J o E F e P=>by
 have:∃ Z',FR S0 Z0 S Z' L (jU i J):=by
  unfold jU;split
  .rename_i l h;let#[p,h1,h2]:=kX F.er h;show#[_,F.Pe i h h1 h2]
  .show#[Z,F]
 let#[Z',F']:=this;show hg S0 Z0 S Z' L _ o E F' e P
def UP (i:Nat):yb R (eO i) (v_ bx (hName i)):=λ S0 Z0 S Z L J o E F e P=>by
 cases e;intro p hp;show P _ _ _ (F.kE (ts:=.zY []) (ds:=.zY []) (.new hp _) i hp uW rfl)
def TU (i:Nat) (hf:yC f ty):xE (tm i f) (b8 (ye i) ty):=λ S Z L J y Q hE e hq=>by
 let#[x,e1,e]:=Ak.mp e;let#[k,e2,e]:=Ak.mp e;let#[l,e3,e]:=Ak.mp e;let#[n,e4,rfl]:=AE.mp e;let#[p,h1,h2]:=Rx hE e3;change ye i L S _;unfold ye;rw[h1];exact hf S Z L J _ _ hE e1 λ d S1 s1 r1=>#[p,l,k,n,rfl,dI e2 r1,s1 _ _ h2,e4,hq _ S1 s1 (Cl.of (λ _=>nofun) xN)]
def UO (i:Nat) (hf:yC f ty) (hv:vm v tv):yb R (md i f v) (b7 (ye i) ty tv):=λ S0 Z0 S Z L J o E F e P=>by
 let#[z,e1,ea]:=Ak.mp e;let#[x,e2,eb]:=Ak.mp ea;let#[k,e3,ec]:=Ak.mp eb;clear ea eb e;split at ec
 .rename_i l n h;split at ec
  .rename_i hl;cases ec;exact hv S Z L J _ _ F.er e1 λ dz S1 s1 r1=>?_;have F1:=F.grow s1;let#[p,h1,h2]:=kX F1.er h;have rz:dz=.int n:=by simpa only [xC,Sn] using r1
   change ye i L S1 _;unfold ye;rw[h1];exact hf S1 Z L J _ _ F1.er e2 λ d S2 s2 r2=>?_;show#[p,l,k,n,rfl,dI e3 r2,rz,s2 _ _ h2,hl.1,hl.2,P _ Z L ((F1.grow s2).mut (us:=.zY (l++[(k,n)])) (es:=.zY (l++[(k,n)])) i h h1 rfl)]
  .cases ec
 .cases ec
end
end L5
namespace L5
open PySem L2 L3
section
variable {i:Nat}{f:Str}{g h:Ag}{J:Ev}{a:Option Addr}{c:Str}{x y:T}
def bh (h:g J=↑y):qQ g J=↑(.nx J):=by change (g J).map _=_;rw[h];rfl
def yR {F:An}{u:Ev->Option (List T)}{xs:List T}(h:u J=↑xs) (hF:F xs=↑y):zo F u J=↑y:=by change (u J).bind _=_;rw[h];show hF
def tE {u:Ev->Option (List T)}{xs:List T}(h:g J=↑x) (hu:u J=↑xs):za g u J=↑(x::xs):=by change (g J).bind _=_;rw[h];change (u J).bind _=_;rw[hu];rfl
theorem nD {u:Ev->Option (List T)}{xs:List T}(hu:u J=↑xs) (hl:xs.length<=100):tupS u J=↑(.tup xs):=by change (u J).bind _=_;rw[hu];show if_pos (Be hl ())
def vq {b:Bool}(h:g J=↑(.bl b)):zB g J=↑b:=by change (g J).bind _=_;rw[h];rfl
theorem ay {ts:List T}(h0:J[i]?=↑↑(.own (.lst ts))) (h:g J=↑y) (hl:ts.length<=10000):wb i g J=↑(.nx (J.set i ↑(.own (.lst (ts++[y]))))):=by
 unfold wb;rw[h0];dsimp only;rw[h];show if_pos (DL hl ())
def yy {a b:Sm}{J J':Ev}{o:Option Out}(h:a J=↑(.nx J')) (h':b J'=o):zl a b J=o:=by change (a J).bind _=o;rw[h];show h'
def fk {a b:Sm}{J:Ev}{y:T}(h:a J=↑(.rt y)):zl a b J=↑(.rt y):=by change (a J).bind _=_;rw[h];rfl
def sr {c:Ev->Option Bool}{g h:Sm}{J:Ev}{o:Option Out}(e:c J=↑false) (e':h J=o):yu c g h J=o:=by change (c J).bind _=o;rw[e];show e'
def qE {c:Ev->Option Bool}{g h:Sm}{J:Ev}{o:Option Out}(e:c J=↑true) (e':g J=o):yu c g h J=o:=by change (c J).bind _=o;rw[e];show e'
def t8 {is:List Nat}{f:Ev->Option (List T)}{g:T->Ev->Option Ev}{b:Sm}{J:Ev}{ts:List T}{o:Option Out}(h:f J=↑ts) (h':xI is g b ts J=o):yZ is f g b J=o:=by change (f J).bind _=o;rw[h];show h'
def xp {i:Nat}{f:Ag}{J:Ev}{y:T}(h:f J=↑y):zy i f J=↑(.nx (J.set i ↑(.im y))):=by change (f J).map _=_;rw[h];rfl
def uD {N:List Str}{n:Nat}{g:Sm}{ys:List T}{y:T}(h:g (sX N ys)=↑(.rt y)) (hn:ys.length=n):zR N n g ys=↑y:=by unfold zR;rw[if_pos hn,h];rfl
abbrev im (t:T):Option W:=↑(.im t)
abbrev nT (n:Nat):T:=.int (n:Int)
def pD (h:g J=↑y):retS g J=↑(.rt y):=by change (g J).map _=_;rw[h];rfl
def gI {b:Bool}(h:g J=↑(.bl b)):xG g J=↑b:=by change (g J).bind _=_;rw[h];rfl
def aB {f g:Ev->Option Bool}{b:Bool}(h:f J=↑true) (h':g J=↑b):vf f g J=↑b:=by change (f J).bind _=_;rw[h];show h'
def N0 {f g:Ev->Option Bool}(h:f J=↑false):vf f g J=↑false:=by change (f J).bind _=_;rw[h];rfl
end
end L5
namespace L5
open L2 L3
theorem eC {R:Rk}{g:Sm}{t:y8}(h:yb R g t:=by
 repeat' first
  | (with_reducible first | show T5 _ | apply Ri | apply TQ | apply SG)
  | (with_reducible first | show e9 _ | exact rb (R:=xC) cE ?_ ?_ | exact jb (R:=xC) ?_ | apply eA | apply eB)
  | ((try first | exact xl.fr ?_ | exact xl.fe ?_);with_reducible first | show SE _ | exact rb (R:=zA) (by with_reducible first | show good_add | show jH | show QW | show QV | show QU | show jI | show jK | show jL | show QM | show cD) ?_ ?_ | exact jb (R:=zA) ?_ | exact SY (R:=zA) (by with_reducible first | show QT | show QJ | show QS | show QQ | show QO | show QX | show QL | show QK | show QR | show good_int | show QP | show QN) ?_ | apply T6 | apply TC | apply TZ | apply SK | apply T_ | show Rg _ | show TF _ | show TR | apply Sd | apply SF | apply TY | exact SX (by with_reducible first | show jH | show jI | show jK | show jL) (by with_reducible first | show jH | show jI | show jK | show jL) ?_ ?_ ?_ | apply TK | apply TU | show SU _)
  | (exact xl.er ?_;with_reducible first | show e9 _ | exact rb (R:=xC) cE ?_ ?_ | exact jb (R:=xC) ?_ | apply eA | apply eB)
  | (with_reducible first | apply UM | apply UW | show UP _ | apply UO | apply Tc | apply US | show UL | apply UN | apply Td | apply Ta | apply UU | apply UK | show ez _ | apply UY | show UQ | apply UT | apply UX | show U_ _ | apply UZ | apply UR)
  | (with_reducible first | show T2 | apply T3 | show Tx | apply Tz | apply T7 | apply TB | apply SN | apply SM | apply SR | show T9 | show Ts _ | show Tn | apply Tq | show Tt | apply Tu | apply Th | apply Tf | apply Tg | apply Ti | apply Tj | apply Te)
  | (first | show Tw _ | apply Tr | apply Tv)
  | show yb.fv (ez _)
  | show Bool.false):yb R g t:=h
end L5
namespace L5
open PySem PySem.Spec L2 L3
open PyProof.Rows hiding St
def Cm (mg:AI) (x:Str) (t:V):Prop:=∃ u,mg x=↑u/\L2.RelV t u
def Hs (_:List (List Str×List (Option Nat))):Prop:=True
def Hq (s:Scope) (n:List Str):Bool:=s.names.all (λ y=>!(decide (y.2=.local)||decide (y.2=.free)||decide (y.2=.cell))||y.1 == ".0"||n.elem y.1)&&(s.names.filter λ y=>decide (y.2=.local)||decide (y.2=.free)||decide (y.2=.cell)).length == n.length+1
def Ht (_:List Str) (_:List (Option Nat)):Prop:=True
section
variable {n:List Str}{p:List (Option Nat)}{x:List Str×List (Option Nat)}{r:List (List Str×List (Option Nat))}
def Hs.a (_:Hs ((n,p)::r)):Ht n p:=trivial
def Hs.b (_:Hs (x::(n,p)::r)):Ht n p:=trivial
end
section
variable {X:Cx}{N' N:List Str}{pick:List (Option Nat)}{scope Hx:Scope}{tg iter elt:Expr}{ifs:List Expr}{ti:wc}{g:xk}{Gi:y4}{te:zr}{pos:Pos}
def pl (_:Ht N' pick) (_:X.env.scope=Hx) (_:X.N=N) (Sc:tR X N' pick scope) (_:Hq scope N'=true) (hi:u5 X tg iter ti) (hg:∀ cl C s H fp,N'.Nodup->vF (yq X N' scope cl C s H fp) tg g) (hf:∀ cl C s H fp,N'.Nodup->qZ (yq X N' scope cl C s H fp) ifs Gi) (he:∀ cl C s H fp,N'.Nodup->PD (yq X N' scope cl C s H fp) elt te)
  (nd:N'.Nodup) (hc:X.calm=true) (hs:∀ x,foldedSetIterable iter X.env x=pure x):
  PD X (.ListComp elt [#[tg,iter,ifs,0]] scope pos) (uw pick ti g Gi te):=VJ Sc hc hi (λ cl C s H fp=>hg cl C s H fp nd) (λ cl C s H fp=>hf cl C s H fp nd) (λ cl C s H fp=>he cl C s H fp nd) hs
def Wl {a b:Expr}{k:Nat}{t:xK}(h:rV X [a,b] t) (hc:X.calm=true) (hn:(assignEach [a,b] X.env).length=2) (AZ:(assignEach [a,b] X.env).findIdx? (·.1)=none):vF X (.Tuple [a,b] k pos) (rD 2 t):=kU h hc hn AZ
def Wk {a b c:Expr}{k:Nat}{t:xK}(h:rV X [a,b,c] t) (hc:X.calm=true) (hn:(assignEach [a,b,c] X.env).length=3) (AZ:(assignEach [a,b,c] X.env).findIdx? (·.1)=none):vF X (.Tuple [a,b,c] k pos) (rD 3 t):=kU h hc hn AZ
def Wj {a b c d:Expr}{k:Nat}{t:xK}(h:rV X [a,b,c,d] t) (hc:X.calm=true) (hn:(assignEach [a,b,c,d] X.env).length=4) (AZ:(assignEach [a,b,c,d] X.env).findIdx? (·.1)=none):vF X (.Tuple [a,b,c,d] k pos) (rD 4 t):=kU h hc hn AZ
def V_ {x y:Str}(h:Cm X.mg x (.str y)) (hg:Gl X x:=by rfl) (hd:(x == ("__debug__":Str))=false:=by decide):PD X (.Name x pos) (dC (.str y)):=let #[_,a,b]:=h;VZ a b hg hd
def fP {i:Nat}{y:Str}{py Bf:Pos}(_:Ht N' pick) (_:X.env.scope=Hx) (_:X.N=N) (hn:X.N.Nodup) (Sc:tR X N' pick scope)
  (BX:swapsWith (.ListComp elt [#[tg,iter,ifs,0]] scope pos) ↑(.Name y py) Bf.line X.env=pure true) (_:Hq scope N'=true)
  (hi:u5 X tg iter ti) (hg:∀ cl C s H fp,N'.Nodup->vF (yq X N' scope cl C s H fp) tg g) (hf:∀ cl C s H fp,N'.Nodup->qZ (yq X N' scope cl C s H fp) ifs Gi) (he:∀ cl C s H fp,N'.Nodup->PD (yq X N' scope cl C s H fp) elt te)
  (nd:N'.Nodup) (hc:X.calm=true) (hy:X.N[i]?=↑y) (hx:Loc X.env.scope y)
  (Ca:X.fn y=true\/X.env.scope.names.lookup y=↑.local) (hs:∀ x,foldedSetIterable iter X.env x=pure x):
  xD X (.Assign [.Name y py] (.ListComp elt [#[tg,iter,ifs,0]] scope pos) Bf) (v_ (uw pick ti g Gi te) (hName i)):=Vc Sc hc hi (λ cl C s H fp=>hg cl C s H fp nd) (λ cl C s H fp=>hf cl C s H fp nd) (λ cl C s H fp=>he cl C s H fp nd) hn hy hx BX Ca hs
end
theorem pA {p:Prop}(h:p:=by
 repeat' first
  | show rfl
  | (change PD _ _ _;first | (change PD _ (.Name _ _) _;first | show vw 0 | show vw 1 | show vw 2 | show vw 3 | show vw 4 | show vw 5 | show vw 6 | show vw 7 | show vw 8 | show vw 9 | show vw 10 | show vw 11 | show vw 12 | show V_ (by assumption)) | show VX | show Uo | show V1 | show V7 | (change PD _ (.Subscript (.Name "_law_numbers" _) _ _) _;apply V9 hr) | (change PD _ (.Subscript (.Name "lows" _) _ _) _;apply Ug hr) | (change PD _ (.Call _ [.Name "lows" _] _ _) _;apply Ue T.len) | show Uh | apply Ui hr | apply VQ | apply Vz | apply VM | (change PD _ (.Call _ _ _ _) _;first | (apply Uk;assumption) | apply VG T.max | apply VE T.min | apply VP T.len | apply VN T.list T.range | apply VO T.list | apply Vy T.tuple | apply VF T.max | apply VD T.min | apply Ur T.any | apply Ut T.all | apply V2 hr T.sorted U.set | apply V3 T.sorted | apply VW T.int | apply VT T | apply VU T | apply VS T | apply VI | apply VH) | (change PD _ (.BinOp _ _ _ _) _;first | apply Uu | apply V0 | apply VC | apply Ub | apply VB | apply V4) | (change PD _ (.Compare _ _ _ _) _;first | apply VL hr | apply Ud hr | apply Ua | apply VV | apply Uj k_ k_ fit_le fit_le xb.mo xb.mo) | apply Us | apply V5 | apply V6 | apply VA | apply VY | (apply pl (Hs.a hc) hS hN;show mV hS hN;decide +kernel) | (apply pl (Hs.b hc) hS hN;show mV hS hN;decide +kernel))
  | (change yX _ _ _;first | show Vu | apply Vv)
  | (change xg _ _ _;first | (change xg _ (.Compare _ _ _ _) _;first | apply WN hr | apply WU hr | apply WM hr | apply WO | apply WT | apply WS | apply WR hr | apply WQ) | apply WL | (apply tI.pt;first | apply fV | apply fW) | apply WK)
  | apply fV | apply fW | apply WI | apply WJ
  | (change wQ _ _ _;first | show WW | apply WV | apply WX)
  | (change xD _ _ _;first | apply W_ | apply Ve | apply Vf PassesOwn.never rfl | apply WY PassesOwn.never | (apply fP (Hs.a hc) hS hN nd;show mV hS hN;rfl;decide +kernel) | (apply fP (Hs.b hc) hS hN nd;show mV hS hN;rfl;decide +kernel) | (change xD _ (.Assign [.Subscript (.Name "_law_numbers" _) _ _] _ _) _;apply Va hr) | (change xD _ (.Assign [.Name "_law_numbers" _] _ _) _;apply fX;show nd;show V8) | (change xD _ (.Assign [.Subscript (.Name "lows" _) _ _] _ _) _;apply Vh hr) | apply fX | apply Vd | apply Vg | show (Vb:xD _ (.Raise _ _ _) _))
  | apply Vq | apply Wl | apply Wk | apply Wj | apply Vo | show Vn
  | (change u5 _ _ _ _;first | apply Vk T.range | apply Vi U.zip | apply Vm U.enumerate | apply Vj)
  | show Vt | apply Vs
  | show hr | show nd | intro _ _ _ _ _ nd | show λ _=>rfl | show λ _ _=>rfl | show Or.inl rfl | show Or.inr rfl | show#[rfl,rfl,rfl,rfl] | decide
  | show (rfl:(_:List Str)[0]?=_) | show (rfl:(_:List Str)[1]?=_) | show (rfl:(_:List Str)[2]?=_) | show (rfl:(_:List Str)[3]?=_) | show (rfl:(_:List Str)[4]?=_) | show (rfl:(_:List Str)[5]?=_) | show (rfl:(_:List Str)[6]?=_) | show (rfl:(_:List Str)[7]?=_) | show (rfl:(_:List Str)[8]?=_) | show (rfl:(_:List Str)[9]?=_) | show (rfl:(_:List Str)[10]?=_) | show (rfl:(_:List Str)[11]?=_) | show (rfl:(_:List Str)[12]?=_)):p:=h
section
variable {P:Program}{w:World}{K:Ac}{mg:AI}{base:Heap}{x:Str}{st:Stmt}{N ps:List Str}{k n:Nat}{g:Sm}{R:Rk}[Lo R]
def yk (hs:List (List Str×List (Option Nat))) (F:Fy K mg x st)
  (E9:∀ (f:Addr) (Al:Value) (A:Around) (outer:List Env) (s:Shared) (H:Hp) (E:XK),Hs hs->N.Nodup->(w6 xr P w K mg base N x (yh st) f Al A outer s H E).vb.N=N->(w6 xr P w K mg base N x (yh st) f Al A outer s H E).vb.env.scope=yh st->z_ k (A.deeper (envOfC x (yh st) s.heap.objs.size f Al))->
   ∃ t,wQ (w6 xr P w K mg base N x (yh st) f Al A outer s H E).vb (wa st) t/\yb R g t:=by intro f Al A outer s H E hc nd hN hS hr;show#[_,pA,eC])
  (Sc:uU N ps (yh st):=by show cN) (hn:n=ps.length:=by rfl)
  (hb:∀ (kV doc pm:Value) (an:Option Addr) (Al ct:Value) (us:Ae),us.length=ps.length->bindArgs (PySem.W.fnOf x x (uO st) (wa st) (yh st) .none kV doc pm an Al ct) #[us,[]]=pure (ps.zip us):=by intro _ _ _ _ _ _;first | show Nz λ _=>rfl | show Ny λ _ _=>rfl | show Nx λ _ _ _=>rfl | show Nw λ _ _ _ _=>rfl):FD P w K mg base x (k+1) ps (zI R (zR N n g)):=
 Pr F Sc hn hb λ f Al A outer s H E hr=>E9 f Al A outer s H E trivial Sc.nd rfl rfl hr
def Pj {f:Addr}{fd:FuncData}(hs:List (List Str×List (Option Nat))) (F:ue K x x st f fd)
  (E9:∀ (Al:Value) (A:Around) (outer:List Env) (s:Shared) (H:Hp) (E:XK),Hs hs->N.Nodup->(w6 xr P w K mg base N x (yh st) f Al A outer s H E).vb.N=N->(w6 xr P w K mg base N x (yh st) f Al A outer s H E).vb.env.scope=yh st->z_ k (A.deeper (envOfC x (yh st) s.heap.objs.size f Al))->
   ∃ t,wQ (w6 xr P w K mg base N x (yh st) f Al A outer s H E).vb (wa st) t/\yb R g t:=by intro Al A outer s H E hc nd hN hS hr;show#[_,pA,eC])
  (Sc:uU N ps (yh st):=by show cN) (hn:n=ps.length:=by rfl):vH P w K mg base xr (k+1) f fd ps (u9 K (zI R (zR N n g))):=
 cO F Sc hn λ Al A outer s H E hr=>E9 Al A outer s H E trivial Sc.nd rfl rfl hr
end
end L5
namespace RN
open L5
abbrev Bd:=List (Int×Int)
def yx (b c:Bd):Prop:=∀ q,zv b q=true->zv c q=true
def yx.refl (b:Bd):yx b b:=λ _ h=>h
def yx.trans {a b c:Bd}(h:yx a b) (h':yx b c):yx a c:=λ q x=>h' q (h q x)
def yx.of {b c:Bd}(h:∀ p∈b,∃ r∈c,r.1<=p.1/\r.2<=p.2):yx b c:=λ q x=>by
 let#[p,hp,h1,h2]:=yv.mp x;let#[r,hr,h3,h4]:=h p hp;show yv.mpr #[r,hr,⋯,⋯]
def yx.at {b c:Bd}(h:yx b c) {p:Int×Int}(hp:p∈b):∃ r∈c,r.1<=p.1/\r.2<=p.2:=yv.mp (h p (yv.mpr #[p,hp,AL _,AL _]))
structure Gd (A B:Int) (b:Bd):Prop where
 mC:vp b
 xy:∀ p∈b,(0<=p.1/\p.1<=A)/\0<=p.2/\p.2<=B
def yW:Bd:=[(0,0)]
def bH {q:Int×Int}:zv yW q=true↔0<=q.1/\0<=q.2:=by
 rw[yv];unfold yW;simp
theorem Gd.yW {A B:Int}(hA:0<=A) (hB:0<=B):Gd A B yW:=#[by unfold RN.yW vp;simp,λ p hp=>by
 unfold RN.yW at hp;cases AO.mp hp;show#[#[AL _,hA],AL _,hB]]
def Gd.dD {A B:Int}{b:Bd}(h:Gd A B b):yx b RN.yW:=yx.of λ p hp=>#[(0,0),by unfold RN.yW;simp,(h.xy p hp).1.1,(h.xy p hp).2.1]
theorem Gd.eq {A B:Int}{b c:Bd}(h:Gd A B b) (h':Gd A B c) (x:yx b c) (y:yx c b):b=c:=vp.eq h.mC h'.mC λ q=>by
 rw[A7];show#[x q,y q]
def Gd.least {A B:Int}{ps:Bd}(h:∀ p∈ps,(0<=p.1/\p.1<=A)/\0<=p.2/\p.2<=B):Gd A B (wJ ps):=#[j0 ps,λ p hp=>h p (RU hp)]
def d9 {ps qs:Bd}(h:∀ p∈ps,∃ r∈qs,r.1<=p.1/\r.2<=p.2):yx (wJ ps) (wJ qs):=λ q x=>by
 rw[qy] at x ⊢;show yx.of h q x
theorem dZ:∀ {b:Bd}{lo hi:Int},vp b->(∀ p∈b,lo<=p.1/\p.1<=hi)->(b.length:Int)<=hi+1-lo\/b=[]
 | [],_,_,_,_=>.inr rfl
 | p::b,lo,hi,h,hb=>by
  have h1:=Bw.mp h;have hp:=hb p Ap;exact .inl ?_;rcases dZ (lo:=p.1+1) (hi:=hi) h1.2 (λ q hq=>#[by have:=(h1.1 q hq).1;lia,(hb q (Aw _ hq)).2]) with x | x
  .rw[A5];lia
  .subst x;simp;lia
theorem dY:∀ {b:Bd}{lo hi:Int},vp b->(∀ p∈b,lo<=p.2/\p.2<=hi)->(b.length:Int)<=hi+1-lo\/b=[]
 | [],_,_,_,_=>.inr rfl
 | p::b,lo,hi,h,hb=>by
  have h1:=Bw.mp h;have hp:=hb p Ap;exact .inl ?_;rcases dY (lo:=lo) (hi:=p.2-1) h1.2 (λ q hq=>#[(hb q (Aw _ hq)).1,by have:=(h1.1 q hq).2;lia]) with x | x
  .rw[A5];lia
  .subst x;simp;lia
def Gd.rn {A B:Int}{b:Bd}(h:Gd A B b) (hA:0<=A):(b.length:Int)<=A+1:=by
 rcases dZ (lo:=0) (hi:=A) h.mC (λ p hp=>(h.xy p hp).1) with x | x
 .lia
 .subst x;simp;lia
def Gd.RT {A B:Int}{b:Bd}(h:Gd A B b) (hB:0<=B):(b.length:Int)<=B+1:=by
 rcases dY (lo:=0) (hi:=B) h.mC (λ p hp=>(h.xy p hp).2) with x | x
 .lia
 .subst x;simp;lia
def y7 (x:Int):Int:=if x>0 then x else 0
def mf (x:Int):0<=y7 x:=by unfold y7;split <;> lia
def jl {x y:Int}(h:x<=y):y7 x<=y7 y:=by unfold y7;split <;> split <;> lia
def R3 {x g:Int}(h:0<=x) (hg:0<=g):y7 (x-g)<=x:=by unfold y7;split <;> lia
def yU (a b:Int) (p:Int×Int):Int×Int:=(y7 (p.1-a),y7 (p.2-b))
def vc (A B:Int) (p:Int×Int):Bool:=decide (p.1<=A)&&decide (p.2<=B)
def sM (A B a b:Int) (bd:Bd):Bd:=wJ ((bd.map (yU a b)).filter (vc A B))
def N2 (A B a b:Int) (bd:Bd):Gd A B (sM A B a b bd):=Gd.least λ p hp=>by
 let#[h1,h2]:=Bb.mp hp;let#[q,_,rfl]:=Ao.mp h1;have h3:(yU a b q).1<=A/\(yU a b q).2<=B:=by simpa [vc] using h2
 show#[#[mf _,h3.1],mf _,h3.2]
def aC (A B a b:Int) {bd bd':Bd}(h:yx bd bd'):yx (sM A B a b bd) (sM A B a b bd'):=d9 λ p hp=>by
 let#[h1,h2]:=Bb.mp hp;let#[q,hq,rfl]:=Ao.mp h1;let#[r,hr,r1,r2]:=h.at hq;have h3:(yU a b q).1<=A/\(yU a b q).2<=B:=by simpa [vc] using h2
 have m1:(yU a b r).1<=(yU a b q).1:=jl ⋯;have m2:(yU a b r).2<=(yU a b q).2:=jl ⋯;show#[yU a b r,Bb.mpr #[Ao.mpr #[r,hr,rfl],by simp[vc];lia],m1,m2]
def vY (b c:Bd):Bd:=wJ (b++c)
def PQ (b c:Bd) (q:Int×Int):zv (vY b c) q=(zv b q||zv c q):=by unfold vY;rw[qy,Ou]
def PO {A B:Int}{b c:Bd}(h:Gd A B b) (h':Gd A B c):Gd A B (vY b c):=Gd.least λ p hp=>by
 rcases A2.mp hp with x | x
 .show h.xy p x
 .show h'.xy p x
def mr (p q:Int×Int):Int×Int:=(if q.1>p.1 then q.1 else p.1,if q.2>p.2 then q.2 else p.2)
def vE (b c:Bd):Bd:=wJ (b.flatMap λ p=>c.map (mr p))
def af (b c:Bd) (q:Int×Int):zv (vE b c) q=(zv b q&&zv c q):=by
 unfold vE;rw[qy,A7,Cr,yv,yv,yv];constructor
 .rintro⟨p,hp,h1,h2⟩;let#[x,hx,hp]:=Bm.mp hp;let#[y,hy,rfl]:=Ao.mp hp;unfold mr at h1 h2;dsimp only at h1 h2;exact#[#[x,hx,?_,?_],#[y,hy,?_,?_]] <;> (first | (split at h1 <;> lia) | (split at h2 <;> lia))
 .rintro⟨⟨x,hx,h1,h2⟩,⟨y,hy,h3,h4⟩⟩;exact#[mr x y,Bm.mpr #[x,hx,Ao.mpr #[y,hy,rfl]],?_,?_]
  .change (if y.1>x.1 then y.1 else x.1)<=q.1;split <;> lia
  .change (if y.2>x.2 then y.2 else x.2)<=q.2;split <;> lia
def Nh {A B:Int}{b c:Bd}(h:Gd A B b) (h':Gd A B c):Gd A B (vE b c):=Gd.least λ p hp=>by
 let#[x,hx,hp]:=Bm.mp hp;let#[y,hy,rfl]:=Ao.mp hp;have a1:=h.xy x hx;have a2:=h'.xy y hy;unfold mr;dsimp only;exact#[#[?_,?_],?_,?_] <;> split <;> lia
def vZ (bs:List Bd):Bd:=bs.foldl vY []
def qT (bs:List Bd):Bd:=bs.foldl vE yW
theorem ie:∀ (bs:List Bd) (b:Bd) (q:Int×Int),zv (bs.foldl vY b) q=true↔zv b q=true\/∃ c∈bs,zv c q=true
 | [],b,q=>#[]
 | c::bs,b,q=>by
  rw[Dx,ie bs,PQ,DY];constructor
  .rintro ((h | h) | ⟨d,hd,h⟩)
   .show .inl h
   .show .inr #[c,Ap,h]
   .show .inr #[d,Aw _ hd,h]
  .rintro (h | ⟨d,hd,h⟩)
   .show .inl (.inl h)
   .rcases Ah.mp hd with e | e
    .subst e;show .inl (.inr h)
    .show .inr #[d,e,h]
theorem oh {A B:Int}:∀ (bs:List Bd) (b:Bd),Gd A B b->(∀ c∈bs,Gd A B c)->Gd A B (bs.foldl vY b)
 | [],b,h,_=>h
 | c::bs,b,h,hb=>oh bs _ (PO h (hb c Ap)) λ d hd=>hb d (Aw _ hd)
def Gd.nil {A B:Int}:Gd A B []:=#[by unfold vp;simp,λ p hp=>by cases hp]
theorem i7:∀ (bs:List Bd) (b:Bd) (q:Int×Int),zv (bs.foldl vE b) q=true↔zv b q=true/\∀ c∈bs,zv c q=true
 | [],b,q=>#[]
 | c::bs,b,q=>by
  rw[Dx,i7 bs,af,Cr];constructor
  .rintro⟨⟨h1,h2⟩,h3⟩;show#[h1,λ d hd=>by
    rcases Ah.mp hd with e | e
    .subst e;show h2
    .show h3 d e]
  .rintro⟨h1,h2⟩;show#[#[h1,h2 c Ap],λ d hd=>h2 d (Aw _ hd)]
theorem i5 {A B:Int}:∀ (bs:List Bd) (b:Bd),Gd A B b->(∀ c∈bs,Gd A B c)->Gd A B (bs.foldl vE b)
 | [],b,h,_=>h
 | c::bs,b,h,hb=>i5 bs _ (Nh h (hb c Ap)) λ d hd=>hb d (Aw _ hd)
def yN (pu:Bool) (g t:Int):Int×Int:=if pu=true then (t,g) else (g,t)
def zM (pu:Bool) (p:Int×Int):Int:=if pu=true then p.2 else p.1
def yj (pu:Bool) (p:Int×Int):Int:=if pu=true then p.1 else p.2
def xA (pu:Bool) (zK give get:Int):Nat->Int->Int->Bd
 | 0,_,_=>[]
 | n+1,g,t=>if g<=zK then yN pu g t::xA pu zK give get n (g+give) (y7 (t-get)) else []
def XX {pu:Bool}{g t g' t':Int}(h:g'<=g) (h':t'<=t):(yN pu g' t').1<=(yN pu g t).1/\(yN pu g' t').2<=(yN pu g t).2:=by
 cases pu
 .show#[h,h']
 .show#[h',h]
theorem bP (pu:Bool) (zK give get:Int):∀ (n:Nat) (g t g' t':Int),g'<=g->t'<=t->∀ e∈xA pu zK give get n g t,∃ r∈xA pu zK give get n g' t',r.1<=e.1/\r.2<=e.2
 | 0,_,_,_,_,_,_,e,he=>by cases he
 | n+1,g,t,g',t',h1,h2,e,he=>by
  unfold xA at he ⊢;split at he
  .rw[if_pos ⋯];rcases Ah.mp he with x | x
   .subst x;show#[_,Ap,XX h1 h2]
   .let#[r,hr,r1]:=bP pu zK give get n _ _ (g' + give) (y7 (t'-get)) ⋯ (jl ⋯) e x;show#[r,Aw _ hr,r1]
  .cases he
theorem ix (pu:Bool) (zK give get most:Int) (hg:1<=give) (Dl:0<=get):∀ (n:Nat) (g t:Int),0<=g->0<=t->t<=most->∀ e∈xA pu zK give get n g t,(0<=zM pu e/\zM pu e<=zK)/\0<=yj pu e/\yj pu e<=most
 | 0,_,_,_,_,_,e,he=>by cases he
 | n+1,g,t,h1,h2,h3,e,he=>by
  unfold xA at he;split at he
  .rcases Ah.mp he with x | x
   .subst x;cases pu <;> show#[#[h1,by assumption],h2,h3]
   .show ix pu zK give get most hg Dl n _ _ ⋯ (mf _) (Int.le_trans (R3 h2 Dl) h3) e x
  .cases he
theorem bQ (pu:Bool) (zK give get:Int) (hg:1<=give):∀ (n:Nat) (g t:Int),g<=zK+1->((xA pu zK give get n g t).length:Int)<=zK+1-g
 | 0,g,t,h=>by simp[xA];lia
 | n+1,g,t,h=>by
  unfold xA;split
  .rw[A5];by_cases hh:g+give<=zK+1
   .have:=bQ pu zK give get hg n (g+give) (y7 (t-get)) hh;lia
   .have e:xA pu zK give get n (g+give) (y7 (t-get))=[]:=by
     cases n with
     | zero=>rfl
     | succ n=>unfold xA;rw[if_neg ⋯]
    rw[e];simp;lia
  .simp;lia
structure Wy where
 f:Nat
 t:Nat
 a:Int
 b:Int
structure Sl where
 p:Nat
 pu:Bool
 gv:Int
 gt:Int
structure zm where
 A:Int
 B:Int
 os:List Bool
 ws:List Wy
 ss:List Sl
structure zm.Ok (F:zm):Prop where
 a0:0<=F.A
 a1:F.A<=12
 b0:0<=F.B
 b1:F.B<=12
 n1:1<=F.os.length
 n8:F.os.length<=8
 ws:∀ w∈F.ws,w.f<F.os.length/\w.t<F.os.length
 tT:F.ws.length<=60
 ss:∀ s∈F.ss,1<=s.gv/\0<=s.gt
 sl:F.ss=[]\/(F.A+1)*(F.B+1)<64
 s8:F.ss.length<=60
def zm.zK (F:zm) (pu:Bool):Int:=if pu=true then F.B else F.A
def yQ (F:zm) (s:Sl) (p:Int×Int):Bd:=xA s.pu (F.zK s.pu) s.gv s.gt 100 (zM s.pu p) (yj s.pu p)
def rL (F:zm) (s:Sl) (bd:Bd):Bd:=wJ (bd.flatMap (yQ F s))
def O6 (F:zm) (s:Sl) {b c:Bd}(h:yx b c):yx (rL F s b) (rL F s c):=d9 λ p hp=>by
 let#[x,hx,hp]:=Bm.mp hp;let#[r,hr,r1,r2]:=h.at hx;let#[e,he,e1]:=bP s.pu (F.zK s.pu) s.gv s.gt 100 (zM s.pu x) (yj s.pu x) (zM s.pu r) (yj s.pu r) (by unfold zM;split <;> assumption) (by unfold yj;split <;> assumption) p hp;show#[e,Bm.mpr #[r,hr,he],e1]
def O5 {F:zm}{s:Sl}(hs:1<=s.gv/\0<=s.gt) {p:Int×Int}(hp:(0<=p.1/\p.1<=F.A)/\0<=p.2/\p.2<=F.B):∀ e∈yQ F s p,(0<=e.1/\e.1<=F.A)/\0<=e.2/\e.2<=F.B:=λ e he=>by
 let#[p,pu,gv,gt]:=s;unfold yQ zm.zK at he;cases pu with
 | true=>show (ix true F.B gv gt F.A hs.1 hs.2 100 _ _ hp.2.1 hp.1.1 hp.1.2 e he).symm
 | false=>show ix false F.A gv gt F.B hs.1 hs.2 100 _ _ hp.1.1 hp.2.1 hp.2.2 e he
def O7 {F:zm}{s:Sl}(hs:1<=s.gv/\0<=s.gt) {b:Bd}(h:Gd F.A F.B b):Gd F.A F.B (rL F s b):=Gd.least λ p hp=>by
 let#[x,hx,hp]:=Bm.mp hp;show O5 hs (h.xy x hx) p hp
def xB (F:zm) (EO:List Bd) (p:Nat):List Bd:=(F.ws.filter λ w=>decide (w.f=p)).map λ w=>sM F.A F.B w.a w.b (EO.getD w.t [])
def zm.Fi (F:zm) (p:Nat):Option Sl:=F.ss.find? λ s=>decide (s.p=p)
def yg (F:zm) (EO:List Bd) (p:Nat):Bd:=
 if F.os.getD p false=true then match F.Fi p with
  | none=>vZ (xB F EO p)
  | some s=>rL F s (vZ (xB F EO p))
 else qT (xB F EO p)
def lH (F:zm) (EO:List Bd) (p:Nat):∀ c∈xB F EO p,Gd F.A F.B c:=λ c hc=>by
 let#[w,_,rfl]:=Ao.mp hc;show N2 ..
def ji {F:zm}(ok:F.Ok) (EO:List Bd) (p:Nat):Gd F.A F.B (yg F EO p):=by
 unfold yg;have h1:Gd F.A F.B (vZ (xB F EO p)):=oh _ _ Gd.nil (lH F EO p);split
 .split
  .show h1
  .rename_i s e;show O7 (ok.ss s (CF e)) h1
 .show i5 _ _ (Gd.yW ok.a0 ok.b0) (lH F EO p)
theorem eS (F:zm) {l m:List Bd}(p:Nat) (h:∀ w∈F.ws,w.f=p->yx (l.getD w.t []) (m.getD w.t [])):yx (yg F l p) (yg F m p):=by
 have h1:yx (vZ (xB F l p)) (vZ (xB F m p)):=λ q hq=>by
  unfold vZ at hq ⊢;rw[ie] at hq ⊢;rcases hq with x | ⟨c,hc,x⟩
  .show .inl x
  .let#[w,hw,rfl]:=Ao.mp hc;let#[w1,w2]:=Bb.mp hw;show .inr #[_,Ao.mpr #[w,hw,rfl],aC _ _ _ _ (h w w1 (by exists w2)) q x]
 unfold yg;split
 .split
  .show h1
  .show O6 F _ h1
 .intro q hq;unfold qT at hq ⊢;rw[i7] at hq ⊢;exact#[hq.1,λ c hc=>?_];let#[w,hw,rfl]:=Ao.mp hc;let#[w1,w2]:=Bb.mp hw;show aC _ _ _ _ (h w w1 (by exists w2)) q (hq.2 _ (Ao.mpr #[w,hw,rfl]))
theorem Ru (F:zm) {l m:List Bd}(p:Nat) (h:∀ w∈F.ws,w.f=p->l.getD w.t []=m.getD w.t []):yg F l p=yg F m p:=by
 have:xB F l p=xB F m p:=by
  unfold xB;exact DC λ w hw=>?_;let#[w1,w2]:=Bb.mp hw;rw[h w w1 (by exists w2)]
 unfold yg;rw[this]
def box:List (Int×Int):=(List.range 13).flatMap λ(i:Nat)=>(List.range 13).map λ(j:Nat)=>((i:Int),(j:Int))
def mu (b:Bd):Nat:=box.countP (zv b)
theorem Nc {p:Int×Int}(h:(0<=p.1/\p.1<=12)/\0<=p.2/\p.2<=12):p∈box:=by
 let#[x,y]:=p;dsimp only at h;exact Bm.mpr #[x.toNat,AD.mpr ⋯,Ao.mpr #[y.toNat,AD.mpr ⋯,?_]];rw[C9 h.1.1,C9 h.2.1]
theorem bI {α:Type}{p q:α->Bool}:∀ {l:List α},(∀ x,q x=true->p x=true)->(∃ x∈l,p x=true/\q x=false)->l.countP q<l.countP p
 | [],_,#[x,hx,_]=>by cases hx
 | a::l,h,#[x,hx,h1,h2]=>by
  have hle:l.countP q<=l.countP p:=List.countP_mono_left λ y _=>h y;rw[List.countP_cons,List.countP_cons];rcases Ah.mp hx with e | e
  .subst e;rw[if_neg (by rw[h2];decide),if_pos h1];lia
  .have:=bI h #[x,e,h1,h2];by_cases c:q a=true
   .rw[if_pos c,if_pos (h a c)];lia
   .rw[if_neg c];split <;> lia
theorem R6 {A B:Int}(hA:A<=12) (hB:B<=12) {b c:Bd}(hb:Gd A B b) (hc:Gd A B c) (h:yx b c) (Aq:b≠c):mu b<mu c:=by
 exact bI h ?_;by_cases x:∃ p∈c,zv b p=false
 .let#[p,hp,e]:=x;have q:=hc.xy p hp;show#[p,Nc #[#[q.1.1,⋯],q.2.1,⋯],yv.mpr #[p,hp,AL _,AL _],e]
 .show absurd (hb.eq hc h (yx.of λ p hp=>by
   cases e:zv b p with
   | true=>show yv.mp e
   | false=>show absurd #[p,hp,e] x)) Aq
theorem R7 (b:Bd):mu b<=169:=by
 have:box.length=169:=()
 rw[<- this];show List.countP_le_length
def vy (l:List Bd):Nat:=(l.map mu).sum
theorem eW:∀ (l:List Bd),vy l<=169*l.length
 | []=>by simp[vy]
 | b::l=>by
  have h1:=eW l;have h2:=R7 b;unfold vy at h1 ⊢;rw[Av,List.sum_cons,A5];lia
theorem jo {A B:Int}(hA:A<=12) (hB:B<=12):∀ {l m:List Bd},l.length=m.length->(∀ b∈l,Gd A B b)->(∀ b∈m,Gd A B b)->(∀ i,yx (l.getD i []) (m.getD i []))->l≠m->vy l<vy m
 | [],[],_,_,_,_,h=>absurd rfl h
 | [],_::_,h,_,_,_,_=>by simp at h
 | _::_,[],h,_,_,_,_=>by simp at h
 | b::l,c::m,hl,gb,gc,h,Aq=>by
  have FW:l.length=m.length:=by exists hl
  have h0:yx b c:=h 0;have hs:∀ i,yx (l.getD i []) (m.getD i []):=λ i=>by exists h (i+1)
  have key:vy l<=vy m:=by
   by_cases e:l=m
   .rw[e];show Aj _
   .show Bo (jo hA hB FW (λ x hx=>gb x (Aw _ hx)) (λ x hx=>gc x (Aw _ hx)) hs e)
  change (List.map mu (b::l)).sum<(List.map mu (c::m)).sum;rw[Av,List.sum_cons,Av,List.sum_cons];by_cases e:b=c
  .subst e;have:l≠m:=λ q=>Aq (by rw[q]);have:=jo hA hB FW (λ x hx=>gb x (Aw _ hx)) (λ x hx=>gc x (Aw _ hx)) hs this;unfold vy at this;lia
  .have:=R6 hA hB (gb b Ap) (gc c Ap) h0 e;unfold vy at key;lia
def uq (F:zm) (fresh:List Nat) (p:Nat):Bool:=F.ws.any λ w=>decide (w.f=p)&&fresh.contains w.t
def zV (F:zm) (EO:List Bd) (fresh:List Nat):List Bd:=(List.range EO.length).map λ p=>if uq F fresh p=true then yg F EO p else EO.getD p []
def xi (EO F7:List Bd):List Nat:=(List.range F7.length).filter λ p=>decide (F7.getD p []≠EO.getD p [])
def tY (F:zm):Nat->List (List Bd)->List Bd->List Nat->Option (List (List Bd))
 | 0,_,_,_=>none
 | n+1,ET,EO,fresh=>if fresh=[] then ↑(ET++[EO]) else
   let fo:=zV F EO fresh
   let fr:=xi EO fo
   if fr=[] then ↑(ET++[EO]) else tY F n (ET++[EO]) fo fr
structure St (F:zm) (EO:List Bd) (fresh:List Nat):Prop where
 len:EO.length=F.os.length
 gd:∀ b∈EO,Gd F.A F.B b
 fr:∀ p<F.os.length,uq F fresh p=false->(∃ w∈F.ws,w.f=p)->yg F EO p=EO.getD p []
 le:∀ p<F.os.length,(∃ w∈F.ws,w.f=p)->yx (yg F EO p) (EO.getD p [])
def sy {α:Type}(f:Nat->α) (n p:Nat) (d:α) (h:p<n):((List.range n).map f).getD p d=f p:=by
 rw[A3,AH,D1 h];rfl
def sa (F:zm) (EO:List Bd) (fresh:List Nat):(zV F EO fresh).length=EO.length:=by unfold zV;simp
theorem St.at {F:zm}{EO:List Bd}{fresh:List Nat}(s:St F EO fresh) {p:Nat}(hp:p<F.os.length) (hw:∃ w∈F.ws,w.f=p):(zV F EO fresh).getD p []=yg F EO p:=by
 unfold zV;rw[sy _ _ _ _ (by rw[s.len];show hp)];split
 .rfl
 .rename_i h;show (s.fr p hp (by exists h) hw).symm
def QG {F:zm}{fresh:List Nat}{p:Nat}(h:uq F fresh p=true):∃ w∈F.ws,w.f=p:=by
 unfold uq at h;let#[w,h1,h2]:=AY.mp h;show#[w,h1,by simp at h2;show h2.1]
theorem St.no {F:zm}{EO:List Bd}{fresh:List Nat}(s:St F EO fresh) {p:Nat}(hp:p<F.os.length) (hw:¬ ∃ w∈F.ws,w.f=p):(zV F EO fresh).getD p []=EO.getD p []:=by
 unfold zV;rw[sy _ _ _ _ (by rw[s.len];show hp),if_neg (λ h=>hw (QG h))]
theorem St.bL {F:zm}{EO:List Bd}{fresh:List Nat}(s:St F EO fresh) (p:Nat):yx ((zV F EO fresh).getD p []) (EO.getD p []):=by
 by_cases hp:p<F.os.length
 .by_cases hw:∃ w∈F.ws,w.f=p
  .rw[s.at hp hw];show s.le p hp hw
  .rw[s.no hp hw];show yx.refl _
 .have h1:(zV F EO fresh).getD p []=[]:=by
   rw[A3,DF (by rw[sa,s.len];lia)];rfl
  rw[h1];intro q x;cases x
def St.next {F:zm}(ok:F.Ok) {EO:List Bd}{fresh:List Nat}(s:St F EO fresh):St F (zV F EO fresh) (xi EO (zV F EO fresh)) where
 len:=by rw[sa,s.len]
 gd:=λ b hb=>by
  unfold zV at hb;let#[p,hp,rfl]:=Ao.mp hb;split
  .show ji ok EO p
  .have Ay:=AD.mp hp;rw[A3,AU Ay];show s.gd _ (BA Ay)
 fr:=λ p hp hn hw=>by
  rw[s.at hp hw];exact Ru F p λ w w1 w2=>?_;have hwt:=(ok.ws w w1).2;by_cases e:(zV F EO fresh).getD w.t []=EO.getD w.t []
  .show e
  .have:uq F (xi EO (zV F EO fresh)) p=true:=by
    unfold uq;exact AY.mpr #[w,w1,?_];have:w.t∈xi EO (zV F EO fresh):=by
     unfold xi;show Bb.mpr #[AD.mpr (by rw[sa,s.len];show hwt),by exists e]
    simp[w2,this]
   rw[this] at hn;cases hn
 le:=λ p hp hw=>by
  rw[s.at hp hw];show eS F p λ w w1 w2=>s.bL w.t
def Pc {EO fo:List Bd}(hl:fo.length=EO.length) (h:xi EO fo≠[]):fo≠EO:=λ e=>h (by
 subst e;unfold xi;simp)
def start (F:zm):List Bd:=List.replicate F.os.length yW
theorem St.start {F:zm}(ok:F.Ok):St F (start F) (List.range F.os.length) where
 len:=by unfold RN.start;simp
 gd:=λ b hb=>by rw[List.eq_of_mem_replicate hb];show Gd.yW ok.a0 ok.b0
 fr:=λ p hp hn #[w,w1,w2]=>by
  have:uq F (List.range F.os.length) p=true:=by
   unfold uq;exact AY.mpr #[w,w1,?_];have:=(ok.ws w w1).2;simp[w2,this]
  rw[this] at hn;cases hn
 le:=λ p hp hw=>by
  have e:(RN.start F).getD p []=yW:=by
   unfold RN.start;rw[A3,CL,if_pos hp];rfl
  rw[e];show (ji ok _ p).dD
theorem f6 {F:zm}(ok:F.Ok):∀ (n:Nat) (ET:List (List Bd)) (EO:List Bd) (fresh:List Nat),St F EO fresh->vy EO<n->
  ∃ more Gq,tY F n ET EO fresh=↑(ET++EO::more)/\(∀ r∈EO::more,r.length=F.os.length/\∀ b∈r,Gd F.A F.B b)/\(EO::more).getLast?=↑Gq/\more.length<=vy EO
 | 0,_,_,_,_,h=>⋯
 | n+1,ET,EO,fresh,s,h=>by
  unfold tY;split
  .show#[[],EO,rfl,λ r hr=>by cases AO.mp hr;show#[s.len,s.gd],rfl,AR _]
  .dsimp only;split
   .show#[[],EO,rfl,λ r hr=>by cases AO.mp hr;show#[s.len,s.gd],rfl,AR _]
   .rename_i hf;have s':=s.next ok;have Ay:vy (zV F EO fresh)<vy EO:=jo ok.a1 ok.b1 (sa ..) s'.gd s.gd s.bL (Pc (sa ..) hf);let#[more,Gq,e1,e2,e3,e4]:=f6 ok n (ET++[EO]) _ _ s' ⋯;exact#[zV F EO fresh::more,Gq,by rw[e1];simp,λ r hr=>?_,by rw[List.getLast?_cons_cons];show e3,by rw[A5];lia];rcases Ah.mp hr with e | e
    .subst e;show#[s.len,s.gd]
    .show e2 r e
theorem N3 {A B a b:Int}{bd:Bd}(h0:∀ p∈bd,0<=p.1/\0<=p.2) {q:Int×Int}(hq:(0<=q.1/\q.1<=A)/\0<=q.2/\q.2<=B):zv (sM A B a b bd) q=true↔zv bd (q.1+a,q.2+b)=true:=by
 unfold sM;rw[qy,yv,yv];constructor
 .rintro⟨p,hp,h1,h2⟩;let#[hp,_]:=Bb.mp hp;let#[r,hr,rfl]:=Ao.mp hp;exact#[r,hr,?_,?_]
  .unfold yU y7 at h1;dsimp only at h1 ⊢;split at h1 <;> lia
  .unfold yU y7 at h2;dsimp only at h2 ⊢;split at h2 <;> lia
 .rintro⟨r,hr,h1,h2⟩;dsimp only at h1 h2;have e1:(yU a b r).1<=q.1:=by unfold yU y7;dsimp only;split <;> lia
  have e2:(yU a b r).2<=q.2:=by unfold yU y7;dsimp only;split <;> lia
  exact#[yU a b r,Bb.mpr #[Ao.mpr #[r,hr,rfl],?_],e1,e2];unfold vc;rw[JF ⋯,JF ⋯];rfl
theorem iy (pu:Bool) (zK give get:Int) (hg:1<=give) (Dl:0<=get):∀ (n:Nat) (g t:Int),0<=t->zK-g<n->∀ (G T:Int),G<=zK->
  ((∃ e∈xA pu zK give get n g t,zM pu e<=G/\yj pu e<=T)↔∃ k:Nat,g+k*give<=G/\y7 (t-k*get)<=T)
 | 0,g,t,ht,hn,G,T,hG=>by
  constructor
  .rintro⟨e,he,_⟩;cases he
  .rintro⟨k,h1,_⟩;exfalso;have:0<=(k:Int)*give:=CV ⋯ ⋯;lia
 | n+1,g,t,ht,hn,G,T,hG=>by
  have gv:∀ x y,zM pu (yN pu x y)=x:=λ x y=>by cases pu <;> rfl
  have gt:∀ x y,yj pu (yN pu x y)=y:=λ x y=>by cases pu <;> rfl
  have ih:=iy pu zK give get hg Dl n (g+give) (y7 (t-get)) (mf _) ⋯ G T hG;have mm:∀ k:Nat,y7 (y7 (t-get)-k*get)=y7 (t-(k+1:Nat)*get):=λ k=>by
   have:0<=(k:Int)*get:=CV ⋯ Dl;have e:((k+1:Nat):Int)*get=k*get+get:=by rw[CU,CD];lia
   rw[e];unfold y7;split <;> split <;> (try split) <;> lia
  have gg:∀ k:Nat,g+give+k*give=g+(k+1:Nat)*give:=λ k=>by
   rw[CU,CD];lia
  unfold xA;split
  .rename_i hgb;constructor
   .rintro⟨e,he,h1,h2⟩;rcases Ah.mp he with rfl | he
    .rw[gv] at h1;rw[gt] at h2;exact#[0,by simpa using h1,?_];unfold y7;split <;> simp at * <;> lia
    .let#[k,k1,k2]:=ih.mp #[e,he,h1,h2];show#[k+1,by rw[<- gg];show k1,by rw[<- mm];show k2]
   .rintro⟨k,k1,k2⟩;cases k with
    | zero=>
     exact#[_,Ap,by rw[gv];simpa using k1,?_];rw[gt];unfold y7 at k2;split at k2 <;> simp at * <;> lia
    | succ k=>
     let#[e,he,h1]:=ih.mpr #[k,by rw[gg];show k1,by rw[mm];show k2];show#[e,Aw _ he,h1]
  .rename_i hgb;constructor
   .rintro⟨e,he,_⟩;cases he
   .rintro⟨k,h1,_⟩;exfalso;have:0<=(k:Int)*give:=CV ⋯ ⋯;lia
def t6 {pu:Bool}{p q:Int×Int}:(p.1<=q.1/\p.2<=q.2)↔zM pu p<=zM pu q/\yj pu p<=yj pu q:=by
 cases pu
 .show Iff.rfl
 .show And.comm
def O8 {F:zm}{s:Sl}(hs:1<=s.gv/\0<=s.gt) (hA:F.A<=12) (hB:F.B<=12) {b:Bd}(hb:∀ p∈b,0<=p.1/\0<=p.2) {q:Int×Int}(hq:(0<=q.1/\q.1<=F.A)/\0<=q.2/\q.2<=F.B):
  zv (rL F s b) q=true↔∃ k:Nat,zv b (yN s.pu (zM s.pu q-k*s.gv) (yj s.pu q+k*s.gt))=true:=by
 have EL:F.zK s.pu<=12:=by unfold zm.zK;split <;> assumption
 have hqb:zM s.pu q<=F.zK s.pu:=by unfold zM zm.zK;split <;> lia
 have hq0:0<=zM s.pu q/\0<=yj s.pu q:=by unfold zM yj;split <;> lia
 have gv:∀ x y,zM s.pu (yN s.pu x y)=x:=λ x y=>by cases s.pu <;> rfl
 have gt:∀ x y,yj s.pu (yN s.pu x y)=y:=λ x y=>by cases s.pu <;> rfl
 unfold rL;rw[qy,yv];constructor
 .rintro⟨e,he,HZ⟩;let#[p,hp,he]:=Bm.mp he;let#[h1,h2]:=t6 (pu:=s.pu).mp HZ;have p0:=hb p hp;have g0:0<=zM s.pu p/\0<=yj s.pu p:=by unfold zM yj;split <;> lia
  let#[k,k1,k2]:=(iy s.pu (F.zK s.pu) s.gv s.gt hs.1 hs.2 100 _ _ g0.2 ⋯ _ _ hqb).mp #[e,he,h1,h2];exact#[k,yv.mpr #[p,hp,t6 (pu:=s.pu).mpr #[by rw[gv];lia,?_]]];rw[gt];unfold y7 at k2;split at k2 <;> lia
 .rintro⟨k,hk⟩;let#[p,hp,HZ]:=yv.mp hk;let#[h1,h2]:=t6 (pu:=s.pu).mp HZ;rw[gv] at h1;rw[gt] at h2;have p0:=hb p hp;have g0:0<=zM s.pu p/\0<=yj s.pu p:=by unfold zM yj;split <;> lia
  let#[e,he,h3]:=(iy s.pu (F.zK s.pu) s.gv s.gt hs.1 hs.2 100 (zM s.pu p) (yj s.pu p) g0.2 ⋯ (zM s.pu q) (yj s.pu q) hqb).mpr #[k,⋯,by unfold y7;split <;> lia];show#[e,Bm.mpr #[p,hp,he],t6 (pu:=s.pu).mpr h3]
def zw (F:zm):Nat->List Bd
 | 0=>start F
 | k+1=>(List.range F.os.length).map λ p=>yg F (zw F k) p
theorem pS (F:zm):∀ k,(zw F k).length=F.os.length
 | 0=>by unfold zw start;simp
 | k+1=>by unfold zw;simp
theorem Rt {F:zm}{EO:List Bd}{fresh:List Nat}(s:St F EO fresh) (hw:∀ p<F.os.length,∃ w∈F.ws,w.f=p):zV F EO fresh=(List.range F.os.length).map λ p=>yg F EO p:=by
 exact C4 (by rw[sa,s.len];simp) λ i h1 h2=>?_;have hi:i<F.os.length:=by exists h2
 have e:=s.at hi (hw i hi);rw[A3,AU h1] at e;exists e
def Pd {EO fo:List Bd}(hl:fo.length=EO.length) (h:xi EO fo=[]):fo=EO:=by
 exact C4 hl λ i h1 h2=>?_;have:i∉xi EO fo:=by rw[h];simp
 unfold xi at this;rw[Bb] at this;have e:fo.getD i []=EO.getD i []:=Classical.byContradiction λ Aq=>this #[AD.mpr h1,by exists Aq];rw[A3,AU h1,A3,AU h2] at e;exists e
theorem f7 {F:zm}(ok:F.Ok) (hw:∀ p<F.os.length,∃ w∈F.ws,w.f=p):∀ (n:Nat) (ET:List (List Bd)) (k:Nat) (fresh:List Nat) (res:List (List Bd)),St F (zw F k) fresh->fresh≠[]->ET=(List.range k).map (zw F)->
  tY F n ET (zw F k) fresh=↑res->∃ m,res=(List.range (m+1)).map (zw F)/\zw F (m+1)=zw F m
 | 0,_,_,_,_,_,_,_,h=>by cases h
 | n+1,ET,k,fresh,res,s,hf,ht,h=>by
  unfold tY at h;rw[if_neg hf] at h;dsimp only at h;have e:zV F (zw F k) fresh=zw F (k+1):=Rt s hw;have et:ET++[zw F k]=(List.range (k+1)).map (zw F):=by rw[ht,List.range_succ,Bz];rfl
  rw[e,et] at h;split at h
  .rename_i Bs;cases h;show#[k,rfl,Pd (by rw[pS,pS]) Bs]
  .rename_i Bs;have s':=s.next ok;rw[e] at s';show f7 ok hw n _ (k+1) _ res s' Bs rfl h
def yn (F:zm) (q:Int×Int):Prop:=(0<=q.1/\q.1<=F.A)/\0<=q.2/\q.2<=F.B
def uB (F:zm) (q:Int×Int) (w:Wy):Option (Int×Int):=if q.1+w.a<0\/q.2+w.b<0 then none else ↑(min (q.1+w.a) F.A,min (q.2+w.b) F.B)
def tw (F:zm) (EO:List Bd) (q:Int×Int) (w:Wy):Bool:=match uB F q w with
 | none=>false
 | some r=>zv (EO.getD w.t []) r
def xF (F:zm) (p:Nat):List Wy:=F.ws.filter λ w=>decide (w.f=p)
def wO (F:zm) (s:Sl):Nat->Int×Int->List (Int×Int)
 | 0,q=>[q]
 | n+1,q=>q::if s.gv<=zM s.pu q then wO F s n (yN s.pu (zM s.pu q-s.gv) (min (yj s.pu q+s.gt) (F.zK (!s.pu)))) else []
def wN (F:zm) (p:Nat) (q:Int×Int):List (Int×Int):=match F.Fi p with
 | none=>[q]
 | some s=>wO F s 20 q
def rE (F:zm) (EO:List Bd) (p:Nat) (q:Int×Int):Bool:=
 if F.os.getD p false=true then (wN F p q).any λ r=>(xF F p).any (tw F EO r) else (xF F p).all (tw F EO q)
def Ot {A B:Int}{b:Bd}(hb:Gd A B b) (x y:Int):zv b (min x A,min y B)=zv b (x,y):=by
 rw[A7,yv,yv];constructor
 .rintro⟨p,hp,h1,h2⟩;dsimp only at h1 h2;show#[p,hp,by dsimp only;lia,by dsimp only;lia]
 .rintro⟨p,hp,h1,h2⟩;have:=hb.xy p hp;dsimp only at h1 h2;show#[p,hp,by dsimp only;lia,by dsimp only;lia]
def RW {F:zm}{EO:List Bd}{w:Wy}(hb:Gd F.A F.B (EO.getD w.t [])) (q:Int×Int):tw F EO q w=zv (EO.getD w.t []) (q.1+w.a,q.2+w.b):=by
 unfold tw uB;by_cases h:q.1+w.a<0\/q.2+w.b<0
 .rw[if_pos h]
  symm
  rw[<- DX,yv];rintro⟨p,hp,h1,h2⟩;have:=hb.xy p hp;dsimp only at h1 h2;lia
 .rw[if_neg h];show Ot hb _ _
def mz {F:zm}{EO:List Bd}{w:Wy}(hb:Gd F.A F.B (EO.getD w.t [])) {q:Int×Int}(hq:yn F q):zv (sM F.A F.B w.a w.b (EO.getD w.t [])) q=tw F EO q w:=by
 rw[RW hb,A7];show N3 (λ p hp=>#[(hb.xy p hp).1.1,(hb.xy p hp).2.1]) hq
def ic {F:zm}{EO:List Bd}(hg:∀ p,Gd F.A F.B (EO.getD p [])) {p:Nat}{q:Int×Int}(hq:yn F q):zv (vZ (xB F EO p)) q=(xF F p).any (tw F EO q):=by
 rw[A7,vZ,ie,AY];constructor
 .rintro (h | ⟨c,hc,h⟩)
  .cases h
  .unfold xB at hc;let#[w,hw,rfl]:=Ao.mp hc;show#[w,hw,by rw[<- mz (hg w.t) hq];show h]
 .rintro⟨w,hw,h⟩;show .inr #[_,Ao.mpr #[w,hw,rfl],by rw[mz (hg w.t) hq];show h]
def Ng {F:zm}{EO:List Bd}(hg:∀ p,Gd F.A F.B (EO.getD p [])) {p:Nat}{q:Int×Int}(hq:yn F q):zv (qT (xB F EO p)) q=(xF F p).all (tw F EO q):=by
 rw[A7,qT,i7,BP];constructor
 .rintro⟨_,h⟩ w hw;rw[<- mz (hg w.t) hq];show h _ (Ao.mpr #[w,hw,rfl])
 .intro h;exact#[bH.mpr #[hq.1.1,hq.2.1],λ c hc=>?_];unfold xB at hc;let#[w,hw,rfl]:=Ao.mp hc;rw[mz (hg w.t) hq];show h w hw
def ur (pu:Bool) (x y:Int):zM pu (yN pu x y)=x:=by cases pu <;> rfl
def su (pu:Bool) (x y:Int):yj pu (yN pu x y)=y:=by cases pu <;> rfl
def nV (pu:Bool) (q:Int×Int):yN pu (zM pu q) (yj pu q)=q:=by cases pu <;> rfl
def vQ {F:zm}{pu:Bool}{q:Int×Int}:yn F q↔(0<=zM pu q/\zM pu q<=F.zK pu)/\0<=yj pu q/\yj pu q<=F.zK (!pu):=by
 unfold yn zm.zK;cases pu
 .show Iff.rfl
 .show And.comm
theorem mW {F:zm}{s:Sl}(hs:1<=s.gv/\0<=s.gt):∀ (n:Nat) {q:Int×Int},yn F q->∀ r∈wO F s n q,yn F r
 | 0,q,h,r,hr=>by cases AO.mp hr;show h
 | n+1,q,h,r,hr=>by
  unfold wO at hr;rcases Ah.mp hr with rfl | hr
  .show h
  .split at hr
   .rename_i hg;exact mW hs n ?_ r hr;have h':=vQ (pu:=s.pu).mp h;rw[vQ (pu:=s.pu),ur,su];lia
   .cases hr
theorem bO {F:zm}{s:Sl}(hs:1<=s.gv/\0<=s.gt) {b:Bd}(hb:Gd F.A F.B b):∀ (n:Nat) {q:Int×Int},yn F q->zM s.pu q<n->
  ((∃ k:Nat,zv b (yN s.pu (zM s.pu q-k*s.gv) (yj s.pu q+k*s.gt))=true)↔(wO F s n q).any (zv b)=true)
 | 0,q,h,hn=>by
  have:=(vQ (pu:=s.pu).mp h).1.1;lia
 | n+1,q,h,hn=>by
  have h':=vQ (pu:=s.pu).mp h;have cut:∀ x y,zv b (yN s.pu x y)=zv b (yN s.pu x (min y (F.zK (!s.pu)))):=λ x y=>by
   rw[A7,yv,yv];constructor
   .rintro⟨p,hp,h1⟩;have h2:=t6 (pu:=s.pu).mp h1;have h3:=vQ (pu:=s.pu).mp (show yn F p from hb.xy p hp);rw[ur,su] at h2;show#[p,hp,t6 (pu:=s.pu).mpr (by rw[ur,su];lia)]
   .rintro⟨p,hp,h1⟩;have h2:=t6 (pu:=s.pu).mp h1;rw[ur,su] at h2;show#[p,hp,t6 (pu:=s.pu).mpr (by rw[ur,su];lia)]
  unfold wO;rw[Bu,DY];by_cases hg:s.gv<=zM s.pu q
  .rw[if_pos hg];have hi:yn F (yN s.pu (zM s.pu q-s.gv) (min (yj s.pu q+s.gt) (F.zK (!s.pu)))):=by
    rw[vQ (pu:=s.pu),ur,su];lia
   have ih:=bO hs hb n hi (by rw[ur];lia);rw[ur,su] at ih;have sh:∀ k:Nat,zv b (yN s.pu (zM s.pu q-s.gv-k*s.gv) (min (yj s.pu q+s.gt) (F.zK (!s.pu))+k*s.gt))=zv b (yN s.pu (zM s.pu q-(k+1:Nat)*s.gv) (yj s.pu q+(k+1:Nat)*s.gt)):=λ k=>by
    have e1:((k+1:Nat):Int)*s.gv=k*s.gv+s.gv:=by rw[CU,CD];lia
    have e2:((k+1:Nat):Int)*s.gt=k*s.gt+s.gt:=by rw[CU,CD];lia
    have k0:0<=(k:Int)*s.gt:=CV ⋯ hs.2;rw[e1,e2,cut,cut (zM s.pu q-(k*s.gv+s.gv))];congr 2
    .lia
    .lia
   rw[<- ih];constructor
   .rintro⟨k,hk⟩;cases k with
    | zero=>show .inl (by simpa [nV] using hk)
    | succ k=>show .inr #[k,by rw[sh];show hk]
   .rintro (hk | ⟨k,hk⟩)
    .show#[0,by simpa [nV] using hk]
    .show#[k+1,by rw[<- sh];show hk]
  .rw[if_neg hg];constructor
   .rintro⟨k,hk⟩;cases k with
    | zero=>show .inl (by simpa [nV] using hk)
    | succ k=>
     exfalso;let#[p,hp,h1]:=yv.mp hk;have h2:=t6 (pu:=s.pu).mp h1;have h3:=vQ (pu:=s.pu).mp (show yn F p from hb.xy p hp);rw[ur] at h2;have e1:((k+1:Nat):Int)*s.gv=k*s.gv+s.gv:=by rw[CU,CD];lia
     have k0:0<=(k:Int)*s.gv:=CV ⋯ ⋯;rw[e1] at h2;lia
   .rintro (hk | hk)
    .show#[0,by simpa [nV] using hk]
    .cases hk
theorem eR {F:zm}(ok:F.Ok) {EO:List Bd}(hg:∀ p,Gd F.A F.B (EO.getD p [])) (p:Nat) {q:Int×Int}(hq:yn F q):zv (yg F EO p) q=rE F EO p q:=by
 have ge:Gd F.A F.B (vZ (xB F EO p)):=oh _ _ Gd.nil (lH F EO p);unfold yg rE wN;by_cases ho:F.os.getD p false=true
 .rw[if_pos ho,if_pos ho];cases hs:F.Fi p with
  | none=>simp![Bu,List.any_nil,Bool.or_false];show ic hg hq
  | some s=>
   have FY:=ok.ss s (CF hs);have hgv:zM s.pu q<20:=by
    have:=vQ (pu:=s.pu).mp hq;have:F.zK s.pu<=12:=by have:=ok.a1;have:=ok.b1;unfold zm.zK;split <;> assumption
    lia
   rw[A7];dsimp only;rw[O8 FY ok.a1 ok.b1 (λ p hp=>#[(ge.xy p hp).1.1,(ge.xy p hp).2.1]) hq,bO FY ge 20 hq ⋯,AY,AY];constructor
   .rintro⟨r,hr,h⟩;show#[r,hr,by rw[<- ic hg (mW FY 20 hq r hr)];show h]
   .rintro⟨r,hr,h⟩;show#[r,hr,by rw[ic hg (mW FY 20 hq r hr)];show h]
 .rw[if_neg ho,if_neg ho];show Ng hg hq
theorem dR {F:zm}(ok:F.Ok):∀ (k p:Nat),p<F.os.length->yx ((zw F (k+1)).getD p []) ((zw F k).getD p [])
 | 0,p,hp=>by
  have e1:(zw F 1).getD p []=yg F (zw F 0) p:=sy (λ p=>yg F (zw F 0) p) F.os.length p [] hp;have e0:(zw F 0).getD p []=yW:=by
   change (start F).getD p []=yW;unfold start;rw[A3,CL,if_pos hp];rfl
  rw[e1,e0];show (ji ok _ p).dD
 | k+1,p,hp=>by
  have e1:(zw F (k+1+1)).getD p []=yg F (zw F (k+1)) p:=sy (λ p=>yg F (zw F (k+1)) p) F.os.length p [] hp;have e0:(zw F (k+1)).getD p []=yg F (zw F k) p:=sy (λ p=>yg F (zw F k) p) F.os.length p [] hp;rw[e1,e0];show eS F p λ w hw _=>dR ok k w.t (ok.ws w hw).2
theorem dQ {F:zm}(ok:F.Ok) (k:Nat):∀ (d p:Nat),p<F.os.length->yx ((zw F (k+d)).getD p []) ((zw F k).getD p [])
 | 0,p,_=>yx.refl _
 | d+1,p,hp=>(dR ok (k+d) p hp).trans (dQ ok k d p hp)
end RN
namespace zS
open PySem L2 L3 L5
abbrev ZQ:Sm:=
 (retS (lG (Gr "int" (zc 0)) (eG (Gr "bool" (zc 0)))))
def l_:An:=zR ["thing"] 1 ZQ
abbrev Z7:Sm:=
 (retS (zo yY (za (zb zh (zc 0) (cI 1)) zf)))
def r_:An:=zR ["floor"] 1 Z7
abbrev Ya:Sm:=
 (retS (lG (zb uu (zb zh (zc 0) (cI 0)) (zb zh (zc 1) (cI 0))) (zb uu (zb zh (zc 0) (cI 1)) (zb zh (zc 1) (cI 1)))))
def ph:An:=zR ["pair","other"] 2 Ya
abbrev oE:Sm:=
 (yu (qO (rF (xG (zc 1))) (zB (zb yI (zb zh (zc 2) (cI 1)) (zb zh (zb zh (zc 1) (sd (cI 1))) (cI 1))))) (wb 1 (zi 2)) yE)
abbrev ZC:Sm:=
 (zl (vj 1 (yT zf))
 (zl (yZ [2] (yA (zo qh (za (zc 0) zf))) (zt 2) oE)
 (retS (zo tV (za (zc 1) zf)))))
def tM:An:=zR ["pairs","least","pair"] 1 ZC
abbrev rN:Sm:=
 (zl (wb 4 (c9 (zB (zb (zD false) (zc 3) (cI 0))) (tupS (za (zi 5) (za (zi 6) zf))) (tupS (za (zi 6) (za (zi 5) zf)))))
 (zl (zy 5 (zb yr (zc 5) (zb zh (zc 1) (cI 2))))
 (zy 6 (zo rh (za (cI 0) (za (zb vK (zc 6) (zb zh (zc 1) (cI 3))) zf))))))
abbrev Z8:Sm:=
 (zl (zy 3 (zb zh (zc 1) (cI 1)))
 (zl (vj 4 (yT zf))
 (zl (zy 5 (zb zh (zc 2) (zc 3)))
 (zl (zy 6 (zb zh (zc 2) (zb vK (cI 1) (zc 3))))
 (zl (tS 1000000 [] (zB (zb qz (zc 5) (zb zh (zc 0) (zc 3)))) rN)
 (tf 4))))))
def oO:An:=zR ["brims","stall","pair","purse","pairs","given","got"] 3 Z8
abbrev ZJ:Sm:=
 (zl (yu (zB (zb yI (zc 1) (zo yY (za (zc 0) zf)))) (retS (zb zL (zb zh (zc 0) (zc 1)) (zb qp (cI 10) (cI 40)))) yE)
 (retS (cI 0)))
def y_:An:=zR ["_law_script","_law_k"] 2 ZJ
abbrev gj:Sm:=
 (zl (yu (zB (zb (zD false) (zb zL (zc 0) (cI 5)) (cI 1))) (retS (zb vK (zb zL (zb yz (zc 0) (cI 5)) (cI 25)) (cI 12))) yE)
 (retS (zb vK (zb zL (zb zL (zb yz (zc 0) (cI 5)) (cI 25)) (cI 7)) (cI 3))))
def tN:An:=zR ["_law_number"] 1 gj
abbrev ZM:Sm:=
 (zl (zy 3 (zb yr (zb zh (zc 1) (cI 0)) (zb zh (zc 2) (cI 2))))
 (zl (zy 4 (zb yr (zb zh (zc 1) (cI 1)) (zb zh (zc 2) (cI 3))))
 (zl (yu (qO (zB (zb yI (zc 3) (cI 0))) (zB (zb yI (zc 4) (cI 0)))) (retS (cS .zp)) yE)
 (retS (tupS (za (zo vP (za (zc 3) (za (zb zh (zb zh (zc 0) (cI 0)) (cI 0)) zf))) (za (zo vP (za (zc 4) (za (zb zh (zb zh (zc 0) (cI 0)) (cI 1)) zf))) zf)))))))
def lZ:An:=zR ["_law_floor_here","_law_pair","_law_way","_law_first_here","_law_second"] 3 ZM
abbrev qW:Sm:=
 (zl (vj 8 (zo listS (za (zb zh (zc 3) (sd (cI 1))) zf)))
 (zl (mx 8 (zc 5) (zb vK (zb zh (zc 8) (zc 5)) (zc 6)))
 (zl (mx 8 (zb vK (cI 1) (zc 5)) (zo vP (za (zb yr (zb zh (zc 8) (zb vK (cI 1) (zc 5))) (zc 7)) (za (zb zh (zb zh (zc 0) (cI 0)) (zb vK (cI 1) (zc 5))) zf))))
 (wb 3 (zo tV (za (zc 8) zf))))))
abbrev qU:Sm:=
 (tS 1000000 [8] (vf (zB (zb (zD false) (zc 4) (zc 1))) (zB (zb uu (zb zh (zb zh (zc 3) (sd (cI 1))) (zc 5)) (zc 6)))) qW)
abbrev ZI:Sm:=
 (zl (vj 3 (yT (za (zi 2) zf)))
 (zl (yZ [4,5,6,7,8] (yA (zb zh (zc 0) (cI 3))) (xH 4 (zZ (zt 4) (zZ (zt 5) (zZ (zt 6) (zZ (zt 7) xY))))) qU)
 (tf 3)))
def lX:An:=zR ["_law_floor_here","_law_place","_law_pair","_law_found","_law_home","_law_purse","_law_give","_law_get","_law_coins_here"] 3 ZI
abbrev iD:Sm:=
 (yu (vf (zB (zb uu (zb zh (zc 1) (cI 0)) (zc 2))) (zB (zb uu (zb zh (zc 1) (cI 1)) (zc 3)))) (retS (cS (.bl true))) yE)
abbrev Mm:Sm:=
 (zl (yZ [2,3] (yA (zi 0)) (xH 2 (zZ (zt 2) (zZ (zt 3) xY))) iD)
 (retS (cS (.bl false))))
def iZ:An:=zR ["_law_border","_law_pair","_law_x","_law_y"] 2 Mm
abbrev b_:Ag:=
 xS [none,↑2] (xx xO (za (zb yr (zb zh (zb zh (zc 0) (cI 0)) (cI 1)) (cI 1)) zf)) (zt 0) tF (tupS (za (zi 1) (za (zi 0) zf)))
abbrev av:Sm:=
 (qN 1 b_)
abbrev Ml:Sm:=
 (zl (vj 1 (yT zf))
 (zl (yZ [2] (xx xO (za (zb yr (zb zh (zb zh (zc 0) (cI 0)) (cI 0)) (cI 1)) zf)) (zt 2) av)
 (tf 1)))
def iY:An:=zR ["_law_floor_here","_law_found","_law_x"] 1 Ml
abbrev ZO:Sm:=
 (retS (lG (zo l_ (za (zi 0) zf)) (bV qz qz (zc 1) (zc 0) (zc 2))))
def oT:An:=zR ["thing","least","most"] 3 ZO
abbrev lh:Ag:=
 xS [none,↑1] (yA (zc 0)) (zt 0) tF (zo ph (za (zi 1) (za (zi 0) zf)))
abbrev ZS:Sm:=
 (retS (zo (lq λ bs=>bs.any id) (za lh zf)))
def oV:An:=zR ["border","pair"] 2 ZS
abbrev aa:Ag:=
 xS [none] (yA (zc 0)) (zt 0) tF (tupS (za (zb zh (zc 0) (cI 0)) (za (cI 0) (za (zb zh (zc 0) (cI 1)) zf))))
abbrev bZ:Ag:=
 xS [none] (yA (zc 1)) (zt 0) tF (tupS (za (zb zh (zc 0) (cI 0)) (za (cI 1) (za (zb zh (zc 0) (cI 1)) zf))))
abbrev iG:Sm:=
 (zl (ik 3 (zc 6) (zo vP (za (zc 7) (za (il 3 (zc 6) (zi 7)) zf))))
 (yu (zB (zb (zD false) (ou 3) (cI 2))) (wb 4 (tupS (za (zi 5) (za (zo rh (za (rG 3 (cI 0)) (za (rG 3 (cI 1)) zf))) zf)))) yE))
abbrev ZX:Sm:=
 (zl (zy 2 (zb yr aa bZ))
 (zl (bj 3)
 (zl (vj 4 (yT zf))
 (zl (yZ [5,6,7] (yA (zo qh (za (zc 2) zf))) (xH 3 (zZ (zt 5) (zZ (zt 6) (zZ (zt 7) xY)))) iG)
 (jQ 4 (retS (zo tM (za (zi 4) zf))))))))
def oX:An:=zR ["border","other","steps","lows","shared","first","side","second"] 2 ZX
abbrev ZU:Sm:=
 (retS (zo tM (za (zb yr (zo listS (za (zc 0) zf)) (zo listS (za (zc 1) zf))) zf)))
def oW:An:=zR ["border","other"] 2 ZU
abbrev lj:Ag:=
 xS [none,↑1] (yA (zc 2)) (zt 0) tF (tupS (za (zo rh (za (cI 0) (za (zb vK (zb zh (zc 0) (cI 0)) (zb zh (zc 1) (cI 2))) zf))) (za (zo rh (za (cI 0) (za (zb vK (zb zh (zc 0) (cI 1)) (zb zh (zc 1) (cI 3))) zf))) zf)))
abbrev mY:Ag:=
 xS [none,↑0] (yA (zc 3)) (zt 0) (xG (zo ph (za (zi 1) (za (zi 0) zf)))) (zi 0)
abbrev Z_:Sm:=
 (zl (zy 3 lj)
 (retS (zo tM (za mY zf))))
def o_:An:=zR ["brims","way","border","pairs"] 3 Z_
abbrev ZK:Sm:=
 (zl (zy 2 (zo y_ (za (zi 0) (za (cI 1) zf))))
 (zl (zy 3 (yT (za (zb zh (yT (za (cI 3) (za (cI 2) (za (cI 4) (za (cI 1) (za (cI 5) (za (cI 2) (za (cI 3) (za (cI 0) zf))))))))) (zb zL (zc 2) (cI 8))) (za (zb zh (yT (za (cI 2) (za (cI 3) (za (cI 1) (za (cI 4) (za (cI 2) (za (cI 5) (za (cI 3) (za (cI 0) zf))))))))) (zb zL (zb yz (zc 2) (cI 8)) (cI 8))) zf))))
 (zl (yu (zB (zb qI (zc 1) (cI 4))) (retS (tupS (za (zo vP (za (zb zh (zc 3) (cI 0)) (za (cI 2) zf))) (za (zo vP (za (zb zh (zc 3) (cI 1)) (za (cI 2) zf))) zf)))) yE)
 (zl (yu (zB (zb (zD false) (zb zL (zb yz (zc 2) (cI 64)) (cI 10)) (cI 1))) (retS (tupS (za (cI 12) (za (zb zL (zb zh (zc 3) (cI 1)) (cI 3)) zf)))) yE)
 (zl (yu (zB (zb (zD false) (zb zL (zb yz (zc 2) (cI 64)) (cI 10)) (cI 2))) (retS (tupS (za (zb zL (zb zh (zc 3) (cI 0)) (cI 3)) (za (cI 12) zf)))) yE)
 (zl (yu (vf (zB (zb (zD false) (zb zL (zb yz (zc 2) (cI 64)) (cI 10)) (cI 3))) (zB (zb yI (zc 1) (cI 3)))) (retS (tupS (za (cI 12) (za (cI 12) zf)))) yE)
 (retS (zo tV (za (zc 3) zf)))))))))
def lY:An:=zR ["_law_script","_law_many","_law_number","_law_found"] 2 ZK
abbrev l6:Sm:=
 (zl (wb 3 (zb zh (yT (za (cS (.str "keeper")) (za (cS (.str "taker")) zf))) (zb zL (zc 2) (cI 2))))
 (zy 2 (zb yz (zc 2) (cI 2))))
abbrev ZF:Sm:=
 (zl (zy 2 (zo y_ (za (zi 0) (za (cI 2) zf))))
 (zl (vj 3 (yT zf))
 (zl (yZ [4] (xx xO (za (zc 1) zf)) (zt 4) l6)
 (retS (zo tV (za (zc 3) zf))))))
def lW:An:=zR ["_law_script","_law_many","_law_number","_law_found","_law_place"] 2 ZF
abbrev qV:Sm:=
 (zl (zy 8 (zb yr (zb xQ (zc 3) (zc 5)) (zc 7)))
 (zl (zy 9 (zb zL (zb yr (zb yr (zb xQ (zo y_ (za (zi 0) (za (zb yr (cI 4) (zc 8)) zf))) (cI 2957)) (zb xQ (cI 61) (zc 8))) (cI 17)) (cI 999983)))
 (zl (zy 10 (zb yz (zc 9) (cI 8)))
 (wb 4 (tupS (za (zi 5) (za (zb zL (zb zL (zc 9) (cI 8)) (zc 1)) (za (zo tN (za (zi 10) zf)) (za (zo tN (za (zb yz (zc 10) (cI 125)) zf)) zf)))))))))
abbrev ly:Sm:=
 (zl (zy 6 (zb yr (cI 1) (zb zL (zc 2) (cI 3))))
 (zl (yu (vf (zB (zb yI (zc 1) (cI 3))) (zB (zb (zD false) (zb zL (zb yz (zc 2) (cI 3)) (cI 8)) (cI 1)))) (zy 6 (zb yr (cI 9) (zc 6))) yE)
 (zl (yZ [7,8,9,10] (xx xO (za (zc 6) zf)) (zt 7) qV)
 (zy 2 (zb yz (zc 2) (cI 24))))))
abbrev ZD:Sm:=
 (zl (zy 2 (zo y_ (za (zi 0) (za (cI 3) zf))))
 (zl (zy 3 (zb zh (yT (za (cI 3) (za (cI 12) zf))) (zo mF (za (zb yI (zc 1) (cI 3)) zf))))
 (zl (vj 4 (yT zf))
 (zl (yZ [5,6,7,8,9,10] (xx xO (za (zc 1) zf)) (zt 5) ly)
 (retS (zo tV (za (zo sY (za (zc 4) zf)) zf)))))))
def lU:An:=zR ["_law_script","_law_many","_law_number","_law_wide","_law_found","_law_place","_law_size","_law_k","_law_at","_law_drawn","_law_rest"] 2 ZD
abbrev oG:Sm:=
 (zl (zy 4 (zb zL (zb yr (zb yr (zb xQ (zo y_ (za (zi 0) (za (zb yr (cI 28) (zc 3)) zf))) (cI 3571)) (zb xQ (cI 29) (zc 3))) (cI 5)) (cI 999979)))
 (yu (vf (zB (zb (zD false) (zb zh (zc 1) (zc 3)) (cS (.str "keeper")))) (zB (zb (zD false) (zb zL (zc 4) (cI 3)) (cI 1)))) (zl (zy 5 (zb yz (zc 4) (cI 6)))
 (zl (zy 6 (zb yr (cI 1) (zb zh (yT (za (zb zL (zc 5) (cI 3)) (za (zb zL (zc 5) (cI 3)) (za (zb zL (zc 5) (cI 12)) zf)))) (zb zL (zb yz (zc 5) (cI 12)) (cI 3)))))
 (zl (zy 7 (zb zh (yT (za (zb zL (zb yz (zc 5) (cI 36)) (cI 4)) (za (zb zL (zb yz (zc 5) (cI 36)) (cI 4)) (za (zb zL (zb yz (zc 5) (cI 36)) (cI 13)) zf)))) (zb zL (zb yz (zc 5) (cI 468)) (cI 3))))
 (wb 2 (tupS (za (zi 3) (za (zb zL (zb yz (zc 4) (cI 3)) (cI 2)) (za (zi 6) (za (zi 7) zf))))))))) yE))
abbrev ZE:Sm:=
 (zl (vj 2 (yT zf))
 (zl (yZ [3,4,5,6,7] (xx xO (za (zo yY (za (zc 1) zf)) zf)) (zt 3) oG)
 (retS (zo tV (za (zc 2) zf)))))
def lV:An:=zR ["_law_script","_law_owners_here","_law_found","_law_place","_law_drawn","_law_rest","_law_give","_law_get"] 2 ZE
abbrev iE:Sm:=
 (zl (zy 5 (zb yz (zb yr (zc 3) (zc 4)) (cI 2)))
 (yu (xG (zo iZ (za (zb zh (zb zh (zc 0) (zc 5)) (zc 1)) (za (zi 2) zf)))) (zy 3 (zb yr (zc 5) (cI 1))) (zy 4 (zi 5))))
abbrev ZH:Sm:=
 (zl (zy 3 (cI 0))
 (zl (zy 4 (zo yY (za (zc 0) zf)))
 (zl (tS 1000000 [5] (zB (zb yI (zc 3) (zc 4))) iE)
 (retS (zb zh (yT (za (zb qp (cI 10) (cI 9)) (za (zi 3) zf))) (zo mF (za (zb yI (zc 3) (zo yY (za (zc 0) zf))) zf)))))))
def i_:An:=zR ["_law_told","_law_place","_law_pair","_law_least","_law_most","_law_middle"] 3 ZH
abbrev i4:Ag:=
 xS [none,↑1] (yA (zb zh (zc 0) (cI 2))) (zt 0) (zB (zb (zD false) (zb zh (zc 0) (cI 0)) (zc 1))) (zi 0)
abbrev l7:Sm:=
 (zl (zy 9 (zo lZ (za (zi 0) (za (zi 7) (za (zi 8) zf)))))
 (yu (zB (zb (rA false) (zc 9) (cS .zp))) (wb 4 (cI 0)) (wb 4 (tm 3 (tupS (za (zb zh (zc 8) (cI 1)) (za (zi 9) zf)))))))
abbrev iC:Sm:=
 (yZ [8,9] (yA (zi 5)) (zt 8) l7)
abbrev ZL:Sm:=
 (zl (vj 4 (yT zf))
 (zl (zy 5 i4)
 (zl (zy 6 (yT (za (zi 2) zf)))
 (zl (yu (zB (zb (zD false) (zb zh (zb zh (zc 0) (cI 1)) (zc 1)) (cS (.str "keeper")))) (zy 6 (zo lX (za (zi 0) (za (zi 1) (za (zi 2) zf))))) yE)
 (zl (yZ [7,8,9] (yA (zi 6)) (zt 7) iC)
 (tf 4))))))
def hJ:An:=zR ["_law_floor_here","_law_place","_law_pair","_law_numbers","_law_found","_law_ways_here","_law_some","_law_held_here","_law_way","_law_behind_here"] 4 ZL
abbrev lg:Ag:=
 xS [none,none] (xx kg (za (zc 0) (za (zc 1) zf))) (xH 2 (zZ (zt 0) (zZ (zt 1) xY))) tF (zo oT (za (zi 0) (za (zb zh (zc 1) (cI 0)) (za (zb zh (zc 1) (cI 1)) zf))))
abbrev ZR:Sm:=
 (zl (yu (qO (rF (xG (Gr "tuple" (zc 0)))) (zB (zb (zD true) (zo yY (za (zc 0) zf)) (zo yY (za (zc 1) zf))))) (retS (cS (.bl false))) yE)
 (retS (zo (lq λ bs=>bs.all id) (za lg zf))))
def oU:An:=zR ["thing","bounds"] 2 ZR
abbrev ZV:Sm:=
 (yu (rF (xG (zo oT (za (zi 1) (za (cI 0) (za (zb vK (zo r_ (za (zi 0) zf)) (cI 1)) zf)))))) jd yE)
def pb:An:=zR ["floor","place"] 2 ZV
abbrev l9:Sm:=
 (zy 1 (zo oW (za (zi 1) (za (zi 2) zf))))
abbrev ZY:Sm:=
 (zl (zy 1 (tupS zf))
 (zl (yZ [2] (yA (zi 0)) (zt 2) l9)
 (retS (zi 1))))
def oY:An:=zR ["borders","joined","border"] 1 ZY
abbrev lA:Sm:=
 (zy 1 (zo oX (za (zi 1) (za (zi 2) zf))))
abbrev ZZ:Sm:=
 (zl (zy 1 (tupS (za (tupS (za (cI 0) (za (cI 0) zf))) zf)))
 (zl (yZ [2] (yA (zi 0)) (zt 2) lA)
 (retS (zi 1))))
def oZ:An:=zR ["borders","joined","border"] 1 ZZ
abbrev l8:Sm:=
 (yu (rF (xG (zo oV (za (zb zh (zc 4) (zc 1)) (za (zi 2) zf))))) (retS (zi 3)) yE)
abbrev ZT:Sm:=
 (zl (yZ [3,4] (xx vC (za (zi 0) zf)) (xH 2 (zZ (zt 3) (zZ (zt 4) xY))) l8)
 (retS (cS .zp)))
def ka:An:=zR ["told","place","pair","number","held"] 3 ZT
abbrev ZG:Sm:=
 (zl (zy 1 (zo y_ (za (zi 0) (za (cI 0) zf))))
 (zl (zy 2 (zb zh (yT (za (cI 2) (za (cI 3) (za (cI 1) (za (cI 4) (za (cI 3) (za (cI 2) (za (cI 4) (za (zb yr (cI 5) (zb zL (zb yz (zc 1) (cI 8)) (cI 4))) zf))))))))) (zb zL (zc 1) (cI 8))))
 (zl (zy 3 (zo lW (za (zi 0) (za (zi 2) zf))))
 (zl (zy 4 (zo lY (za (zi 0) (za (zi 2) zf))))
 (zl (zy 5 (zo lU (za (zi 0) (za (zi 2) zf))))
 (zl (zy 6 (zo lV (za (zi 0) (za (zi 3) zf))))
 (zl (yu (vf (zB (zb (zD false) (zc 4) (tupS (za (cI 12) (za (cI 12) zf))))) (qO (zB (zb qI (zo yY (za (zc 5) zf)) (cI 6))) (zB (zb qI (zo yY (za (zc 6) zf)) (cI 0))))) (zy 4 (tupS (za (cI 12) (za (cI 3) zf)))) yE)
 (retS (tupS (za (zi 4) (za (zi 3) (za (zi 5) (za (zi 6) zf)))))))))))))
def oQ:An:=zR ["_law_script","_law_number","_law_many","_law_owners_here","_law_brims_here","_law_ways_here","_law_stalls_here"] 1 ZG
abbrev ZW:Sm:=
 (yu (rF (xG (zo oU (za (zi 1) (za (tupS (za (tupS (za (cI 0) (za (zb zh (zb zh (zc 0) (cI 0)) (cI 0)) zf))) (za (tupS (za (cI 0) (za (zb zh (zb zh (zc 0) (cI 0)) (cI 1)) zf))) zf))) zf))))) jd yE)
def kc:An:=zR ["floor","pair"] 2 ZW
abbrev mZ:Ag:=
 xS [none,none,↑1] (xx vC (za (zb zh (zc 0) (cI 2)) zf)) (xH 2 (zZ (zt 0) (zZ (zt 1) xY))) (zB (zb (zD false) (zb zh (zc 1) (cI 0)) (zc 2))) (zi 0)
abbrev Z4:Sm:=
 (zl (qQ (zo pb (za (zi 0) (za (zi 1) zf))))
 (retS mZ))
def oM:An:=zR ["floor","place"] 2 Z4
abbrev oD:Sm:=
 (yu (zB (zb (zD false) (zb zh (zc 2) (cI 0)) (zc 1))) (retS (zi 2)) yE)
abbrev Z5:Sm:=
 (zl (qQ (zo pb (za (zi 0) (za (zi 1) zf))))
 (zl (yZ [2] (yA (zb zh (zc 0) (cI 3))) (zt 2) oD)
 (retS (cS .zp))))
def rY:An:=zR ["floor","place","stall"] 2 Z5
abbrev lB:Sm:=
 (qN 4 (zo oO (za (zb zh (zc 0) (cI 0)) (za (zi 3) (za (zi 5) zf)))))
abbrev gk:Sm:=
 (zl (zy 3 (zo rY (za (zi 0) (za (zi 1) zf))))
 (zl (yu (zB (zb (rA false) (zc 3) (cS .zp))) (retS (zi 2)) yE)
 (zl (vj 4 (yT zf))
 (zl (yZ [5] (yA (zi 2)) (zt 5) lB)
 (jQ 4 (retS (zo tM (za (zi 4) zf))))))))
def pd:An:=zR ["floor","place","border","stall","pairs","pair"] 3 gk
abbrev lb:Ag:=
 xS [none,↑0] (yA (zo oM (za (zi 0) (za (zi 1) zf)))) (zt 0) tF (zb zh (zb zh (zc 1) (cI 2)) (zc 0))
abbrev mX:Ag:=
 xS [none,↑0,↑2] (yA (zc 3)) (zt 0) tF (zo o_ (za (zb zh (zc 1) (cI 0)) (za (zi 0) (za (zb zh (zc 2) (zb zh (zc 0) (cI 1))) zf))))
abbrev ZA:Sm:=
 (zl (zy 3 lb)
 (zl (zy 4 mX)
 (zl (yu (zB (zb (zD false) (zb zh (zb zh (zc 0) (cI 1)) (zc 1)) (cS (.str "keeper")))) (retS (zo pd (za (zi 0) (za (zi 1) (za (zo oY (za (zi 4) zf)) zf))))) yE)
 (retS (zo oZ (za (zi 4) zf))))))
def oP:An:=zR ["floor","place","last","ways","ahead"] 3 ZA
abbrev m_:Ag:=
 xS [none,↑2] (yA (zb zh (zc 0) (cI 2))) (zt 0) (zB (zb (qD false) (zb zh (zc 0) (cI 1)) (zc 1))) (zb zh (zc 0) (cI 0))
abbrev l5:Sm:=
 (mx 3 (zc 4) (zo oP (za (zi 0) (za (zi 4) (za (zi 1) zf)))))
abbrev Z9:Sm:=
 (zl (vj 3 (zo listS (za (zc 1) zf)))
 (zl (yZ [4] (yA (zo sY (za m_ zf))) (zt 4) l5)
 (tf 3)))
def q_:An:=zR ["floor","last","fresh","following","place"] 3 Z9
abbrev oB:Ag:=
 xS [none,none,↑3] (xx vC (za (zc 4) zf)) (xH 2 (zZ (zt 0) (zZ (zt 1) xY))) (zB (zb (zD true) (zc 1) (zb zh (zc 2) (zc 0)))) (zi 0)
abbrev uQ:Sm:=
 (zl (zy 3 (zb zh (zc 1) (sd (cI 1))))
 (zl (zy 4 (zo q_ (za (zi 0) (za (zi 3) (za (zi 2) zf)))))
 (zl (zy 2 oB)
 (yu (xG (zc 2)) (wb 1 (zi 4)) yE))))
abbrev Z6:Sm:=
 (zl (vj 1 (yT (za (zb xQ (yT (za (tupS (za (tupS (za (cI 0) (za (cI 0) zf))) zf)) zf)) (zo r_ (za (zi 0) zf))) zf)))
 (zl (zy 2 (zo pP (za (zo r_ (za (zi 0) zf)) zf)))
 (zl (tS 1000000 [3,4] (xG (zc 2)) uQ)
 (tf 1))))
def rZ:An:=zR ["floor","told","fresh","last","following"] 1 Z6
abbrev Mn:Sm:=
 (zl (qQ (zo pb (za (zi 0) (za (zi 1) zf))))
 (zl (qQ (zo kc (za (zi 0) (za (zi 2) zf))))
 (retS (zo ka (za (zo rZ (za (zi 0) zf)) (za (zi 1) (za (zi 2) zf)))))))
def hV:An:=zR ["floor","place","pair"] 3 Mn
abbrev aw:Sm:=
 (md 4 (tupS (za (zi 5) (za (zi 6) zf))) (zo i_ (za (zi 2) (za (zi 5) (za (zi 6) zf)))))
abbrev l4:Sm:=
 (yZ [6] (yA (zi 3)) (zt 6) aw)
abbrev iB:Sm:=
 (zl (zy 7 (zo hJ (za (zi 1) (za (zi 5) (za (zi 6) (za (zi 4) zf))))))
 (zl (zy 8 (zo mv (za (zc 7) zf)))
 (zl (yu (zB (zb (zD false) (zb zh (zb zh (zc 1) (cI 1)) (zc 5)) (cS (.str "taker")))) (zy 8 (zo mh (za (zc 7) zf))) yE)
 (yu (zB (zb (zD true) (tm 4 (tupS (za (zi 5) (za (zi 6) zf)))) (zo vP (za (zb yr (zc 8) (cI 1)) (za (zb qp (cI 10) (cI 9)) zf))))) (retS (cS (.bl false))) yE))))
abbrev lx:Sm:=
 (yZ [6,7,8] (yA (zi 3)) (zt 6) iB)
abbrev ZN:Sm:=
 (zl (zy 1 (zo oQ (za (zi 0) zf)))
 (zl (zy 2 (zo rZ (za (zi 1) zf)))
 (zl (zy 3 (zo iY (za (zi 1) zf)))
 (zl (eO 4)
 (zl (yZ [5,6] (xx xO (za (zo yY (za (zb zh (zc 1) (cI 1)) zf)) zf)) (zt 5) l4)
 (zl (jT 4 (yZ [5,6,7,8] (xx xO (za (zo yY (za (zb zh (zc 1) (cI 1)) zf)) zf)) (zt 5) lx))
 (zl (zy 5 (zb zL (zo y_ (za (zi 0) (za (cI 36) zf))) (zo yY (za (zb zh (zc 1) (cI 1)) zf))))
 (zl (zy 6 (zb zh (zc 3) (zb zL (zo y_ (za (zi 0) (za (cI 37) zf))) (zo yY (za (zc 3) zf)))))
 (zl (zy 9 (zo hV (za (zi 1) (za (zi 5) (za (zi 6) zf)))))
 (zl (yu (zB (zb (zD false) (tm 4 (tupS (za (zi 5) (za (zi 6) zf)))) (zb qp (cI 10) (cI 9)))) (retS (zb (rA false) (zc 9) (cS .zp))) yE)
 (retS (zb (zD false) (zc 9) (tm 4 (tupS (za (zi 5) (za (zi 6) zf))))))))))))))))
def oS:An:=zR ["_law_script","_law_floor_here","_law_told","_law_pairs_here","_law_numbers","_law_place","_law_pair","_law_some","_law_due","_law_found"] 1 ZN
def Xe (ps:List (Int×Int)) (h:ps.length<64):qh [.lst (ps.map zg)]=↑(.lst ((u_ ps).map zg)):=by
 change (w_ (ps.map zg)).bind _=_;rw[Xq,AW,if_pos #[by simpa using h,λ r hr=>by let#[p,_,rfl]:=Ao.mp hr;simp[vu]],<- gU,A0];rfl
def cell (ns:List Int) (k:Nat):Int:=if k<ns.length then ns.getD k 0%10 ^ 40 else 0
theorem sS (ns:List Int) (k:Nat):y_ [zP ns,.int (k:Int)]=↑(.int (cell ns k)):=by
 unfold y_ ZJ cell zP;by_cases h:k<ns.length
 .have e:L2.zT (ns.map T.int) (k:Int)=↑(.int (ns.getD k 0)):=vi (by simp[h]);simp[h,e,qb,yI]
 .simp[h,yI]
def QH {qs p:List (Int×Int)}{x:Int×Int}(hr:∀ r,qs++yG r (qs.getLast?.map (·.2))=yG (p++r) none) (hb:uP (qs.getLast?.map (·.2)) x.2=true) (r:List (Int×Int)):
  (qs++[x])++yG r ((qs++[x]).getLast?.map (·.2))=yG (p++[x]++r) none:=by
 have:=hr (x::r);rw[show yG (x::r) (qs.getLast?.map (·.2))=x::yG r ↑x.2 by rw[yG,if_pos hb]] at this;exists this
def QI {qs p:List (Int×Int)}{x:Int×Int}(hr:∀ r,qs++yG r (qs.getLast?.map (·.2))=yG (p++r) none) (hb:uP (qs.getLast?.map (·.2)) x.2=false) (r:List (Int×Int)):
  qs++yG r (qs.getLast?.map (·.2))=yG (p++[x]++r) none:=by
 have:=hr (x::r);rw[show yG (x::r) (qs.getLast?.map (·.2))=yG r (qs.getLast?.map (·.2)) by rw[yG,if_neg (by rw[hb];nofun)]] at this;exists this
theorem lT (ps:List (Int×Int)) (hl:ps.length<64):tM [.lst (ps.map zg)]=↑(.tup ((wJ ps).map zg)):=by
 let#[J',h1,qs,h2,h3,h4]:=xR (is:=[2]) (g:=zt 2) (b:=oE) zg (λ p J=>∃ qs:List (Int×Int),J=[↑(.im (.lst (ps.map zg))),↑(.own (.lst (qs.map zg))),none]/\qs.length<=p.length/\
   ∀ r,qs++yG r (qs.getLast?.map (·.2))=yG (p++r) none) (u_ ps) [↑(.im (.lst (ps.map zg))),↑(.own (.lst [])),none] #[[],#[],#[],λ r=>#[]] (by
  rintro p x q e J ⟨qs,rfl,hq,hr⟩;have hlen:p.length<64:=by
   have:=congrArg List.length e;rw[(kC ps).length_eq] at this;simp at this;lia
  have app:uP (qs.getLast?.map (·.2)) x.2=true->∃ GX:List (Int×Int),yB [2] [↑(.im (.lst (ps.map zg))),↑(.own (.lst (qs.map zg++[zg x]))),↑(.im (zg x))]=[↑(.im (.lst (ps.map zg))),↑(.own (.lst (GX.map zg))),none]/\GX.length<=(p++[x]).length/\∀ r,GX++yG r (GX.getLast?.map (·.2))=yG (p++[x]++r) none:=λ hb=>
   #[qs++[x],#[],by simp;lia,QH hr hb]
  rcases List.eq_nil_or_concat qs with rfl | ⟨init,l,rfl⟩
  .exact#[_,?_,app (by simp[uP])];simp[turn,oE]
  .simp![List.concat_eq_append] at *;by_cases hb:x.2<l.2
   .exact#[_,?_,app (by simp[uP,hb])];simp at hq;simp[turn,oE,zg,hb,yI];lia
   .exact#[[↑(.im (.lst (ps.map zg))),↑(.own (.lst ((init++[l]).map zg))),↑(.im (zg x))],?_,init++[l],#[],by simp at hq ⊢;lia,QI hr (by simp[uP];lia)];simp[turn,oE,zg,hb,yI])
 have h5:=h4 [];simp[yG] at h5;unfold tM ZC;simp[Xe ps hl,h1,h2,h5,wJ]
theorem NY (b o:List (Int×Int)) (hl:b.length+o.length<64):oW [.tup (b.map zg),.tup (o.map zg)]=↑(.tup ((wJ (b++o)).map zg)):=by
 have h:=lT (b++o) (by exists hl);rw[Bz] at h;have:b.length+o.length<=16777216:=⋯;unfold oW ZU;simp[h,this]
def r0 (p:Int×Int):List Int:=[p.1,0,p.2]
def r1 (p:Int×Int):List Int:=[p.1,1,p.2]
def yo (l:Option Int) (v:Int):Int:=match l with
 | none=>v
 | some m=>if m<v then m else v
def vL (l:Option Int) (sh:List (Int×Int)) (f:Int->Int×Int):List (Int×Int):=match l with
 | some m=>sh++[f m]
 | none=>sh
structure Sw (b o:List (Int×Int)) (p:List (List Int)) (l0 l1:Option Int) (sh:List (Int×Int)):Prop where
 jw:∀ x,r0 x∈p->∃ m,l0=↑m/\m<=x.2
 jv:∀ x,r1 x∈p->∃ m,l1=↑m/\m<=x.2
 iJ:∀ m,l0=↑m->∃ x,r0 x∈p/\x.2=m
 iI:∀ m,l1=↑m->∃ x,r1 x∈p/\x.2=m
 len:sh.length<=p.length
 snd:∀ s∈sh,(∃ x,r0 x∈p/\x.1<=s.1/\x.2<=s.2)/\∃ x,r1 x∈p/\x.1<=s.1/\x.2<=s.2
 all:∀ x y,r0 x∈p->r1 y∈p->∃ s∈sh,(s.1<=x.1\/s.1<=y.1)/\(s.2<=x.2\/s.2<=y.2)
def nR {x y:Int×Int}(h:r0 x=r0 y):x=y:=by
 unfold r0 at h;injection h with h1 h2;injection h2 with _ h2;injection h2 with h2 _;show Prod.ext h1 h2
def nQ {x y:Int×Int}(h:r1 x=r1 y):x=y:=by
 unfold r1 at h;injection h with h1 h2;injection h2 with _ h2;injection h2 with h2 _;show Prod.ext h1 h2
def qo {x y:Int×Int}(h:r0 x=r1 y):False:=by
 unfold r0 r1 at h;injection h with h1 h2;injection h2 with h2 _;lia
def uF {p:List (List Int)}{a x:List Int}(h:a∈p++[x]):a∈p\/a=x:=by exists h
def Sw.YX {b o:List (Int×Int)}{p:List (List Int)}{l0 l1:Option Int}{sh:List (Int×Int)}(h:Sw b o p l0 l1 sh) (x:Int×Int) (hx:∀ y,r0 y∈p->y.1<=x.1) (hy:∀ y,r1 y∈p->y.1<=x.1):
  Sw b o (p++[r0 x]) ↑(yo l0 x.2) l1 (vL l1 sh λ m=>(x.1,if m>yo l0 x.2 then m else yo l0 x.2)):=by
 have lo:yo l0 x.2<=x.2/\∀ m,l0=↑m->yo l0 x.2<=m:=by
  unfold yo;cases l0 with
  | none=>show#[AL _,nofun]
  | some m=>dsimp only;split <;> exact#[⋯,λ m' e=>?_] <;> cases e <;> lia
 have la:∃ y,r0 y∈p++[r0 x]/\y.2=yo l0 x.2:=by
  unfold yo;cases l0 with
  | none=>show#[x,#[],rfl]
  | some m=>
   dsimp only;split
   .let#[y,h1,h2]:=h.iJ m rfl;show#[y,by simp[h1],h2]
   .show#[x,#[],rfl]
 have GG:∀ s∈sh,(∃ x',r0 x'∈p++[r0 x]/\x'.1<=s.1/\x'.2<=s.2)/\∃ x',r1 x'∈p++[r0 x]/\x'.1<=s.1/\x'.2<=s.2:=λ s hs=>by
  let#[#[a,a1,a2],c,c1,c2]:=h.snd s hs;show#[#[a,by simp[a1],a2],c,by simp[c1],c2]
 exact#[λ y hm=>?_,λ y hm=>?_,λ m e=>?_,λ m e=>?_,?_,λ s hs=>?_,λ y z hm hz=>?_]
 .rcases uF hm with q | q
  .let#[m,e,q2]:=h.jw y q;show#[_,rfl,by have:=lo.2 m e;lia]
  .cases nR q;show#[_,rfl,lo.1]
 .rcases uF hm with q | q
  .show h.jv y q
  .show (qo q.symm).elim
 .cases e;show la
 .let#[y,q1,q2]:=h.iI m e;show#[y,by simp[q1],q2]
 .have:=h.len;cases l1 <;> simp[vL] <;> lia
 .cases l1 with
  | none=>show GG s hs
  | some m=>
   rcases A2.mp hs with q | q
   .show GG s q
   .obtain rfl:s=_:=by exists q
    let#[y,y1,y2]:=la;let#[z,z1,z2]:=h.iI m rfl;have D9:=hy z z1;exact#[#[y,y1,?_,by dsimp only;split <;> lia],z,by simp[z1],D9,by dsimp only;split <;> lia];rcases uF y1 with w | w
    .show hx y w
    .cases nR w;show AL _
 .have Il:r1 z∈p:=by
   rcases uF hz with q | q
   .show q
   .show (qo q.symm).elim
  rcases uF hm with q | q
  .let#[s,s1,s2]:=h.all y z q Il;exact#[s,?_,s2];cases l1 <;> simp[vL,s1]
  .cases nR q;let#[m,e,hm]:=h.jv z Il;subst e;exact#[_,A6 _ Ap,.inl (AL _),?_];have:=lo.1;dsimp only;split <;> lia
def Sw.swap {b o:List (Int×Int)}{p:List (List Int)}{l0 l1:Option Int}{sh:List (Int×Int)}(x:Int×Int) (h:Sw b o p l0 l1 sh) (hx:∀ y,r0 y∈p->y.1<=x.1) (hy:∀ y,r1 y∈p->y.1<=x.1):
  Sw b o (p++[r1 x]) l0 ↑(yo l1 x.2) (vL l0 sh λ m=>(x.1,if yo l1 x.2>m then yo l1 x.2 else m)):=by
 have lo:yo l1 x.2<=x.2/\∀ m,l1=↑m->yo l1 x.2<=m:=by
  unfold yo;cases l1 with
  | none=>show#[AL _,nofun]
  | some m=>dsimp only;split <;> exact#[⋯,λ m' e=>?_] <;> cases e <;> lia
 have la:∃ y,r1 y∈p++[r1 x]/\y.2=yo l1 x.2:=by
  unfold yo;cases l1 with
  | none=>show#[x,#[],rfl]
  | some m=>
   dsimp only;split
   .let#[y,h1,h2]:=h.iI m rfl;show#[y,by simp[h1],h2]
   .show#[x,#[],rfl]
 have GG:∀ s∈sh,(∃ x',r0 x'∈p++[r1 x]/\x'.1<=s.1/\x'.2<=s.2)/\∃ x',r1 x'∈p++[r1 x]/\x'.1<=s.1/\x'.2<=s.2:=λ s hs=>by
  let#[#[a,a1,a2],c,c1,c2]:=h.snd s hs;show#[#[a,by simp[a1],a2],c,by simp[c1],c2]
 exact#[λ y hm=>?_,λ y hm=>?_,λ m e=>?_,λ m e=>?_,?_,λ s hs=>?_,λ y z hm hz=>?_]
 .rcases uF hm with q | q
  .show h.jw y q
  .show (qo q).elim
 .rcases uF hm with q | q
  .let#[m,e,q2]:=h.jv y q;show#[_,rfl,by have:=lo.2 m e;lia]
  .cases nQ q;show#[_,rfl,lo.1]
 .let#[y,q1,q2]:=h.iJ m e;show#[y,by simp[q1],q2]
 .cases e;show la
 .have:=h.len;cases l0 <;> simp[vL] <;> lia
 .cases l0 with
  | none=>show GG s hs
  | some m=>
   rcases A2.mp hs with q | q
   .show GG s q
   .obtain rfl:s=_:=by exists q
    let#[y,y1,y2]:=la;let#[z,z1,z2]:=h.iJ m rfl;have D9:=hx z z1;exact#[#[z,by simp[z1],D9,by dsimp only;split <;> lia],y,y1,?_,by dsimp only;split <;> lia];rcases uF y1 with w | w
    .show hy y w
    .cases nQ w;show AL _
 .have Iu:r0 y∈p:=by
   rcases uF hm with q | q
   .show q
   .show (qo q).elim
  rcases uF hz with q | q
  .let#[s,s1,s2]:=h.all y z Iu q;exact#[s,?_,s2];cases l0 <;> simp[vL,s1]
  .cases nQ q;let#[m,e,hm]:=h.jw y Iu;subst e;exact#[_,A6 _ Ap,.inr (AL _),?_];have:=lo.1;dsimp only;split <;> lia
structure Lw (d:List (Key×T)) (l0 l1:Option Int):Prop where
 v0:yP d (.inl 0)=l0.map T.int
 v1:yP d (.inl 1)=l1.map T.int
 len:d.length=(if l0.isSome then 1 else 0)+if l1.isSome then 1 else 0
def Lw.XC {d:List (Key×T)}{l0 l1:Option Int}(h:Lw d l0 l1) (v:Int):Lw (wI d (.inl 0) (.int v)) ↑v l1:=by
 exact#[by rw[nu];simp,by rw[nu];simpa using h.v1,?_];rw[d7,h.v0,h.len];cases l0 <;> cases l1 <;> simp
def Lw.XB {d:List (Key×T)}{l0 l1:Option Int}(h:Lw d l0 l1) (v:Int):Lw (wI d (.inl 1) (.int v)) l0 ↑v:=by
 exact#[by rw[nu];simpa using h.v0,by rw[nu];simp,?_];rw[d7,h.v1,h.len];cases l0 <;> cases l1 <;> simp
def mL {rows p q:List (List Int)}{x:List Int}(e:L4.xn rows=p++x::q) {a:List Int}(ha:a∈p) {i j:Int}{as xs:List Int}(h1:a=i::as) (h2:x=j::xs):i<=j:=by
 have h:=L4.kB rows;rw[e,C6] at h;have:=h.2.2 a ha x Ap;subst h1 h2;rw[HT.sg] at this;by_cases c:j=i
 .lia
 .rw[if_neg c] at this;have:=of_decide_eq_false this;lia
def Nd {a0 a1 a2:W}{d:List (Key×T)}{S:List T}{x k y:Int}{lk:Option Int}(hv:yP d (.inl k)=lk.map T.int) (hd:d.length<16777216):
  ik 3 (zc 6) (zo vP (za (zc 7) (za (il 3 (zc 6) (zi 7)) zf))) [↑a0,↑a1,↑a2,↑(.own (.zU d)),↑(.own (.lst S)),↑(.im (.int x)),↑(.im (.int k)),↑(.im (.int y))] =
   ↑(.nx [↑a0,↑a1,↑a2,↑(.own (.zU (wI d (.inl k) (.int (yo lk y))))),↑(.own (.lst S)),↑(.im (.int x)),↑(.im (.int k)),↑(.im (.int y))]):=by
 have hm:vP [.int y,(yP d (.inl k)).getD (.int y)]=↑(.int (yo lk y)):=by rw[hv];cases lk <;> simp[yo]
 change (vP [.int y,(yP d (.inl k)).getD (.int y)]).bind _=_;rw[hm];show if_pos hd
def bS (S:List T) (x:Int):Option Int->Option Int->List T
 | some u,↑v=>S++[.tup [.int x,.int (if v>u then v else u)]]
 | _,_=>S
def Nf {a0 a1 a2:W}{d:List (Key×T)}{S:List T}{x:Int}{f g:Option W}{l0 l1:Option Int}(h:Lw d l0 l1) (hs:S.length<16777216):
  yu (zB (zb (zD false) (ou 3) (cI 2))) (wb 4 (tupS (za (zi 5) (za (zo rh (za (rG 3 (cI 0)) (za (rG 3 (cI 1)) zf))) zf)))) yE [↑a0,↑a1,↑a2,↑(.own (.zU d)),↑(.own (.lst S)),↑(.im (.int x)),f,g] =
   ↑(.nx [↑a0,↑a1,↑a2,↑(.own (.zU d)),↑(.own (.lst (bS S x l0 l1))),↑(.im (.int x)),f,g]):=by
 have ht:zD false (.int d.length) (.int 2)=↑(.bl (l0.isSome&&l1.isSome)):=by
  rw[h.len];cases l0 <;> cases l1 <;> rfl
 have hT:zB (zb (zD false) (ou 3) (cI 2)) [↑a0,↑a1,↑a2,↑(.own (.zU d)),↑(.own (.lst S)),↑(.im (.int x)),f,g]=↑(l0.isSome&&l1.isSome):=by
  change ((zD false (.int d.length) (.int 2)).bind _)=_;rw[ht];rfl
 exact (congrArg (Option.bind · _) hT).trans ?_;cases l0 with
 | none=>rfl
 | some u=>
  cases l1 with
  | none=>rfl
  | some v=>
   have hf:tupS (za (zi 5) (za (zo rh (za (rG 3 (cI 0)) (za (rG 3 (cI 1)) zf))) zf)) [↑a0,↑a1,↑a2,↑(.own (.zU d)),↑(.own (.lst S)),↑(.im (.int x)),f,g]=↑(.tup [.int x,.int (if v>u then v else u)]):=by simp[h.v0,h.v1]
   show (congrArg (Option.bind · _) hf).trans (if_pos hs)
def ae {a0 a1 a2:W}{d:List (Key×T)}{S:List T}{x k y:Int}{lk l0 l1:Option Int}(hv:yP d (.inl k)=lk.map T.int) (hd:d.length<16777216) (h:Lw (wI d (.inl k) (.int (yo lk y))) l0 l1) (hs:S.length<16777216):
  turn (xH 3 (zZ (zt 5) (zZ (zt 6) (zZ (zt 7) xY)))) iG (.tup [.int x,.int k,.int y]) [↑a0,↑a1,↑a2,↑(.own (.zU d)),↑(.own (.lst S)),none,none,none] =
   ↑(.nx [↑a0,↑a1,↑a2,↑(.own (.zU (wI d (.inl k) (.int (yo lk y))))),↑(.own (.lst (bS S x l0 l1))),↑(.im (.int x)),↑(.im (.int k)),↑(.im (.int y))]):=
 (congrArg (Option.bind · _) (Nd hv hd)).trans (Nf h hs)
theorem Mf (b o:List (Int×Int)) (hl:b.length+o.length<64):∃ sh:List (Int×Int),oX [.tup (b.map zg),.tup (o.map zg)]=↑(.tup ((wJ sh).map zg))/\sh.length<64/\∀ q,zv sh q=(zv b q&&zv o q):=by
 let a0:W:=.im (.tup (b.map zg))
 let a1:W:=.im (.tup (o.map zg))
 let rows:=b.map r0++o.map r1
 let a2:W:=.im (.lst (rows.map yd))
 have hlen:rows.length<64:=by simp[rows];show hl
 have hs:qh [.lst (rows.map yd)]=↑(.lst ((L4.xn rows).map yd)):=by
  change ((w_ (rows.map yd)).bind λ rs=>_)=_;rw[kH,AW,if_pos #[hlen,λ r hr=>by
   rcases A2.mp hr with h | h <;> let#[_,_,rfl]:=Ao.mp h <;> simp[r0,r1]]]
 have IL:(L4.xn rows).length=rows.length:=(L4.ug rows).length_eq;let#[J1,h1,d,l0,l1,sh,e1,w1,s1]:=xR (is:=[5,6,7]) (g:=xH 3 (zZ (zt 5) (zZ (zt 6) (zZ (zt 7) xY)))) (b:=iG) yd (λ p J=>∃ d l0 l1 sh,J=[↑a0,↑a1,↑a2,↑(.own (.zU d)),↑(.own (.lst (sh.map zg))),none,none,none]/\Lw d l0 l1/\Sw b o p l0 l1 sh) (L4.xn rows) [↑a0,↑a1,↑a2,↑(.own (.zU [])),↑(.own (.lst [])),none,none,none]
  #[[],none,none,[],#[],#[rfl,rfl,rfl],#[nofun,nofun,nofun,nofun,#[],nofun,nofun]] (by
  rintro p x q e J ⟨d,l0,l1,sh,rfl,hw,BX⟩;have hx:x∈rows:=(L4.ug rows).mem_iff.mp (by rw[e];simp);have Ar:p.length<64:=by
   have:=congrArg List.length e;rw[IL] at this;simp at this;lia
  have Br:sh.length<16777216:=by have:=BX.len;lia
  have Dn:d.length<16777216:=by rw[hw.len];split <;> split <;> lia
  rcases A2.mp hx with hm | hm
  .let#[y,_,rfl]:=Ao.mp hm;have st:=BX.YX y (λ z hz=>mL e hz rfl rfl) (λ z hz=>mL e hz rfl rfl);have GJ:=hw.XC (yo l0 y.2);exact#[[↑a0,↑a1,↑a2,↑(.own (.zU (wI d (.inl 0) (.int (yo l0 y.2))))),↑(.own (.lst ((vL l1 sh λ m=>(y.1,if m>yo l0 y.2 then m else yo l0 y.2)).map zg))),↑(.im (.int y.1)),↑(.im (.int 0)),↑(.im (.int y.2))],?_,_,_,_,_,#[],GJ,st];rw[show ((vL l1 sh λ m=>(y.1,if m>yo l0 y.2 then m else yo l0 y.2)).map zg)=bS (sh.map zg) y.1 ↑(yo l0 y.2) l1 by cases l1 <;> simp[vL,bS,zg]];show ae hw.v0 Dn GJ (by exists Br)
  .let#[y,_,rfl]:=Ao.mp hm;have st:=BX.swap y (λ z hz=>mL e hz rfl rfl) (λ z hz=>mL e hz rfl rfl);have GJ:=hw.XB (yo l1 y.2);exact#[[↑a0,↑a1,↑a2,↑(.own (.zU (wI d (.inl 1) (.int (yo l1 y.2))))),↑(.own (.lst ((vL l0 sh λ m=>(y.1,if yo l1 y.2>m then yo l1 y.2 else m)).map zg))),↑(.im (.int y.1)),↑(.im (.int 1)),↑(.im (.int y.2))],?_,_,_,_,_,#[],GJ,st];rw[show ((vL l0 sh λ m=>(y.1,if yo l1 y.2>m then yo l1 y.2 else m)).map zg)=bS (sh.map zg) y.1 l0 ↑(yo l1 y.2) by cases l0 <;> simp[vL,bS,zg]];show ae hw.v1 Dn GJ (by exists Br))
 have DR:sh.length<64:=by have:=s1.len;lia
 exact#[sh,?_,DR,λ q=>?_]
 .subst e1;have HX:aa [↑a0,↑a1,none,none,none,none,none,none]=↑(.lst ((b.map r0).map yd)):=by
   rw[A0];show sj zg (yd ∘ r0) b (by simp[a0]) ⋯ λ y _=>by simp[zg,yd,r0]
  have F_:bZ [↑a0,↑a1,none,none,none,none,none,none]=↑(.lst ((o.map r1).map yd)):=by
   rw[A0];show sj zg (yd ∘ r1) o (by simp[a1]) ⋯ λ y _=>by simp[zg,yd,r1]
  have hF:=lT sh DR;have z:b.length+o.length<=16777216:=⋯;simp![a0,a1,a2,rows,Bz] at HX F_ hs h1;unfold oX ZX;simp[HX,F_,z,hs,h1,hF] at HX F_ hs h1 ⊢;simp[HX,F_,z,hs,h1,hF]
 .have m0:∀ x,r0 x∈L4.xn rows↔x∈b:=λ x=>by
   rw[(L4.ug rows).mem_iff];constructor
   .intro h;rcases A2.mp h with h | h <;> let#[y,hy,e]:=Ao.mp h
    .cases nR e;show hy
    .show (qo e.symm).elim
   .show λ h=>Cp _ (List.mem_map_of_mem h)
  have m1:∀ x,r1 x∈L4.xn rows↔x∈o:=λ x=>by
   rw[(L4.ug rows).mem_iff];constructor
   .intro h;rcases A2.mp h with h | h <;> let#[y,hy,e]:=Ao.mp h
    .show (qo e).elim
    .cases nQ e;show hy
   .show λ h=>A6 _ (List.mem_map_of_mem h)
  rw[A7,Cr,yv,yv,yv];constructor
  .rintro⟨s,hs,g1,g2⟩;let#[#[x,x1,x2,x3],y,y1,y2,y3]:=s1.snd s hs;show#[#[x,(m0 x).mp x1,⋯,⋯],y,(m1 y).mp y1,⋯,⋯]
  .rintro⟨⟨x,x1,x2,x3⟩,y,y1,y2,y3⟩;let#[s,s1,g1,g2]:=s1.all x y ((m0 x).mpr x1) ((m1 y).mpr y1);show#[s,s1,⋯,⋯]
theorem ip {α:Type}(enc:α->T) (n:Nat) (h:∀ x,dep (enc x)<=n):∀ xs:List α,x9 (xs.map enc)<=n
 | []=>by simp[x9]
 | x::xs=>by
  have:=h x;have:=ip enc n h xs;simp![Av,x9];lia
def Og (p:Int×Int):dep (zg p)<=1:=by simp[zg,dep,x9]
def bq (ps:List (Int×Int)):dep (.tup (ps.map zg))<=60:=by
 have:=ip zg 1 Og ps;simp![dep];lia
end zS
namespace zS
open PySem L2 L3 L5 RN
def bT (b:Bd):T:=.tup (b.map zg)
def rT (r:List Bd):T:=.lst (r.map bT)
def kt (b:Bool):T:=if b=true then .str "keeper" else .str "taker"
def zO (w:Wy):T:=.tup [.int w.f,.int w.t,.int w.a,.int w.b]
def wq (b:Bool):Int:=if b=true then 1 else 0
def yi (s:Sl):T:=.tup [.int s.p,.int (wq s.pu),.int s.gv,.int s.gt]
def zq (F:zm):T:=.tup [.tup [.int F.A,.int F.B],.tup (F.os.map kt),.tup (F.ws.map zO),.tup (F.ss.map yi)]
def eq_int (i j:Int) (neg:Bool):zD neg (.int i) (.int j)=↑(.bl (cond neg (!decide (i=j)) (decide (i=j)))):=by
 simp[zD,dep,eqT];cases neg <;> simp[Bool.beq_eq_decide_eq]
def aU (F:zm):r_ [zq F]=↑(.int F.os.length):=by
 simp[r_,Z7,zq]
def aW (q p:Int×Int):ph [zg q,zg p]=↑(.bl (x8 q p)):=by
 by_cases h1:p.1<=q.1 <;> by_cases h2:p.2<=q.2 <;> simp[ph,Ya,zg,x8,h1,h2]
def Nj {α:Type}(g:α->Bool) (xs:List α):sJ (xs.map λ x=>T.bl (g x))=↑(xs.map g):=by
 have:=Nk (xs.map g)
 rwa [A0] at this
theorem NR (ps:List (Int×Int)) (q:Int×Int) (hl:ps.length<=10000):oV [bT ps,zg q]=↑(.bl (zv ps q)):=by
 have hc:lh [↑(.im (bT ps)),↑(.im (zg q))]=↑(.lst (ps.map λ p=>T.bl (x8 q p))):=by
  unfold lh;exact sj zg _ ps (by simp[bT]) ⋯ λ p _=>?_;simp[aW]
 unfold oV ZS;generalize lh=cc at hc ⊢;simp[hc,Nj];rfl
theorem Mi (A B:Int) (w:Wy) (bd:Bd) (hl:bd.length<64):o_ [.tup [.int A,.int B],zO w,bT bd]=↑(bT (sM A B w.a w.b bd)):=by
 have h1:lj [↑(.im (.tup [.int A,.int B])),↑(.im (zO w)),↑(.im (bT bd)),none]=↑(.lst ((bd.map (yU w.a w.b)).map zg)):=by
  rw[A0];unfold lj;exact sj zg _ bd (by simp[bT]) ⋯ λ p _=>?_;simp[zg,zO,yU,y7,rC]
 have h2:mY [↑(.im (.tup [.int A,.int B])),↑(.im (zO w)),↑(.im (bT bd)),↑(.im (.lst ((bd.map (yU w.a w.b)).map zg)))]=↑(.lst (((bd.map (yU w.a w.b)).filter (vc A B)).map zg)):=by
  have:=pQ zg (λ p=>if vc A B p=true then ↑(zg p) else none) (pick:=[none,↑0]) (it:=yA (zc 3)) (g:=zt 0) (c:=xG (zo ph (za (zi 1) (za (zi 0) zf)))) (f:=zi 0) (J:=[↑(.im (.tup [.int A,.int B])),↑(.im (zO w)),↑(.im (bT bd)),↑(.im (.lst ((bd.map (yU w.a w.b)).map zg)))]) (bd.map (yU w.a w.b)) #[] (by simp;lia) (λ p _=>by
   have e:T.tup [.int A,.int B]=zg (A,B):=rfl;have ga:x8 (A,B) p=vc A B p:=rfl;simp![rp,e];simp[aW,ga];cases vc A B p <;> simp)
  unfold mY;rw[this,show ∀ l:List (Int×Int),l.filterMap (λ p=>if vc A B p=true then ↑(zg p) else none)=(l.filter (vc A B)).map zg from λ l=>by
   induction l with
   | nil=>rfl
   | cons a l ih=>by_cases h:vc A B a=true <;> simp[Cq,h,ih]]
 have h3:=lT ((bd.map (yU w.a w.b)).filter (vc A B)) (DL (CB _ _) (by exists hl));unfold o_ Z_;generalize lj=d1 at h1 ⊢;generalize mY=d2 at h2 ⊢;generalize tM=ff at h3 ⊢;generalize (bd.map (yU w.a w.b)).map zg=L1 at h1 h2;generalize (((bd.map (yU w.a w.b)).filter (vc A B)).map zg)=L2 at h2 h3;simp[h1,h2,h3];rfl
def NX (b c:Bd) (hl:b.length+c.length<64):oW [bT b,bT c]=↑(bT (vY b c)):=NY b c hl
def Me (b c:Bd) (hl:b.length+c.length<64):oX [bT b,bT c]=↑(bT (vE b c)):=by
 let#[sh,h1,_,h2]:=Mf b c hl;have:wJ sh=vE b c:=vp.eq (j0 _) (j0 _) λ q=>by
  rw[qy,h2,<- af]
 rw[<- this];show h1
theorem NW {A B:Int}(hA:0<=A/\A<=12) (bs:List Bd) (h:∀ b∈bs,Gd A B b):oY [.lst (bs.map bT)]=↑(bT (vZ bs)):=by
 let#[J',h1,h2]:=xR (is:=[2]) (g:=zt 2) (b:=l9) bT (λ p J=>J=[↑(.im (.lst (bs.map bT))),↑(.im (bT (p.foldl vY []))),none]) bs [↑(.im (.lst (bs.map bT))),↑(.im (bT [])),none] rfl (by
  rintro p x q e J rfl;have g1:Gd A B (p.foldl vY []):=oh p [] Gd.nil λ c hc=>h c (by rw[e];simp[hc]);have g2:Gd A B x:=h x (by rw[e];simp);have l1:=g1.rn hA.1;have l2:=g2.rn hA.1;exact#[[↑(.im (.lst (bs.map bT))),↑(.im (bT (vY (p.foldl vY []) x))),↑(.im (bT x))],?_,#[]];simp[turn,l9,NX (p.foldl vY []) x ⋯])
 subst h2;unfold oY ZY;generalize l9=bb at h1 ⊢;have e:bT []=.tup []:=rfl;rw[e] at h1;simp[h1,vZ]
theorem Md {A B:Int}(hA:0<=A/\A<=12) (hB:0<=B) (bs:List Bd) (h:∀ b∈bs,Gd A B b):oZ [.lst (bs.map bT)]=↑(bT (qT bs)):=by
 let#[J',h1,h2]:=xR (is:=[2]) (g:=zt 2) (b:=lA) bT (λ p J=>J=[↑(.im (.lst (bs.map bT))),↑(.im (bT (p.foldl vE yW))),none]) bs [↑(.im (.lst (bs.map bT))),↑(.im (bT yW)),none] rfl (by
  rintro p x q e J rfl;have g1:Gd A B (p.foldl vE yW):=i5 p yW (Gd.yW hA.1 hB) λ c hc=>h c (by rw[e];simp[hc]);have g2:Gd A B x:=h x (by rw[e];simp);have l1:=g1.rn hA.1;have l2:=g2.rn hA.1;exact#[[↑(.im (.lst (bs.map bT))),↑(.im (bT (vE (p.foldl vE yW) x))),↑(.im (bT x))],?_,#[]];simp[turn,lA,Me (p.foldl vE yW) x ⋯])
 subst h2;unfold oZ ZZ;generalize lA=bb at h1 ⊢;have e:bT yW=.tup [.tup [.int 0,.int 0]]:=rfl;rw[e] at h1;simp[h1,qT]
theorem my {α:Type}{is:List Nat}{g:T->Ev->Option Ev}{b:Sm}(enc ret:α->T) (test:α->Bool) (J0:Ev):∀ (xs:List α) (J:Ev),yB is J=J0->
  (∀ x∈xs,∃ J',yB is J'=J0/\turn g b (enc x) J0=↑(if test x=true then .rt (ret x) else .nx J'))->
  xI is g b (xs.map enc) J=↑(match xs.find? test with | some x=>.rt (ret x) | none=>.nx J0)
 | [],J,h,_=>by rw[Ba,List.find?_nil,xI,h]
 | x::xs,J,h,ht=>by
  rw[Av,di,h];let#[J',h1,h2]:=ht x Ap;rw[h2,Bv];by_cases c:test x=true
  .rw[if_pos c,c];rfl
  .rw[if_neg c];rw[DX] at c;rw[c];show my enc ret test J0 xs J' h1 λ y hy=>ht y (Aw _ hy)
def aR (i a b:Int):oT [.int i,.int a,.int b]=↑(.bl (decide (a<=i)&&decide (i<=b))):=by
 have h:l_ [.int i]=↑(.bl true):=by simp[l_,ZQ,uG]
 by_cases h1:a<=i <;> by_cases h2:i<=b <;> simp[oT,ZO,h,h1,h2]
theorem hX (F:zm) (p:Nat) (h:p<F.os.length):pb [zq F,.int p]=↑.zp:=by
 have h1:=aR p 0 ((F.os.length:Int)-1);rw[show decide ((0:Int)<=p)=true from JF ⋯,show decide ((p:Int)<=(F.os.length:Int)-1)=true from JF ⋯] at h1;have h2:=aU F;unfold pb ZV;generalize zq F=fl at *;simp[h1,h2]
def O4 (pu:Bool) (A B:Int) (sp gv gt:Int) (x y:Int) (hg:1<=gv) (b0 b1:T) (hb:zh b0 (.int (wq pu))=↑(.int (if pu=true then B else A))) (Hg:zh b1 (.int 2)=↑(.int gv)) (hs3:zh b1 (.int 3)=↑(.int gt)) (pr:T):
  ∀ (n m:Nat) (g t:Int) (acc:Bd),(if pu=true then B else A)+1-g<=n->n<m->acc.length+n<=1000->
  ∃ g' t',yO [] (zB (zb qz (zc 5) (zb zh (zc 0) (zc 3)))) rN m [↑(.im b0),↑(.im b1),↑(.im pr),↑(.im (.int (wq pu))),↑(.own (.lst (acc.map zg))),↑(.im (.int g)),↑(.im (.int t))]
   = ↑(.nx [↑(.im b0),↑(.im b1),↑(.im pr),↑(.im (.int (wq pu))),↑(.own (.lst ((acc++xA pu (if pu=true then B else A) gv gt n g t).map zg))),↑(.im (.int g')),↑(.im (.int t'))]):=by
 have Bl:∀ (m:Nat) (g t:Int) (acc:Bd),¬ g<=(if pu=true then B else A)->yO [] (zB (zb qz (zc 5) (zb zh (zc 0) (zc 3)))) rN (m+1) [↑(.im b0),↑(.im b1),↑(.im pr),↑(.im (.int (wq pu))),↑(.own (.lst (acc.map zg))),↑(.im (.int g)),↑(.im (.int t))]
   = ↑(.nx [↑(.im b0),↑(.im b1),↑(.im pr),↑(.im (.int (wq pu))),↑(.own (.lst (acc.map zg))),↑(.im (.int g)),↑(.im (.int t))]):=λ m g t acc hn=>by
  unfold yO;simp![zh] at hb;simp[hb,hn]
 intro n
 induction n with
 | zero=>
  intro m g t acc h1 h2 h3;obtain⟨m,rfl⟩:∃ k,m=k+1:=#[m-1,⋯];exact#[g,t,?_];rw[Bl m g t acc ⋯];simp[xA]
 | succ n ih=>
  intro m g t acc h1 h2 h3;obtain⟨m,rfl⟩:∃ k,m=k+1:=#[m-1,⋯];by_cases hc:g<=(if pu=true then B else A)
  .let#[g',t',e]:=ih m (g+gv) (y7 (t-gt)) (acc++[yN pu g t]) ⋯ ⋯ (by simp;lia);exact#[g',t',?_];have Jl:rN [↑(.im b0),↑(.im b1),↑(.im pr),↑(.im (.int (wq pu))),↑(.own (.lst (acc.map zg))),↑(.im (.int g)),↑(.im (.int t))]=↑(.nx [↑(.im b0),↑(.im b1),↑(.im pr),↑(.im (.int (wq pu))),↑(.own (.lst ((acc++[yN pu g t]).map zg))),↑(.im (.int (g+gv))),↑(.im (.int (y7 (t-gt))))]):=by
    simp![zh] at Hg hs3;have hl:acc.length<16777216:=⋯;unfold rN;cases pu <;> simp[wq,eq_int,Hg,hs3,hl,rC,y7,yN,zg]
   unfold yO;simp![zh] at hb;generalize rN=bb at *;have e2:xA pu (if pu=true then B else A) gv gt (n+1) g t=yN pu g t::xA pu (if pu=true then B else A) gv gt n (g+gv) (y7 (t-gt)):=by
    rw[xA,if_pos hc]
   rw[e2];simp![CM,List.singleton_append] at e;simp[hb,hc,Jl];exists e
  .exact#[g,t,?_];rw[Bl m g t acc hc,xA,if_neg hc,BE]
theorem N_ {F:zm}(ok:F.Ok) (s:Sl) (hs:1<=s.gv/\0<=s.gt) (p:Int×Int) (h0:0<=p.1/\0<=p.2):oO [.tup [.int F.A,.int F.B],yi s,zg p]=↑(.lst ((yQ F s p).map zg)):=by
 let#[sp,pu,gv,gt]:=s;have a1:=ok.a1;have b1:=ok.b1;let#[g',t',h]:=O4 pu F.A F.B sp gv gt p.1 p.2 hs.1 (.tup [.int F.A,.int F.B]) (yi #[sp,pu,gv,gt]) (by cases pu <;> simp[wq]) (by simp[yi]) (by simp[yi]) (zg p) 100 1000000 (zM pu p) (yj pu p) [] (by cases pu <;> simp[zM] <;> lia) () #[];unfold oO Z8 tS;generalize hb:rN=bb at h ⊢;unfold yQ zm.zK;simp![Ba,List.nil_append] at h;cases pu <;> simp[yi,wq,zg,zM,yj] at h ⊢ <;> simp[h]
theorem NG (F:zm) (p:Nat) (h:p<F.os.length) (hl:F.ss.length<=60):rY [zq F,.int p]=↑(match F.Fi p with | some s=>yi s | none=>.zp):=by
 have FW:=my (is:=[2]) (g:=zt 2) (b:=oD) yi yi (λ s=>decide (s.p=p)) [↑(.im (zq F)),↑(.im (.int p)),none] F.ss [↑(.im (zq F)),↑(.im (.int p)),none] #[] λ s _=>#[[↑(.im (zq F)),↑(.im (.int p)),↑(.im (yi s))],#[],by
  by_cases c:s.p=p
  .simp[turn,oD,yi,eq_int,c]
  .have c':¬ ((s.p:Int)=(p:Int)):=⋯;simp[turn,oD,yi,eq_int,c,c']]
 have h1:=hX F p h;have h2:zh (zq F) (.int 3)=↑(.tup (F.ss.map yi)):=by simp[zq]
 unfold rY Z5;generalize oD=bb,zq F=fl at *;simp![zh] at h2;unfold zm.Fi;generalize F.ss.find? _=o at *;simp[h1,h2,FW];cases o <;> simp
theorem c_:∀ (ws:List Wy) (k:Nat),tB k (ws.map zO)=(ws.zipIdx k).map λ wi=>T.tup [.int (wi.2:Int),zO wi.1]
 | [],k=>rfl
 | w::ws,k=>by
  rw[Av,tB,c_ ws (k+1),Ds,Av]
theorem kf (f:Wy->Bool):∀ (ws:List Wy) (k:Nat),((ws.zipIdx k).filter λ wi=>f wi.1).map (λ wi=>wi.1)=ws.filter f
 | [],k=>rfl
 | w::ws,k=>by
  rw[Ds,List.filter_cons,List.filter_cons];by_cases c:f w=true
  .rw[if_pos (by show c),if_pos c,Av,kf f ws]
  .rw[if_neg (by show c),if_neg c,kf f ws]
theorem ND (F:zm) (p:Nat) (h:p<F.os.length) (hl:F.ws.length<=60):oM [zq F,.int p]=↑(.lst (((F.ws.zipIdx).filter λ wi=>decide (wi.1.f=p)).map λ wi=>T.int (wi.2:Int))):=by
 have hc:mZ [↑(.im (zq F)),↑(.im (.int p))]=↑(.lst (((F.ws.zipIdx).filter λ wi=>decide (wi.1.f=p)).map λ wi=>T.int (wi.2:Int))):=by
  have:=pQ (λ wi:Wy×Nat=>T.tup [.int (wi.2:Int),zO wi.1]) (λ wi=>if wi.1.f=p then ↑(T.int (wi.2:Int)) else none) (pick:=[none,none,↑1]) (it:=xx vC (za (zb zh (zc 0) (cI 2)) zf)) (g:=xH 2 (zZ (zt 0) (zZ (zt 1) xY))) (c:=zB (zb (zD false) (zb zh (zc 1) (cI 0)) (zc 2))) (f:=zi 0) (J:=[↑(.im (zq F)),↑(.im (.int p))]) (F.ws.zipIdx) (by
   rw[<- c_];simp[zq]) (by simp;lia) (λ wi _=>by
   by_cases c:wi.1.f=p
   .simp[zO,eq_int,c]
   .have c':¬ ((wi.1.f:Int)=(p:Int)):=⋯;simp[zO,eq_int,c,c'])
  unfold mZ;rw[this];congr 2
  induction F.ws.zipIdx with
  | nil=>rfl
  | cons a l ih=>by_cases c:a.1.f=p <;> simp[Cq,c,ih]
 have h1:=hX F p h;unfold oM Z4;generalize mZ=cc,zq F=fl at *;generalize List.map (λ wi:Wy×Nat=>T.int (wi.2:Int)) _=LL at *;simp[h1,hc]
theorem cY:∀ (b c:Bd),xj (b.map zg) (c.map zg)=decide (b=c)
 | [],[]=>by simp[xj]
 | [],_::_=>by simp[xj]
 | _::_,[]=>by simp[xj]
 | p::b,q::c=>by
  have h:=cY b c;have e:eqT (zg p) (zg q)=decide (p=q):=by
   let#[p1,p2]:=p;let#[q1,q2]:=q;by_cases h1:p1=q1 <;> by_cases h2:p2=q2 <;> simp[zg,eqT,xj,h1,h2]
  rw[Av,Av,xj,e,h];by_cases h1:p=q <;> by_cases h2:b=c <;> simp[h1,h2]
def Rw (b c:Bd):zD true (bT b) (bT c)=↑(.bl (decide (b≠c))):=by
 have h1:dep (bT b)<=60:=bq b;have h2:dep (bT c)<=60:=bq c;unfold zD;rw[if_pos #[h1,h2]];change ↑(T.bl (!(xj (b.map zg) (c.map zg))))=_;rw[cY];by_cases h:b=c <;> simp[h]
def mB (l:List Bd) (p:Nat) (h:p<l.length):zh (rT l) (.int p)=↑(bT (l.getD p [])):=by
 change L2.zT (l.map bT) (p:Int)=_;exact vi ?_;rw[AH,AU h,A3,AU h];rfl
theorem NZ {F:zm}(ok:F.Ok) (p:Nat) (hp:p<F.os.length) (b:Bd) (hb:Gd F.A F.B b):pd [zq F,.int p,bT b]=↑(bT (match F.Fi p with | none=>b | some s=>rL F s b)):=by
 have h1:=NG F p hp ok.s8;cases hs:F.Fi p with
 | none=>
  rw[hs] at h1;unfold pd gk;generalize rY=f1 at h1 ⊢;generalize zq F=fl,bT b=bb at *;have is1:rA false .zp .zp=↑(.bl true):=rfl;simp[h1,is1]
 | some s=>
  rw[hs] at h1;replace h1:rY [zq F,.int p]=↑(yi s):=h1;have A9:s∈F.ss:=CF hs;have hsz:=ok.ss s A9;have FZ:(F.A+1)*(F.B+1)<64:=by
   rcases ok.sl with x | x
   .rw[x] at A9;cases A9
   .show x
  have a0:=ok.a0;have b0:=ok.b0;have Es:∀ x∈b,((yQ F s x).length:Int)<=F.zK s.pu+1:=λ x hx=>by
   have q:=hb.xy x hx;have:=bQ s.pu (F.zK s.pu) s.gv s.gt hsz.1 100 (zM s.pu x) (yj s.pu x) (by unfold zm.zK zM;split <;> lia);have g0:0<=zM s.pu x:=by unfold zM;split <;> lia
   unfold yQ;lia
  have Az:∀ q:Bd,(∀ x∈q,x∈b)->((q.flatMap (yQ F s)).length:Int)<=q.length*(F.zK s.pu+1):=λ q=>by
   induction q with
   | nil=>intro _;simp
   | cons x q ih=>
    intro hq;have i1:=ih λ y hy=>hq y (Aw _ hy);have i2:=Es x (hq x Ap);rw[Cf,Bp,A5,CT,CT,CD];lia
  have hlen:(b.flatMap (yQ F s)).length<64:=by
   have h2:=Az b λ _ h=>h;have l1:=hb.rn a0;have l2:=hb.RT b0;have:((b.flatMap (yQ F s)).length:Int)<64:=by
    exact Int.lt_of_le_of_lt h2 (Int.lt_of_le_of_lt ?_ FZ);unfold zm.zK;split
    .show zcH l1 ⋯
    .rw[Int.mul_comm (F.A+1)];show zcH l2 ⋯
   lia
  have EL:zh (zq F) (.int 0)=↑(.tup [.int F.A,.int F.B]):=by simp[zq]
  let#[J',h2,h3]:=xR (is:=[5]) (g:=zt 5) (b:=lB) zg (λ q J=>J=[↑(.im (zq F)),↑(.im (.int p)),↑(.im (bT b)),↑(.im (yi s)),↑(.own (.lst ((q.flatMap (yQ F s)).map zg))),none]) b [↑(.im (zq F)),↑(.im (.int p)),↑(.im (bT b)),↑(.im (yi s)),↑(.own (.lst [])),none] rfl (by
   rintro q x r e J rfl;have hx:x∈b:=by rw[e];simp
   have q1:=hb.xy x hx;have hF:=N_ ok s hsz x #[q1.1.1,q1.2.1];have Hu:(q.flatMap (yQ F s)).length+(yQ F s x).length<=16777216:=by
    have e2:(b.flatMap (yQ F s)).length=(q.flatMap (yQ F s)).length+((yQ F s x).length+(r.flatMap (yQ F s)).length):=by rw[e];simp
    lia
   exact#[[↑(.im (zq F)),↑(.im (.int p)),↑(.im (bT b)),↑(.im (yi s)),↑(.own (.lst (((q++[x]).flatMap (yQ F s)).map zg))),↑(.im (zg x))],?_,#[]];have e3:((q++[x]).flatMap (yQ F s)).map zg=(q.flatMap (yQ F s)).map zg++(yQ F s x).map zg:=#[];rw[e3];unfold turn lB;have l3:((q.flatMap (yQ F s)).map zg).length+((yQ F s x).map zg).length<=16777216:=by exists Hu
   generalize oO=ff,(q.flatMap (yQ F s)).map zg=L1,(yQ F s x).map zg=L2,zq F=fl at *;simp![zh] at EL;simp[EL,hF,l3])
  subst h3;have hF:=lT (b.flatMap (yQ F s)) hlen;have nn:rA false (yi s) .zp=↑(.bl false):=rfl;unfold pd gk;generalize lB=bb,tM=ff,rY=f1 at *;generalize (b.flatMap (yQ F s)).map zg=L1 at *;have hbT:xv (bT b)=↑(b.map zg):=rfl;generalize bT b=bt,zq F=fl,yi s=st at *;simp[h1,nn,hbT,h2,hF];rfl
theorem NN {F:zm}(ok:F.Ok) (p:Nat) (hp:p<F.os.length) (l:List Bd) (hl:l.length=F.os.length) (hg:∀ b∈l,Gd F.A F.B b):oP [zq F,.int p,rT l]=↑(bT (yg F l p)):=by
 have h1:=ND F p hp ok.tT;have HL:zh (zq F) (.int 2)=↑(.tup (F.ws.map zO)):=by simp[zq]
 have Gu:zh (zq F) (.int 0)=↑(.tup [.int F.A,.int F.B]):=by simp[zq]
 have Jc:zh (zq F) (.int 1)=↑(.tup (F.os.map kt)):=by simp[zq]
 have c1:lb [↑(.im (zq F)),↑(.im (.int p)),↑(.im (rT l)),none,none]=↑(.lst ((F.ws.filter λ w=>decide (w.f=p)).map zO)):=by
  rw[<- kf (λ w=>decide (w.f=p)) F.ws 0,A0];unfold lb;exact sj (λ wi:Wy×Nat=>T.int (wi.2:Int)) _ ((F.ws.zipIdx).filter λ wi=>decide (wi.1.f=p)) ?_ (Be (CB _ _) (by rw[List.length_zipIdx];have:=ok.tT;lia)) λ wi CN=>?_
  .generalize oM=ff at *;simp[h1]
  .have hm:=(Bb.mp CN).1;have hg:=List.mem_zipIdx_iff_getElem?.mp hm;have:L2.zT (F.ws.map zO) (wi.2:Int)=↑(zO wi.1):=by
    show vi (by rw[AH,hg];rfl)
   generalize zq F=fl at *;simp![zh] at HL;simp[HL,this]
 have c2:mX [↑(.im (zq F)),↑(.im (.int p)),↑(.im (rT l)),↑(.im (.lst ((F.ws.filter λ w=>decide (w.f=p)).map zO))),none]=↑(.lst ((xB F l p).map bT)):=by
  unfold xB;rw[A0];unfold mX;exact sj zO _ (F.ws.filter λ w=>decide (w.f=p)) #[] (Be (CB _ _) (by have:=ok.tT;lia)) λ w hw=>?_;have hm:=(Bb.mp hw).1;have ht:w.t<l.length:=by rw[hl];show (ok.ws w hm).2
  have e1:=mB l w.t ht;have gb:Gd F.A F.B (l.getD w.t []):=by
   rw[A3,AU ht];show hg _ (BA ht)
  have l13:=gb.rn ok.a0;have a12:=ok.a1;have hF:=Mi F.A F.B w (l.getD w.t []) ⋯;have e2:zh (zO w) (.int 1)=↑(.int (w.t:Int)):=by simp[zO]
  obtain⟨bd,hbd⟩:∃ bd,l.getD w.t []=bd:=#[_,rfl];rw[hbd] at e1 gb hF;have EM:(l[w.t]?).getD []=bd:=by rw[<- hbd,A3]
  generalize o_=ff,zq F=fl,rT l=rt,zO w=wt at *;simp![zh] at Gu e1 e2;simp[Gu,e1,e2,hF,EM]
 have Js:=lH F l p;have c3:=NW #[ok.a0,ok.a1] (xB F l p) Js;have c4:=Md #[ok.a0,ok.a1] ok.b0 (xB F l p) Js;have c5:=NZ ok p hp (vZ (xB F l p)) (oh _ _ Gd.nil Js);have ho:L2.zT (F.os.map kt) (p:Int)=↑(kt (F.os.getD p false)):=by
  exact vi ?_;rw[AH,AU hp,A3,AU hp];rfl
 have hk:∀ b:Bool,zD false (kt b) (.str "keeper")=↑(.bl b):=λ b=>by cases b <;> rfl
 unfold oP ZA;generalize lb=d1,mX=d2,oY=f1,oZ=f2,pd=f3,((F.ws.filter λ w=>decide (w.f=p)).map zO)=L1,zq F=fl,rT l=rt at *;unfold yg;have Gb:=hk (F.os.getD p false);generalize F.os.getD p false=kb at *;generalize kt kb=ktb at *;generalize (T.str "keeper")=ks at *;simp![zh] at Jc;cases kb with
 | true=>
  simp[c1,c2,Jc,ho,Gb,c3,c5]
  all_goals (cases F.Fi p <;> rfl)
 | false=>simp[c1,c2,Jc,ho,Gb,c4]
theorem mK {α β:Type}(c:α->Bool) (g:α->β):∀ l:List α,l.filterMap (λ x=>if c x=true then ↑(g x) else none)=(l.filter c).map g
 | []=>rfl
 | a::l=>by by_cases h:c a=true <;> simp[Cq,h,mK c g l]
theorem Q6 (t:Nat) (fr:List Nat):qD false (.int t) (.lst (fr.map λ(k:Nat)=>T.int (k:Int)))=↑(.bl (fr.contains t)):=by
 have d1:x9 (fr.map λ(k:Nat)=>T.int (k:Int))<=60:=by
  exact ip _ 60 (λ x=>?_) fr;simp[dep]
 have d0:dep (.int (t:Int))<=60:=by simp[dep]
 unfold qD;change (if dep (.int (t:Int))<=60/\x9 (fr.map λ(k:Nat)=>T.int (k:Int))<=60 then _ else _)=_;rw[if_pos #[d0,d1]];change ↑(T.bl ((fr.map λ(k:Nat)=>T.int (k:Int)).any λ x=>eqT x (.int t)))=_;congr 2;rw[A7,AY,List.contains_iff_mem];constructor
 .rintro⟨x,hx,h⟩;let#[k,hk,rfl]:=Ao.mp hx;have:(k:Int)=(t:Int):=by simpa [eqT] using h
  have:k=t:=⋯;subst this;show hk
 .intro h;show#[_,Ao.mpr #[t,h,rfl],by simp[eqT]]
def NM {F:zm}(ok:F.Ok) (EO:List Bd) (fr:List Nat) (hl:EO.length=F.os.length) (hg:∀ b∈EO,Gd F.A F.B b):
  q_ [zq F,rT EO,.lst (fr.map λ(k:Nat)=>T.int (k:Int))]=↑(rT (zV F EO fr)):=by
 have HL:zh (zq F) (.int 2)=↑(.tup (F.ws.map zO)):=by simp[zq]
 have c1:m_ [↑(.im (zq F)),↑(.im (rT EO)),↑(.im (.lst (fr.map λ(k:Nat)=>T.int (k:Int)))),↑(.own (.lst (EO.map bT))),none]=↑(.lst (((F.ws.filter λ w=>fr.contains w.t).map λ w=>(w.f:Int)).map T.int)):=by
  have:=pQ zO (λ w=>if fr.contains w.t=true then ↑(T.int (w.f:Int)) else none) (pick:=[none,↑2]) (it:=yA (zb zh (zc 0) (cI 2))) (g:=zt 0) (c:=zB (zb (qD false) (zb zh (zc 0) (cI 1)) (zc 1))) (f:=zb zh (zc 0) (cI 0)) (J:=[↑(.im (zq F)),↑(.im (rT EO)),↑(.im (.lst (fr.map λ(k:Nat)=>T.int (k:Int)))),↑(.own (.lst (EO.map bT))),none]) F.ws (by
    generalize zq F=fl at *;simp![zh] at HL;simp[HL]) (by have:=ok.tT;lia) (λ w _=>by
   have hi:=Q6 w.t fr;generalize (T.lst (fr.map λ(k:Nat)=>T.int (k:Int)))=ft,fr.contains w.t=cb at *;cases cb <;> simp[zO,hi])
  unfold m_;rw[this];rw[mK (λ w:Wy=>fr.contains w.t) (λ w:Wy=>T.int (w.f:Int)),A0];rfl
 have Dd:sY [.lst (((F.ws.filter λ w=>fr.contains w.t).map λ w=>(w.f:Int)).map T.int)]=↑(.lst ((we ((F.ws.filter λ w=>fr.contains w.t).map λ w=>(w.f:Int))).map T.int)):=by
  change (match wx (((F.ws.filter λ w=>fr.contains w.t).map λ w=>(w.f:Int)).map T.int) with | some ns=>_ | none=>_)=_;rw[mE];exact if_pos ?_;have:=CB (λ w:Wy=>fr.contains w.t) F.ws;have:=ok.tT;simp![AA];lia
 have A9:∀ k∈we ((F.ws.filter λ w=>fr.contains w.t).map λ w=>(w.f:Int)),∃ p:Nat,k=(p:Int)/\p<F.os.length/\uq F fr p=true:=λ k hk=>by
  let#[w,hw,rfl]:=Ao.mp (ml.mp hk);let#[w1,w2]:=Bb.mp hw;show#[w.f,rfl,(ok.ws w w1).1,AY.mpr #[w,w1,by exists w2]]
 have Ed:∀ p:Nat,uq F fr p=true->(p:Int)∈we ((F.ws.filter λ w=>fr.contains w.t).map λ w=>(w.f:Int)):=λ p h=>by
  let#[w,w1,w2]:=AY.mp h;have w3:w.f=p/\fr.contains w.t=true:=by exists w2
  show ml.mpr (Ao.mpr #[w,Bb.mpr #[w1,w3.2],by rw[w3.1]])
 generalize we ((F.ws.filter λ w=>fr.contains w.t).map λ w=>(w.f:Int))=up at *;have ft:∃ t,(T.lst (fr.map λ(k:Nat)=>T.int (k:Int)))=t:=#[_,rfl];let#[J',h1,h2]:=xR (is:=[4]) (g:=zt 4) (b:=l5) T.int (λ pre J=>J=[↑(.im (zq F)),↑(.im (rT EO)),↑(.im (.lst (fr.map λ(k:Nat)=>T.int (k:Int)))),↑(.own (.lst (((List.range EO.length).map λ(p:Nat)=>if (p:Int)∈pre then yg F EO p else EO.getD p []).map bT))),none]) up
   [↑(.im (zq F)),↑(.im (rT EO)),↑(.im (.lst (fr.map λ(k:Nat)=>T.int (k:Int)))),↑(.own (.lst (EO.map bT))),none] (by
  have e:(List.range EO.length).map (λ(p:Nat)=>if (p:Int)∈([]:List Int) then yg F EO p else EO.getD p [])=EO:=by
   exact C4 #[] λ i h1 h2=>?_;simp[h2]
  rw[e];rfl) (by
  rintro pre k q e J rfl;let#[p,rfl,hp,hw]:=A9 k (by rw[e];simp);have hF:=NN ok p hp EO hl hg;exact#[[↑(.im (zq F)),↑(.im (rT EO)),↑(.im (.lst (fr.map λ(k:Nat)=>T.int (k:Int)))),↑(.own (.lst (((List.range EO.length).map λ(i:Nat)=>if (i:Int)∈pre++[(p:Int)] then yg F EO i else EO.getD i []).map bT))),↑(.im (.int p))],?_,#[]];have Ek:(((List.range EO.length).map λ(i:Nat)=>if (i:Int)∈pre then yg F EO i else EO.getD i []).map bT).set p (bT (yg F EO p))=((List.range EO.length).map λ(i:Nat)=>if (i:Int)∈pre++[(p:Int)] then yg F EO i else EO.getD i []).map bT:=by
   exact C4 #[] λ i h1 h2=>?_;rw[List.getElem_set];simp![List.getElem_map,D5,A2,AO];by_cases c:p=i
   .subst c;simp
   .have c':¬ ((i:Int)=(p:Int)):=⋯;simp[c,c']
  have EC:xZ (((List.range EO.length).map λ(i:Nat)=>if (i:Int)∈pre then yg F EO i else EO.getD i []).map bT).length (p:Int)=↑p:=by
   unfold xZ;simp![AA,BR];rw[if_pos ⋯,if_pos ⋯,CG]
  rw[<- Ek];unfold turn l5;generalize oP=ff,(((List.range EO.length).map λ(i:Nat)=>if (i:Int)∈pre then yg F EO i else EO.getD i []).map bT)=LL,zq F=fl,rT EO=rl,(T.lst (fr.map λ(k:Nat)=>T.int (k:Int)))=ftt at *;simp[hF,EC])
 subst h2;have fin:((List.range EO.length).map λ(p:Nat)=>if (p:Int)∈up then yg F EO p else EO.getD p [])=zV F EO fr:=by
  unfold zV;exact DC λ p hp=>?_;by_cases c:uq F fr p=true
  .rw[if_pos c,if_pos (Ed p c)]
  .rw[if_neg c,if_neg λ h=>c (by let#[p',e,_,h']:=A9 _ h;show (show p'=p by lia)▸h')]
 rw[fin] at h1;have HU:listS [rT EO]=↑(.lst (EO.map bT)):=rfl;unfold q_ Z9;generalize m_=cc,l5=bb,(((F.ws.filter λ w=>fr.contains w.t).map λ w=>(w.f:Int)).map T.int)=L1 at *;generalize hup:up.map T.int=L2 at *;generalize EO.map bT=L3,zq F=fl at *;have Ej:xv (rT EO)=↑L3:=by exists HU
 generalize rT EO=rl,(T.lst (fr.map λ(k:Nat)=>T.int (k:Int)))=ftt at *;simp[Ej,c1,Dd,h1,rT]
theorem ib {α:Type}(enc:α->T) (d:α) (fo:List α):∀ (l:List α) (k:Nat),(∀ i,l.getD i d=fo.getD (k+i) d)->tB k (l.map enc)=(List.range l.length).map λ(p:Nat)=>T.tup [.int ((k+p:Nat):Int),enc (fo.getD (k+p) d)]
 | [],k,_=>rfl
 | b::l,k,h=>by
  have h0:=h 0;rw[Av,tB,ib enc d fo l (k+1) λ i=>by have:=h (i+1);rw[show k+1+i=k+(i+1) from by lia];exists this];rw[A5,List.range_succ_eq_map,Av,A0];have e:b=fo.getD k d:=by exists h0
  congr 1
  .rw[e];rfl
  .exact DC λ p _=>?_;simp![Function.comp];rw[show k+1+p=k+Nat.succ p from by lia]
def xa (fr:List Nat):T:=.lst (fr.map λ(k:Nat)=>T.int (k:Int))
theorem Nb (a:T) (b c:Option L5.W) (EO fo:List Bd) (hl:fo.length=EO.length) (h16:fo.length<=10000):oB [↑(.im a),b,c,↑(.im (rT EO)),↑(.im (rT fo))]=↑(xa (xi EO fo)):=by
 have:=pQ (λ p:Nat=>T.tup [.int (p:Int),bT (fo.getD p [])]) (λ p=>if decide (fo.getD p []≠EO.getD p [])=true then ↑(T.int (p:Int)) else none) (pick:=[none,none,↑3]) (it:=xx vC (za (zc 4) zf)) (g:=xH 2 (zZ (zt 0) (zZ (zt 1) xY))) (c:=zB (zb (zD true) (zc 1) (zb zh (zc 2) (zc 0)))) (f:=zi 0) (J:=[↑(.im a),b,c,↑(.im (rT EO)),↑(.im (rT fo))]) (List.range fo.length) (by
   have:=ib bT [] fo fo 0 λ i=>by rw[CY]
   simp![CY] at this;have e:vC [rT fo]=↑(tB 0 (fo.map bT)):=rfl;rw[<- this];generalize vC=en at *;simp[e]) (by simp;lia) (λ p hp=>by
  have GD:p<EO.length:=by rw[<- hl];show AD.mp hp
  have h1:=mB EO p GD;have h2:=Rw (fo.getD p []) (EO.getD p []);generalize fo.getD p []=x,EO.getD p []=y,rT EO=rl at *;generalize decide (x≠y)=d at *;simp![zh] at h1;cases d <;> simp[h1,h2])
 unfold oB;rw[this,mK (λ p:Nat=>decide (fo.getD p []≠EO.getD p [])) (λ p:Nat=>T.int (p:Int))];rfl
theorem fy {F:zm}(ok:F.Ok):∀ (n:Nat) (pre:List (List Bd)) (EO:List Bd) (fr:List Nat) (res:List (List Bd)),St F EO fr->tY F n pre EO fr=↑res->pre.length+n<=10000->∀ (m:Nat),n<m->∀ x3 x4:Option L5.W,
  ∃ Iy,yO [3,4] (xG (zc 2)) uQ m [↑(.im (zq F)),↑(.own (.lst ((pre++[EO]).map rT))),↑(.im (xa fr)),x3,x4]=↑(.nx [↑(.im (zq F)),↑(.own (.lst (res.map rT))),↑(.im Iy),none,none])
 | 0,_,_,_,_,_,h,_,_,_,_,_=>by cases h
 | n+1,pre,EO,fr,res,s,h,hn,m,hm,x3,x4=>by
  have Bl:∀ (m:Nat) (ET:List (List Bd)) (x3 x4:Option L5.W),yO [3,4] (xG (zc 2)) uQ (m+1) [↑(.im (zq F)),↑(.own (.lst (ET.map rT))),↑(.im (xa [])),x3,x4]=↑(.nx [↑(.im (zq F)),↑(.own (.lst (ET.map rT))),↑(.im (xa [])),none,none]):=λ m ET x3 x4=>by
   unfold yO;simp[xa]
  obtain⟨m,rfl⟩:∃ k,m=k+1:=#[m-1,⋯];unfold tY at h;by_cases Bs:fr=[]
  .rw[if_pos Bs] at h;cases h;subst Bs;show#[_,Bl m _ x3 x4]
  .rw[if_neg Bs] at h;dsimp only at h;have hlen:=s.len;have n8:=ok.n8;have hF:=NM ok EO fr s.len s.gd;have Fn:zh (.lst ((pre++[EO]).map rT)) (.int (-1))=↑(rT EO):=by
    change L2.zT ((pre++[EO]).map rT) (-1)=_;rw[Bz];show lC _ _
   have hc:=λ b c=>Nb (zq F) b c EO (zV F EO fr) (sa ..) (by rw[sa,s.len];lia);have Aq:tW (xa fr)=↑true:=by
    cases fr with
    | nil=>show absurd rfl Bs
    | cons a l=>rfl
   have hb:∃ Gk,uQ [↑(.im (zq F)),↑(.own (.lst ((pre++[EO]).map rT))),↑(.im (xa fr)),none,none]=↑(.nx [↑(.im (zq F)),↑(.own (.lst (Gk.map rT))),↑(.im (xa (xi EO (zV F EO fr)))),↑(.im (rT EO)),↑(.im (rT (zV F EO fr)))])/\Gk=if xi EO (zV F EO fr)=[] then pre++[EO] else pre++[EO]++[zV F EO fr]:=by
    have Hu:((pre++[EO]).map rT).length<16777216:=by simp;lia
    by_cases hf:xi EO (zV F EO fr)=[]
    .exact#[pre++[EO],?_,by rw[if_pos hf]];have ht:tW (xa (xi EO (zV F EO fr)))=↑false:=by rw[hf];rfl
     unfold uQ;generalize oB=cc,q_=ff,(pre++[EO]).map rT=L1,xa (xi EO (zV F EO fr))=f2 at *;unfold xa at *;simp![zh] at Fn;generalize (T.lst (fr.map λ(k:Nat)=>T.int (k:Int)))=f1,rT (zV F EO fr)=r2,rT EO=r1 at *;simp![xv] at Fn;simp[-tW,Fn,hF,hc,ht]
    .exact#[pre++[EO]++[zV F EO fr],?_,by rw[if_neg hf]];have ht:tW (xa (xi EO (zV F EO fr)))=↑true:=by
      cases e:xi EO (zV F EO fr) with
      | nil=>show absurd e hf
      | cons a l=>rfl
     have e2:(pre++[EO]++[zV F EO fr]).map rT=(pre++[EO]).map rT++[rT (zV F EO fr)]:=#[];rw[e2];unfold uQ;generalize oB=cc,q_=ff,(pre++[EO]).map rT=L1,xa (xi EO (zV F EO fr))=f2 at *;unfold xa at *;simp![zh] at Fn;generalize (T.lst (fr.map λ(k:Nat)=>T.int (k:Int)))=f1,rT (zV F EO fr)=r2,rT EO=r1 at *;simp![xv] at Fn;simp[-tW,Fn,hF,hc,ht,Hu]
   let#[Gk,Jl,Hv]:=hb;have key:∀ R,yO [3,4] (xG (zc 2)) uQ m [↑(.im (zq F)),↑(.own (.lst (Gk.map rT))),↑(.im (xa (xi EO (zV F EO fr)))),↑(.im (rT EO)),↑(.im (rT (zV F EO fr)))]=R->yO [3,4] (xG (zc 2)) uQ (m+1) [↑(.im (zq F)),↑(.own (.lst ((pre++[EO]).map rT))),↑(.im (xa fr)),x3,x4]=R:=λ R e=>by
    rw[yO];generalize CS:uQ=bb at *;generalize hlw:yO [3,4] (xG (zc 2)) bb m=lw at *;have hf:yB [3,4] [↑(.im (zq F)),↑(.own (.lst ((pre++[EO]).map rT))),↑(.im (xa fr)),x3,x4]=[↑(.im (zq F)),↑(.own (.lst ((pre++[EO]).map rT))),↑(.im (xa fr)),none,none]:=rfl;rw[hf];have ht:xG (zc 2) [↑(.im (zq F)),↑(.own (.lst ((pre++[EO]).map rT))),↑(.im (xa fr)),none,none]=↑true:=by
     generalize xa fr=f1 at *;simp[-tW,Aq]
    rw[ht,AW,if_pos rfl,Jl,AW];show e
   by_cases hf:xi EO (zV F EO fr)=[]
   .rw[if_pos hf] at h Hv;cases h;subst Hv;rw[hf] at key;obtain⟨m,rfl⟩:∃ k,m=k+1:=#[m-1,⋯];show#[_,key _ (Bl m _ _ _)]
   .rw[if_neg hf] at h Hv;subst Hv;let#[Iy,e]:=fy ok n (pre++[EO]) (zV F EO fr) (xi EO (zV F EO fr)) res (s.next ok) h (by simp;lia) m ⋯ ↑(.im (rT EO)) ↑(.im (rT (zV F EO fr)));show#[Iy,key _ e]
theorem NI {F:zm}(ok:F.Ok):∃ more,rZ [zq F]=↑(.lst ((RN.start F::more).map rT))/\(∀ r∈RN.start F::more,r.length=F.os.length/\∀ b∈r,Gd F.A F.B b)/\more.length<=2000/\tY F 2000 [] (RN.start F) (List.range F.os.length)=↑(RN.start F::more):=by
 have hmu:=eW (RN.start F);have Br:(RN.start F).length=F.os.length:=by unfold RN.start;simp
 have n8:=ok.n8;have n1:=ok.n1;let#[more,Gq,e1,e2,_,e4]:=f6 ok 2000 [] (RN.start F) (List.range F.os.length) (St.start ok) ⋯;let#[Iy,e]:=fy ok 2000 [] (RN.start F) (List.range F.os.length) _ (St.start ok) e1 #[] 1000000 () none none;exact#[more,?_,e2,⋯,e1];have hp:=aU F;have AZ:rT (RN.start F)=.lst (List.replicate F.os.length (.tup [.tup [.int 0,.int 0]])):=by
  unfold rT RN.start;rw[List.map_replicate];rfl
 have hmul:xQ (.lst [.tup [.tup [.int 0,.int 0]]]) (.int F.os.length)=↑(rT (RN.start F)):=by
  rw[AZ];unfold xQ;dsimp only;rw[if_pos #[#[],⋯,⋯,RO (by simp;lia)]];have:∀ n:Nat,(List.replicate n [T.tup [.tup [.int 0,.int 0]]]).flatten=List.replicate n (.tup [.tup [.int 0,.int 0]]):=λ n=>by
   induction n with
   | zero=>rfl
   | succ n ih=>rw[BO,BO,Cd,ih];rfl
  rw[CG,this]
 have BZ:pP [.int F.os.length]=↑(xa (List.range F.os.length)):=by
  change (if 0<=(F.os.length:Int)/\(F.os.length:Int)<=16777216 then ↑(T.lst (rangeT 0 (F.os.length:Int).toNat)) else none)=_;rw[if_pos #[⋯,⋯]];change ↑(T.lst ((List.range (F.os.length:Int).toNat).map λ(k:Nat)=>T.int (0+(k:Int))))=_;rw[CG];unfold xa;simp
 unfold rZ Z6 tS;generalize uQ=bb,r_=ff,pP=lr at *;simp![List.nil_append,Av,Ba] at e;generalize xa (List.range F.os.length)=f1 at *;rw[Av];generalize rT (RN.start F)=r0,zq F=fl at *;generalize hlw:yO [3,4] (xG (zc 2)) bb 1000000=lw at *;generalize xQ=mw at *;simp[hp,hmul,BZ,e]
def eV (i j:Int):xQ (.int i) (.int j)=if xV i j then ↑(.int (i*j)) else none:=rfl
def Q4 {r:List Int}{rs:List (List Int)}:wx ((r::rs).map yd)=none:=rfl
def Xa (rs:List (List Int)) (h0:rs≠[]) (hl:rs.length<64) (hn:∀ r∈rs,r≠[]):sY [.lst (rs.map yd)]=↑(.lst ((L4.xn (xP rs)).map yd)):=by
 cases rs with
 | nil=>show absurd rfl h0
 | cons r rs=>
  change (match wx ((r::rs).map yd) with
   | some ns=>if ns.length<64 then ↑(T.lst ((we ns).map T.int)) else none
   | none=>p7 [T.lst ((r::rs).map yd)])=_
  rw[Q4];change (w_ ((r::rs).map yd)).bind _=_;rw[kH,AW,if_pos #[hl,hn]]
theorem i3 (ns:List Int) (k:Nat):0<=cell ns k:=by
 unfold cell;split
 .show C_ _ ()
 .show AL _
theorem pG {L:List T}{P:Int->Prop}(hP:∀ y∈L,∃ v,y=.int v/\P v) {i:Int}(h0:0<=i) (h1:i<L.length):∃ v,L2.zT L i=↑(.int v)/\P v:=by
 have hl:i.toNat<L.length:=⋯;have e:L2.zT L i=↑L[i.toNat]:=by
  have:=vi (k:=i.toNat) (AU hl);rw[C9 h0] at this;show this
 let#[v,e2,hv]:=hP _ (BA hl);show#[v,by rw[e,e2],hv]
theorem aV (x:Int):∃ y,tN [.int x]=↑(.int y):=by
 have d5:xt x 5:=#[(),()];by_cases h:x%5=1
 .show#[_,by simp[tN,gj,eq_int,h,d5];rfl]
 .show#[_,by simp[tN,gj,eq_int,h,d5];rfl]
theorem NL (ns:List Int) (ES:Nat) (hm:ES<=8):∃ os:List Bool,lW [zP ns,.int ES]=↑(.tup (os.map kt))/\os.length=ES:=by
 have hc:=sS ns 2;generalize cell ns 2=num at *;let#[J',h1,c,os,h2,h3]:=xR (is:=[4]) (g:=zt 4) (b:=l6) (λ k:Nat=>T.int (0+(k:Int))) (λ p J=>∃ (c:Int) (os:List Bool),J=[↑(.im (zP ns)),↑(.im (.int ES)),↑(.im (.int c)),↑(.own (.lst (os.map kt))),none]/\os.length=p.length)
   (List.range ES) [↑(.im (zP ns)),↑(.im (.int ES)),↑(.im (.int num)),↑(.own (.lst [])),none] #[num,[],rfl,rfl] (by
  rintro p k q e J ⟨c,os,rfl,r1⟩;have hp:p.length<ES:=by have:=congrArg List.length e;simp at this;lia
  have hl:(os.map kt).length<16777216:=by simp;lia
  have d2:xt c 2:=#[(),()];have pk:∃ b:Bool,L2.zT [T.str "keeper",T.str "taker"] (c%2)=↑(kt b):=by
   rcases Int.emod_two_eq c with h | h <;> rw[h]
   .show#[true,rfl]
   .show#[false,rfl]
  let#[b,hb]:=pk;exact#[[↑(.im (zP ns)),↑(.im (.int ES)),↑(.im (.int (c/2))),↑(.own (.lst ((os++[b]).map kt))),↑(.im (.int (0+(k:Int))))],?_,c/2,os++[b],#[],by simp[r1]];have e2:(os++[b]).map kt=os.map kt++[kt b]:=#[];rw[e2];unfold turn l6;generalize (T.str "keeper")=s1,(T.str "taker")=s2,kt b=kb,os.map kt=L,(0+(k:Int))=kk at *;simp[hb,hl,d2])
 subst h2;have hr:=s_ ES ⋯;exact#[os,?_,by exists h3];unfold lW ZF;generalize l6=bb,os.map kt=L,(List.range ES).map (λ(k:Nat)=>T.int (0+(k:Int)))=R at *;have FK:y_ [zP ns,.int 2]=↑(.int num):=hc;generalize y_=fc,zP ns=sc at *;simp[FK,hr,h1]
def nj (A B:Int):Prop:=(0<=A/\A<=12)/\(0<=B/\B<=12)/\((A=12/\B=12)\/(A+1)*(B+1)<64)
theorem nj.small {A B:Int}(h:0<=A/\A<=5) (h':0<=B/\B<=5):nj A B:=by
 exact#[#[h.1,⋯],#[h'.1,⋯],.inr ?_];have:(A+1)*(B+1)<=6*6:=Int.mul_le_mul ⋯ ⋯ ⋯ ();lia
theorem Mc (ns:List Int) (ES:Nat):∃ A B:Int,lY [zP ns,.int ES]=↑(.tup [.int A,.int B])/\nj A B:=by
 have hc:=sS ns 1;have c0:=i3 ns 1;generalize cell ns 1=num at *;have FK:y_ [zP ns,.int 1]=↑(.int num):=hc;have d8:xt num 8:=#[(),()];have Ia:xt num 64:=#[(),()];let#[x,hx,x0,x5]:=pG (L:=[T.int 3,.int 2,.int 4,.int 1,.int 5,.int 2,.int 3,.int 0]) (P:=λ v=>0<=v/\v<=5) (by intro y hy;simp![Ah,CA,or_false] at hy;rcases hy with rfl | rfl | rfl | rfl | rfl | rfl | rfl | rfl <;> show#[_,rfl,(),()]) (i:=num%8) ⋯ (by simp;lia);let#[y,hy,y0,y5]:=pG (L:=[T.int 2,.int 3,.int 1,.int 4,.int 2,.int 5,.int 3,.int 0]) (P:=λ v=>0<=v/\v<=5) (by intro y hy;simp![Ah,CA,or_false] at hy;rcases hy with rfl | rfl | rfl | rfl | rfl | rfl | rfl | rfl <;> show#[_,rfl,(),()]) (i:=num/8%8) ⋯ (by simp;lia);have mn:∀ v:Int,0<=v->0<=(if 2<v then 2 else v)/\(if 2<v then 2 else v)<=5:=λ v hv=>by split <;> lia
 unfold lY ZK;generalize y_=fc,zP ns=sc at *;by_cases h1:ES>4
 .exact#[_,_,?_,nj.small (mn x x0) (mn y y0)];have GC:(4:Int)<ES:=⋯;simp[FK,hx,hy,d8,GC,rC]
 .have GC:¬ (4:Int)<ES:=⋯;by_cases h2:num/64%10=1
  .exact#[12,y%3,?_,#[#[(),()],#[⋯,⋯],.inr ⋯]];simp[FK,hx,hy,d8,GC,Ia,eq_int,h2]
  .by_cases h3:num/64%10=2
   .exact#[x%3,12,?_,#[#[⋯,⋯],#[(),()],.inr ⋯]];simp[FK,hx,hy,d8,GC,Ia,eq_int,h3]
   .by_cases h4:num/64%10=3/\ES<3
    .exact#[12,12,?_,#[#[(),()],#[(),()],.inl #[rfl,rfl]]];have h5:(ES:Int)<3:=⋯;simp[FK,hx,hy,d8,GC,Ia,eq_int,h4.1,h5,yI]
    .exact#[x,y,?_,nj.small #[x0,x5] #[y0,y5]];by_cases h6:num/64%10=3
     .have h5:¬ (ES:Int)<3:=⋯;simp[FK,hx,hy,d8,GC,Ia,eq_int,h6,h5,yI]
     .simp[FK,hx,hy,d8,GC,Ia,eq_int,h2,h3,h6]
def seq_eq {a b:Sm}{J J':Ev}(h:a J=↑(.nx J')):zl a b J=b J':=by
 change (a J).bind _=_;rw[h];rfl
def zJ {f:T->T->Option T}{fa fb:Ag}{J:Ev}{x y:T}{r:Option T}(h1:fa J=↑x) (h2:fb J=↑y) (h:f x y=r):zb f fa fb J=r:=by
 change (fa J).bind _=r;rw[h1];change (fb J).bind _=r;rw[h2];show h
def sL {i:Nat}{f:Ag}{J:Ev}{y:T}(h:f J=↑y):zy i f J=↑(.nx (J.set i ↑(.im y))):=by
 change (f J).map _=_;rw[h];rfl
def jm {i j:Int}(h:xV i j):xQ (.int i) (.int j)=↑(.int (i*j)):=by rw[eV,if_pos h]
def qe (ES:Nat) (r:List Int):Prop:=∃ (f t:Nat) (a b:Int),r=[(f:Int),(t:Int),a,b]/\f<ES/\t<ES
def Yh (M C:Int) (hM:0<M) (hC:∀ i,xV i C) (bb:Sm) (CS:bb=(zl (zy 8 (zb yr (zb xQ (zc 3) (zc 5)) (zc 7)))
 (zl (zy 9 (zb zL (zb yr (zb yr (zb xQ (zo y_ (za (zi 0) (za (zb yr (cI 4) (zc 8)) zf))) (cS (.int C))) (zb xQ (cI 61) (zc 8))) (cI 17)) (cS (.int M))))
 (zl (zy 10 (zb yz (zc 9) (cI 8)))
 (wb 4 (tupS (za (zi 5) (za (zb zL (zb zL (zc 9) (cI 8)) (zc 1)) (za (zo tN (za (zi 10) zf)) (za (zo tN (za (zb yz (zc 10) (cI 125)) zf)) zf))))))))))
  (ns:List Int) (ES wide place k:Nat) (num sz:Int) (rows:List T) (hm:1<=ES) (hp:place<ES) (hw:wide<=12) (Ir:ES<=8) (hl:rows.length<=1000):
  ∃ r x y z,(qe ES r/\r.head?=↑(place:Int))/\turn (zt 7) bb (.int (0+(k:Int))) [↑(.im (zP ns)),↑(.im (.int ES)),↑(.im (.int num)),↑(.im (.int wide)),↑(.own (.lst rows)),↑(.im (.int place)),↑(.im (.int sz)),none,none,none,none]
   = ↑(.nx [↑(.im (zP ns)),↑(.im (.int ES)),↑(.im (.int num)),↑(.im (.int wide)),↑(.own (.lst (rows++[yd r]))),↑(.im (.int place)),↑(.im (.int sz)),↑(.im (.int (0+(k:Int)))),x,y,z]):=by
 obtain⟨at',Dr⟩:∃ at':Nat,(wide:Int)*(place:Int)+(0+(k:Int))=(at':Int):=#[wide*place+k,by simp[CT,Int.natCast_mul]];have hc:=sS ns (4+at');rw[CT] at hc;have FK:y_ [zP ns,.int (4+(at':Int))]=↑(.int (cell ns (4+at'))):=hc;generalize cell ns (4+at')=ce at *;have m1:xV (wide:Int) (place:Int):=.inl #[⋯,⋯];have m2:xV ce C:=hC ce;have m3:xV 61 (at':Int):=.inl #[(),()];generalize hd:(ce*C+61*(at':Int)+17)%M=dr;have d8:xt dr 8:=#[(),()];have Jz:xt (dr/8) 125:=#[(),()];let#[a,ha]:=aV (dr/8);let#[b,hb]:=aV (dr/8/125);have hmp:(0:Int)<ES:=⋯;have t0:0<=dr%8%ES:=C_ _ ⋯;have t1:dr%8%ES<ES:=D4 _ hmp;have Iu:0<ES:=hm;have FW:rows.length<16777216:=⋯;exact#[[(place:Int),((dr%8%ES).toNat:Int),a,b],↑(.im (.int (at':Int))),↑(.im (.int dr)),↑(.im (.int (dr/8))),#[#[place,(dr%8%ES).toNat,a,b,rfl,hp,⋯],rfl],?_];rw[C9 t0];have hr:yd [(place:Int),dr%8%ES,a,b]=.tup [.int place,.int (dr%8%ES),.int a,.int b]:=rfl;rw[hr];rw[show turn (zt 7) bb (.int (0+(k:Int))) [↑(.im (zP ns)),↑(.im (.int ES)),↑(.im (.int num)),↑(.im (.int wide)),↑(.own (.lst rows)),↑(.im (.int place)),↑(.im (.int sz)),none,none,none,none]=bb [↑(.im (zP ns)),↑(.im (.int ES)),↑(.im (.int num)),↑(.im (.int wide)),↑(.own (.lst rows)),↑(.im (.int place)),↑(.im (.int sz)),↑(.im (.int (0+(k:Int)))),none,none,none] from rfl];subst CS;generalize (0+(k:Int))=kk,y_=fc,tN=fco,zP ns=sc at *;rw[seq_eq (J':=[↑(.im sc),↑(.im (.int ES)),↑(.im (.int num)),↑(.im (.int wide)),↑(.own (.lst rows)),↑(.im (.int place)),↑(.im (.int sz)),↑(.im (.int kk)),↑(.im (.int at')),none,none]) (sL (zJ (zJ (x:=.int wide) (y:=.int place) rfl rfl (jm m1)) (y:=.int kk) rfl (by change ↑(T.int ((wide:Int)*(place:Int)+kk))=_;rw[Dr])))];rw[seq_eq (J':=[↑(.im sc),↑(.im (.int ES)),↑(.im (.int num)),↑(.im (.int wide)),↑(.own (.lst rows)),↑(.im (.int place)),↑(.im (.int sz)),↑(.im (.int kk)),↑(.im (.int at')),↑(.im (.int dr)),none]) (by simp[eV,FK,m2,m3,hd,hM])];rw[seq_eq (J':=[↑(.im sc),↑(.im (.int ES)),↑(.im (.int num)),↑(.im (.int wide)),↑(.own (.lst rows)),↑(.im (.int place)),↑(.im (.int sz)),↑(.im (.int kk)),↑(.im (.int at')),↑(.im (.int dr)),↑(.im (.int (dr/8)))]) (by simp[d8])];simp[Jz,ha,hb,Iu,FW]
def Yi (ns:List Int) (ES wide place k:Nat) (num sz:Int) (rows:List T) (hm:1<=ES) (hp:place<ES) (hw:wide<=12) (Ir:ES<=8) (hl:rows.length<=1000):
  ∃ r x y z,(qe ES r/\r.head?=↑(place:Int))/\turn (zt 7) qV (.int (0+(k:Int))) [↑(.im (zP ns)),↑(.im (.int ES)),↑(.im (.int num)),↑(.im (.int wide)),↑(.own (.lst rows)),↑(.im (.int place)),↑(.im (.int sz)),none,none,none,none]
   = ↑(.nx [↑(.im (zP ns)),↑(.im (.int ES)),↑(.im (.int num)),↑(.im (.int wide)),↑(.own (.lst (rows++[yd r]))),↑(.im (.int place)),↑(.im (.int sz)),↑(.im (.int (0+(k:Int)))),x,y,z]):=
 by
  exact Yh 999983 2957 ?_ ?_ qV ?_ ns ES wide place k num sz rows hm hp hw Ir hl
  .lia
  .show λ _=>.inr #[⋯,⋯]
  .unfold qV;rfl
theorem NC (ns:List Int) (ES:Nat) (hm:1<=ES) (Ir:ES<=8):∃ ws:List Wy,lU [zP ns,.int ES]=↑(.tup (ws.map zO))/\ws.length<=60/\(∀ w∈ws,w.f<ES/\w.t<ES)/\∀ x<ES,∃ w∈ws,w.f=x:=by
 have hc:=sS ns 3;have c0:=i3 ns 3;generalize cell ns 3=num at *;have FK:y_ [zP ns,.int 3]=↑(.int num):=hc;obtain⟨wide,hw,Jb⟩:∃ wide:Nat,L2.zT [T.int 3,.int 12] (if ES<3 then 1 else 0)=↑(.int (wide:Int))/\wide<=12:=by
  by_cases h:ES<3
  .rw[if_pos h];show#[12,rfl,()]
  .rw[if_neg h];show#[3,rfl,()]
 let#[J',h1,c,rows,h2,h3,h4,h5]:=xR (is:=[5,6,7,8,9,10]) (g:=zt 5) (b:=ly) (λ k:Nat=>T.int (0+(k:Int))) (λ p J=>∃ (c:Int) (rows:List (List Int)),J=[↑(.im (zP ns)),↑(.im (.int ES)),↑(.im (.int c)),↑(.im (.int wide)),↑(.own (.lst (rows.map yd))),none,none,none,none,none,none]/\0<=c/\rows.length<=(if ES<3 then 12 else 3)*p.length/\((∀ r∈rows,qe ES r)/\(∀ x∈p,∃ r∈rows,r.head?=↑(x:Int))))
   (List.range ES) [↑(.im (zP ns)),↑(.im (.int ES)),↑(.im (.int num)),↑(.im (.int wide)),↑(.own (.lst [])),none,none,none,none,none,none] #[num,[],rfl,c0,#[],nofun,nofun] (by
  rintro p k q e J ⟨c,rows,rfl,r0,r1,r2,r3⟩;have hp:p.length<ES:=by have:=congrArg List.length e;simp at this;lia
  have hk:k<ES:=AD.mp (by rw[e];simp);obtain⟨size,hs,s1,s2⟩:∃ size:Nat,(if (ES<3/\c/3%8=1) then 9+(1+c%3) else 1+c%3)=(size:Int)/\1<=size/\size<=(if ES<3 then 12 else 3):=by
   by_cases h:ES<3/\c/3%8=1
   .rw[if_pos h,if_pos h.1];show#[(9+(1+c%3)).toNat,⋯,⋯,⋯]
   .rw[if_neg h];show#[(1+c%3).toNat,⋯,⋯,by split <;> lia]
  have Cc:(if ES<3 then 12 else 3)*p.length<=96:=by split <;> lia
  let#[J2,g1,Fd,g2,g3,g4,g5,g6]:=xR (is:=[7,8,9,10]) (g:=zt 7) (b:=qV) (λ k:Nat=>T.int (0+(k:Int))) (λ p' J=>∃ Fd:List (List Int),J=[↑(.im (zP ns)),↑(.im (.int ES)),↑(.im (.int c)),↑(.im (.int wide)),↑(.own (.lst (Fd.map yd))),↑(.im (.int k)),↑(.im (.int size)),none,none,none,none]/\Fd.length=rows.length+p'.length/\(∀ r∈Fd,qe ES r)/\(∀ r∈rows,r∈Fd)/\(p'≠[]->∃ r∈Fd,r.head?=↑(k:Int)))
    (List.range size) [↑(.im (zP ns)),↑(.im (.int ES)),↑(.im (.int c)),↑(.im (.int wide)),↑(.own (.lst (rows.map yd))),↑(.im (.int k)),↑(.im (.int size)),none,none,none,none] #[rows,rfl,rfl,r2,λ _ h=>h,λ h=>absurd rfl h] (by
   rintro p' k' q' e' J ⟨Fd,rfl,u1,u2,u3,u4⟩;have GD:p'.length<size:=by have:=congrArg List.length e';simp at this;lia
   have hs12:size<=12:=by split at s2 <;> lia
   let#[r,x,y,z,#[v1,v3],v2]:=Yi ns ES wide k k' c size (Fd.map yd) hm hk Jb Ir (by simp;lia);exact#[_,v2,Fd++[r],#[],by simp[u1];lia,λ r' GN=>?_,λ r' h=>Cp _ (u3 r' h),λ _=>#[r,#[],v3]];rcases A2.mp GN with h | h
   .show u2 r' h
   .cases AO.mp h;show v1)
  subst g2;have BZ:=s_ size (by split at s2 <;> lia);have d3:xt c 3:=#[(),()];have Jy:xt c 24:=#[(),()];exact#[[↑(.im (zP ns)),↑(.im (.int ES)),↑(.im (.int (c/24))),↑(.im (.int wide)),↑(.own (.lst (Fd.map yd))),↑(.im (.int (0+(k:Int)))),↑(.im (.int size)),none,none,none,none],?_,c/24,Fd,#[],⋯,?_,g4,λ x hx=>?_]
  .unfold turn ly;generalize qV=bb at *;simp![Cg] at g1 BZ ⊢;generalize (List.range size).map (λ(k:Nat)=>T.int (k:Int))=RR,Fd.map yd=JB,rows.map yd=L1',zP ns=sc at *;by_cases hA:ES<3
   .have G9:(ES:Int)<3:=⋯;by_cases hB:c/3%8=1
    .rw[if_pos #[hA,hB]] at hs;simp[G9,hB,d3,Jy,yI,eq_int,hs,BZ,g1]
    .rw[if_neg (λ h=>hB h.2)] at hs;simp[G9,hB,d3,Jy,yI,eq_int,hs,BZ,g1]
   .have G9:¬ (ES:Int)<3:=⋯;rw[if_neg (λ h=>hA h.1)] at hs;simp[G9,d3,Jy,yI,eq_int,hs,BZ,g1]
  .have:Fd.length=rows.length+size:=by exists g3
   rw[Bp,List.length_singleton,Nat.mul_add,Nat.mul_one];lia
  .rcases A2.mp hx with h | h
   .let#[r,h1,h2]:=r3 x h;show#[r,g5 r h1,h2]
   .cases AO.mp h;show g6 (λ h=>by have:=congrArg List.length h;simp at this;lia))
 subst h2;have BZ:=s_ ES ⋯;have hlen:rows.length<64:=by
  rw[BR] at h4;split at h4 <;> lia
 have Aq:rows≠[]:=λ h=>by
  let#[r,hr,_]:=h5.2 0 (AD.mpr ⋯);rw[h] at hr;cases hr
 have Em:∀ r∈rows,r≠[]:=λ r hr=>by let#[f,t,a,b,rfl,_]:=h5.1 r hr;simp
 have Dd:=Xa rows Aq hlen Em;have Az:∀ r∈L4.xn (xP rows),qe ES r:=λ r hr=>h5.1 r (qw.mp ((L4.ug _).mem_iff.mp hr));have hl60:(L4.xn (xP rows)).length<64:=by rw[(L4.ug _).length_eq];have:=ma rows;lia
 have conv:∀ l:List (List Int),(∀ r∈l,qe ES r)->∃ ws:List Wy,l.map yd=ws.map zO/\ws.length=l.length/\(∀ w∈ws,w.f<ES/\w.t<ES)/\∀ r∈l,∃ w∈ws,r.head?=↑(w.f:Int):=λ l=>by
  induction l with
  | nil=>show λ _=>#[[],rfl,rfl,nofun,nofun]
  | cons r l ih=>
   intro h;let#[ws,e1,e2,e3,e4]:=ih λ x hx=>h x (Aw _ hx);let#[f,t,a,b,rfl,hf,ht]:=h r Ap;exact#[#[f,t,a,b]::ws,by rw[Av,Av,e1];rfl,by simp[e2],λ w hw=>?_,λ r' GN=>?_]
   .rcases Ah.mp hw with x | x
    .subst x;show#[hf,ht]
    .show e3 w x
   .rcases Ah.mp GN with x | x
    .subst x;show#[_,Ap,rfl]
    .let#[w,h1,h2]:=e4 r' x;show#[w,Aw _ h1,h2]
 let#[ws,e1,e2,e3,e4]:=conv _ Az;exact#[ws,?_,by
  have hn:(xP rows).length<=rows.length:=ma rows;rw[e2,(L4.ug _).length_eq];rw[BR] at h4;split at h4 <;> lia,e3,λ x hx=>by
   let#[r,k1,k2]:=h5.2 x (AD.mpr hx);let#[w,k3,k4]:=e4 r ((L4.ug _).mem_iff.mpr (qw.mpr k1));rw[k2] at k4
   injection k4 with k4
   show#[w,k3,⋯]]
 rw[e1] at Dd;unfold lU ZD;generalize ly=bb,ws.map zO=L1,rows.map yd=JB,sY=sv,(List.range ES).map (λ(k:Nat)=>T.int (0+(k:Int)))=RR,y_=fc,zP ns=sc at *;by_cases hA:ES<3
 .have G9:(ES:Int)<3:=⋯;rw[if_pos hA] at hw;simp[FK,yI,G9,hw,BZ,h1,Dd]
 .have G9:¬ (ES:Int)<3:=⋯;rw[if_neg hA] at hw;simp[FK,yI,G9,hw,BZ,h1,Dd]
def j_ (x y:Str):zD false (.str x) (.str y)=↑(.bl (x == y)):=by simp[zD,dep,eqT]
def YZ (M C:Int) (hM:0<M) (hC:∀ i,xV i C) (kk:Str) (bb:Sm) (CS:bb=(zl (zy 4 (zb zL (zb yr (zb yr (zb xQ (zo y_ (za (zi 0) (za (zb yr (cI 28) (zc 3)) zf))) (cS (.int C))) (zb xQ (cI 29) (zc 3))) (cI 5)) (cS (.int M))))
 (yu (vf (zB (zb (zD false) (zb zh (zc 1) (zc 3)) (cS (.str kk)))) (zB (zb (zD false) (zb zL (zc 4) (cI 3)) (cI 1)))) (zl (zy 5 (zb yz (zc 4) (cI 6)))
 (zl (zy 6 (zb yr (cI 1) (zb zh (yT (za (zb zL (zc 5) (cI 3)) (za (zb zL (zc 5) (cI 3)) (za (zb zL (zc 5) (cI 12)) zf)))) (zb zL (zb yz (zc 5) (cI 12)) (cI 3)))))
 (zl (zy 7 (zb zh (yT (za (zb zL (zb yz (zc 5) (cI 36)) (cI 4)) (za (zb zL (zb yz (zc 5) (cI 36)) (cI 4)) (za (zb zL (zb yz (zc 5) (cI 36)) (cI 13)) zf)))) (zb zL (zb yz (zc 5) (cI 468)) (cI 3))))
 (wb 2 (tupS (za (zi 3) (za (zb zL (zb yz (zc 4) (cI 3)) (cI 2)) (za (zi 6) (za (zi 7) zf))))))))) yE)))
  (ns:List Int) (Hn:List T) (place:Nat) (s:Str) (hs:L2.zT Hn (place:Int)=↑(.str s)) (rows:List T) (hl:rows.length<=1000):
  ∃ more:List Sl,more.length<=1/\(∀ x∈more,(1<=x.gv/\0<=x.gt)/\x.p=place)/\∃ a b c d,turn (zt 3) bb (.int (place:Int)) [↑(.im (zP ns)),↑(.im (.tup Hn)),↑(.own (.lst rows)),none,none,none,none,none]
   = ↑(.nx [↑(.im (zP ns)),↑(.im (.tup Hn)),↑(.own (.lst (rows++more.map yi))),↑(.im (.int (place:Int))),a,b,c,d]):=by
 have hc:=sS ns (28+place);rw[CT] at hc;have FK:y_ [zP ns,.int (28+(place:Int))]=↑(.int (cell ns (28+place))):=hc;generalize cell ns (28+place)=ce at *;have m2:xV ce C:=hC ce;have m3:xV 29 (place:Int):=.inl #[(),()];generalize hd:(ce*C+29*(place:Int)+5)%M=dr;have hdr:0<=dr:=by rw[<- hd];show C_ _ ⋯
 have d6:xt dr 6:=#[(),()];have d3:xt dr 3:=#[(),()];have r0:0<=dr/6:=⋯;generalize El:dr/6=rs at *;have d12:xt rs 12:=#[(),()];have d36:xt rs 36:=#[(),()];have Jx:xt rs 468:=#[(),()];let#[gv,hg,g0]:=pG (L:=[T.int (rs%3),.int (rs%3),.int (rs%12)]) (P:=λ v=>0<=v) (by intro y hy;simp![Ah,CA,or_false] at hy;rcases hy with rfl | rfl | rfl <;> show#[_,rfl,⋯]) (i:=rs/12%3) ⋯ (by simp;lia);let#[gt,ht,t0]:=pG (L:=[T.int (rs/36%4),.int (rs/36%4),.int (rs/36%13)]) (P:=λ v=>0<=v) (by intro y hy;simp![Ah,CA,or_false] at hy;rcases hy with rfl | rfl | rfl <;> show#[_,rfl,⋯]) (i:=rs/468%3) ⋯ (by simp;lia);have FW:rows.length<16777216:=⋯;rw[show turn (zt 3) bb (.int (place:Int)) [↑(.im (zP ns)),↑(.im (.tup Hn)),↑(.own (.lst rows)),none,none,none,none,none]=bb [↑(.im (zP ns)),↑(.im (.tup Hn)),↑(.own (.lst rows)),↑(.im (.int (place:Int))),none,none,none,none] from rfl];subst CS;generalize y_=fc,zP ns=sc at *;rw[seq_eq (J':=[↑(.im sc),↑(.im (.tup Hn)),↑(.own (.lst rows)),↑(.im (.int (place:Int))),↑(.im (.int dr)),none,none,none]) (sL (zJ (x:=.int (ce*C+29*(place:Int)+5)) (y:=.int M) (zJ (zJ (zJ (x:=.int ce) (y:=.int C) (by
   change ((za (zi 0) (za (zb yr (cI 28) (zc 3)) zf)) _).bind fc=_;show FK) rfl (jm m2)) (zJ (x:=.int 29) (y:=.int place) rfl rfl (jm m3)) rfl) rfl rfl) rfl (by
   change (if 0<M then ↑(T.int ((ce*C+29*(place:Int)+5)%M)) else none)=_;rw[if_pos hM,hd])))]
 by_cases hk:(s == kk)=true/\dr%3=1
 .exact#[[#[place,decide (dr/3%2=1),1+gv,gt]],#[],λ x hx=>by cases AO.mp hx;show#[#[by change 1<=1+gv;lia,t0],rfl],↑(.im (.int dr)),↑(.im (.int rs)),↑(.im (.int (1+gv))),↑(.im (.int gt)),?_];have En:wq (decide (dr/3%2=1))=dr/3%2:=by
   unfold wq;rcases Int.emod_two_eq (dr/3) with h | h <;> simp[h]
  have Br:yi #[place,decide (dr/3%2=1),1+gv,gt]=.tup [.int place,.int (dr/3%2),.int (1+gv),.int gt]:=by
   unfold yi;rw[En]
  rw[Av,Ba,Br];simp[hs,j_,hk.1,eq_int,hk.2,d6,d3,El,d12,d36,Jx,hg,ht,FW]
 .exact#[[],#[],nofun,↑(.im (.int dr)),none,none,none,?_];rw[Ba,BE];by_cases h1:(s == kk)=true
  .have h2:¬ dr%3=1:=λ h=>hk #[h1,h];simp[hs,j_,h1,eq_int,h2]
  .rw[DX] at h1;simp[hs,j_,h1]
theorem NF (ns:List Int) (os:List Bool) (h8:os.length<=8):∃ ss:List Sl,lV [zP ns,.tup (os.map kt)]=↑(.tup (ss.map yi))/\ss.length<=60/\(∀ s∈ss,1<=s.gv/\0<=s.gt)/\ss.Pairwise (λ a b=>a.p≠b.p):=by
 let#[J',h1,ss,h2,h3,h4,h5,h6]:=xR (is:=[3,4,5,6,7]) (g:=zt 3) (b:=oG) (λ k:Nat=>T.int (k:Int)) (λ p J=>∃ ss:List Sl,J=[↑(.im (zP ns)),↑(.im (.tup (os.map kt))),↑(.own (.lst (ss.map yi))),none,none,none,none,none]/\ss.length<=p.length/\(∀ s∈ss,1<=s.gv/\0<=s.gt)/\(∀ s∈ss,s.p∈p)/\ss.Pairwise (λ a b=>a.p≠b.p))
   (List.range os.length) [↑(.im (zP ns)),↑(.im (.tup (os.map kt))),↑(.own (.lst [])),none,none,none,none,none] #[[],rfl,Aj _,nofun,nofun,List.Pairwise.nil] (by
  rintro p k q e J ⟨ss,rfl,r1,r2,r3,r4⟩;have hp:p.length<os.length:=by have:=congrArg List.length e;simp at this;lia
  have hk:k<os.length:=AD.mp (by rw[e];simp);obtain⟨s,hs⟩:∃ s:Str,L2.zT (os.map kt) (k:Int)=↑(.str s):=by
   cases hb:os[k] with
   | true=>show#["keeper",vi (by rw[AH,AU hk,hb];rfl)]
   | false=>show#["taker",vi (by rw[AH,AU hk,hb];rfl)]
  let#[more,m1,m2,a,b,c,d,m3]:=YZ 999979 3571 ⋯ (λ _=>.inr #[⋯,⋯]) "keeper" oG (by unfold oG;rfl) ns (os.map kt) k s hs (ss.map yi) (by simp;lia);exact#[_,m3,ss++more,#[],by simp;lia,λ x hx=>?_,λ x hx=>?_,?_]
  .rcases A2.mp hx with h | h
   .show r2 x h
   .show (m2 x h).1
  .rcases A2.mp hx with h | h
   .show Cp _ (r3 x h)
   .rw[(m2 x h).2];simp
  .have B9:=Cj (n:=os.length);rw[e] at B9;exact C6.mpr #[r4,?_,λ a ha b hb=>?_]
   .match more,m1 with
    | [],_=>show List.Pairwise.nil
    | [_],_=>show DI _ _
    | _::_::_,m=>simp at m
   .rw[(m2 b hb).2];show (CZ.mp B9).2.2 a.p (r3 a ha) k Ap)
 subst h2;rw[BR] at h3;exact#[ss,?_,⋯,h4,h6];have hr:=s_ os.length ⋯;simp![Cg] at hr;unfold lV ZE;generalize oG=bb,(List.range os.length).map (λ(k:Nat)=>T.int (k:Int))=R at *;have hlen:(os.map kt).length=os.length:=#[];generalize os.map kt=L1,ss.map yi=JB,zP ns=sc at *;simp[hlen,hr,h1]
theorem NT (ns:List Int):∃ F:zm,oQ [zP ns]=↑(zq F)/\F.Ok/\(∀ x<F.os.length,∃ w∈F.ws,w.f=x)/\F.ss.Pairwise (λ a b=>a.p≠b.p):=by
 have hc:=sS ns 0;have c0:=i3 ns 0;generalize cell ns 0=num at *;have FK:y_ [zP ns,.int 0]=↑(.int num):=hc;have d8:xt num 8:=#[(),()];let#[mi,hm,m1,m8]:=pG (L:=[T.int 2,.int 3,.int 1,.int 4,.int 3,.int 2,.int 4,.int (5+num/8%4)]) (P:=λ v=>1<=v/\v<=8) (by intro y hy;simp![Ah,CA,or_false] at hy;rcases hy with rfl | rfl | rfl | rfl | rfl | rfl | rfl | rfl <;> show#[_,rfl,⋯,⋯]) (i:=num%8) ⋯ (by simp;lia);obtain⟨ES,rfl⟩:∃ k:Nat,mi=(k:Int):=#[mi.toNat,⋯];let#[os,h1,o1]:=NL ns ES ⋯;let#[A,B,h2,a1,b1,ab]:=Mc ns ES;let#[ws,h3,w1,w2,w3]:=NC ns ES ⋯ ⋯;let#[ss,h4,s1,s2,s3]:=NF ns os ⋯;have he:zD false (.tup [.int A,.int B]) (.tup [.int 12,.int 12])=↑(.bl (decide (A=12/\B=12))):=by
  by_cases x:A=12 <;> by_cases y:B=12 <;> simp[zD,dep,x9,eqT,xj,x,y]
 have HR:zb zh (yT (za (cI 2) (za (cI 3) (za (cI 1) (za (cI 4) (za (cI 3) (za (cI 2) (za (cI 4) (za (zb yr (cI 5) (zb zL (zb yz (zc 1) (cI 8)) (cI 4))) zf))))))))) (zb zL (zc 1) (cI 8)) [↑(.im (zP ns)),↑(.im (.int num)),none,none,none,none,none]=↑(.int ES):=by
  generalize zP ns=sc at *;simp[d8,hm]
 have hif:yu (vf (zB (zb (zD false) (zc 4) (tupS (za (cI 12) (za (cI 12) zf))))) (qO (zB (zb qI (zo yY (za (zc 5) zf)) (cI 6))) (zB (zb qI (zo yY (za (zc 6) zf)) (cI 0))))) (zy 4 (tupS (za (cI 12) (za (cI 3) zf)))) yE [↑(.im (zP ns)),↑(.im (.int num)),↑(.im (.int ES)),↑(.im (.tup (os.map kt))),↑(.im (.tup [.int A,.int B])),↑(.im (.tup (ws.map zO))),↑(.im (.tup (ss.map yi)))] =
   ↑(.nx [↑(.im (zP ns)),↑(.im (.int num)),↑(.im (.int ES)),↑(.im (.tup (os.map kt))),↑(.im (if (A=12/\B=12)/\(6<ws.length\/0<ss.length) then .tup [.int 12,.int 3] else .tup [.int A,.int B])),↑(.im (.tup (ws.map zO))),↑(.im (.tup (ss.map yi)))]):=by
  have l1:(ws.map zO).length=ws.length:=#[];have l2:(ss.map yi).length=ss.length:=#[];generalize ws.map zO=L1,ss.map yi=JB,zP ns=sc at *;have i6:(6:Int)<ws.length↔6<ws.length:=⋯;have i0:(0:Int)<ss.length↔0<ss.length:=⋯;by_cases Iw:A=12/\B=12
  .rw[JF Iw] at he;let#[rfl,rfl]:=Iw;by_cases h6:6<ws.length <;> by_cases h0:0<ss.length <;> simp[he,l1,l2,i6,i0,h6,h0]
  .rw[JE Iw] at he;simp[he,Iw]
 have main:oQ [zP ns]=↑(.tup [if (A=12/\B=12)/\(6<ws.length\/0<ss.length) then .tup [.int 12,.int 3] else .tup [.int A,.int B],.tup (os.map kt),.tup (ws.map zO),.tup (ss.map yi)]):=by
  suffices h:ZG [↑(.im (zP ns)),none,none,none,none,none,none]=↑(.rt (.tup [if (A=12/\B=12)/\(6<ws.length\/0<ss.length) then .tup [.int 12,.int 3] else .tup [.int A,.int B],.tup (os.map kt),.tup (ws.map zO),.tup (ss.map yi)])) by
   unfold oQ zR;show (if_pos rfl).trans (congrArg kY h)
  show (seq_eq (sL FK)).trans ((seq_eq (sL HR)).trans ((seq_eq (sL h1)).trans ((seq_eq (sL h2)).trans ((seq_eq (sL h3)).trans ((seq_eq (sL h4)).trans ((seq_eq hif).trans rfl))))))
 by_cases Cc:(A=12/\B=12)/\(6<ws.length\/0<ss.length)
 .rw[if_pos Cc] at main;show#[#[12,3,os,ws,ss],main,#[by change (0:Int)<=12;decide,by change (12:Int)<=12;decide,by change (0:Int)<=3;decide,by change (3:Int)<=12;decide,by change 1<=os.length;lia,by change os.length<=8;lia,λ w hw=>by change w.f<os.length/\w.t<os.length;rw[o1];show w2 w hw,w1,s2,.inr (by change ((12:Int)+1)*(3+1)<64;decide),s1],by change ∀ x<os.length,_;rw[o1];show w3,s3]
 .rw[if_neg Cc] at main;exact#[#[A,B,os,ws,ss],main,#[a1.1,a1.2,b1.1,b1.2,by change 1<=os.length;lia,by change os.length<=8;lia,λ w hw=>by change w.f<os.length/\w.t<os.length;rw[o1];show w2 w hw,w1,s2,?_,s1],by change ∀ x<os.length,_;rw[o1];show w3,s3];change ss=[]\/(A+1)*(B+1)<64;rcases ab with x | x
  .exact .inl ?_;cases ss with
   | nil=>rfl
   | cons a l=>show absurd #[x,.inr #[]] Cc
  .show .inr x
def mi (x y:Int):(if y<x then y else x)=min x y:=by split <;> lia
def nK (o:Option (Int×Int)):T:=match o with
 | none=>.zp
 | some r=>zg r
def jV (F:zm):zh (zq F) (.int 0)=↑(.tup [.int F.A,.int F.B]):=by simp[zq]
def pY (F:zm):zh (zq F) (.int 1)=↑(.tup (F.os.map kt)):=by simp[zq]
def Pl (F:zm):zh (zq F) (.int 2)=↑(.tup (F.ws.map zO)):=by simp[zq]
def Pk (F:zm):zh (zq F) (.int 3)=↑(.tup (F.ss.map yi)):=by simp[zq]
def Mg (F:zm) (q:Int×Int) (w:Wy):lZ [zq F,zg q,zO w]=↑(nK (uB F q w)):=by
 have Gu:=jV F;unfold lZ ZM uB zg zO;generalize zq F=fl at *;simp![zh] at Gu;by_cases h1:q.1+w.a<0
 .simp[h1,yI,nK]
 .by_cases h2:q.2+w.b<0
  .simp[h1,h2,yI,nK]
  .simp[h1,h2,yI,nK,Gu,mi,zg]
def xJ (F:zm) (p:Nat) (q:Int×Int) (s:Sl) (L:List (Int×Int)) (c:Option L5.W):Ev:=[↑(.im (zq F)),↑(.im (.int (p:Int))),↑(.im (zg q)),↑(.own (.lst (L.map zg))),↑(.im (.int (s.p:Int))),↑(.im (.int (wq s.pu))),↑(.im (.int s.gv)),↑(.im (.int s.gt)),c]
def ux (F:zm) (s:Sl) (r:Int×Int):Int×Int:=yN s.pu (zM s.pu r-s.gv) (min (yj s.pu r+s.gt) (F.zK (!s.pu)))
theorem OA {F:zm}{p:Nat}{q:Int×Int}{s:Sl}{pre:List (Int×Int)}{r:Int×Int}(hl:pre.length<=1000):∃ c,qW (xJ F p q s (pre++[r]) none)=↑(.nx (xJ F p q s (pre++[r]++[ux F s r]) c)):=by
 have Fn:L2.zT ((pre++[r]).map zg) (-1)=↑(.tup [.int r.1,.int r.2]):=by rw[Bz];show lC
 have e2:(pre++[r]++[ux F s r]).map zg=(pre++[r]).map zg++[zg (ux F s r)]:=#[];have hlen:((pre++[r]).map zg).length<16777216:=by simp;lia
 have Gu:=jV F;have n0:xZ 2 0=↑0:=rfl;have n1:xZ 2 1=↑1:=rfl;exact#[↑(.own (.lst [.int (ux F s r).1,.int (ux F s r).2])),?_];unfold xJ;rw[e2];unfold qW;generalize (pre++[r]).map zg=LL,zq F=fl,zg q=pq at *;simp![zh] at Gu;unfold ux;cases En:s.pu <;> simp[wq,Fn,Gu,n0,n1,hlen,yN,zM,yj,zm.zK,mi,zg]
theorem bU {F:zm}{p:Nat}{q:Int×Int}{s:Sl}{pre:List (Int×Int)}{r:Int×Int}:vf (zB (zb (zD false) (zc 4) (zc 1))) (zB (zb uu (zb zh (zb zh (zc 3) (sd (cI 1))) (zc 5)) (zc 6))) (xJ F p q s (pre++[r]) none)=↑(decide (s.p=p)&&decide (s.gv<=zM s.pu r)):=by
 have Fn:L2.zT ((pre++[r]).map zg) (-1)=↑(.tup [.int r.1,.int r.2]):=by rw[Bz];show lC
 unfold xJ;generalize (pre++[r]).map zg=LL,zq F=fl,zg q=pq at *;by_cases hp:s.p=p
 .have GD:(s.p:Int)=(p:Int):=⋯;cases En:s.pu <;> simp[wq,Fn,zM,eq_int,hp]
 .have GD:¬ (s.p:Int)=(p:Int):=⋯;simp[eq_int,hp,GD]
theorem bR {F:zm}{p:Nat}{q:Int×Int}{s:Sl}(hs:1<=s.gv/\0<=s.gt) (A8:s.p=p):∀ (n:Nat) (pre:List (Int×Int)) (r:Int×Int) (m:Nat),yn F r->zM s.pu r<n->n<m->pre.length+n<=1000->∀ c,
  yO [8] (vf (zB (zb (zD false) (zc 4) (zc 1))) (zB (zb uu (zb zh (zb zh (zc 3) (sd (cI 1))) (zc 5)) (zc 6)))) qW m (xJ F p q s (pre++[r]) c)=↑(.nx (xJ F p q s (pre++wO F s n r) none))
 | 0,pre,r,m,hr,hn,hm,hl,c=>by
  have:=(vQ (pu:=s.pu).mp hr).1.1;lia
 | n+1,pre,r,m+1,hr,hn,hm,hl,c=>by
  have Bs:yB [8] (xJ F p q s (pre++[r]) c)=xJ F p q s (pre++[r]) none:=by unfold xJ;simp
  unfold yO wO;rw[Bs,bU,AW,JF A8,Bool.true_and];by_cases hg:s.gv<=zM s.pu r
  .rw[JF hg,if_pos rfl,if_pos hg];let#[c',hb]:=OA (F:=F) (p:=p) (q:=q) (s:=s) (pre:=pre) (r:=r) ⋯;rw[hb,AW];have h':=vQ (pu:=s.pu).mp hr;have hi:yn F (ux F s r):=by
    unfold ux;rw[vQ (pu:=s.pu),ur,su];lia
   have ih:=bR (q:=q) hs A8 n (pre++[r]) (ux F s r) m hi (by unfold ux;rw[ur];lia) ⋯ (by simp;lia) c';change yO [8] _ qW m (xJ F p q s (pre++[r]++[ux F s r]) c')=_;rw[ih,CM];rfl
  .rw[JE hg,if_neg (),if_neg hg]
def O9 {F:zm}{p:Nat}{q:Int×Int}{s:Sl}(A8:¬ s.p=p) (pre:List (Int×Int)) (r:Int×Int) (m:Nat) (c:Option L5.W):
  yO [8] (vf (zB (zb (zD false) (zc 4) (zc 1))) (zB (zb uu (zb zh (zb zh (zc 3) (sd (cI 1))) (zc 5)) (zc 6)))) qW (m+1) (xJ F p q s (pre++[r]) c)=↑(.nx (xJ F p q s (pre++[r]) none)):=by
 have Bs:yB [8] (xJ F p q s (pre++[r]) c)=xJ F p q s (pre++[r]) none:=by unfold xJ;simp
 unfold yO;rw[Bs,bU,AW,JE A8,Bool.false_and,if_neg ()]
theorem bN {F:zm}{s:Sl}:∀ (n:Nat) (q:Int×Int),∃ pre r,wO F s n q=pre++[r]
 | 0,q=>#[[],q,rfl]
 | n+1,q=>by
  unfold wO;split
  .let#[pre,r,e]:=bN (F:=F) (s:=s) n (yN s.pu (zM s.pu q-s.gv) (min (yj s.pu q+s.gt) (F.zK (!s.pu))));show#[q::pre,r,by rw[e];rfl]
  .show#[[],q,rfl]
def vh (F:zm) (p:Nat) (q:Int×Int) (ss:List Sl):List (Int×Int):=match ss.find? (λ s=>decide (s.p=p)) with
 | none=>[q]
 | some s=>wO F s 20 q
theorem Mb {F:zm}(ok:F.Ok) (CO:F.ss.Pairwise (λ a b=>a.p≠b.p)) (p:Nat) {q:Int×Int}(hq:yn F q):lX [zq F,.int (p:Int),zg q]=↑(.lst ((wN F p q).map zg)):=by
 let#[J',h1,h2]:=xR (is:=[4,5,6,7,8]) (g:=xH 4 (zZ (zt 4) (zZ (zt 5) (zZ (zt 6) (zZ (zt 7) xY))))) (b:=qU) yi (λ ss J=>J=[↑(.im (zq F)),↑(.im (.int (p:Int))),↑(.im (zg q)),↑(.own (.lst ((vh F p q ss).map zg))),none,none,none,none,none])
   F.ss [↑(.im (zq F)),↑(.im (.int (p:Int))),↑(.im (zg q)),↑(.own (.lst [zg q])),none,none,none,none,none] rfl (by
  rintro pf s sf e J rfl;have hs:=ok.ss s (by rw[e];simp);have hb:turn (xH 4 (zZ (zt 4) (zZ (zt 5) (zZ (zt 6) (zZ (zt 7) xY))))) qU (yi s) [↑(.im (zq F)),↑(.im (.int (p:Int))),↑(.im (zg q)),↑(.own (.lst ((vh F p q pf).map zg))),none,none,none,none,none]=qU (xJ F p q s (vh F p q pf) none):=rfl;rw[hb];exact#[xJ F p q s (vh F p q (pf++[s])) none,?_,by unfold xJ;simp];unfold qU tS;by_cases A8:s.p=p
  .have hno:pf.find? (λ s=>decide (s.p=p))=none:=by
    rw[C1];intro a ha h;rw[e] at CO;show (C6.mp CO).2.2 a ha s Ap (by rw[of_decide_eq_true h,A8])
   have e1:vh F p q pf=[]++[q]:=by unfold vh;rw[hno];rfl
   have e2:vh F p q (pf++[s])=wO F s 20 q:=by
    unfold vh;rw[List.find?_append,hno,Bv,JF A8];rfl
   have hgv:zM s.pu q<20:=by
    have:=vQ (pu:=s.pu).mp hq;have:F.zK s.pu<=12:=by have:=ok.a1;have:=ok.b1;unfold zm.zK;split <;> assumption
    lia
   rw[e1,e2];show bR hs A8 20 [] q 1000000 hq ⋯ ⋯ #[] none
  .have e2:vh F p q (pf++[s])=vh F p q pf:=by
    unfold vh;rw[List.find?_append,Bv,JE A8];cases pf.find? (λ s=>decide (s.p=p)) <;> rfl
   obtain⟨pre,r,e3⟩:∃ pre r,vh F p q pf=pre++[r]:=by
    unfold vh;cases pf.find? (λ s=>decide (s.p=p)) with
    | none=>show#[[],q,rfl]
    | some s=>show bN 20 q
   rw[e2,e3];show O9 A8 pre r 999999 none)
 subst h2;have hw3:=Pk F;have e:vh F p q F.ss=wN F p q:=rfl;rw[e] at h1;unfold lX ZI;generalize qU=b2,F.ss.map yi=SS,(wN F p q).map zg=CC,zq F=fl,zg q=pq at *;simp![zh] at hw3;simp[hw3,h1]
structure Fix (F:zm) (l:List Bd):Prop where
 ok:F.Ok
 len:l.length=F.os.length
 gd:∀ b∈l,Gd F.A F.B b
 pw:F.ss.Pairwise (λ a b=>a.p≠b.p)
 go:∀ p<F.os.length,∀ q,yn F q->zv (l.getD p []) q=rE F l p q
section
variable {F:zm}
def nY {p:Nat}(hp:p<F.os.length):L2.zT (F.os.map kt) (p:Int)=↑(kt (F.os.getD p false)):=vi (by rw[AH,A3,AU hp];rfl)
theorem Qd (b:Bool):zD true (kt b) (.str "keeper")=↑(.bl (!b)):=by
 have h:(("taker":Str) == ("keeper":Str))=false:=()
 cases b
 .change zD true (.str "taker") (.str "keeper")=_;simp[zD,dep,eqT,h]
 .change zD true (.str "keeper") (.str "keeper")=_;simp[zD,dep,eqT]
end
def Pm {F:zm}(ok:F.Ok) (CO:F.ss.Pairwise (λ a b=>a.p≠b.p)) {m:Nat}(hg:∀ b∈zw F m,Gd F.A F.B b) (AZ:zw F (m+1)=zw F m):Fix F (zw F m):=by
 exact#[ok,pS F m,hg,CO,λ p hp q hq=>?_];have Jj:∀ p,Gd F.A F.B ((zw F m).getD p []):=λ p=>by
  rcases Bc p (zw F m).length with h | h
  .rw[A3,AU h];show hg _ (BA h)
  .rw[A3,DF h];show Gd.nil
 have e:(zw F m).getD p []=yg F (zw F m) p:=by
  have:(zw F (m+1)).getD p []=yg F (zw F m) p:=sy (λ p=>yg F (zw F m) p) F.os.length p [] hp;rw[AZ] at this;show this
 rw[e];show eR ok Jj p hq
def wZ (ET:List (List Bd)):T:=.lst (ET.map rT)
def wM (ET:List (List Bd)) (p:Nat) (q:Int×Int):Option Nat:=(List.range ET.length).find? λ k=>!zv ((ET.getD k []).getD p []) q
def ij (o:Option Nat):T:=match o with
 | some k=>.int (k:Int)
 | none=>.zp
def Y4 {ET:List (List Bd)}{n:Nat}(h:∀ r∈ET,r.length=n) {k:Nat}(hk:k<ET.length):(ET.getD k []).length=n:=by
 rw[A3,AU hk];show h _ (BA hk)
theorem NU (ET:List (List Bd)) (n p:Nat) (q:Int×Int) (hn:∀ r∈ET,r.length=n) (hb:∀ r∈ET,∀ b∈r,b.length<=100) (hp:p<n):ka [wZ ET,.int p,zg q]=↑(ij (wM ET p q)):=by
 have hl:=my (is:=[3,4]) (g:=xH 2 (zZ (zt 3) (zZ (zt 4) xY))) (b:=l8) (λ k:Nat=>T.tup [.int (k:Int),rT (ET.getD k [])]) (λ k:Nat=>T.int (k:Int)) (λ k=>!zv ((ET.getD k []).getD p []) q) [↑(.im (wZ ET)),↑(.im (.int p)),↑(.im (zg q)),none,none] (List.range ET.length) [↑(.im (wZ ET)),↑(.im (.int p)),↑(.im (zg q)),none,none] #[] λ k hk=>#[[↑(.im (wZ ET)),↑(.im (.int p)),↑(.im (zg q)),↑(.im (.int (k:Int))),↑(.im (rT (ET.getD k [])))],#[],by
  have Gb:=AD.mp hk;have hlen:=Y4 hn Gb;have e1:=mB (ET.getD k []) p ⋯;have e2:=NR ((ET.getD k []).getD p []) q (by
   have hm:ET.getD k []∈ET:=by rw[A3,AU Gb];show BA Gb
   have Hv:(ET.getD k []).getD p []∈ET.getD k []:=by
    have:p<(ET.getD k []).length:=⋯;rw[A3 (l:=ET.getD k []),AU this];show BA this
   have:=hb _ hm _ Hv;lia)
  unfold turn l8;generalize (ET.getD k []).getD p []=bd,rT (ET.getD k [])=rk,oV=ff,wZ ET=tt,zg q=pq at *;simp![zh] at e1;cases hc:zv bd q <;> rw[hc] at e2 <;> simp[e1,e2]]
 have he:vC [wZ ET]=↑((List.range ET.length).map λ k:Nat=>T.tup [.int (k:Int),rT (ET.getD k [])]):=by
  have:=ib rT [] ET ET 0 λ i=>by rw[CY]
  simp![CY] at this;change ↑(tB 0 (ET.map rT))=_;rw[this]
 unfold ka ZT wM ij;generalize l8=bb,vC=en,wZ ET=tt,zg q=pq,(List.range ET.length).map (λ k:Nat=>T.tup [.int (k:Int),rT (ET.getD k [])])=LL at *;generalize (List.range ET.length).find? _=o at *;simp[he,hl];cases o <;> simp
structure wA (F:zm) (m:Nat):Prop where
 fx:Fix F (zw F m)
 gd:∀ k,k<=m->∀ b∈zw F k,Gd F.A F.B b
def yD (F:zm) (m:Nat):List (List Bd):=(List.range (m+1)).map (zw F)
section
variable {F:zm}{m:Nat}
def nF (F:zm) (m:Nat):(yD F m).length=m+1:=by unfold yD;simp
def ku {k:Nat}(h:k<=m):(yD F m).getD k []=zw F k:=sy (zw F) (m+1) k [] ⋯
def wA.QY (R:wA F m) {k:Nat}(hk:k<=m) (p:Nat):Gd F.A F.B ((zw F k).getD p []):=by
 rcases Bc p (zw F k).length with h | h
 .rw[A3,AU h];show R.gd k hk _ (BA h)
 .rw[A3,DF h];show Gd.nil
theorem qP {p:Nat}{q:Int×Int}{k:Nat}(h:wM (yD F m) p q=↑k):k<=m/\zv ((zw F k).getD p []) q=false:=by
 unfold wM at h;have h1:=AD.mp (CF h);rw[nF] at h1;have h2:=List.find?_some h;rw[ku ⋯] at h2;show#[⋯,by exists h2]
theorem ig {p:Nat}{q:Int×Int}{k:Nat}(hk:k<=m) (h:zv ((zw F k).getD p []) q=false):∃ j,j<=k/\wM (yD F m) p q=↑j:=by
 unfold wM;cases ho:(List.range (yD F m).length).find? (λ k=>!zv (((yD F m).getD k []).getD p []) q) with
 | none=>
  rw[C1] at ho;have:=ho k (AD.mpr (by rw[nF];lia));rw[ku hk,h] at this;show absurd rfl this
 | some j=>
  exact#[j,?_,rfl];rcases Bc k j with hj | hj
  .have:=(List.find?_range_eq_some.mp ho).2.2 k hj;rw[ku hk,h] at this;cases this
  .show hj
def PR {p:Nat}{q:Int×Int}(h:wM (yD F m) p q=none) {k:Nat}(hk:k<=m):zv ((zw F k).getD p []) q=true:=by
 cases hc:zv ((zw F k).getD p []) q with
 | true=>rfl
 | false=>
  let#[j,_,hj]:=ig hk hc;rw[h] at hj;cases hj
def PU {p:Nat}(hp:p<F.os.length) {q:Int×Int}(hq:yn F q):wM (yD F m) p q≠↑0:=λ h=>by
 let#[_,h2]:=qP h;have e1:(zw F 0).getD p []=yW:=by
  change (RN.start F).getD p []=yW;unfold RN.start;rw[A3,CL,if_pos hp];rfl
 rw[e1,bH.mpr #[hq.1.1,hq.2.1]] at h2;cases h2
def Y3 {k:Nat}(h:k<=m):L2.zT ((yD F m).map rT) (k:Int)=↑(rT (zw F k)):=vi (by
 unfold yD;rw[A0,AH,D1 ⋯];rfl)
theorem gJ (R:wA F m):(∀ r∈yD F m,r.length=F.os.length)/\∀ r∈yD F m,∀ b∈r,b.length<=100:=by
 constructor
 .intro r hr;let#[k,hk,rfl]:=Ao.mp hr;show pS F k
 .intro r hr b hb;let#[k,hk,rfl]:=Ao.mp hr;have:=AD.mp hk;have h1:=(R.gd k ⋯ b hb).rn R.fx.ok.a0;have:=R.fx.ok.a1;lia
end
theorem Xw {F:zm}(ok:F.Ok) (gw:∀ x<F.os.length,∃ w∈F.ws,w.f=x) (pw:F.ss.Pairwise (λ a b=>a.p≠b.p)):∃ m,m<=2000/\rZ [zq F]=↑(wZ (yD F m))/\wA F m:=by
 let#[more,hr,hn,hmo,hR]:=NI ok;have n1:=ok.n1;have Aq:List.range F.os.length≠[]:=λ h=>by
  have h2:=congrArg List.length h;rw[BR] at h2;rw[h2] at n1;show absurd n1 ()
 let#[m,e,AZ]:=f7 ok gw 2000 [] 0 (List.range F.os.length) _ (St.start ok) Aq rfl hR;have ht:RN.start F::more=yD F m:=e;have el:=congrArg List.length ht;rw[nF] at el;rw[ht] at hr hn;have hgk:∀ k,k<=m->∀ b∈zw F k,Gd F.A F.B b:=λ k hk=>(hn (zw F k) (Ao.mpr #[k,AD.mpr ⋯,rfl])).2;show#[m,by simp at el;lia,hr,Pm ok pw (hgk m (Aj _)) AZ,hgk]
section
variable {F:zm}{m:Nat}
def ir (ok:F.Ok) {p:Nat}(hp:p<F.os.length) {q:Int×Int}{j k:Nat}(h:j<=k) (hc:zv ((zw F k).getD p []) q=true):zv ((zw F j).getD p []) q=true:=by
 let#[d,rfl]:=Nat.le.dest h;show dQ ok j d p hp q hc
def NS (b:Bd) (q:Int×Int):iZ [bT b,zg q]=↑(.bl (zv b q)):=by
 have hl:=my (is:=[2,3]) (g:=xH 2 (zZ (zt 2) (zZ (zt 3) xY))) (b:=iD) zg (λ _=>T.bl true) (x8 q) [im (bT b),im (zg q),none,none] b [im (bT b),im (zg q),none,none] rfl λ p _=>#[[im (bT b),im (zg q),im (.int p.1),im (.int p.2)],rfl,by
  change iD [im (bT b),im (zg q),im (.int p.1),im (.int p.2)]=_;have c1:zB (zb uu (zb zh (zc 1) (cI 0)) (zc 2)) [im (bT b),im (zg q),im (.int p.1),im (.int p.2)]=↑(decide (p.1<=q.1)):=vq (zJ (zJ rfl rfl lF) rfl rfl);have c2:zB (zb uu (zb zh (zc 1) (cI 1)) (zc 3)) [im (bT b),im (zg q),im (.int p.1),im (.int p.2)]=↑(decide (p.2<=q.2)):=vq (zJ (zJ rfl rfl lD) rfl rfl);unfold x8;cases h1:decide (p.1<=q.1) with
  | false=>rw[h1] at c1;show sr (N0 c1) rfl
  | true=>
   rw[h1] at c1;cases h2:decide (p.2<=q.2) with
   | false=>rw[h2] at c2;show sr (aB c1 c2) rfl
   | true=>rw[h2] at c2;show qE (aB c1 c2) rfl]
 have e:zv b q=(b.find? (x8 q)).isSome:=by
  unfold zv;rw[A7,AY,List.find?_isSome]
 rw[e];cases ho:b.find? (x8 q) with
 | none=>rw[ho] at hl;show uD (yy (t8 rfl hl) rfl) rfl
 | some x=>rw[ho] at hl;show uD (fk (t8 rfl hl)) rfl
def yF (F:zm) (m p:Nat) (q:Int×Int):Int:=match wM (yD F m) p q with
 | some k=>(k:Int)
 | none=>10 ^ 9
def Od {i j:Int}(h:0<j/\j<1073741824):yz (.int i) (.int j)=↑(.int (i/j)):=if_pos (show xt i j from h)
def gp {is:List Nat}{c:Ev->Option Bool}{b:Sm}{n:Nat}{J J0 J2:Ev}{o:Option Out}(h0:yB is J=J0) (h1:c J0=↑true) (h2:b J0=↑(.nx J2)) (h3:yO is c b n J2=o):yO is c b (n+1) J=o:=by
 unfold yO;rw[h0,h1,AW,if_pos rfl,h2];show h3
theorem Yf {is:List Nat}{c:Ev->Option Bool}{b:Sm}{n:Nat}{J J0:Ev}(h0:yB is J=J0) (h1:c J0=↑false):yO is c b (n+1) J=↑(.nx J0):=by
 unfold yO;rw[h0,h1,AW,if_neg ()]
abbrev qL (F:zm) (m p:Nat) (q:Int×Int) (l h:Nat) (c:Option L5.W):Ev:=[im (wZ (yD F m)),im (nT p),im (zg q),im (nT l),im (nT h),c]
def df (l h:Nat):yI (nT l) (nT h)=↑(.bl (decide (l<h))):=by
 change ↑(T.bl (decide ((l:Int)<h)))=_;rw[show decide ((l:Int)<h)=decide (l<h) by simp]
theorem jW (R:wA F m) {p:Nat}(hp:p<F.os.length) {q:Int×Int}:∀ (n l h:Nat) (c:Option L5.W) (M:Nat),h-l<=n->n<M->l<=h->h<=m+1->(∀ k<l,zv ((zw F k).getD p []) q=true)->(∀ k,h<=k->k<=m->zv ((zw F k).getD p []) q=false)->
  ∃ l',l'<=m+1/\(∀ k<l',zv ((zw F k).getD p []) q=true)/\(∀ k,l'<=k->k<=m->zv ((zw F k).getD p []) q=false)/\yO [5] (zB (zb yI (zc 3) (zc 4))) iE M (qL F m p q l h c)=↑(.nx (qL F m p q l' l' none))
 | n,l,h,c,M+1,hd,hM,hl,hh,h1,h2=>by
  have t:zB (zb yI (zc 3) (zc 4)) (qL F m p q l h none)=↑(decide (l<h)):=vq (zJ rfl rfl (df l h));by_cases e:l=h
  .subst e;show#[l,hh,h1,h2,Yf rfl (by rw[t,JE (BQ _)])]
  .rw[JF ⋯] at t
   match n,hd,hM with
   | 0,hd,_=>lia
   | n+1,hd,hM=>
   obtain⟨mid,hm1,GY,hm3⟩:∃ mid:Nat,((l:Int)+h)/2=(mid:Int)/\l<=mid/\mid<h:=#[(l+h)/2,⋯,⋯,⋯];have dv:yz (.int ((l:Int)+h)) (.int 2)=↑(nT mid):=(Od #[(),()]).trans (by rw[hm1]);have hk:mid<=m:=⋯;have hc:=yR (J:=qL F m p q l h (im (nT mid))) (tE (zJ (f:=zh) (zJ (f:=zh) (fa:=zc 0) (fb:=zc 5) rfl rfl (Y3 hk)) (fb:=zc 1) rfl (mB (zw F mid) p (by rw[pS];show hp))) (u:=za (zi 2) zf) rfl) (NS ((zw F mid).getD p []) q);have step:∀ o,_->iE (qL F m p q l h none)=o:=λ o x=>yy (xp (zJ (zJ rfl rfl rfl) rfl dv)) x;cases hv:zv ((zw F mid).getD p []) q with
   | true=>
    rw[hv] at hc;let#[l',g1,g2,g3,g4]:=jW R hp n (mid+1) h (im (nT mid)) M ⋯ ⋯ ⋯ hh (λ k Gb=>ir R.fx.ok hp (Nat.le_of_lt_succ Gb) hv) h2;show#[l',g1,g2,g3,gp rfl t (step _ (qE (gI hc) (xp (zJ rfl rfl rfl)))) g4]
   | false=>
    rw[hv] at hc;let#[l',g1,g2,g3,g4]:=jW R hp n l mid (im (nT mid)) M ⋯ ⋯ GY ⋯ h1 (λ k k1 k2=>by
     cases hx:zv ((zw F k).getD p []) q with
     | false=>rfl
     | true=>rw[ir R.fx.ok hp k1 hx] at hv;cases hv)
    show#[l',g1,g2,g3,gp rfl t (step _ (sr (gI hc) (xp rfl))) g4]
theorem NV (R:wA F m) (hm:m<=2000) {p:Nat}(hp:p<F.os.length) (q:Int×Int):i_ [wZ (yD F m),nT p,zg q]=↑(.int (yF F m p q)):=by
 let#[l,g1,g2,g3,g4]:=jW R hp (q:=q) (m+1) 0 (m+1) none 1000000 ⋯ ⋯ ⋯ (Aj _) nofun (λ k k1 k2=>⋯);have hlen:yY [wZ (yD F m)]=↑(nT (m+1)):=by
  change ↑(T.int (((yD F m).map rT).length:Int))=_;rw[AA,nF]
 have pre:∀ o,_->ZH [im (wZ (yD F m)),im (nT p),im (zg q),none,none,none]=o:=λ o x=>yy (xp rfl) (yy (xp (yR rfl hlen)) (yy g4 x));have t:=zJ (f:=yI) (fa:=zc 3) (fb:=zo yY (za (zc 0) zf)) (J:=qL F m p q l l none) rfl (yR rfl hlen) (df l (m+1));by_cases hl:l<m+1
 .rw[JF hl] at t;have e:yF F m p q=(l:Int):=by
   unfold yF;let#[j,j1,j2]:=ig (F:=F) (m:=m) (p:=p) (q:=q) (k:=l) ⋯ (g3 l (Aj _) ⋯);rw[j2];let#[d1,d2]:=qP j2;rcases Bc j l with x | x
   .rw[g2 j x] at d2;cases d2
   .change (j:Int)=l;lia
  rw[e];show uD (pre _ (pD (zJ rfl (yR (tE t rfl) rfl) lD))) rfl
 .rw[JE hl] at t;have e:yF F m p q=10 ^ 9:=by
   unfold yF;cases ho:wM (yD F m) p q with
   | none=>rfl
   | some j=>
    let#[d1,d2]:=qP ho;rw[g2 j ⋯] at d2;cases d2
  rw[e];show uD (pre _ (pD (zJ (x:=.lst [.int (10 ^ 9),nT l]) (y:=.int 0) rfl (yR (tE t rfl) rfl) lF))) rfl
def wY (F:zm) (m:Nat) (r:Int×Int) (w:Wy):Int:=match uB F r w with
 | none=>0
 | some x=>yF F m w.t x
def je (R:wA F m) (hm:m<=2000) {p:Nat}(hp:p<F.os.length) (q:Int×Int) {k:Nat}(hk:k<=m):zv ((zw F k).getD p []) q=true↔(k:Int)<yF F m p q:=by
 unfold yF;cases ho:wM (yD F m) p q with
 | none=>show#[λ _=>by change (k:Int)<10 ^ 9;lia,λ _=>PR ho hk]
 | some j=>
  let#[d1,d2]:=qP ho;exact#[λ h=>?_,λ h=>?_]
  .change (k:Int)<j;rcases Bc k j with x | x
   .lia
   .rw[ir R.fx.ok hp x h] at d2;cases d2
  .have h:(k:Int)<j:=h;cases hc:zv ((zw F k).getD p []) q with
   | true=>rfl
   | false=>
    let#[i,i1,i2]:=ig (F:=F) (m:=m) hk hc;rw[ho] at i2;cases i2;lia
def eF (F:zm) (m p:Nat) (q:Int×Int):(0<=yF F m p q/\yF F m p q<=m)\/yF F m p q=10 ^ 9:=by
 unfold yF;cases ho:wM (yD F m) p q with
 | none=>show .inr rfl
 | some j=>show .inl #[by change (0:Int)<=j;lia,by have:=(qP ho).1;change (j:Int)<=m;lia]
def nr (R:wA F m) (hm:m<=2000) {w:Wy}(hw:w∈F.ws) (r:Int×Int) {k:Nat}(hk:k<=m):tw F (zw F k) r w=true↔(k:Int)<wY F m r w:=by
 unfold tw wY;cases uB F r w with
 | none=>show#[nofun,λ h=>by have h:(k:Int)<0:=h;lia]
 | some x=>show je R hm (R.fx.ok.ws w hw).2 x hk
def gy (F:zm) (m:Nat) (r:Int×Int) (w:Wy):(0<=wY F m r w/\wY F m r w<=m)\/wY F m r w=10 ^ 9:=by
 unfold wY;cases uB F r w with
 | none=>show .inl #[AL 0,by change (0:Int)<=m;lia]
 | some x=>show eF F m w.t x
def Oq (R:wA F m) {p:Nat}(hp:p<F.os.length) {q:Int×Int}(hq:yn F q) {k:Nat}(hk:k<=m):zv ((zw F (k+1)).getD p []) q=rE F (zw F k) p q:=by
 have e:(zw F (k+1)).getD p []=yg F (zw F k) p:=sy (λ p=>yg F (zw F k) p) F.os.length p [] hp;rw[e];show eR R.fx.ok (R.QY hk) p hq
theorem eD (R:wA F m) (hm:m<=2000) {p:Nat}(hp:p<F.os.length) {q:Int×Int}(hq:yn F q) {M:Int}(h0:(0<=M/\M<=m)\/M=10 ^ 9) (h:∀ k,k<=m->(rE F (zw F k) p q=true↔(k:Int)<M)):yF F m p q=if 10 ^ 9<M+1 then 10 ^ 9 else M+1:=by
 have key:∀ k,k+1<=m->((k:Int)+1<yF F m p q↔(k:Int)<M):=λ k hk=>by
  rw[<- h k ⋯,<- Oq R hp hq ⋯,je R hm hp q hk];constructor <;> intro x <;> lia
 have EO:((m:Int)<yF F m p q↔(m:Int)<M):=by
  rw[<- h m (Aj m),<- R.fx.go p hp q hq,je R hm hp q (Aj m)]
 have n0:yF F m p q≠0:=λ z=>by
  unfold yF at z;cases ho:wM (yD F m) p q with
  | none=>rw[ho] at z;show absurd z ()
  | some j=>
   rw[ho] at z;have z:(j:Int)=0:=z;show PU hp hq (by rw[ho,show j=0 by lia])
 rcases eF F m p q with ⟨x1,x2⟩ | x
 .have hM:M<=m:=by
   rcases Int.lt_or_le (m:Int) M with y | y
   .have:=EO.mpr y;lia
   .show y
  rw[if_neg ⋯];obtain⟨d,hd⟩:∃ d:Nat,yF F m p q=(d:Int)+1:=#[(yF F m p q).toNat-1,⋯];have k1:=key d ⋯;rw[hd] at k1 ⊢;have k2:¬ (d:Int)<M:=λ y=>by have:=k1.mpr y;lia
  cases d with
  | zero=>lia
  | succ d=>
   have k3:=(key d ⋯).mp ⋯;lia
 .have hM:=EO.mp ⋯;rw[x,if_pos ⋯]
def xu (F:zm) (m p:Nat) (rs:List (Int×Int)):List Int:=rs.flatMap λ r=>(xF F p).map (wY F m r)
def qd {p:Nat}{w:Wy}:w∈xF F p↔w∈F.ws/\w.f=p:=by
 unfold xF;rw[Bb];show and_congr_right λ _=>decide_eq_true_iff
def pj {p:Nat}{rs:List (Int×Int)}{v:Int}:v∈xu F m p rs↔∃ r∈rs,∃ w∈xF F p,wY F m r w=v:=by
 unfold xu;simp![Bm,Ao]
def Qm (R:wA F m) (hm:m<=2000) {p:Nat}(hp:p<F.os.length) (ho:F.os.getD p false=true) {q:Int×Int}(hq:yn F q) {M:Int}(h1:M∈xu F m p (wN F p q)) (h2:∀ v∈xu F m p (wN F p q),v<=M):yF F m p q=if 10 ^ 9<M+1 then 10 ^ 9 else M+1:=by
 let#[r,hr,w,hw,rfl]:=pj.mp h1;exact eD R hm hp hq (gy F m r w) λ k hk=>?_;unfold rE;rw[if_pos ho,AY];constructor
 .rintro⟨r',GN,h⟩;let#[w',GJ,h]:=AY.mp h;have:=(nr R hm (qd.mp GJ).1 r' hk).mp h;have:=h2 _ (pj.mpr #[r',GN,w',GJ,rfl]);lia
 .intro h;show#[r,hr,AY.mpr #[w,hw,(nr R hm (qd.mp hw).1 r hk).mpr h]]
theorem Y6 (R:wA F m) (hm:m<=2000) {p:Nat}(hp:p<F.os.length) (ho:F.os.getD p false=false) {q:Int×Int}(hq:yn F q) {M:Int}(h1:M∈xu F m p [q]) (h2:∀ v∈xu F m p [q],M<=v):yF F m p q=if 10 ^ 9<M+1 then 10 ^ 9 else M+1:=by
 let#[r,hr,w,hw,rfl]:=pj.mp h1;cases AO.mp hr;exact eD R hm hp hq (gy F m q w) λ k hk=>?_;unfold rE;rw[if_neg (by rw[ho];decide),BP];constructor
 .intro h;show (nr R hm (qd.mp hw).1 q hk).mp (h w hw)
 .intro h w' GJ;exact (nr R hm (qd.mp GJ).1 q hk).mpr ?_;have:=h2 _ (pj.mpr #[q,hr,w',GJ,rfl]);lia
def PB {i:Nat}{f:Ag}{J:Ev}{ts us:List T}(h0:J[i]?=↑↑(.own (.lst ts))) (h:f J=↑(.lst us)) (hl:ts.length+us.length<=sizeLine):qN i f J=↑(.nx (J.set i ↑(.own (.lst (ts++us))))):=by
 unfold qN;rw[h0];dsimp only;rw[h];show if_pos hl
def wG (b x:Nat):List (Int×Int):=(List.range b).map λ y:Nat=>((x:Int),(y:Int))
def uj (a b:Nat):List (Int×Int):=(List.range a).flatMap (wG b)
theorem Ux {a b:Nat}{q:Int×Int}:q∈uj a b↔(0<=q.1/\q.1<a)/\0<=q.2/\q.2<b:=by
 unfold uj wG;simp![Bm,Ao,AD];constructor
 .rintro⟨x,hx,y,hy,rfl⟩;show#[#[by change (0:Int)<=x;lia,by change (x:Int)<a;lia],by change (0:Int)<=y;lia,by change (y:Int)<b;lia]
 .rintro⟨⟨h1,h2⟩,h3,h4⟩;show#[q.1.toNat,⋯,q.2.toNat,⋯,Prod.ext (by change ((q.1.toNat:Nat):Int)=q.1;lia) (by change ((q.2.toNat:Nat):Int)=q.2;lia)]
theorem Uw (a b:Nat):(uj a b).Nodup:=by
 unfold uj List.Nodup;rw[List.pairwise_flatMap];constructor
 .intro x _;unfold wG;rw[CJ];show Cj.imp λ h e=>h (by have:=congrArg Prod.snd e;dsimp only at this;lia)
 .exact Cj.imp λ{x y} h u hu v hv e=>?_;unfold wG at hu hv;let#[i,_,rfl]:=Ao.mp hu;let#[j,_,rfl]:=Ao.mp hv;have:=congrArg Prod.fst e;dsimp only at this;lia
def fw (b x:Nat):(wG b x).length=b:=by unfold wG;simp
theorem pairs_len (b:Nat):∀ l:List Nat,(l.flatMap (wG b)).length=l.length*b
 | []=>#[]
 | x::l=>by rw[Cf,Bp,fw,pairs_len b l,A5,Nat.add_mul];lia
theorem NJ (ok:F.Ok):∃ a b:Nat,iY [zq F]=↑(.lst ((uj a b).map zg))/\(∀ q,q∈uj a b↔yn F q)/\(uj a b).length<=169/\0<(uj a b).length:=by
 obtain⟨a,ha,a12⟩:∃ a:Nat,F.A+1=(a:Int)/\a<=13:=#[(F.A+1).toNat,by have:=ok.a0;lia,by have:=ok.a1;lia];obtain⟨b,hb,JA⟩:∃ b:Nat,F.B+1=(b:Int)/\b<=13:=#[(F.B+1).toNat,by have:=ok.b0;lia,by have:=ok.b1;lia];have a0:=ok.a0;have b0:=ok.b0;have lab:(uj a b).length=a*b:=by unfold uj;rw[pairs_len,BR]
 exact#[a,b,?_,λ q=>?_,by rw[lab];show Nat.mul_le_mul a12 JA,by rw[lab];show Nat.mul_pos ⋯ ⋯]
 .have Gu:=jV F;let#[J',h1,h2]:=xR (is:=[2]) (g:=zt 2) (b:=av) (λ k:Nat=>T.int (0+(k:Int))) (λ p J=>p.length<=a->J=[im (zq F),↑(.own (.lst ((p.flatMap (wG b)).map zg))),none])
    (List.range a) [im (zq F),↑(.own (.lst [])),none] (λ _=>rfl) (by
   rintro p k q e J r1;have hp:p.length<a:=by have:=congrArg List.length e;simp at this;lia
   rw[r1 ⋯];have hc:b_ [im (zq F),↑(.own (.lst ((p.flatMap (wG b)).map zg))),im (.int (0+(k:Int)))]=↑(.lst ((wG b k).map zg)):=by
    unfold wG;rw[A0,Cg];exact sj (λ k:Nat=>T.int (0+(k:Int))) (λ y:Nat=>zg ((k:Int),(y:Int))) (List.range b) ?_ (by rw[BR];lia) λ y hy=>?_
    .exact (show xx xO _ _=_ from ?_);change (za _ _ _).bind xO=_;rw[tE (zJ (zJ (zJ rfl rfl Gu) rfl lD) rfl rfl) rfl];change xO [.int (F.B+1)]=_;rw[hb];show s_ b ⋯
    .rw[Cg];rfl
   have hl:((p.flatMap (wG b)).map zg).length+((wG b k).map zg).length<=sizeLine:=by
    rw[AA,AA,pairs_len,fw];show Be (Nat.add_le_add (Nat.mul_le_mul (show p.length<=13 by lia) JA) JA) ()
   exact#[[im (zq F),↑(.own (.lst (((p++[k]).flatMap (wG b)).map zg))),im (.int (0+(k:Int)))],?_,λ _=>rfl];exact (PB (i:=1) (J:=[im (zq F),↑(.own (.lst ((p.flatMap (wG b)).map zg))),im (.int (0+(k:Int)))]) rfl hc hl).trans ?_;rw[DW,Bz,Cf,DV,BE];rfl)
  rw[h2 (by rw[BR];show Aj _)] at h1;exact uD (yy (J':=[im (zq F),↑(.own (.lst [])),none]) rfl (yy (t8 (ts:=(List.range a).map λ k:Nat=>T.int (0+(k:Int))) ?_ h1) rfl)) rfl;change (za _ _ _).bind xO=_;rw[tE (zJ (zJ (zJ rfl rfl Gu) rfl lF) rfl rfl) rfl];change xO [.int (F.A+1)]=_;rw[ha];show s_ a ⋯
 .rw[Ux];unfold yn;lia
abbrev kN (p:Nat) (q:Int×Int):NK:=((p:Int),[q.1,q.2])
abbrev eN (F:zm) (m p:Nat) (q:Int×Int):NK×Int:=(kN p q,yF F m p q)
def wD (F:zm) (m:Nat) (L:List (Int×Int)) (ps:List Nat):List (NK×Int):=ps.flatMap λ p=>L.map (eN F m p)
theorem RK {l:List (NK×Int)}{k:NK}{v:Int}(h1:∃ e∈l,e.1=k) (h2:∀ e∈l,e.1=k->e.2=v):xo l k=↑v:=by
 unfold xo;cases ho:l.find? (λ x=>decide (x.1=k)) with
 | none=>
  let#[e,e1,e2]:=h1;show absurd (JF e2) (C1.mp ho e e1)
 | some e=>rw[Option.map_some,h2 e (CF ho) (by exists List.find?_some ho)]
theorem RL {l:List (NK×Int)}{k:NK}(h:∀ e∈l,e.1≠k):xo l k=none:=by
 unfold xo;rw[C1.mpr λ e he z=>h e he (by exists z)];rfl
def j5 {p p':Nat}{q q':Int×Int}(h:kN p q=kN p' q'):p=p'/\q=q':=by
 have h1:=congrArg Prod.fst h;have h2:=congrArg Prod.snd h;simp![List.cons.injEq,and_true] at h2;show#[by dsimp only at h1;lia,Prod.ext h2.1 h2.2]
def Y7 {L:List (Int×Int)}{ps:List Nat}{p:Nat}{q:Int×Int}(hp:p∈ps) (hq:q∈L):xo (wD F m L ps) (kN p q)=↑(yF F m p q):=by
 exact RK #[eN F m p q,Bm.mpr #[p,hp,Ao.mpr #[q,hq,rfl]],rfl] λ e he hk=>?_;let#[p',_,h2]:=Bm.mp he;let#[q',_,rfl]:=Ao.mp h2;let#[rfl,rfl]:=j5 hk;rfl
def m6 (p:Nat) (q:Int×Int):rq (.tup [nT p,zg q])=↑(kN p q):=rfl
theorem gM (F:zm) (m:Nat) (L:List (Int×Int)):∀ ps:List Nat,(wD F m L ps).length=ps.length*L.length
 | []=>by simp[wD]
 | p::ps=>by
  have:=gM F m L ps;unfold wD at this ⊢;rw[Cf,Bp,AA,this,A5,Nat.add_mul];lia
end
theorem NH (A B:Int) (q:Int×Int) (h:(0<=q.1/\q.1<=A)/\0<=q.2/\q.2<=B):oU [zg q,.tup [.tup [.int 0,.int A],.tup [.int 0,.int B]]]=↑(.bl true):=by
 have hc:lg [↑(.im (zg q)),↑(.im (.tup [.tup [.int 0,.int A],.tup [.int 0,.int B]]))]=↑(.lst ([(q.1,A),(q.2,B)].map λ x:Int×Int=>T.bl true)):=by
  unfold lg;exact sj (λ x:Int×Int=>T.tup [.int x.1,.tup [.int 0,.int x.2]]) _ [(q.1,A),(q.2,B)] (by simp[zg]) #[] λ x hx=>?_;have Gz:0<=x.1/\x.1<=x.2:=by
   simp![Ah,CA,or_false] at hx;rcases hx with rfl | rfl
   .show h.1
   .show h.2
  simp[aR,Gz]
 unfold oU ZR;have it:uG "tuple" "tuple"=true:=()
 generalize lg=cc at *;simp[zg] at hc;simp[zg,it,eq_int,hc,sJ]
def Ma (F:zm) (q:Int×Int) (h:(0<=q.1/\q.1<=F.A)/\0<=q.2/\q.2<=F.B):kc [zq F,zg q]=↑.zp:=by
 have h1:=NH F.A F.B q h;have Gu:zh (zq F) (.int 0)=↑(.tup [.int F.A,.int F.B]):=by simp[zq]
 unfold kc ZW;generalize oU=ff,zq F=fl,zg q=pq at *;simp![zh] at Gu;simp[Gu,h1]
def R9 {i j:Int}(h:0<j):zL (.int i) (.int j)=↑(.int (i%j)):=if_pos h
theorem eY (c:Int) {n:Nat}(h:0<n):∃ p:Nat,p<n/\zL (.int c) (nT n)=↑(nT p):=by
 have m0:=C_ c (b:=(n:Int)) ⋯;have m1:=D4 c (b:=(n:Int)) ⋯;exact#[(c%(n:Int)).toNat,⋯,?_];unfold nT;rw[R9 ⋯,show (((c%(n:Int)).toNat:Nat):Int)=c%(n:Int) by lia]
theorem Qc (b:Bool):zD false (kt b) (.str "taker")=↑(.bl (!b)):=by
 have h:(("keeper":Str) == ("taker":Str))=false:=()
 cases b
 .change zD false (.str "taker") (.str "taker")=_;simp[zD,dep,eqT]
 .change zD false (.str "keeper") (.str "taker")=_;simp[zD,dep,eqT,h]
def O3 (F:zm) (p:Nat) (q:Int×Int):(wN F p q)[0]?=↑q:=by
 unfold wN;cases F.Fi p with
 | none=>rfl
 | some s=>rfl
theorem bM {F:zm}{s:Sl}:∀ (n:Nat) (q:Int×Int),(wO F s n q).length<=n+1
 | 0,q=>by unfold wO;simp
 | n+1,q=>by
  unfold wO;rw[A5];split
  .have:=bM n (F:=F) (s:=s) (yN s.pu (zM s.pu q-s.gv) (min (yj s.pu q+s.gt) (F.zK (!s.pu))));lia
  .simp
def O2 (F:zm) (p:Nat) (q:Int×Int):(wN F p q).length<=21:=by
 unfold wN;cases F.Fi p with
 | none=>simp
 | some s=>show bM 20 q
def Q8 {F:zm}{x y:Int}(h1:0<=x) (h2:x<=F.A) (h3:0<=y) (h4:y<=F.B):yn F (x,y):=#[#[h1,h2],h3,h4]
section
variable {F:zm}{m:Nat}
def jh {i:Nat}{f:Ag}{J:Ev}{y:T}{k:NK}{l:List (NK×Int)}{v:Int}(h:f J=↑y) (hk:rq y=↑k) (hl:me J i=↑l) (hv:xo l k=↑v):tm i f J=↑(.int v):=by
 unfold tm;rw[h,AW,hk,AW,hl,AW,hv];rfl
theorem Rm {i:Nat}{f g:Ag}{J:Ev}{y:T}{k:NK}{l:List (NK×Int)}{n:Int}(hg:g J=↑(.int n)) (h:f J=↑y) (hk:rq y=↑k) (hl:J[i]?=↑↑(.own (.zY l))) (hv:xo l k=none) (hz:l.length<=100000):md i f g J=↑(.nx (J.set i ↑(.own (.zY (l++[(k,n)]))))):=by
 unfold md;rw[hg,AW,h,AW,hk,AW,hl];dsimp only;show if_pos #[hv,DL hz ()]
theorem YW (ok:F.Ok) {r x:Int×Int}{w:Wy}(hr:yn F r) (h:uB F r w=↑x):yn F x:=by
 unfold uB at h;have:=ok.a0;have:=ok.b0;split at h
 .cases h
 .cases h;show Q8 ⋯ ⋯ ⋯ ⋯
def Tb (F:zm) (m:Nat) (tb:List (NK×Int)):Prop:=∀ p<F.os.length,∀ q,yn F q->xo tb (kN p q)=↑(yF F m p q)
abbrev bE (F:zm) (p:Nat) (q:Int×Int) (tb:List (NK×Int)) (acc:List Int) (ws rs:T) (r w x:Option L5.W):Ev:=[im (zq F),im (nT p),im (zg q),im (.dn tb),↑(.own (.lst (acc.map T.int))),im ws,im rs,r,w,x]
def Np (ok:F.Ok) {tb:List (NK×Int)}(ht:Tb F m tb) {p:Nat}{q:Int×Int}(ws rs:T) {r:Int×Int}(hr:yn F r) {w:Wy}(hw:w∈F.ws) (acc:List Int) (hl:acc.length<=10000):
  ∃ x,l7 (bE F p q tb acc ws rs (im (zg r)) (im (zO w)) none)=↑(.nx (bE F p q tb (acc++[wY F m r w]) ws rs (im (zg r)) (im (zO w)) x)):=by
 have hb:=Mg F r w;unfold wY bE;rw[Bz];cases hs:uB F r w with
 | none=>
  rw[hs] at hb;show#[im .zp,yy (xp (yR rfl hb)) (qE (vq (zJ rfl rfl (r:=↑(.bl true)) rfl)) (ay rfl rfl (by rw[AA];show hl)))]
 | some x=>
  rw[hs] at hb;exact#[im (zg x),yy (xp (yR rfl hb)) (sr (vq (zJ rfl rfl (r:=↑(.bl false)) rfl)) (ay rfl (jh (nD (tE (zJ rfl rfl lD) rfl) (of_decide_eq_true rfl)) (m6 w.t x) rfl (ht w.t (ok.ws w hw).2 x (YW ok hr hs))) (by rw[AA];show hl)))]
def Nq (ok:F.Ok) {tb:List (NK×Int)}(ht:Tb F m tb) {p:Nat}{q:Int×Int}(ws rs:T) {r:Int×Int}(hr:yn F r) (acc:List Int) (hl:acc.length<=5000):
  xI [8,9] (zt 8) l7 ((xF F p).map zO) (bE F p q tb acc ws rs (im (zg r)) none none)=↑(.nx (bE F p q tb (acc++(xF F p).map (wY F m r)) ws rs (im (zg r)) none none)):=by
 have wl:(xF F p).length<=60:=Be (CB _ _) ok.tT;let#[J',h1,h2]:=xR (is:=[8,9]) (g:=zt 8) (b:=l7) zO (λ pre J=>J=bE F p q tb (acc++pre.map (wY F m r)) ws rs (im (zg r)) none none) (xF F p) (bE F p q tb acc ws rs (im (zg r)) none none) (by rw[Ba,BE];rfl) (by
  rintro pre w post e J rfl;have hw:w∈F.ws:=(qd.mp (show w∈xF F p by rw[e];simp)).1;have hp:pre.length<=60:=by have:=congrArg List.length e;simp at this;lia
  let#[x,hx]:=Np (p:=p) (q:=q) ok ht ws rs hr hw (acc++pre.map (wY F m r)) (by rw[Bp,AA];lia);exact#[_,hx,?_];rw[Bz,<- CM];rfl)
 rw[h1,h2]
theorem Yg (ok:F.Ok) (p:Nat) (q:Int×Int) (tb:T) (acc:Option L5.W):i4 [im (zq F),im (nT p),im (zg q),im tb,acc,none,none,none,none,none]=↑(.lst ((xF F p).map zO)):=by
 have:=pQ zO (λ w=>if decide (w.f=p)=true then ↑(zO w) else none) (pick:=[none,↑1]) (it:=yA (zb zh (zc 0) (cI 2))) (g:=zt 0) (c:=zB (zb (zD false) (zb zh (zc 0) (cI 0)) (zc 1))) (f:=zi 0) (J:=[im (zq F),im (nT p),im (zg q),im tb,acc,none,none,none,none,none]) F.ws (by
  change (zb zh (zc 0) (cI 2) _).bind xv=_;rw[zJ rfl rfl (Pl F)];rfl) (by have:=ok.tT;lia) (λ w _=>by
  have t:zB (zb (zD false) (zb zh (zc 0) (cI 0)) (zc 1)) [im (zO w),im (nT p)]=↑(decide (w.f=p)):=vq (zJ (zJ rfl rfl lF) rfl (by rw[eq_int,show decide ((w.f:Int)=p)=decide (w.f=p) by rw[decide_eq_decide];lia];rfl));exact (show rp [none,↑1] (zt 0) (zB (zb (zD false) (zb zh (zc 0) (cI 0)) (zc 1))) (zi 0) [im (zq F),im (nT p),im (zg q),im tb,acc,none,none,none,none,none] (zO w)=(zB (zb (zD false) (zb zh (zc 0) (cI 0)) (zc 1)) [im (zO w),im (nT p)]).bind λ b=>if b=true then ↑↑(zO w) else ↑none from rfl).trans ?_;rw[t];cases decide (w.f=p) <;> rfl)
 unfold i4;rw[this,mK];rfl
def Mh (ok:F.Ok) (CO:F.ss.Pairwise (λ a b=>a.p≠b.p)) {tb:List (NK×Int)}(ht:Tb F m tb) {p:Nat}(hp:p<F.os.length) {q:Int×Int}(hq:yn F q):
  hJ [zq F,nT p,zg q,.dn tb]=↑(.lst ((xu F m p (if F.os.getD p false=true then wN F p q else [q])).map T.int)):=by
 have hin:∀ r∈wN F p q,yn F r:=λ r h=>by
  unfold wN at h;cases e:F.Fi p with
  | none=>rw[e] at h;cases AO.mp h;show hq
  | some s=>rw[e] at h;show mW (ok.ss s (CF e)) 20 hq r h
 have fin:∀ rs:List (Int×Int),(∀ r∈rs,yn F r)->rs.length<=21->zl (yZ [7,8,9] (yA (zi 6)) (zt 7) iC) (tf 4) (bE F p q tb [] (.lst ((xF F p).map zO)) (.lst (rs.map zg)) none none none)=↑(.rt (.lst ((xu F m p rs).map T.int))):=λ rs El hl=>by
  have wl:(xF F p).length<=60:=Be (CB _ _) ok.tT;have vl:∀ pre:List (Int×Int),(xu F m p pre).length<=60*pre.length:=λ pre=>by
   induction pre with
   | nil=>simp[xu]
   | cons r pre ih=>
    unfold xu at ih ⊢;rw[Cf,Bp,AA,A5];lia
  let#[J',h1,h2]:=xR (is:=[7,8,9]) (g:=zt 7) (b:=iC) zg (λ pre J=>J=bE F p q tb (xu F m p pre) (.lst ((xF F p).map zO)) (.lst (rs.map zg)) none none none) rs (bE F p q tb [] (.lst ((xF F p).map zO)) (.lst (rs.map zg)) none none none) rfl (by
   rintro pre r post e J rfl;have Ar:pre.length<=21:=by have:=congrArg List.length e;simp at this;lia
   exact#[_,t8 (f:=yA (zi 5)) rfl (Nq ok ht (p:=p) (q:=q) (.lst ((xF F p).map zO)) (.lst (rs.map zg)) (El r (by rw[e];simp)) (xu F m p pre) (by have:=vl pre;lia)),?_];change bE F p q tb _ _ _ none none none=_;unfold xu;rw[DW,Cf,DV,BE])
  rw[h2] at h1;show yy (t8 rfl h1) rfl
 have pre:∀ o,_->ZL [im (zq F),im (nT p),im (zg q),im (.dn tb),none,none,none,none,none,none]=o:=λ o h=>yy (J':=[im (zq F),im (nT p),im (zg q),im (.dn tb),↑(.own (.lst [])),none,none,none,none,none]) rfl (yy (xp (Yg ok p q (.dn tb) _)) (yy (xp (y:=.lst [zg q]) rfl) h));have tk:zD false (kt (F.os.getD p false)) (.str "keeper")=↑(.bl (F.os.getD p false)):=by
  have:=Qd (F.os.getD p false);cases F.os.getD p false <;> simp[kt,zD,dep,eqT] <;> decide
 cases ho:F.os.getD p false with
 | true=>
  rw[ho] at tk;rw[if_pos rfl];show uD (pre _ (yy (qE (vq (zJ (zJ (zJ rfl rfl (pY F)) rfl (nY hp)) rfl (by rw[ho];show tk))) (xp (yR rfl (Mb ok CO p hq)))) (fin _ hin (O2 F p q)))) rfl
 | false=>
  rw[ho] at tk;rw[if_neg ()];show uD (pre _ (yy (sr (vq (zJ (zJ (zJ rfl rfl (pY F)) rfl (nY hp)) rfl (by rw[ho];show tk))) rfl) (fin [q] (λ r h=>by cases AO.mp h;show hq) (show 1<=21 by decide)))) rfl
abbrev lE (ns:List Int) (F:zm) (m:Nat) (L:List (Int×Int)) (tb p q s d f:Option L5.W):Ev:=[im (zP ns),im (zq F),im (wZ (yD F m)),im (.lst (L.map zg)),tb,p,q,s,d,f]
def fill (R:wA F m) (hm:m<=2000) (ns:List Int) {L:List (Int×Int)}(nd:L.Nodup) (ll:L.length<=169):
  xI [5,6] (zt 5) l4 ((List.range F.os.length).map λ k:Nat=>T.int (0+(k:Int))) (lE ns F m L ↑(.own (.zY [])) none none none none none)=↑(.nx (lE ns F m L ↑(.own (.zY (wD F m L (List.range F.os.length)))) none none none none none)):=by
 let#[J',h1,h2]:=xR (is:=[5,6]) (g:=zt 5) (b:=l4) (λ k:Nat=>T.int (0+(k:Int))) (λ pre J=>J=lE ns F m L ↑(.own (.zY (wD F m L pre))) none none none none none) (List.range F.os.length) (lE ns F m L ↑(.own (.zY [])) none none none none none) rfl (by
  rintro pre p post e J rfl;have hp:p<F.os.length:=AD.mp (by rw[e];simp);have Ar:pre.length<=8:=by have:=congrArg List.length e;simp at this;have:=R.fx.ok.n8;lia
  have np:∀ p'∈pre,p'≠p:=λ p' h=>by
   have:=Cj (n:=F.os.length);rw[e,CZ] at this;show this.2.2 p' h p Ap
  have tl:(wD F m L pre).length<=1352:=by rw[gM];show Nat.mul_le_mul Ar ll
  let#[J2,g1,g2]:=xR (is:=[6]) (g:=zt 6) (b:=aw) zg (λ pr J=>J=lE ns F m L ↑(.own (.zY (wD F m L pre++pr.map (eN F m p)))) (im (nT p)) none none none none) L (lE ns F m L ↑(.own (.zY (wD F m L pre))) (im (nT p)) none none none none) (by rw[Ba,BE];rfl) (by
   rintro pr q po e' J rfl;have nq:∀ q'∈pr,q'≠q:=λ q' h=>by
    rw[e',CZ] at nd;show nd.2.2 q' h q Ap
   have prl:pr.length<=169:=by have:=congrArg List.length e';simp at this;lia
   have hn:xo (wD F m L pre++pr.map (eN F m p)) (kN p q)=none:=RL λ x hx=>by
    rcases A2.mp hx with h | h
    .let#[p',a1,a2]:=Bm.mp h;let#[q',_,rfl]:=Ao.mp a2;show λ z=>np p' a1 (j5 z).1
    .let#[q',a1,rfl]:=Ao.mp h;show λ z=>nq q' a1 (j5 z).2
   exact#[_,Rm (J:=lE ns F m L ↑(.own (.zY (wD F m L pre++pr.map (eN F m p)))) (im (nT p)) (im (zg q)) none none none) (yR rfl (NV R hm hp q)) (nD rfl (of_decide_eq_true rfl)) (m6 p q) rfl hn (by rw[Bp,AA];lia),?_];rw[Bz,<- CM];rfl)
  rw[g2] at g1;rw[Cg];exact#[_,(show l4 (lE ns F m L ↑(.own (.zY (wD F m L pre))) (im (nT p)) none none none none)=_ from t8 (f:=yA (zi 3)) rfl g1),?_];unfold wD;rw[DW,Cf,DV,BE];rfl)
 rw[h1,h2]
def da {vs:List Int}{M:Int}(h:tq vs=↑M):mv [.lst (vs.map T.int)]=↑(.int M):=by
 change (wx _).bind _=_;rw[mE,AW,h];rfl
def RC {vs:List Int}{M:Int}(h:tp vs=↑M):mh [.lst (vs.map T.int)]=↑(.int M):=by
 change (wx _).bind _=_;rw[mE,AW,h];rfl
def Ym (gw:∀ x<F.os.length,∃ w∈F.ws,w.f=x) {p:Nat}(hp:p<F.os.length) {rs:List (Int×Int)}{r:Int×Int}(hr:r∈rs):xu F m p rs≠[]:=λ z=>by
 let#[w,h1,h2]:=gw p hp;have:wY F m r w∈xu F m p rs:=pj.mpr #[r,hr,w,qd.mpr #[h1,h2],rfl];rw[z] at this;cases this
def Nt (R:wA F m) (hm:m<=2000) (gw:∀ x<F.os.length,∃ w∈F.ws,w.f=x) (ns:List Int) (L:List (Int×Int)) {tb:List (NK×Int)}(ht:Tb F m tb) {p:Nat}(hp:p<F.os.length) {q:Int×Int}(hq:yn F q):
  ∃ s d,iB (lE ns F m L (im (.dn tb)) (im (nT p)) (im (zg q)) none none none)=↑(.nx (lE ns F m L (im (.dn tb)) (im (nT p)) (im (zg q)) s d none)):=by
 have hb:=Mh R.fx.ok R.fx.pw ht hp hq;have Aq:∀ rs:List (Int×Int),q∈rs->∃ M N,tq (xu F m p rs)=↑M/\tp (xu F m p rs)=↑N:=λ rs hr=>by
  have:=Ym (m:=m) gw hp hr;cases h1:tq (xu F m p rs) with
  | none=>show absurd (de h1) this
  | some M=>
   cases h2:tp (xu F m p rs) with
   | none=>show absurd (eZ h2) this
   | some N=>show#[M,N,rfl,rfl]
 have tk:=Qc (F.os.getD p false);have fin:∀ (s:Option L5.W) (M:Int),yF F m p q=(if 10 ^ 9<M+1 then 10 ^ 9 else M+1)->yu (zB (zb (zD true) (tm 4 (tupS (za (zi 5) (za (zi 6) zf)))) (zo vP (za (zb yr (zc 8) (cI 1)) (za (zb qp (cI 10) (cI 9)) zf))))) (retS (cS (.bl false))) yE (lE ns F m L (im (.dn tb)) (im (nT p)) (im (zg q)) s (im (.int M)) none)=↑(.nx (lE ns F m L (im (.dn tb)) (im (nT p)) (im (zg q)) s (im (.int M)) none)):=λ s M hM=>
  sr (vq (zJ (jh (nD rfl (of_decide_eq_true rfl)) (m6 p q) rfl (ht p hp q hq)) (yR (xs:=[.int (M+1),.int (10 ^ 9)]) rfl (y:=.int (if 10 ^ 9<M+1 then 10 ^ 9 else M+1)) rfl) (by rw[<- hM,eq_int,JF rfl];rfl))) rfl
 cases ho:F.os.getD p false with
 | true=>
  rw[ho] at tk hb;rw[if_pos rfl] at hb;let#[M,N,h1,h2]:=Aq (wN F p q) (BG (O3 F p q));let#[m1,m2]:=jt h1;show#[_,_,yy (xp (yR rfl hb)) (yy (xp (yR rfl (da h1))) (yy (sr (vq (zJ (zJ (zJ rfl rfl (pY F)) rfl (nY hp)) rfl (by rw[ho];show tk))) rfl) (fin _ M (Qm R hm hp ho hq m1 m2))))]
 | false=>
  rw[ho] at tk hb;rw[if_neg ()] at hb;let#[M,N,h1,h2]:=Aq [q] (AO.mpr rfl);let#[m1,m2]:=jq h2;show#[_,_,yy (xp (yR rfl hb)) (yy (xp (yR rfl (da h1))) (yy (qE (vq (zJ (zJ (zJ rfl rfl (pY F)) rfl (nY hp)) rfl (by rw[ho];show tk))) (xp (yR rfl (RC h2)))) (fin _ N (Y6 R hm hp ho hq m1 m2))))]
def Nu (R:wA F m) (hm:m<=2000) (gw:∀ x<F.os.length,∃ w∈F.ws,w.f=x) (ns:List Int) {L:List (Int×Int)}(hL:∀ q∈L,yn F q) {tb:List (NK×Int)}(ht:Tb F m tb):
  xI [5,6,7,8] (zt 5) lx ((List.range F.os.length).map λ k:Nat=>T.int (0+(k:Int))) (lE ns F m L (im (.dn tb)) none none none none none)=↑(.nx (lE ns F m L (im (.dn tb)) none none none none none)):=by
 let#[J',h1,h2]:=xR (is:=[5,6,7,8]) (g:=zt 5) (b:=lx) (λ k:Nat=>T.int (0+(k:Int))) (λ _ J=>J=lE ns F m L (im (.dn tb)) none none none none none) (List.range F.os.length) (lE ns F m L (im (.dn tb)) none none none none none) rfl (by
  rintro pre p post e J rfl;have hp:p<F.os.length:=AD.mp (by rw[e];simp);let#[J2,g1,g2]:=xR (is:=[6,7,8]) (g:=zt 6) (b:=iB) zg (λ _ J=>J=lE ns F m L (im (.dn tb)) (im (nT p)) none none none none) L (lE ns F m L (im (.dn tb)) (im (nT p)) none none none none) rfl (by
   rintro pr q po e' J rfl;let#[s,d,h]:=Nt R hm gw ns L ht hp (hL q (by rw[e'];simp));show#[_,h,rfl])
  rw[g2] at g1;rw[Cg];show#[_,(show lx (lE ns F m L (im (.dn tb)) (im (nT p)) none none none none)=_ from t8 (f:=yA (zi 3)) rfl g1),rfl])
 rw[h1,h2]
def NQ (R:wA F m) (hr:rZ [zq F]=↑(wZ (yD F m))) {p:Nat}(hp:p<F.os.length) {q:Int×Int}(hq:yn F q):hV [zq F,nT p,zg q]=↑(ij (wM (yD F m) p q)):=
 uD (yy (bh (yR rfl (hX F p hp))) (yy (bh (yR rfl (Ma F q hq))) (pD (yR (tE (yR rfl hr) rfl) (NU (yD F m) F.os.length p q (gJ R).1 (gJ R).2 hp))))) rfl
end
theorem R_ (ns:List Int) (_:ns.length<=63):oS [zP ns]=↑(.bl true):=by
 let#[F,f1,ok,gw,pw]:=NT ns;let#[m,hm,hr,R]:=Xw ok gw pw;let#[a,b,p1,p2,p3,p4]:=NJ ok;have nd:=Uw a b;generalize uj a b=L at *;have ht:Tb F m (wD F m L (List.range F.os.length)):=λ p hp q hq=>Y7 (AD.mpr hp) ((p2 q).mpr hq);have fl:=fill R hm ns nd p3;generalize wD F m L (List.range F.os.length)=tb at *;have as:=Nu R hm gw ns (λ q hq=>(p2 q).mp hq) ht;have hlen:zo yY (za (zb zh (zc 1) (cI 1)) zf)=zo yY (za (zb zh (zc 1) (cI 1)) zf):=rfl;have hn:∀ tb p q s d f,zo yY (za (zb zh (zc 1) (cI 1)) zf) (lE ns F m L tb p q s d f)=↑(nT F.os.length):=λ tb p q s d f=>yR (tE (zJ rfl rfl (pY F)) rfl) (by change ↑(T.int ((F.os.map kt).length:Int))=_;rw[AA]);have rg:∀ tb p q s d f,xx xO (za (zo yY (za (zb zh (zc 1) (cI 1)) zf)) zf) (lE ns F m L tb p q s d f)=↑((List.range F.os.length).map λ k:Nat=>T.int (0+(k:Int))):=λ tb p q s d f=>by
  change (za _ _ _).bind xO=_;rw[tE (hn tb p q s d f) rfl];show s_ _ (by have:=ok.n8;lia)
 let#[p,hp,mp]:=eY (cell ns 36) (show 0<F.os.length from ok.n1);let#[j,hj,mj]:=eY (cell ns 37) p4;have hq:yn F L[j]:=(p2 _).mp (BA hj);have EC:L2.zT (L.map zg) (j:Int)=↑(zg L[j]):=vi (by rw[AH,AU hj];rfl);generalize L[j]=q at *;have ll:yY [.lst (L.map zg)]=↑(nT L.length):=by change ↑(T.int ((L.map zg).length:Int))=_;rw[AA]
 have key:∀ f:Option L5.W,tm 4 (tupS (za (zi 5) (za (zi 6) zf))) (lE ns F m L (im (.dn tb)) (im (nT p)) (im (zg q)) none none f)=↑(.int (yF F m p q)):=λ f=>jh (nD rfl (of_decide_eq_true rfl)) (m6 p q) rfl (ht p hp q hq);have pre:∀ o,_->ZN [im (zP ns),none,none,none,none,none,none,none,none,none]=o:=λ o h=>
  yy (xp (yR rfl f1)) (yy (xp (yR rfl hr)) (yy (xp (yR rfl p1)) (yy (J':=lE ns F m L ↑(.own (.zY [])) none none none none none) rfl (yy (t8 (rg _ _ _ _ _ _) fl) (yy (show jT 4 _ (lE ns F m L ↑(.own (.zY tb)) none none none none none)=_ from t8 (rg (im (.dn tb)) none none none none none) as) (yy (xp (zJ (yR rfl (sS ns 36)) (hn _ _ _ _ _ _) mp)) (yy (xp (zJ rfl (zJ (yR rfl (sS ns 37)) (yR rfl ll) mj) EC)) (yy (xp (yR rfl (NQ R hr hp hq))) h))))))))
 cases hd:wM (yD F m) p q with
 | none=>
  rw[hd] at pre;have e:yF F m p q=10 ^ 9:=by unfold yF;rw[hd]
  show uD (pre _ (fk (qE (vq (zJ (key _) (y:=.int (10 ^ 9)) rfl (by rw[e,eq_int,JF rfl];rfl))) (pD (zJ rfl rfl rfl))))) rfl
 | some k=>
  rw[hd] at pre;have e:yF F m p q=(k:Int):=by unfold yF;rw[hd]
  have:=(qP hd).1;show uD (pre _ (yy (sr (vq (zJ (key _) (y:=.int (10 ^ 9)) rfl (by rw[e,eq_int,JE ⋯];rfl))) rfl) (pD (zJ rfl (key _) (by rw[e];change zD false (.int (k:Int)) (.int (k:Int))=_;rw[eq_int,JF rfl];rfl))))) rfl
end zS
namespace PySem.W.Fast
def te2790588983218907363:=0
local macro_rules|`(command|example:=$s:str)=>do
 let mut r:Array Lean.Syntax:=.empty
 let mut n:=0
 let mut k:=0
 for c in s.getString.toList do
  let a:=c.toNat
  n:=n*62+(if a>96 then a-61 else if a>64 then a-55 else a-48)
  k:=k+1
  if k==11 then
   let i:=Lean.mkIdent (.mkSimple s!"tw{n}")
   r:=r.push (<-`(command|theorem $i:ident:True:=trivial))
   n:=0
   k:=0
 return Lean.mkNullNode r
example:="J1zY1eD7JlOJaVw0eDE42i8LvjgVZPxCrIFVvo4QPnpCIlannEdycKhJWhKYZ0ZUmCAfnyZdrs1rpCSV3XIiDp7c9youKvtcrkQBVXD28hKW0OE2MhwLdBoOT4nL8HULrrYgA1QhfAHjbXOIWO6kjaxpB1HweqS1iUC94EUY0RcjouER53kk3GnfyJnAOhnLXZiq3zIpJXmq8KMAbFx2oIHFJQcp8enhDFERyVSInyYmCdXDDJG3YNz7gZpeL320K3h8Dh8s6s5veL7i2CdApXEJMjt8FrGJoNhecT1GZItr34mdxlgyIISPzzcffjJGzQt8N5dUhN4z3SHeTP6UF3UTwvBzfgIR1CTwxv3ocP8ETf8BBGAG4FEoALG5KfqSw7TqdKnDADya6MmZBVbavAULnk2C4vbVgh6dqpH3iXGUmLCAf0WtGzskCWzsvdfvuTcJiNCIV5y1K8JI07RQgZnSFEFhrzuQDVG639yF5mq1Bgl7HICrWFytkp7MRk0ZFXHdHGI0uylf60tTIr0Oonc8hbCHvi4mv1pCoRLT7LdIOFi8I6j4d0ARQYhe0eiBuIqhqDSBM8U3bM6dxo0tShclwIwy11KAy6tKKJtT7muT2Bxlm4vLmgs8bRPNgG50KCZlqfAaeCdMDpBNI5NB3yW50iutlezHPxkiCvAIKRK75xl8Ghd383gPnfguNEyZDYyMYTyOZ7YELvmLYNetCq3ziLEj3cTylLntFlaYmLyCCan2iTg4KdT2wWREg1C5UlAchtfuhdxTn4fShdaGP6mfKSQrr5KVvDY06W6QbPvUkI0zNbAYWh512FjeYQlLvp8A1prVYURdgFTL1qYSO6oSlzKc811A5SgGtEOVGNl4kA9VLjOFtRkqBug7wP7Y7I1umX9n11dVOhK0YL6WDldGYHys6ddy0GqIfwEDlwjgnujKs2DdwQ2ZM5qUgEGcJ1J8lqlY1fHMhOK9xyC6UqpyuhclYiEHMU9DFBWWh4LIn8OCUFl95bGgPl5FbMtKlC7FIwCtn3EPbSFImN3sF67elCslWxYCD3v5pNRR2GeINwGnoL5DOo8eAI53bd1rN2MGLFdAPRQT7VtedWhlsPLL19efHQTpKwFsSvM36lU0F6XbAvznHdFAKuYha4rruHBFOMFxYpviXaAMVMPwQFAbTB9zSYFlD2fy13teztDgYf4HHxrvuz7O3w8E5zrX92CeiJsPZtna4MGMDSKFIj4bb3uH3yBVQUbElZ1oUJ2wBLR6F7lGRpDLGpjiGqnb1Vf99yy310mAvgSAmO4kt0qL4bTJwFyneS3Ius618eeBCnKzykk9cszqZ3Qi6o3TSeBmaQTBt5kG2fpvYVoCDVgNK0OYycy104NGuWRiKA4wK2zRP7SvA16fLmv3L5rbDcIb11iC4p698xA9SgVptoJkzeHTb8jrK81LwiANyYWNCobFjGvP6SO6Eat7BXDN7IELzegcNvNFfGqlcnBj6LSG18DIasJYy1PCvbAf4N4S0xFzQWvM37mo74IZfjhJUQdt1u6coQB3AAdH645ceKqtjoLQEzFMUZWbfArRIot8t69cHvLebfeRTPLH5BJD0DTxz91ew9iWHwOTF6wNyXZDYdtFInHBckDTo5V410iBm3Y4yVGA46Dt9DyHWEEpvt4bw7Px5BCc6l6cRA31CuDClu28LV2sxvSynPWOq94IFTaxO4ON2NreIts4ysZBwlXOfVVEbKKcRIONeniEKASMBJB1fTBeKOrWpSQox9G9tm8q87LIImD1D9OAvVD6S3Ut7YHZmP9AGarWn1GfVbi6oj0PWn303EA4rTj3btDY1E1i3yDEOZj7GBn2eJ5yxMh0paDfnrcWQMCf2CUPzstw54eQB1Bu7HFlDfFwnNDTLFI0gvUg9eErthFWhu7zvgWEYGqtaPOkmHlw8Cd3m3Ac34D8KdOwmszn1t32UWT1lIyCNI2bxT4rUBRC3y1UkQRrAbz2WTeA0gEp4s64kHgsu5fZXGugVm532U55Jy763VtRp2Z86IkTyBBskvKO0l5xAws4PEDoxsmtEtFKD6Hdnpg6mu7G0WGj2wmC3RFxumbQfbk08BwYxnPBr9WhDclGiM0EU0s941prBF59DRKWOaV3Zxzt9BpX5liHwAlWD7UDcprEijJ6Y8WikcVOwNHzpcrPQOqXoD0pCKFdNx0hFOYY85sqp0d3T8yVHNa8XpKjdgiMlXJil9oTOI4vF0AyByoGqV8q2km1AJ1EMF94ISAcxwWYzLNTT02sORONdOJpIcW9qCnQkjbF9SDsrdt0BMB3dw7Uov4b54epI2RM3Qik1k7w0ednW9J4d4VysAjQtSGOrt2zYpisvJLBb5B5AvSuDBGIkGZsO7w6qOaLv40clwGDL64ytRIoALhRstgUC0JKI6z2djsWWH4F29za8BGHPoDdTHosh8AZZCQtGEhl2SbZ2gC2r1ecMB6AvIWcmV620zKVJ3A9q81fpG6vrbucw7bN95Iade9zSip6t3A8AEALTEBPR63qXSTY88Z8zw2mFFmS1frcPeR9uWtKHc5SakhLmR5udkBS6GNmsCxnJIDTDpm2BJpSZ2ZVUq0IywINdyv8F01qlOaIsujwELwzWOoNciHS4akB42q9jLhAlgI2751qlK7nxsroklkpR9NfQlzSEKNr0i5gqVTEDhl47maMsEatWF3atqlLesTqDC8apbevGqMB7d7UzZn8WQu6dd5NXfaGdZ6yhi2QUUwlsIoKLHM3826ZFWE4fxWRXQaGDpJdcvoQ9dHIBjmmWCbwmEqhtMXea3KI2iHD39i0nLHIfr2l2kw18uDcq9oK9ppLP91oTHS3r4LVC0ZgfijwFkbK4ur1lS4s0P5mGWlkvK6weJEu0kKhSWYvHG1B8Wu4jt9Bwn8mf6cRta1SlXnvF9ufhEGZUs0lY6ty97sIvJan8F6Ax74KGKDmXFIveTtTnQ5XX6HAXAsXDHO83CCTIHuwIVK1YAbOTAHX7lGFBOzQSuSuKDL4pG6hCpLy"
end PySem.W.Fast
namespace zS
open PySem L2 L3 L5
open PyProof.Rows hiding St
def top (i:Nat):Stmt:=PySem.Challenge.pw_purseborder_k34_whole_just_so_many_steps.main.body.getD i (.Pass #[0,0,0,0])
set_option maxHeartbeats 0
section
variable (P:Program)(w:World)(K:Ac)(mg:AI)(base:Heap)
abbrev Zo:=FD P w K mg base "is_whole" 1 ["thing"] (zI zA l_)
abbrev h_:=FD P w K mg base "places_of" 1 ["floor"] (zI zA r_)
abbrev gh:=FD P w K mg base "at_or_above" 1 ["pair","other"] (zI zA ph)
abbrev ng:=FD P w K mg base "least_pairs" 1 ["pairs"] (zI zA tM)
abbrev aZ:=FD P w K mg base "pairs_ahead_of_changes" 1 ["brims","stall","pair"] (zI zA oO)
abbrev qa:=FD P w K mg base "_law_cell" 1 ["_law_script","_law_k"] (zI zA y_)
abbrev Zi:=FD P w K mg base "_law_coins" 1 ["_law_number"] (zI zA tN)
abbrev Zm:=FD P w K mg base "_law_behind" 1 ["_law_floor_here","_law_pair","_law_way"] (zI zA lZ)
abbrev Zj:=FD P w K mg base "_law_changes" 1 ["_law_floor_here","_law_place","_law_pair"] (zI zA lX)
abbrev Zf:=FD P w K mg base "_law_held" 1 ["_law_border","_law_pair"] (zI zA iZ)
abbrev Zd:=FD P w K mg base "_law_pairs" 1 ["_law_floor_here"] (zI zA iY)
abbrev gf:=FD P w K mg base "is_whole_within" 2 ["thing","least","most"] (zI zA oT)
abbrev Zq:=FD P w K mg base "holds" 2 ["border","pair"] (zI zA oV)
abbrev Zu:=FD P w K mg base "both" 2 ["border","other"] (zI zA oX)
abbrev Zs:=FD P w K mg base "either" 2 ["border","other"] (zI zA oW)
abbrev Zx:=FD P w K mg base "border_ahead_of_way" 2 ["brims","way","border"] (zI zA o_)
abbrev Zk:=FD P w K mg base "_law_brims" 2 ["_law_script","_law_many"] (zI zA lY)
abbrev Ze:=FD P w K mg base "_law_owners" 2 ["_law_script","_law_many"] (zI zA lW)
abbrev Zb:=FD P w K mg base "_law_ways" 2 ["_law_script","_law_many"] (zI zA lU)
abbrev Zc:=FD P w K mg base "_law_stalls" 2 ["_law_script","_law_owners_here"] (zI zA lV)
abbrev Zh:=FD P w K mg base "_law_first" 2 ["_law_told","_law_place","_law_pair"] (zI xC i_)
abbrev Zl:=FD P w K mg base "_law_behind_all" 2 ["_law_floor_here","_law_place","_law_pair","_law_numbers"] (zI zA hJ)
abbrev Zp:=FD P w K mg base "is_row_within" 3 ["thing","bounds"] (zI zA oU)
abbrev ke:=FD P w K mg base "check_place" 3 ["floor","place"] (zI zA pb)
abbrev Zv:=FD P w K mg base "border_of_either" 3 ["borders"] (zI xC oY)
abbrev Zw:=FD P w K mg base "border_of_all" 3 ["borders"] (zI xC oZ)
abbrev Zr:=FD P w K mg base "first_without" 3 ["told","place","pair"] (zI xC ka)
abbrev Zg:=FD P w K mg base "_law_floor" 3 ["_law_script"] (zI zA oQ)
abbrev Zt:=FD P w K mg base "check_pair" 4 ["floor","pair"] (zI zA kc)
abbrev aX:=FD P w K mg base "ways_from" 4 ["floor","place"] (zI zA oM)
abbrev aY:=FD P w K mg base "stall_at" 4 ["floor","place"] (zI xC rY)
abbrev Zy:=FD P w K mg base "border_ahead_of_changes" 5 ["floor","place","border"] (zI xC pd)
abbrev Za:=FD P w K mg base "next_border" 6 ["floor","place","last"] (zI xC oP)
abbrev a_:=FD P w K mg base "next_round" 7 ["floor","last","fresh"] (zI zA q_)
abbrev hZ:=FD P w K mg base "rounds" 8 ["floor"] (zI zA rZ)
abbrev Zn:=FD P w K mg base "lasts" 9 ["floor","place","pair"] (zI xC hV)
variable {K mg}(T:Bt mg)(U:Bq mg)
include T U
theorem SA (F:Fy K mg "is_whole" (top 6)):Zo P w K mg base:=
 yk [] F
theorem TL (F:Fy K mg "places_of" (top 9)):h_ P w K mg base:=
 yk [] F
theorem Rh (F:Fy K mg "at_or_above" (top 15)):gh P w K mg base:=
 yk [] F
theorem Sb (F:Fy K mg "least_pairs" (top 16)):ng P w K mg base:=
 yk [] F
theorem TN (F:Fy K mg "pairs_ahead_of_changes" (top 22)):aZ P w K mg base:=
 yk [] F
theorem Su (F:Fy K mg "_law_cell" (top 32)):qa P w K mg base:=
 yk [] F
theorem Sq (F:Fy K mg "_law_coins" (top 33)):Zi P w K mg base:=
 yk [] F
theorem Sz (F:Fy K mg "_law_behind" (top 39)):Zm P w K mg base:=
 yk [] F
theorem Ss (F:Fy K mg "_law_changes" (top 40)):Zj P w K mg base:=
 yk [] F
theorem Sj (F:Fy K mg "_law_held" (top 41)):Zf P w K mg base:=
 yk [] F
theorem Sh (F:Fy K mg "_law_pairs" (top 42)):Zd P w K mg base:=
 yk [(["_law_y","_law_x"],[none,↑2])] F
theorem S9 (F:Fy K mg "is_whole_within" (top 7)) (FV:Zo P w K mg base):gf P w K mg base:=
 yk [] F
theorem SH (F:Fy K mg "holds" (top 17)) (E8:gh P w K mg base):Zq P w K mg base:=
 yk [(["own","pair"],[none,↑1])] F
theorem S_ (F:Fy K mg "both" (top 18)) (EW:ng P w K mg base):Zu P w K mg base:=
 yk [(["pair"],[none])] F
theorem SO (F:Fy K mg "either" (top 19)) (EW:ng P w K mg base):Zs P w K mg base:=
 yk [] F
theorem Rc (F:Fy K mg "border_ahead_of_way" (top 21)) (EW:ng P w K mg base) (E8:gh P w K mg base):Zx P w K mg base:=
 yk [(["pair","way"],[none,↑1]),(["pair","brims"],[none,↑0])] F
theorem Sv (F:Fy K mg "_law_brims" (top 34)) (EV:qa P w K mg base):Zk P w K mg base:=
 yk [] F
theorem Si (F:Fy K mg "_law_owners" (top 35)) (EV:qa P w K mg base):Ze P w K mg base:=
 yk [] F
theorem Sf (F:Fy K mg "_law_ways" (top 36)) (EV:qa P w K mg base) (FI:Zi P w K mg base):Zb P w K mg base:=
 yk [] F
theorem Sg (F:Fy K mg "_law_stalls" (top 37)) (EV:qa P w K mg base):Zc P w K mg base:=
 yk [] F
theorem So (F:Fy K mg "_law_first" (top 43)) (FU:Zf P w K mg base):Zh P w K mg base:=
 yk [] F
theorem Sy (F:Fy K mg "_law_behind_all" (top 44)) (Fp:Zj P w K mg base) (Fz:Zm P w K mg base):Zl P w K mg base:=
 yk [(["_law_way","_law_place"],[none,↑1])] F
theorem SD (F:Fy K mg "is_row_within" (top 8)) (EY:gf P w K mg base):Zp P w K mg base:=
 yk [(["number","bound"],[none,none])] F
theorem SV (F:Fy K mg "check_place" (top 10)) (EY:gf P w K mg base) (Fb:h_ P w K mg base):ke P w K mg base:=
 yk [] F
theorem Ra (F:Fy K mg "border_of_either" (top 24)) (Gf:Zs P w K mg base):Zv P w K mg base:=
 yk [] F
theorem Rb (F:Fy K mg "border_of_all" (top 25)) (GR:Zu P w K mg base):Zw P w K mg base:=
 yk [] F
theorem SJ (F:Fy K mg "first_without" (top 29)) (Gy:Zq P w K mg base):Zr P w K mg base:=
 yk [] F
theorem Sk (F:Fy K mg "_law_floor" (top 38)) (EV:qa P w K mg base) (Fw:Ze P w K mg base) (FJ:Zk P w K mg base) (FT:Zb P w K mg base) (Fv:Zc P w K mg base):Zg P w K mg base:=
 yk [] F
theorem SW (F:Fy K mg "check_pair" (top 11)) (Ff:Zp P w K mg base):Zt P w K mg base:=
 yk [] F
theorem T4 (F:Fy K mg "ways_from" (top 12)) (EX:ke P w K mg base):aX P w K mg base:=
 yk [(["number","way","place"],[none,none,↑1])] F
theorem TH (F:Fy K mg "stall_at" (top 13)) (EX:ke P w K mg base):aY P w K mg base:=
 yk [] F
theorem Rf (F:Fy K mg "border_ahead_of_changes" (top 23)) (FQ:aY P w K mg base) (EW:ng P w K mg base) (E5:aZ P w K mg base):Zy P w K mg base:=
 yk [] F
theorem TX (F:Fy K mg "next_border" (top 26)) (Fs:Cm mg "KEEPER" (.str "keeper")) (Fh:Zw P w K mg base) (E7:Zx P w K mg base) (EZ:Zy P w K mg base) (FE:aX P w K mg base) (E_:Zv P w K mg base):Za P w K mg base:=
 yk [(["number","floor"],[none,↑0]),(["way","floor","last"],[none,↑0,↑2])] F
theorem TV (F:Fy K mg "next_round" (top 27)) (Fo:Za P w K mg base):a_ P w K mg base:=
 yk [(["way","fresh"],[none,↑2])] F
theorem TJ (F:Fy K mg "rounds" (top 28)) (Fu:a_ P w K mg base) (Fb:h_ P w K mg base):hZ P w K mg base:=
 yk [(["place","border","last"],[none,none,↑3])] F
theorem S8 (F:Fy K mg "lasts" (top 30)) (EX:ke P w K mg base) (FA:Zt P w K mg base) (Fg:Zr P w K mg base) (Ft:hZ P w K mg base):Zn P w K mg base:=
 yk [] F
theorem S7 {f:Addr}{fd:FuncData}(F:ue K "law" "law" (top 45) f fd) (FG:Zg P w K mg base) (Ft:hZ P w K mg base) (FF:Zd P w K mg base) (Gx:Zn P w K mg base) (EV:qa P w K mg base) (FH:Zh P w K mg base) (Fe:Zl P w K mg base):vH P w K mg base xr 10 f fd ["_law_script"] (u9 K (zI zA oS)):=
 Pj [] F
end
def all_mk {l:PySem.W.OpenLaw}{w:World}{K:Ac}{h:Heap}{mg:AI}{fa:Addr}(X:K.In h) (G:h.Ns mainGlobals mg) (EH:mg "law"=↑(.ref fa))
  (h0:Fx K "is_whole" (top 6)) (h1:Fx K "is_whole_within" (top 7)) (h2:Fx K "is_row_within" (top 8)) (h3:Fx K "places_of" (top 9)) (h4:Fx K "check_place" (top 10)) (h5:Fx K "check_pair" (top 11)) (h6:Fx K "ways_from" (top 12)) (h7:Fx K "stall_at" (top 13)) (h8:Fx K "at_or_above" (top 15)) (h9:Fx K "least_pairs" (top 16)) (h10:Fx K "holds" (top 17)) (h11:Fx K "both" (top 18)) (HZ:Fx K "either" (top 19)) (h13:Fx K "border_ahead_of_way" (top 21)) (h14:Fx K "pairs_ahead_of_changes" (top 22)) (h15:Fx K "border_ahead_of_changes" (top 23)) (h16:Fx K "border_of_either" (top 24)) (h17:Fx K "border_of_all" (top 25)) (h18:Fx K "next_border" (top 26)) (h19:Fx K "next_round" (top 27)) (h20:Fx K "rounds" (top 28)) (h21:Fx K "first_without" (top 29)) (h22:Fx K "lasts" (top 30)) (h23:Fx K "_law_cell" (top 32)) (h24:Fx K "_law_coins" (top 33)) (h25:Fx K "_law_brims" (top 34)) (h26:Fx K "_law_owners" (top 35)) (h27:Fx K "_law_ways" (top 36)) (h28:Fx K "_law_stalls" (top 37)) (h29:Fx K "_law_floor" (top 38)) (h30:Fx K "_law_behind" (top 39)) (h31:Fx K "_law_changes" (top 40)) (h32:Fx K "_law_held" (top 41)) (h33:Fx K "_law_pairs" (top 42)) (h34:Fx K "_law_first" (top 43)) (h35:Fx K "_law_behind_all" (top 44)) (h36:Fx K "law" (top 45))
  (Fs:Cn K "KEEPER" (.str "keeper"))
  (y0:PySem.W.nsIn K mainGlobals "set"=↑none) (y1:PySem.W.nsIn K mainGlobals "zip"=↑none) (y2:PySem.W.nsIn K mainGlobals "enumerate"=↑none)
  (z0:PySem.W.nsIn K mainGlobals "len"=↑none) (z1:PySem.W.nsIn K mainGlobals "range"=↑none) (z2:PySem.W.nsIn K mainGlobals "any"=↑none) (z3:PySem.W.nsIn K mainGlobals "all"=↑none) (z4:PySem.W.nsIn K mainGlobals "sorted"=↑none) (z5:PySem.W.nsIn K mainGlobals "isinstance"=↑none) (z6:PySem.W.nsIn K mainGlobals "bool"=↑none) (z7:PySem.W.nsIn K mainGlobals "int"=↑none) (z8:PySem.W.nsIn K mainGlobals "str"=↑none) (z9:PySem.W.nsIn K mainGlobals "list"=↑none) (z10:PySem.W.nsIn K mainGlobals "tuple"=↑none) (z11:PySem.W.nsIn K mainGlobals "max"=↑none) (z12:PySem.W.nsIn K mainGlobals "min"=↑none):
  ∃ fd:FuncData,(∀ (s:Shared) (v:Value),BindsTo s fd #[[v],[]] [("_law_script",v)])/\∀ base:Heap,K.In base->base.Ns mainGlobals mg->vH l.prog w K mg base xr 10 fa fd ["_law_script"] (u9 K (zI zA oS)):=by
 have T:Bt mg:=#[Bh X G z0,Bh X G z1,Bh X G z2,Bh X G z3,Bh X G z4,Bh X G z5,Bh X G z6,Bh X G z7,Bh X G z8,Bh X G z9,Bh X G z10,Bh X G z11,Bh X G z12];have U:Bq mg:=#[Bh X G y0,Bh X G y1,Bh X G y2];replace Fs:=Fs.mk X G;let#[fd,Fl,hb]:=h36.law X G EH λ _ _ _ _ _ _ _ _=>.of_eq rfl;exact#[fd,hb,λ base _ _=>?_];have FV:=SA l.prog w base T U (h0.mk X G);have Fb:=TL l.prog w base T U (h3.mk X G);have E8:=Rh l.prog w base T U (h8.mk X G);have EW:=Sb l.prog w base T U (h9.mk X G);have E5:=TN l.prog w base T U (h14.mk X G);have EV:=Su l.prog w base T U (h23.mk X G);have FI:=Sq l.prog w base T U (h24.mk X G);have Fz:=Sz l.prog w base T U (h30.mk X G);have Fp:=Ss l.prog w base T U (h31.mk X G);have FU:=Sj l.prog w base T U (h32.mk X G);have FF:=Sh l.prog w base T U (h33.mk X G);have EY:=S9 l.prog w base T U (h1.mk X G) FV;have Gy:=SH l.prog w base T U (h10.mk X G) E8;have GR:=S_ l.prog w base T U (h11.mk X G) EW;have Gf:=SO l.prog w base T U (HZ.mk X G) EW;have E7:=Rc l.prog w base T U (h13.mk X G) EW E8;have FJ:=Sv l.prog w base T U (h25.mk X G) EV;have Fw:=Si l.prog w base T U (h26.mk X G) EV;have FT:=Sf l.prog w base T U (h27.mk X G) EV FI;have Fv:=Sg l.prog w base T U (h28.mk X G) EV;have FH:=So l.prog w base T U (h34.mk X G) FU;have Fe:=Sy l.prog w base T U (h35.mk X G) Fp Fz;have Ff:=SD l.prog w base T U (h2.mk X G) EY;have EX:=SV l.prog w base T U (h4.mk X G) EY Fb;have E_:=Ra l.prog w base T U (h16.mk X G) Gf;have Fh:=Rb l.prog w base T U (h17.mk X G) GR;have Fg:=SJ l.prog w base T U (h21.mk X G) Gy;have FG:=Sk l.prog w base T U (h29.mk X G) EV Fw FJ FT Fv;have FA:=SW l.prog w base T U (h5.mk X G) Ff;have FE:=T4 l.prog w base T U (h6.mk X G) EX;have FQ:=TH l.prog w base T U (h7.mk X G) EX;have EZ:=Rf l.prog w base T U (h15.mk X G) FQ EW E5;have Fo:=TX l.prog w base T U (h18.mk X G) Fs Fh E7 EZ FE E_;have Fu:=TV l.prog w base T U (h19.mk X G) Fo;have Ft:=TJ l.prog w base T U (h20.mk X G) Fu Fb;have Gx:=S8 l.prog w base T U (h22.mk X G) EX FA Fg Ft;show S7 l.prog w base T U Fl FG Ft FF Gx EV FH Fe
def walk {l:PySem.W.OpenLaw}{q:Program}{loose:List Str}{XP:(Str->Option Value)->Heap->Prop}{YP:World->Heap->Prop}{d:DefRec}{K:Params->Ac}(hn:l.most=↑63) (Dp:d.params.defaults=[])
  (hY:∀ (w:World) (h:Heap),YP w h->(K w.params).In h)
  (F:∀ (w:World) (mg:AI) (fa:Addr) (h:Heap),(K w.params).In h->h.Ns mainGlobals mg->mg d.name=↑(.ref fa)->
   ∃ fd:FuncData,(∀ (s:Shared) (u:Value),BindsTo s fd #[[u],[]] [("_law_script",u)])/\∀ base:Heap,(K w.params).In base->base.Ns mainGlobals mg->vH l.prog w (K w.params) mg base xr 10 fa fd ["_law_script"] (u9 (K w.params) (zI zA oS))):
  PySem.W.WalkO q loose XP YP l.row.toRowW d [] (λ f vs=>PySem.call f vs):=
 L2.Yl (n:=63) (k:=10) (x:="_law_script") (CX:=λ _=>xr) (sp:=λ w=>u9 (K w.params) (zI zA oS)) hn () Dp #[rfl,(),()] hY F (λ _ _ a ns hl hO hS=>Qb R_ hO hS hl) λ _ _ _ _ _ z=>z
end zS
open PySem PySem.W PyProof.Rows
set_option maxHeartbeats 0 in
theorem PySem.Challenge.cw_purseborder_k34_whole_just_so_many_steps_holds : PySem.Challenge.rw_purseborder_k34_whole_just_so_many_steps.Holds := by
 w_on;o_law;k_head;(case hw=>w_witness2)
 k_fill
 refine zS.walk (l:=PySem.Challenge.rw_purseborder_k34_whole_just_so_many_steps) rfl rfl (λ w h Y=>PySem.W.kIn_of Y) ?F
 case F=>
  intro w mg fa h KX G Dg;refine' zS.all_mk KX G Dg ?_ ?_ ?_ ?_ ?_ ?_ ?_ ?_ ?_ ?_ ?_ ?_ ?_ ?_ ?_ ?_ ?_ ?_ ?_ ?_ ?_ ?_ ?_ ?_ ?_ ?_ ?_ ?_ ?_ ?_ ?_ ?_ ?_ ?_ ?_ ?_ ?_ ?_ ?_ ?_ ?_ ?_ ?_ ?_ ?_ ?_ ?_ ?_ ?_ ?_ ?_ ?_ ?_ ?_
  all_goals first | exact L3.Ei.i (by k_is) (by k_is) (by k_is) (by k_is) (by kernel_rfl) (by k_is) (by k_is) (by k_is) (by k_is) (by k_is) (by k_is) | exact L3.Ec.i (by k_is) (by k_is) (by k_is) (by k_is) (by kernel_rfl) | exact L3.Ez.i (by k_is) (by k_is) (by k_is) (by k_is) (by kernel_rfl) (by k_is) (by k_is) | exact L5.Fx.i (by k_is) (by k_is) (by k_is) (by k_is) | k_is | exact L5.Cn.i (by k_is) (by exact⟨_,rfl⟩)
